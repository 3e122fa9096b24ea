import Derived.Test.YtnegjhddmfiefaaGreatDoorBase
import Derived.BigQuiet
import Derived.Deep.QuietTactic
namespace Go.Proofs.YtnegjhddmfiefaaGreatDoor
open Go.RowKit
attribute [local go_sem ↓] Go.wp_at_zero Go.wp_at_succ
theorem Ext.drewN{a w:World}(h:Ext a w)(n:Nat):Ext a (w.drewN n):=below_drewN h n
end Go.Proofs.YtnegjhddmfiefaaGreatDoor
