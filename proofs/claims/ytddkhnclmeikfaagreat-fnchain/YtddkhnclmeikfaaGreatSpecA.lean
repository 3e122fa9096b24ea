import Derived.Test.YtddkhnclmeikfaaGreatLr
namespace Go.Proofs.YtddkhnclmeikfaaGreat
open Go.RowKit
attribute [local go_sem ↓] Go.wp_at_zero Go.wp_at_succ
theorem Ext.drewN{a w:World}(h:Ext a w)(n:Nat):Ext a (w.drewN n):=below_drewN h n
end Go.Proofs.YtddkhnclmeikfaaGreat
