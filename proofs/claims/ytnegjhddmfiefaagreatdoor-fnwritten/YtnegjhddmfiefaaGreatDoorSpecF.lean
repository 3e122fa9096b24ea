import Derived.Test.YtnegjhddmfiefaaGreatDoorHx
import Derived.Deep.RegionWith
namespace Go.Proofs.YtnegjhddmfiefaaGreatDoor
open Go.RowKit
attribute [local go_sem ↓] Go.wp_at_zero Go.wp_at_succ
def Up(w w':World):Prop:=Ext w w'
theorem Up.ext{w w':World}(h:Up w w'):Ext w w':=h
end Go.Proofs.YtnegjhddmfiefaaGreatDoor
