import Derived.Test.YtddkhnclmeikfacGreatDoorXd
import Derived.Test.YtddkhnclmeikfacGreatDoorAf0
namespace Go.Proofs.YtddkhnclmeikfacGreatDoor
open Go.RowKit

theorem implActOk_r (y : Ak) (r : Bool) (h : okA y = r) (w : World) : Calls Tryz.prog 62 #[y.v] w fun e w' => e = .returned (.bool r) ∧ Ext w w' := h ▸ implActOk_any y.op y.a y.b y.c y.n w
end Go.Proofs.YtddkhnclmeikfacGreatDoor
