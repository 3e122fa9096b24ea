import Derived.Test.YtddkhnclmeikfacGreatDoorRows
import Derived.Stop.Joined
namespace Go.Proofs.YtddkhnclmeikfacGreatDoor.fnExactReadScript
/-! The closed facts, the four looks over all functions each on its own: the kernel's memory. -/
theorem j1 : (Rows.fnExactReadScriptRow.inPlace == Tryz.prog.inPlace 4) = true := by kernel_rfl
theorem j2 : (Rows.fnExactReadScriptRow.unfollowed == Tryz.prog.unfollowed 4) = true := by kernel_rfl
theorem j3 : (Rows.fnExactReadScriptRow.recurses == Tryz.prog.recurses 4) = true := by kernel_rfl
theorem j4 : (Rows.fnExactReadScriptRow.named == Tryz.prog.varsNamed 4) = true := by kernel_rfl
theorem jf : joinedFacts Tryz.prog 4 Tryz.f4 Rows.fnExactReadScriptSpec Rows.fnExactReadScriptRow = true := by
  unfold joinedFacts
  rw [j1, j2, j3, j4]
  kernel_rfl
end Go.Proofs.YtddkhnclmeikfacGreatDoor.fnExactReadScript
