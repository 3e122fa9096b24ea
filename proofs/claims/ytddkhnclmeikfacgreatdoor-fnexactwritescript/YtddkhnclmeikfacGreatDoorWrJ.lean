import Derived.Test.YtddkhnclmeikfacGreatDoorRows
import Derived.Stop.Joined
namespace Go.Proofs.YtddkhnclmeikfacGreatDoor.fnExactWriteScript
/-! The closed facts, the four looks over all functions each on its own: the kernel's memory. -/
theorem j1 : (Rows.fnExactWriteScriptRow.inPlace == Tryz.prog.inPlace 5) = true := by kernel_rfl
theorem j2 : (Rows.fnExactWriteScriptRow.unfollowed == Tryz.prog.unfollowed 5) = true := by kernel_rfl
theorem j3 : (Rows.fnExactWriteScriptRow.recurses == Tryz.prog.recurses 5) = true := by kernel_rfl
theorem j4 : (Rows.fnExactWriteScriptRow.named == Tryz.prog.varsNamed 5) = true := by kernel_rfl
theorem jf : joinedFacts Tryz.prog 5 Tryz.f5 Rows.fnExactWriteScriptSpec Rows.fnExactWriteScriptRow = true := by
  unfold joinedFacts
  rw [j1, j2, j3, j4]
  kernel_rfl
end Go.Proofs.YtddkhnclmeikfacGreatDoor.fnExactWriteScript
