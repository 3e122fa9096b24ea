import Derived.Test.YtgkpaibbdkggiaaGreatDoorRows
import Derived.Stop.Joined
namespace Go.Proofs.YtgkpaibbdkggiaaGreatDoor.fnKept
theorem j1 : (Rows.fnKeptRow.inPlace == Tryz.prog.inPlace 3) = true := by kernel_rfl
theorem j2 : (Rows.fnKeptRow.unfollowed == Tryz.prog.unfollowed 3) = true := by kernel_rfl
theorem j3 : (Rows.fnKeptRow.recurses == Tryz.prog.recurses 3) = true := by kernel_rfl
theorem j4 : (Rows.fnKeptRow.named == Tryz.prog.varsNamed 3) = true := by kernel_rfl
theorem jf : joinedFacts Tryz.prog 3 Tryz.f3 Rows.fnKeptSpec Rows.fnKeptRow = true := by
  unfold joinedFacts
  rw [j1, j2, j3, j4]
  kernel_rfl
end Go.Proofs.YtgkpaibbdkggiaaGreatDoor.fnKept
