import Derived.Test.YtmfgdjfpchplmaaGreatDoorRows
import Derived.Stop.Joined
namespace Go.Proofs.YtmfgdjfpchplmaaGreatDoor.fnExactDo
theorem j1:(Rows.fnExactDoRow.inPlace == Tryz.prog.inPlace 3)=true:=by kernel_rfl
theorem j2:(Rows.fnExactDoRow.unfollowed == Tryz.prog.unfollowed 3)=true:=by kernel_rfl
theorem j3:(Rows.fnExactDoRow.recurses == Tryz.prog.recurses 3)=true:=by kernel_rfl
theorem j4:(Rows.fnExactDoRow.named == Tryz.prog.varsNamed 3)=true:=by kernel_rfl
theorem jf:joinedFacts Tryz.prog 3 Tryz.f3 Rows.fnExactDoSpec Rows.fnExactDoRow=true:=by
 unfold joinedFacts;rw[j1,j2,j3,j4]
 kernel_rfl
end Go.Proofs.YtmfgdjfpchplmaaGreatDoor.fnExactDo
