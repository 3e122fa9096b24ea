import Derived.Test.YtnegjhddmfiefaaGreatDoorRows
import Derived.Stop.Joined
namespace Go.Proofs.YtnegjhddmfiefaaGreatDoor.fnWritten
theorem j1:(Rows.fnWrittenRow.inPlace == Tryz.prog.inPlace 3)=true:=by kernel_rfl
theorem j2:(Rows.fnWrittenRow.unfollowed == Tryz.prog.unfollowed 3)=true:=by kernel_rfl
theorem j3:(Rows.fnWrittenRow.recurses == Tryz.prog.recurses 3)=true:=by kernel_rfl
theorem j4:(Rows.fnWrittenRow.named == Tryz.prog.varsNamed 3)=true:=by kernel_rfl
theorem jf:joinedFacts Tryz.prog 3 Tryz.f3 Rows.fnWrittenSpec Rows.fnWrittenRow=true:=by
 unfold joinedFacts;rw[j1,j2,j3,j4]
 kernel_rfl
end Go.Proofs.YtnegjhddmfiefaaGreatDoor.fnWritten
