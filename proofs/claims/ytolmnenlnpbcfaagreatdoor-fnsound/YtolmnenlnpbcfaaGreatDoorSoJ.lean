import Derived.Test.YtolmnenlnpbcfaaGreatDoorRows
import Derived.Stop.Joined
namespace Go.Proofs.YtolmnenlnpbcfaaGreatDoor.fnSound
theorem j1:(Rows.fnSoundRow.inPlace == Tryz.prog.inPlace 3)=true:=by kernel_rfl
theorem j2:(Rows.fnSoundRow.unfollowed == Tryz.prog.unfollowed 3)=true:=by kernel_rfl
theorem j3:(Rows.fnSoundRow.recurses == Tryz.prog.recurses 3)=true:=by kernel_rfl
theorem j4:(Rows.fnSoundRow.named == Tryz.prog.varsNamed 3)=true:=by kernel_rfl
theorem jf:joinedFacts Tryz.prog 3 Tryz.f3 Rows.fnSoundSpec Rows.fnSoundRow=true:=by
 unfold joinedFacts;rw[j1,j2,j3,j4];kernel_rfl
end Go.Proofs.YtolmnenlnpbcfaaGreatDoor.fnSound
