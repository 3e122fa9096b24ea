import Derived.Test.YtnegjhddmfiefaaGreatDoorWnProof
import Derived.Test.YtnegjhddmfiefaaGreatDoorCards
import Derived.Test.YtnegjhddmfiefaaGreatDoorTie
import Derived.SevenTiedAt
namespace Go.Proofs.YtnegjhddmfiefaaGreatDoor
open Go
theorem fnWritten_holds:Rows.FnWrittenCardSaid:=
 Claim7.holds_tied_plain_at .later [] [.data,.data,.data,.data,.sentinel,.sentinel,.data,.pinned] true _ true
  fnWritten_row (fun _ h=>by cases h) (by kernel_rfl) (fun _ h=>by cases h) fnWritten_row_tie rfl ⟨rfl,rfl⟩ (by kernel_rfl) rfl
  (fun f fn hf hfn=>by
   have hf2:some 3=some f:=Eq.trans (Eq.symm (by kernel_rfl)) hf;obtain rfl:3=f:=Option.some.inj hf2;obtain rfl:fn=Tryz.f3:=(Option.some.inj (Tryz.func3.symm.trans hfn)).symm
   exact⟨by kernel_rfl,fun j t ht=>by
    rw[Tryz.params3] at ht;have hm:t∈[22]:=by simpa using Array.mem_of_getElem? ht
    have hall:([22].all fun u=>!Tryz.prog.wantsStandIn u)=true:=by kernel_rfl
    exact(show Tryz.prog.wantsStandIn t=false by simpa using List.all_eq_true.1 hall t hm)⟩)
  (by kernel_rfl)
#print axioms fnWritten_holds
end Go.Proofs.YtnegjhddmfiefaaGreatDoor
