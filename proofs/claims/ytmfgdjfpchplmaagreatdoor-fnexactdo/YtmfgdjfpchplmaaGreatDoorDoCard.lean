import Derived.Test.YtmfgdjfpchplmaaGreatDoorDoProof
import Derived.Test.YtmfgdjfpchplmaaGreatDoorCards
import Derived.Test.YtmfgdjfpchplmaaGreatDoorTie
import Derived.SevenTiedAt
namespace Go.Proofs.YtmfgdjfpchplmaaGreatDoor
open Go
theorem fnExactDo_holds:Rows.FnExactDoCardSaid:=
 Claim7.holds_tied_plain_at .later [] [.handle] true _ true
  fnExactDo_row (λ_ h=>by cases h) (by as_aux_lemma=>kernel_rfl) (λ_ h=>by cases h) fnExactDo_row_tie rfl ⟨rfl,rfl⟩ (by as_aux_lemma=>kernel_rfl) rfl
  (λf fn hf hfn=>by
   have hf2:some 3=some f:=Eq.trans (Eq.symm (by as_aux_lemma=>kernel_rfl)) hf;obtain rfl:3=f:=Option.some.inj hf2;obtain rfl:fn=Tryz.f3:=(Option.some.inj (Tryz.func3.symm.trans hfn)).symm
   exact⟨by kernel_rfl,λj t ht=>by
    rw[Tryz.params3] at ht;have hm:t∈[26,28]:=by simpa using Array.mem_of_getElem? ht
    have hall:([26,28].all λu=>!Tryz.prog.wantsStandIn u)=true:=by as_aux_lemma=>kernel_rfl
    exact(show Tryz.prog.wantsStandIn t=false by simpa using List.all_eq_true.1 hall t hm)⟩)
  (by as_aux_lemma=>kernel_rfl)
#print axioms fnExactDo_holds
end Go.Proofs.YtmfgdjfpchplmaaGreatDoor
