import Derived.Test.YtgkpaibbdkggiaaGreatDoorKpProof
import Derived.Test.YtgkpaibbdkggiaaGreatDoorCards
import Derived.Test.YtgkpaibbdkggiaaGreatDoorTie
namespace Go.Proofs.YtgkpaibbdkggiaaGreatDoor
open Go
theorem fnKept_holds:Rows.FnKeptCardSaid:=
 Claim7.holds_tied_plain_at .later [] [.handle] true _ true
  fnKept_row (λ_ h=>by cases h) (by as_aux_lemma=>kernel_rfl) (λ_ h=>by cases h) fnKept_row_tie rfl ⟨rfl,rfl⟩ (by as_aux_lemma=>kernel_rfl) rfl
  (λf fn hf hfn=>by
   have hf2:some 3=some f:=Eq.trans (Eq.symm (by as_aux_lemma=>kernel_rfl)) hf;obtain rfl:3=f:=Option.some.inj hf2;obtain rfl:fn=Tryz.f3:=(Option.some.inj (Tryz.func3.symm.trans hfn)).symm
   exact⟨by kernel_rfl,λj t ht=>by
    rw[Tryz.params3] at ht;have hm:t∈[22,22]:=by simpa using Array.mem_of_getElem? ht
    have hall:([22,22].all λu=>!Tryz.prog.wantsStandIn u)=true:=by as_aux_lemma=>kernel_rfl
    exact(show Tryz.prog.wantsStandIn t=false by simpa using List.all_eq_true.1 hall t hm)⟩)
  (by as_aux_lemma=>kernel_rfl)
#print axioms fnKept_holds
end Go.Proofs.YtgkpaibbdkggiaaGreatDoor
