import Derived.Test.YtddkhnclmeikfacGreatDoorWrProof
import Derived.Test.YtddkhnclmeikfacGreatDoorCards
import Derived.Test.YtddkhnclmeikfacGreatDoorTie
import Derived.SevenTiedAt
namespace Go.Proofs.YtddkhnclmeikfacGreatDoor
open Go
theorem fnExactWriteScript_holds : Rows.FnExactWriteScriptCardSaid :=
  Claim7.holds_tied_plain_at .later [] [.data, .data, .data, .data] true _ true
    fnExactWriteScript_row (fun _ h => by cases h) (by kernel_rfl) (fun _ h => by cases h) fnExactWriteScript_row_tie rfl ⟨rfl, rfl⟩ (by kernel_rfl) rfl
    (fun f fn hf hfn => by
      have hf2 : some 5 = some f := Eq.trans (Eq.symm (by kernel_rfl)) hf
      obtain rfl : 5 = f := Option.some.inj hf2
      obtain rfl : fn = Tryz.f5 := (Option.some.inj (Tryz.func5.symm.trans hfn)).symm
      exact ⟨by kernel_rfl, fun j t ht => by
        rw [Tryz.params5] at ht
        have hm : t ∈ [3, 54] := by simpa using Array.mem_of_getElem? ht
        have hall : ([3, 54].all fun u => !Tryz.prog.wantsStandIn u) = true := by kernel_rfl
        exact (show Tryz.prog.wantsStandIn t = false by simpa using List.all_eq_true.1 hall t hm)⟩)
    (by kernel_rfl)
#print axioms fnExactWriteScript_holds
end Go.Proofs.YtddkhnclmeikfacGreatDoor
