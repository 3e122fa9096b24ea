import Derived.Test.YtddkhnclmeikfacGreatDoorRsProof
import Derived.Test.YtddkhnclmeikfacGreatDoorCards
import Derived.Test.YtddkhnclmeikfacGreatDoorTie
import Derived.SevenTiedAt
namespace Go.Proofs.YtddkhnclmeikfacGreatDoor
open Go
theorem fnExactReadScript_holds : Rows.FnExactReadScriptCardSaid :=
  Claim7.holds_tied_plain_at .later [] [.data, .data, .data, .data, .sentinel, .sentinel, .data, .pinned] true _ true
    fnExactReadScript_row (fun _ h => by cases h) (by kernel_rfl) (fun _ h => by cases h) fnExactReadScript_row_tie rfl ⟨rfl, rfl⟩ (by kernel_rfl) rfl
    (fun f fn hf hfn => by
      have hf2 : some 4 = some f := Eq.trans (Eq.symm (by kernel_rfl)) hf
      obtain rfl : 4 = f := Option.some.inj hf2
      obtain rfl : fn = Tryz.f4 := (Option.some.inj (Tryz.func4.symm.trans hfn)).symm
      exact ⟨by kernel_rfl, fun j t ht => by
        rw [Tryz.params4] at ht
        have hm : t ∈ [9] := by simpa using Array.mem_of_getElem? ht
        have hall : ([9].all fun u => !Tryz.prog.wantsStandIn u) = true := by kernel_rfl
        exact (show Tryz.prog.wantsStandIn t = false by simpa using List.all_eq_true.1 hall t hm)⟩)
    (by kernel_rfl)
#print axioms fnExactReadScript_holds
end Go.Proofs.YtddkhnclmeikfacGreatDoor
