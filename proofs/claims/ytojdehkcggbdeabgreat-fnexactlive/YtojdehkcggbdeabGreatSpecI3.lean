import Derived.Test.YtojdehkcggbdeabGreatSpecI2
namespace Go.Proofs.YtojdehkcggbdeabGreat
open Go.RowKit
attribute [local go_sem ↓] Go.wp_at_zero Go.wp_at_succ

theorem formed_of_R4 {x : Hp} (r : R4 x) : ∀ i, i < x.cells.length → ∀ k, k < (x.c i).prs.length → Formed ((x.c i).p k).key x.cells.length ∧ Formed ((x.c i).p k).val x.cells.length := fun i hi k hk => by
  have hp := (r.2 i hi).2 k hk
  by_cases d : Doomed x i
  · exact hp.1 d
  · exact ⟨(hp.2 d).1.1, (hp.2 d).2.1⟩

theorem l1marks_any (x : Hp) (b : Nat) (w : World) {ar : Option Addr} {kr : Nat} {ac : Option Addr} {kc : Nat} {ag : Option Addr} {kg : Nat} (h : HAt w b x ar kr ac kc ag kg) (r1 : R1 x) (r4 : R4 x) (r6 : R6 x) :
    Calls Tryz.prog 63 #[.pointer (some ⟨b, 0, none⟩)] w fun e w' => ∃ r : Bool, e = .returned (.bool r) ∧ (r = true ↔ R7 x) ∧ Ext w w' := by
  cases q1 : (x.phase == 1)
  · cases q2 : (x.phase == 2)
    · have Y := hide (show R7 x from fun m => by rcases m with m | m <;> simp [m] at q1 q2)
      have q1n : (x.phase != 1) = true := by simpa using q1
      have q2n : (x.phase != 2) = true := by simpa using q2
      have c5 := h.c5
      clear h r1 r4 r6
      go_enter Tryz.func63, Tryz.ntmps63
      go_wp2_with fail
      go_ret
      first | (exact Or.inr ⟨rfl, unhide Y, Ext.refl _⟩) | (exact ⟨true, rfl, ⟨fun _ => unhide Y, fun _ => rfl⟩, Ext.refl _⟩)
    · exact l1marks_2 x b w h (formed_of_R4 r4) r6 r1 q1 q2
  · exact l1marks_1 x b w h (formed_of_R4 r4) r6 r1 q1
end Go.Proofs.YtojdehkcggbdeabGreat
