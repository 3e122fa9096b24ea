import Derived.Test.YtddkhnclmeikfacGreatDoorAe
namespace Go.Proofs.YtddkhnclmeikfacGreatDoor
open Go.RowKit
attribute [local go_sem ↓] Go.wp_at_zero Go.wp_at_succ

theorem wayOf_ok (op a b c n : Int) (w : World) : Calls Tryz.prog 122 #[actV op a b c n] w fun e w' => (∃ (i j l : Int) (u : Value), Hid (e = .returned (.tuple #[.agg #[iv i, iv j, iv l, u], .bool (actOkB op a b c n)])) ∧ (u = .nilFunc ∨ ∃ m, u = .func (.func m) #[] #[])) ∧ Ext w w' := by
  cases h : withinB op 1 24
  · have hh : ¬ (1 ≤ op ∧ op ≤ 24) := by simpa [withinB] using h
    have e : actOkB op a b c n = false := act_no (by omega)
    rw [e]
    exact (wayOf_out op a b c n w h).mono fun e w' ⟨h1, h2⟩ => ⟨⟨_, _, _, _, h1, .inl rfl⟩, h2⟩
  · have hh : 1 ≤ op ∧ op ≤ 24 := by simpa [withinB] using h
    obtain ⟨k, rfl⟩ : ∃ k : Nat, op = (k : Int) := ⟨op.toNat, by omega⟩
    by_cases h3 : n ≠ 0 ∧ (k : Int) ≠ 2
    · have e : actOkB k a b c n = false := act_no (.inr (.inr h3))
      rw [e]
      exact (wayOf_num k a b c n w (by omega) (by omega) (by simpa using h3.2) (by simpa using h3.1)).mono fun e w' ⟨h1, h2⟩ => ⟨⟨_, _, _, _, h1, .inl rfl⟩, h2⟩
    · have e : (decide (0 ≤ a ∧ a ≤ actA k) && (decide (0 ≤ b ∧ b ≤ actB k) && decide (0 ≤ c ∧ c ≤ actC k))) = actOkB k a b c n := by
        have h4 : n = 0 ∨ (k : Int) = 2 := by omega
        have e0 : decide ((1 ≤ (k : Int) ∧ (k : Int) ≤ 24) ∧ (n = 0 ∨ (k : Int) = 2)) = true := decide_eq_true ⟨hh, h4⟩
        unfold actOkB
        rw [e0]; rfl
      refine (wayOf_in k a b c n w (by omega) (by omega) ?_ _ e).mono fun e w' ⟨h1, h2⟩ => ⟨⟨_, _, _, _, h1, .inr ⟨_, rfl⟩⟩, h2⟩
      by_cases h5 : n = 0
      · exact .inl (by simpa using h5)
      · exact .inr ⟨by simpa using h5, by have : (k : Int) = 2 := (by omega); simpa using this⟩
set_option maxRecDepth 100000 in
set_option maxHeartbeats 600000 in
theorem implActOk_any (op a b c n : Int) (w : World) : Calls Tryz.prog 62 #[actV op a b c n] w fun e w' => e = .returned (.bool (actOkB op a b c n)) ∧ Ext w w' := by
  have Q := hide (fun W => wayOf_ok op a b c n W)
  go_enter Tryz.func62, Tryz.ntmps62
  go_wp2_with fail
  refine (unhide Q _).mono ?_
  rintro e w2 ⟨⟨i, j, l, u, he, hu⟩, x2⟩
  have e2 := unhide he
  clear he
  subst e2
  obtain ⟨r, er⟩ : ∃ r, r = actOkB op a b c n := ⟨_, rfl⟩
  rw [← er]
  have ER := hide er
  clear er
  rcases hu with rfl | ⟨m, rfl⟩
  all_goals
    go_wp2_with fail
    go_ret
    exact ⟨by rw [← unhide ER]; rfl, (((Ext.refl _).alloc _).trans x2).alloc _⟩
end Go.Proofs.YtddkhnclmeikfacGreatDoor
