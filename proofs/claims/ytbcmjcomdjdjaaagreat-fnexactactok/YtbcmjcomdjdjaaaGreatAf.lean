import Derived.Test.YtbcmjcomdjdjaaaGreatAe
namespace Go.Proofs.YtbcmjcomdjdjaaaGreat
open Go.RowKit
attribute [local go_sem ↓] Go.wp_at_zero Go.wp_at_succ

theorem wayOf_ok (op a b c n : Int) (w : World) : Calls Tryz.prog 35 #[actV op a b c n] w fun e w' => (∃ (i j l : Int) (u : Value), Hid (e = .returned (.tuple #[.agg #[iv i, iv j, iv l, u], .bool (actOkB op a b c n)])) ∧ (u = .nilFunc ∨ ∃ m, u = .func (.func m) #[] #[])) ∧ Ext w w' := by
  cases h : withinB op 1 24
  · have hh : ¬ (1 ≤ op ∧ op ≤ 24) := by simpa [withinB] using h
    have e : actOkB op a b c n = false := act_no (by omega)
    rw [e]
    exact (wayOf_out op a b c n w h).mono fun e w' ⟨h1, h2⟩ => ⟨⟨_, _, _, _, h1, .inl rfl⟩, h2⟩
  · have hh : 1 ≤ op ∧ op ≤ 24 := by simpa [withinB] using h
    obtain ⟨k, rfl⟩ : ∃ k : Nat, op = (k : Int) := ⟨op.toNat, by omega⟩
    by_cases h3 : n ≠ 0 ∧ (k : Int) ≠ 2
    · have e : actOkB k a b c n = false := act_no (.inr (.inr h3))
      rw [e]
      exact (wayOf_num k a b c n w (by omega) (by omega) (by simpa using h3.2) (by simpa using h3.1)).mono fun e w' ⟨h1, h2⟩ => ⟨⟨_, _, _, _, h1, .inl rfl⟩, h2⟩
    · have e : (decide (0 ≤ a ∧ a ≤ actA k) && (decide (0 ≤ b ∧ b ≤ actB k) && decide (0 ≤ c ∧ c ≤ actC k))) = actOkB k a b c n := by
        have h4 : n = 0 ∨ (k : Int) = 2 := by omega
        have e0 : decide ((1 ≤ (k : Int) ∧ (k : Int) ≤ 24) ∧ (n = 0 ∨ (k : Int) = 2)) = true := decide_eq_true ⟨hh, h4⟩
        unfold actOkB
        rw [e0]; rfl
      refine (wayOf_in k a b c n w (by omega) (by omega) ?_ _ e).mono fun e w' ⟨h1, h2⟩ => ⟨⟨_, _, _, _, h1, .inr ⟨_, rfl⟩⟩, h2⟩
      by_cases h5 : n = 0
      · exact .inl (by simpa using h5)
      · exact .inr ⟨by simpa using h5, by have : (k : Int) = 2 := (by omega); simpa using this⟩
set_option maxRecDepth 100000 in
set_option maxHeartbeats 600000 in
theorem implActOk_any (op a b c n : Int) (w : World) : Calls Tryz.prog 15 #[actV op a b c n] w fun e w' => e = .returned (.bool (actOkB op a b c n)) ∧ Ext w w' := by
  have Q := hide (fun W => wayOf_ok op a b c n W)
  go_enter Tryz.func15, Tryz.ntmps15
  go_wp2_with fail
  refine (unhide Q _).mono ?_
  rintro e w2 ⟨⟨i, j, l, u, he, hu⟩, x2⟩
  have e2 := unhide he
  clear he
  subst e2
  obtain ⟨r, er⟩ : ∃ r, r = actOkB op a b c n := ⟨_, rfl⟩
  rw [← er]
  have ER := hide er
  clear er
  rcases hu with rfl | ⟨m, rfl⟩
  all_goals
    go_wp2_with fail
    go_ret
    exact ⟨by rw [← unhide ER]; rfl, (((Ext.refl _).alloc _).trans x2).alloc _⟩
set_option maxRecDepth 100000 in
set_option maxHeartbeats 600000 in
theorem toAct_any (op a b c n : Int) (w : World) : Calls Tryz.prog 14 #[actV op a b c n] w fun e w' => e = .returned (actV op a b c n) ∧ Ext w w' := by
  go_enter Tryz.func14, Tryz.ntmps14
  go_wp2_with fail
  exact bodyPost_ret (v := actV op a b c n) (by simp [results, Tryz.results14, go_sem]) rfl ⟨rfl, by repeat (first | exact Ext.refl _ | refine Ext.alloc ?_ _)⟩
set_option maxRecDepth 100000 in
set_option maxHeartbeats 600000 in
theorem actLaw_any (op a b c n : Int) (w : World) : Calls Tryz.prog 5 #[actV op a b c n] w fun e w' => e = .returned (.bool true) ∧ Ext w w' := by
  have QT := hide (fun W => toAct_any op a b c n W)
  have QS := hide (fun W => specActOk_any op a b c n W)
  have QI := hide (fun W => implActOk_any op a b c n W)
  obtain ⟨r, er⟩ : ∃ r, r = actOkB op a b c n := ⟨_, rfl⟩
  rw [← er] at QS QI
  clear er
  have hr : (r != r) = false := by cases r <;> rfl
  go_enter Tryz.func5, Tryz.ntmps5
  go_wp2_with fail
  refine (unhide QT _).mono ?_
  rintro e w1 ⟨rfl, x1⟩
  go_wp2_with fail
  refine (unhide QS _).mono ?_
  rintro e w2 ⟨rfl, x2⟩
  have x3 := x1.trans x2
  have t0 : w2.cell? ⟨w.heap.size, 0, none⟩ = some (iv op) := x3.keep (by simp [go_sem])
  have t1 : w2.cell? ⟨w.heap.size, 1, none⟩ = some (iv a) := x3.keep (by simp [go_sem])
  have t2 : w2.cell? ⟨w.heap.size, 2, none⟩ = some (iv b) := x3.keep (by simp [go_sem])
  have t3 : w2.cell? ⟨w.heap.size, 3, none⟩ = some (iv c) := x3.keep (by simp [go_sem])
  have t4 : w2.cell? ⟨w.heap.size, 4, none⟩ = some (iv n) := x3.keep (by simp [go_sem])
  go_wp2_with fail
  refine (unhide QT _).mono ?_
  rintro e w4 ⟨rfl, x4⟩
  go_wp2_with fail
  refine (unhide QI _).mono ?_
  rintro e w5 ⟨rfl, x5⟩
  go_wp2_with fail
  go_ret
  exact ⟨rfl, (((Ext.refl w).alloc _).trans x3).trans (x4.trans x5)⟩
end Go.Proofs.YtbcmjcomdjdjaaaGreat
