import Derived.Test.YtddkhnclmeikfacGreatDoorYe
namespace Go.Proofs.YtddkhnclmeikfacGreatDoor
open Go.RowKit
attribute [local go_sem ↓] Go.wp_at_zero Go.wp_at_succ

/-! The model's acts. -/
/-- the model's reading of the fields stands: i of the four are gone through -/
def SgI (op : Int) (ws : List (List UInt8)) (i : Nat) : Prop := ∀ j, j < i → hasL op j = true → cntL op j < ws.length ∧ numB (ws.getD (cntL op j) []) = true ∧ (j < 3 → 0 ≤ sNum op ws j ∧ sNum op ws j ≤ 100000)
theorem SgI.no {op : Int} {ws : List (List UInt8)} {i : Nat} (h : SgI op ws i) (q : hasL op i = false) : SgI op ws (i + 1) := by
  intro j hj hh
  by_cases e : j = i
  · subst e; rw [q] at hh; cases hh
  · exact h j (by omega) hh
theorem SgI.yes {op : Int} {ws : List (List UInt8)} {i : Nat} (h : SgI op ws i) (h1 : cntL op i < ws.length) (h2 : numB (ws.getD (cntL op i) []) = true) (h3 : i < 3 → 0 ≤ sNum op ws i ∧ sNum op ws i ≤ 100000) : SgI op ws (i + 1) := by
  intro j hj hh
  by_cases e : j = i
  · subst e; exact ⟨h1, h2, h3⟩
  · exact h j (by omega) hh
theorem cnt_mono (op : Int) : ∀ {i j : Nat}, i ≤ j → cntL op i ≤ cntL op j
  | i, 0, h => by have : i = 0 := by omega
                  subst this; exact Nat.le_refl _
  | i, j + 1, h => by
    by_cases e : i = j + 1
    · subst e; exact Nat.le_refl _
    · have h1 := cnt_mono op (i := i) (j := j) (by omega)
      cases q : hasL op j
      · rw [cnt_no op j q]; exact h1
      · rw [cnt_yes op j q]; omega
/-- every place of the words belongs to a field -/
theorem cnt_hit (op : Int) : ∀ {n k : Nat}, k < cntL op n → ∃ j, j < n ∧ hasL op j = true ∧ cntL op j = k
  | 0, k, h => by simp [cntL] at h
  | n + 1, k, h => by
    cases q : hasL op n
    · rw [cnt_no op n q] at h
      obtain ⟨j, h1, h2⟩ := cnt_hit op h
      exact ⟨j, by omega, h2⟩
    · rw [cnt_yes op n q] at h
      by_cases e : k = cntL op n
      · exact ⟨n, by omega, q, e.symm⟩
      · obtain ⟨j, h1, h2⟩ := cnt_hit op (n := n) (k := k) (by omega)
        exact ⟨j, by omega, h2⟩
/-- the model says yes: so does the line's act -/
theorem sg_good (op : Nat) (h1 : 1 ≤ op) (h2 : op ≤ 24) (ws : List (List UInt8)) (h : SgI op ws 4) (hl : cntL op 4 = ws.length) (hk : okA (sAct op ws) = true) : actGood op ws = true := by
  have hc := cnt_len op h2
  unfold actGood
  rw [Bool.and_eq_true, Bool.and_eq_true]
  refine ⟨decide_eq_true (by omega), List.all_eq_true.2 (fun x hx => ?_), ?_⟩
  · obtain ⟨k, hk2, rfl⟩ := List.getElem_of_mem hx
    obtain ⟨j, hj, hh, hcj⟩ := cnt_hit op (n := 4) (k := k) (by omega)
    have := (h j hj hh).2.1
    rw [hcj, List.getD_eq_getElem?_getD, List.getElem?_eq_getElem hk2] at this
    exact this
  · rw [← sAct_eq op h1 h2 ws (by omega)]; exact hk
theorem good_num {op : Nat} {ws : List (List UInt8)} (h : actGood op ws = true) : ws.length = (letL (op : Nat)).length ∧ (∀ x ∈ ws, numB x = true) ∧ okA (actOf op ws) = true := by
  unfold actGood at h
  rw [Bool.and_eq_true, Bool.and_eq_true] at h
  exact ⟨of_decide_eq_true h.1, List.all_eq_true.1 h.2.1, h.2.2⟩
theorem okA_small {x : Ak} (h : okA x = true) : (0 ≤ x.a ∧ x.a ≤ 100000) ∧ (0 ≤ x.b ∧ x.b ≤ 100000) ∧ (0 ≤ x.c ∧ x.c ≤ 100000) := by
  have hop := okA_op h
  unfold okA actOkB at h
  simp only [Bool.and_eq_true, decide_eq_true_eq] at h
  have ha : actA x.op ≤ 100000 := by unfold actA; split <;> omega
  have hb : actB x.op ≤ 100000 := by unfold actB; split <;> (try split) <;> (try split) <;> omega
  have hc : actC x.op ≤ 100000 := by unfold actC; (repeat' split) <;> omega
  omega
/-- a field that the model refuses is one that the line's act has not -/
theorem sg_bad (op : Nat) (h1 : 1 ≤ op) (h2 : op ≤ 24) (ws : List (List UInt8)) (i : Nat) (hi : i < 4) (hh : hasL op i = true) (h : ws.length ≤ cntL op i ∨ numB (ws.getD (cntL op i) []) = false ∨ (i < 3 ∧ (sNum op ws i < 0 ∨ 100000 < sNum op ws i))) : actGood op ws = false := by
  cases q : actGood op ws with
  | false => rfl
  | true =>
    obtain ⟨g1, g2, g3⟩ := good_num q
    have hc := cnt_len op h2
    have hlt : cntL op i < ws.length := by
      have := cnt_mono op (i := i + 1) (j := 4) (by omega)
      rw [cnt_yes op i hh] at this
      omega
    rcases h with h | h | ⟨h3, h⟩
    · omega
    · rw [List.getD_eq_getElem?_getD, List.getElem?_eq_getElem hlt] at h
      have := g2 _ (List.getElem_mem hlt)
      simp at h
      rw [h] at this; cases this
    · rw [← sAct_eq op h1 h2 ws g1] at g3
      have hs := okA_small g3
      unfold sAct at hs
      simp only at hs
      have h4 : i = 0 ∨ i = 1 ∨ i = 2 := by omega
      rcases h4 with rfl | rfl | rfl <;> omega
theorem good_end (op : Nat) (h1 : 1 ≤ op) (h2 : op ≤ 24) (ws : List (List UInt8)) (h : SgI op ws 4) : actGood op ws = (decide (cntL op 4 = ws.length) && okA (sAct op ws)) := by
  cases q : (decide (cntL op 4 = ws.length) && okA (sAct op ws)) with
  | true =>
    rw [Bool.and_eq_true] at q
    exact sg_good op h1 h2 ws h (of_decide_eq_true q.1) q.2
  | false =>
    cases q2 : actGood op ws with
    | false => rfl
    | true =>
      obtain ⟨g1, g2, g3⟩ := good_num q2
      have hc := cnt_len op h2
      rw [← sAct_eq op h1 h2 ws g1] at g3
      rw [g3, decide_eq_true (by omega)] at q
      cases q
end Go.Proofs.YtddkhnclmeikfacGreatDoor
