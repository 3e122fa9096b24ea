import Derived.Test.YtbcmjcomdjdjaaaGreatIn
import Derived.Deep.QuietTactic
namespace Go.Proofs.YtbcmjcomdjdjaaaGreat
open Go.RowKit
attribute [local go_sem ↓] Go.wp_at_zero Go.wp_at_succ

/-! ActOk: what the table of acts asks. -/
def actRa (op : Int) : Bool := !(op == 18 || op == 20 || op == 21 || op == 22 || op == 23 || op == 24)
def actRb (op : Int) : Bool := op == 4 || op == 5 || op == 6 || op == 7 || op == 8 || op == 13
def actB (op : Int) : Int := if op = 1 then 255 else if actRb op = true then 15 else if op = 23 then 64 else 0
def actC (op : Int) : Int := if op = 1 ∨ op = 9 ∨ op = 10 then 200 else if 5 ≤ op ∧ op ≤ 8 then 199 else if op = 11 then 3 else if op = 12 then 1 else if op = 22 then 100000 else if op = 23 then 4000 else 0
theorem op_cases (op : Int) (h1 : 1 ≤ op) (h2 : op ≤ 24) : op = 1 ∨ op = 2 ∨ op = 3 ∨ op = 4 ∨ op = 5 ∨ op = 6 ∨ op = 7 ∨ op = 8 ∨ op = 9 ∨ op = 10 ∨ op = 11 ∨ op = 12 ∨ op = 13 ∨ op = 14 ∨ op = 15 ∨ op = 16 ∨ op = 17 ∨ op = 18 ∨ op = 19 ∨ op = 20 ∨ op = 21 ∨ op = 22 ∨ op = 23 ∨ op = 24 := by omega
theorem l5reg_any (op : Int) (h1 : 1 ≤ op) (h2 : op ≤ 24) (w : World) : Calls Tryz.prog 32 #[.int .i64 op] w fun e w' => e = .returned (.tuple #[.bool (actRa op), .bool (actRb op)]) ∧ w' = w := by
  have h := op_cases op h1 h2
  clear h1 h2
  rcases h with rfl | rfl | rfl | rfl | rfl | rfl | rfl | rfl | rfl | rfl | rfl | rfl | rfl | rfl | rfl | rfl | rfl | rfl | rfl | rfl | rfl | rfl | rfl | rfl
  all_goals
    go_enter Tryz.func32, Tryz.ntmps32
    go_wp2
    go_ret2
    exact ⟨rfl, rfl⟩
theorem l5most_any (op : Int) (h1 : 1 ≤ op) (h2 : op ≤ 24) (w : World) : Calls Tryz.prog 34 #[.int .i64 op] w fun e w' => e = .returned (.tuple #[.int .i64 (actB op), .int .i64 (actC op)]) ∧ w' = w := by
  have h := op_cases op h1 h2
  clear h1 h2
  rcases h with rfl | rfl | rfl | rfl | rfl | rfl | rfl | rfl | rfl | rfl | rfl | rfl | rfl | rfl | rfl | rfl | rfl | rfl | rfl | rfl | rfl | rfl | rfl | rfl
  all_goals
    go_enter Tryz.func34, Tryz.ntmps34
    go_wp2
    go_ret2
    exact ⟨rfl, rfl⟩
def actA (op : Int) : Int := if actRa op = true then 15 else 0
def actOkB (op a b c n : Int) : Bool := decide ((1 ≤ op ∧ op ≤ 24) ∧ (n = 0 ∨ op = 2)) && (decide (0 ≤ a ∧ a ≤ actA op) && (decide (0 ≤ b ∧ b ≤ actB op) && decide (0 ≤ c ∧ c ≤ actC op)))
abbrev actV (op a b c n : Int) : Value := .agg #[iv op, iv a, iv b, iv c, iv n]
theorem act_no {op a b c n : Int} (h : op < 1 ∨ 24 < op ∨ (n ≠ 0 ∧ op ≠ 2)) : actOkB op a b c n = false := by
  unfold actOkB
  rw [decide_eq_false (by omega)]; rfl
theorem act_a {op a b c n : Int} (h : a < 0 ∨ actA op < a) : actOkB op a b c n = false := by
  unfold actOkB
  have e : decide (0 ≤ a ∧ a ≤ actA op) = false := decide_eq_false (by omega)
  rw [e]; simp
theorem act_yes {op a b c n : Int} (h1 : 1 ≤ op) (h2 : op ≤ 24) (h3 : n = 0 ∨ op = 2) (h4 : 0 ≤ a) (h5 : a ≤ actA op) : actOkB op a b c n = (decide (0 ≤ b ∧ b ≤ actB op) && decide (0 ≤ c ∧ c ≤ actC op)) := by
  unfold actOkB
  rw [decide_eq_true ⟨⟨h1, h2⟩, h3⟩, decide_eq_true ⟨h4, h5⟩]; simp
theorem l1in_r (n lo hi : Int) (r : Bool) (h : l1inB n lo hi = r) (w : World) : Calls Tryz.prog 33 #[.int .i64 n, .int .i64 lo, .int .i64 hi] w fun e w' => e = .returned (.bool r) ∧ w' = w := h ▸ l1in_any n lo hi w
set_option maxRecDepth 100000 in
set_option maxHeartbeats 600000 in
theorem specActOk_one (op a b c n : Int) (w : World) (h1 : 1 ≤ op) (h2 : op ≤ 24) (q1b : (op != 2) = true) (q2b : (n != 0) = false) : Calls Tryz.prog 13 #[actV op a b c n] w fun e w' => e = .returned (.bool (actOkB op a b c n)) ∧ Ext w w' := by
  have H3 := hide (show n = 0 ∨ op = 2 from by simp at q2b; exact .inl q2b)
  have QM := hide (fun W => l5most_any op h1 h2 W)
  have YY := hide (fun h4 h5 => act_yes (b := b) (c := c) (n := n) (a := a) h1 h2 (unhide H3) h4 h5)
  obtain ⟨bm, eb⟩ : ∃ v, v = actB op := ⟨_, rfl⟩
  obtain ⟨cm, ec⟩ : ∃ v, v = actC op := ⟨_, rfl⟩
  rw [← eb, ← ec] at QM YY
  clear eb ec
  have h1b : ¬ op < 1 := by omega
  have h2b : ¬ op > 24 := by omega
  cases q3 : actRa op
  · have QL := hide (fun W => q3 ▸ l5reg_any op h1 h2 W)
    cases q5 : (a == 0)
    · have q5b : (a != 0) = true := by simpa using q5
      have E := hide (act_a (op := op) (a := a) (b := b) (c := c) (n := n) (by unfold actA; rw [q3]; simp at q5; simp; omega))
      go_enter Tryz.func13, Tryz.ntmps13
      go_wp2_with (first | (go_at_call 32; refine (unhide QL _).mono ?_; rintro e w2 ⟨rfl, rfl⟩))
      go_ret
      exact ⟨by rw [unhide E]; rfl, (Ext.refl _).alloc _⟩
    · have q5b : (a != 0) = false := by simpa using q5
      have EY := hide (unhide YY (by simp at q5; omega) (by unfold actA; rw [q3]; simp at q5; simp; omega))
      cases q6 : l1inB b 0 bm
      · have QB := hide (fun W => l1in_r b 0 bm false q6 W)
        have E := hide (show actOkB op a b c n = false by rw [unhide EY]; have e : decide (0 ≤ b ∧ b ≤ bm) = false := q6; rw [e]; rfl)
        clear EY H3 YY
        go_enter Tryz.func13, Tryz.ntmps13
        go_wp2_with (first | (go_at_call 32; refine (unhide QL _).mono ?_; rintro e w2 ⟨rfl, rfl⟩) | (go_at_call 34; refine (unhide QM _).mono ?_; rintro e w2 ⟨rfl, rfl⟩) | (go_at_call 33; refine (unhide QB _).mono ?_; rintro e w2 ⟨rfl, rfl⟩))
        go_ret
        exact ⟨by rw [unhide E]; rfl, (Ext.refl _).alloc _⟩
      · have QB := hide (fun W => l1in_r b 0 bm true q6 W)
        have QC := hide (fun W => l1in_any c 0 cm W)
        have E := hide (show actOkB op a b c n = l1inB c 0 cm by rw [unhide EY]; have e : decide (0 ≤ b ∧ b ≤ bm) = true := q6; rw [e]; rfl)
        clear EY H3 YY
        go_enter Tryz.func13, Tryz.ntmps13
        go_wp2_with (first | (go_at_call 32; refine (unhide QL _).mono ?_; rintro e w2 ⟨rfl, rfl⟩) | (go_at_call 34; refine (unhide QM _).mono ?_; rintro e w2 ⟨rfl, rfl⟩) | (have _ := LQB; go_at_call 33; refine (unhide QC _).mono ?_; rintro e w2 ⟨rfl, rfl⟩) | (go_at_call 33; refine (unhide QB _).mono ?_; rintro e w2 ⟨rfl, rfl⟩; have LQB := True.intro))
        go_ret
        exact ⟨by rw [unhide E]; rfl, (Ext.refl _).alloc _⟩
  · have QL := hide (fun W => q3 ▸ l5reg_any op h1 h2 W)
    cases q5 : l1inB a 0 15
    · have QA := hide (fun W => l1in_r a 0 15 false q5 W)
      have E := hide (act_a (op := op) (a := a) (b := b) (c := c) (n := n) (by unfold actA; rw [q3]; simp [l1inB] at q5; simp; omega))
      go_enter Tryz.func13, Tryz.ntmps13
      go_wp2_with (first | (go_at_call 32; refine (unhide QL _).mono ?_; rintro e w2 ⟨rfl, rfl⟩) | (go_at_call 33; refine (unhide QA _).mono ?_; rintro e w2 ⟨rfl, rfl⟩))
      go_ret
      exact ⟨by rw [unhide E]; rfl, (Ext.refl _).alloc _⟩
    · have QA := hide (fun W => l1in_r a 0 15 true q5 W)
      have EY := hide (unhide YY (by simp [l1inB] at q5; omega) (by unfold actA; rw [q3]; simp [l1inB] at q5; simp; omega))
      cases q6 : l1inB b 0 bm
      · have QB := hide (fun W => l1in_r b 0 bm false q6 W)
        have E := hide (show actOkB op a b c n = false by rw [unhide EY]; have e : decide (0 ≤ b ∧ b ≤ bm) = false := q6; rw [e]; rfl)
        clear EY H3 YY
        go_enter Tryz.func13, Tryz.ntmps13
        go_wp2_with (first | (go_at_call 32; refine (unhide QL _).mono ?_; rintro e w2 ⟨rfl, rfl⟩) | (go_at_call 34; refine (unhide QM _).mono ?_; rintro e w2 ⟨rfl, rfl⟩) | (have _ := LQA; go_at_call 33; refine (unhide QB _).mono ?_; rintro e w2 ⟨rfl, rfl⟩) | (go_at_call 33; refine (unhide QA _).mono ?_; rintro e w2 ⟨rfl, rfl⟩; have LQA := True.intro))
        go_ret
        exact ⟨by rw [unhide E]; rfl, (Ext.refl _).alloc _⟩
      · have QB := hide (fun W => l1in_r b 0 bm true q6 W)
        have QC := hide (fun W => l1in_any c 0 cm W)
        have E := hide (show actOkB op a b c n = l1inB c 0 cm by rw [unhide EY]; have e : decide (0 ≤ b ∧ b ≤ bm) = true := q6; rw [e]; rfl)
        clear EY H3 YY
        go_enter Tryz.func13, Tryz.ntmps13
        go_wp2_with (first | (go_at_call 32; refine (unhide QL _).mono ?_; rintro e w2 ⟨rfl, rfl⟩) | (go_at_call 34; refine (unhide QM _).mono ?_; rintro e w2 ⟨rfl, rfl⟩) | (have _ := LQB; go_at_call 33; refine (unhide QC _).mono ?_; rintro e w2 ⟨rfl, rfl⟩) | (have _ := LQA; go_at_call 33; refine (unhide QB _).mono ?_; rintro e w2 ⟨rfl, rfl⟩; have LQB := True.intro) | (go_at_call 33; refine (unhide QA _).mono ?_; rintro e w2 ⟨rfl, rfl⟩; have LQA := True.intro))
        go_ret
        exact ⟨by rw [unhide E]; rfl, (Ext.refl _).alloc _⟩
set_option maxRecDepth 100000 in
set_option maxHeartbeats 600000 in
theorem specActOk_two (op a b c n : Int) (w : World) (h1 : 1 ≤ op) (h2 : op ≤ 24) (q1b : (op != 2) = false) : Calls Tryz.prog 13 #[actV op a b c n] w fun e w' => e = .returned (.bool (actOkB op a b c n)) ∧ Ext w w' := by
  have H3 := hide (show n = 0 ∨ op = 2 from by simp at q1b; exact .inr q1b)
  have QM := hide (fun W => l5most_any op h1 h2 W)
  have YY := hide (fun h4 h5 => act_yes (b := b) (c := c) (n := n) (a := a) h1 h2 (unhide H3) h4 h5)
  obtain ⟨bm, eb⟩ : ∃ v, v = actB op := ⟨_, rfl⟩
  obtain ⟨cm, ec⟩ : ∃ v, v = actC op := ⟨_, rfl⟩
  rw [← eb, ← ec] at QM YY
  clear eb ec
  have h1b : ¬ op < 1 := by omega
  have h2b : ¬ op > 24 := by omega
  cases q3 : actRa op
  · have QL := hide (fun W => q3 ▸ l5reg_any op h1 h2 W)
    cases q5 : (a == 0)
    · have q5b : (a != 0) = true := by simpa using q5
      have E := hide (act_a (op := op) (a := a) (b := b) (c := c) (n := n) (by unfold actA; rw [q3]; simp at q5; simp; omega))
      go_enter Tryz.func13, Tryz.ntmps13
      go_wp2_with (first | (go_at_call 32; refine (unhide QL _).mono ?_; rintro e w2 ⟨rfl, rfl⟩))
      go_ret
      exact ⟨by rw [unhide E]; rfl, (Ext.refl _).alloc _⟩
    · have q5b : (a != 0) = false := by simpa using q5
      have EY := hide (unhide YY (by simp at q5; omega) (by unfold actA; rw [q3]; simp at q5; simp; omega))
      cases q6 : l1inB b 0 bm
      · have QB := hide (fun W => l1in_r b 0 bm false q6 W)
        have E := hide (show actOkB op a b c n = false by rw [unhide EY]; have e : decide (0 ≤ b ∧ b ≤ bm) = false := q6; rw [e]; rfl)
        clear EY H3 YY
        go_enter Tryz.func13, Tryz.ntmps13
        go_wp2_with (first | (go_at_call 32; refine (unhide QL _).mono ?_; rintro e w2 ⟨rfl, rfl⟩) | (go_at_call 34; refine (unhide QM _).mono ?_; rintro e w2 ⟨rfl, rfl⟩) | (go_at_call 33; refine (unhide QB _).mono ?_; rintro e w2 ⟨rfl, rfl⟩))
        go_ret
        exact ⟨by rw [unhide E]; rfl, (Ext.refl _).alloc _⟩
      · have QB := hide (fun W => l1in_r b 0 bm true q6 W)
        have QC := hide (fun W => l1in_any c 0 cm W)
        have E := hide (show actOkB op a b c n = l1inB c 0 cm by rw [unhide EY]; have e : decide (0 ≤ b ∧ b ≤ bm) = true := q6; rw [e]; rfl)
        clear EY H3 YY
        go_enter Tryz.func13, Tryz.ntmps13
        go_wp2_with (first | (go_at_call 32; refine (unhide QL _).mono ?_; rintro e w2 ⟨rfl, rfl⟩) | (go_at_call 34; refine (unhide QM _).mono ?_; rintro e w2 ⟨rfl, rfl⟩) | (have _ := LQB; go_at_call 33; refine (unhide QC _).mono ?_; rintro e w2 ⟨rfl, rfl⟩) | (go_at_call 33; refine (unhide QB _).mono ?_; rintro e w2 ⟨rfl, rfl⟩; have LQB := True.intro))
        go_ret
        exact ⟨by rw [unhide E]; rfl, (Ext.refl _).alloc _⟩
  · have QL := hide (fun W => q3 ▸ l5reg_any op h1 h2 W)
    cases q5 : l1inB a 0 15
    · have QA := hide (fun W => l1in_r a 0 15 false q5 W)
      have E := hide (act_a (op := op) (a := a) (b := b) (c := c) (n := n) (by unfold actA; rw [q3]; simp [l1inB] at q5; simp; omega))
      go_enter Tryz.func13, Tryz.ntmps13
      go_wp2_with (first | (go_at_call 32; refine (unhide QL _).mono ?_; rintro e w2 ⟨rfl, rfl⟩) | (go_at_call 33; refine (unhide QA _).mono ?_; rintro e w2 ⟨rfl, rfl⟩))
      go_ret
      exact ⟨by rw [unhide E]; rfl, (Ext.refl _).alloc _⟩
    · have QA := hide (fun W => l1in_r a 0 15 true q5 W)
      have EY := hide (unhide YY (by simp [l1inB] at q5; omega) (by unfold actA; rw [q3]; simp [l1inB] at q5; simp; omega))
      cases q6 : l1inB b 0 bm
      · have QB := hide (fun W => l1in_r b 0 bm false q6 W)
        have E := hide (show actOkB op a b c n = false by rw [unhide EY]; have e : decide (0 ≤ b ∧ b ≤ bm) = false := q6; rw [e]; rfl)
        clear EY H3 YY
        go_enter Tryz.func13, Tryz.ntmps13
        go_wp2_with (first | (go_at_call 32; refine (unhide QL _).mono ?_; rintro e w2 ⟨rfl, rfl⟩) | (go_at_call 34; refine (unhide QM _).mono ?_; rintro e w2 ⟨rfl, rfl⟩) | (have _ := LQA; go_at_call 33; refine (unhide QB _).mono ?_; rintro e w2 ⟨rfl, rfl⟩) | (go_at_call 33; refine (unhide QA _).mono ?_; rintro e w2 ⟨rfl, rfl⟩; have LQA := True.intro))
        go_ret
        exact ⟨by rw [unhide E]; rfl, (Ext.refl _).alloc _⟩
      · have QB := hide (fun W => l1in_r b 0 bm true q6 W)
        have QC := hide (fun W => l1in_any c 0 cm W)
        have E := hide (show actOkB op a b c n = l1inB c 0 cm by rw [unhide EY]; have e : decide (0 ≤ b ∧ b ≤ bm) = true := q6; rw [e]; rfl)
        clear EY H3 YY
        go_enter Tryz.func13, Tryz.ntmps13
        go_wp2_with (first | (go_at_call 32; refine (unhide QL _).mono ?_; rintro e w2 ⟨rfl, rfl⟩) | (go_at_call 34; refine (unhide QM _).mono ?_; rintro e w2 ⟨rfl, rfl⟩) | (have _ := LQB; go_at_call 33; refine (unhide QC _).mono ?_; rintro e w2 ⟨rfl, rfl⟩) | (have _ := LQA; go_at_call 33; refine (unhide QB _).mono ?_; rintro e w2 ⟨rfl, rfl⟩; have LQB := True.intro) | (go_at_call 33; refine (unhide QA _).mono ?_; rintro e w2 ⟨rfl, rfl⟩; have LQA := True.intro))
        go_ret
        exact ⟨by rw [unhide E]; rfl, (Ext.refl _).alloc _⟩
set_option maxRecDepth 100000 in
set_option maxHeartbeats 600000 in
theorem specActOk_any (op a b c n : Int) (w : World) : Calls Tryz.prog 13 #[actV op a b c n] w fun e w' => e = .returned (.bool (actOkB op a b c n)) ∧ Ext w w' := by
  by_cases h1 : op < 1
  · have E := hide (act_no (op := op) (a := a) (b := b) (c := c) (n := n) (.inl h1))
    go_enter Tryz.func13, Tryz.ntmps13
    go_wp2_with fail
    go_ret
    exact ⟨by rw [unhide E]; rfl, (Ext.refl _).alloc _⟩
  · by_cases h2 : op > 24
    · have E := hide (act_no (op := op) (a := a) (b := b) (c := c) (n := n) (.inr (.inl h2)))
      go_enter Tryz.func13, Tryz.ntmps13
      go_wp2_with fail
      go_ret
      exact ⟨by rw [unhide E]; rfl, (Ext.refl _).alloc _⟩
    · cases q1 : (op == 2)
      · have q1b : (op != 2) = true := by simpa using q1
        cases q2 : (n == 0)
        · have q2b : (n != 0) = true := by simpa using q2
          have E := hide (act_no (op := op) (a := a) (b := b) (c := c) (n := n) (.inr (.inr ⟨by simpa using q2, by simpa using q1⟩)))
          go_enter Tryz.func13, Tryz.ntmps13
          go_wp2_with fail
          go_ret
          exact ⟨by rw [unhide E]; rfl, (Ext.refl _).alloc _⟩
        · exact specActOk_one op a b c n w (by omega) (by omega) q1b (by simpa using q2)
      · exact specActOk_two op a b c n w (by omega) (by omega) (by simpa using q1)
end Go.Proofs.YtbcmjcomdjdjaaaGreat
