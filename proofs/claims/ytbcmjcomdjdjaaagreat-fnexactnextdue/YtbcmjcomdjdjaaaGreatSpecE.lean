import Derived.Test.YtbcmjcomdjdjaaaGreatSpecC
namespace Go.Proofs.YtbcmjcomdjdjaaaGreat
open Go.RowKit
attribute [local go_sem ↓] Go.wp_at_zero Go.wp_at_succ

theorem R6_04 {x : Hp} (h : x.phase = 0 ∨ x.phase = 4) : (((x.hand == 0) && (x.sub == 0)) = true ↔ R6 x) := by
  unfold R6
  rcases h with h | h <;> simp [h]
theorem R6_1 {x : Hp} (h : x.phase = 1 ∨ x.phase = 3 ∨ x.phase = 6) : ((x.sub == 0) = true ↔ R6 x) := by
  unfold R6
  rcases h with h | h | h <;> simp [h]

set_option maxRecDepth 100000 in
set_option maxHeartbeats 1000000 in
theorem l1hands_any (x : Hp) (b : Nat) (w : World) {ar : Option Addr} {kr : Nat} {ac : Option Addr} {kc : Nat} {ag : Option Addr} {kg : Nat} (h : HAt w b x ar kr ac kc ag kg) (r1 : R1 x) (r5 : R5 x) :
    Calls Tryz.prog 42 #[.pointer (some ⟨b, 0, none⟩)] w fun e w' => ∃ r : Bool, e = .returned (.bool r) ∧ (r = true ↔ R6 x) ∧ Ext w w' := by
  have c4 := h.c4
  have c5 := h.c5
  have c6 := h.c6
  have c7 := h.c7
  have c8 := h.c8
  have lc := h.lc
  have lg := h.lg
  obtain ⟨ph0, ph1⟩ := r1.phase
  obtain ⟨hh0, hh1⟩ := r1.hand
  have hphase : x.phase = 0 ∨ x.phase = 1 ∨ x.phase = 2 ∨ x.phase = 3 ∨ x.phase = 4 ∨ x.phase = 5 ∨ x.phase = 6 := by omega
  clear ph0 ph1
  rcases hphase with hp | hp | hp | hp | hp | hp | hp
  · have Y := hide (R6_04 (x := x) (Or.inl hp))
    clear r1 r5 h
    cases q : (x.hand == 0)
    all_goals
      go_enter Tryz.func42, Tryz.ntmps42
      go_wp2_with fail
      go_ret
      exact ⟨_, rfl, by have := unhide Y; rw [q] at this; simpa using this, Ext.refl _⟩
  · have Y := hide (R6_1 (x := x) (Or.inl hp))
    clear r1 r5 h
    go_enter Tryz.func42, Tryz.ntmps42
    go_wp2_with fail
    go_ret
    exact ⟨_, rfl, unhide Y, Ext.refl _⟩
  · cases q : (x.hand == 0)
    · have Y := hide (show ¬ R6 x from fun r => by have := (r.2.1 hp).1; simp at q; omega)
      have q' : (x.hand != 0) = true := by simpa using q
      clear r1 r5 h
      go_enter Tryz.func42, Tryz.ntmps42
      go_wp2_with fail
      go_ret
      exact ⟨false, rfl, ⟨fun f => by simp at f, fun r => (unhide Y r).elim⟩, Ext.refl _⟩
    · have q' : (x.hand != 0) = false := by simpa using q
      by_cases hg : x.gray.length = 0
      · have Y := hide (show (x.sub == 0) = true ↔ R6 x by
          have q2 : x.hand = 0 := by simpa using q
          unfold R6; simp [hp, hg, q2])
        clear r1 r5 h
        go_enter Tryz.func42, Tryz.ntmps42
        go_wp2_with fail
        go_ret
        exact ⟨_, rfl, unhide Y, Ext.refl _⟩
      · have hg0 : 0 < x.gray.length := by omega
        have hgr := r5.2.2 x.gray[0] (List.getElem_mem hg0)
        obtain ⟨i, hi⟩ := Int.eq_ofNat_of_zero_le hgr.1
        have eg : x.g0 = i := by simp [Hp.g0, hg0, hi]
        have Y := hide (show decide (x.sub ≤ ((x.c i).prs.length : Int)) = true ↔ R6 x by
          have q2 : x.hand = 0 := by simpa using q
          have hg2 : x.gray ≠ [] := fun e => by simp [e] at hg
          unfold R6; rw [eg]; simp [hp, hg2, q2])
        obtain ⟨bg, og, rfl, pg⟩ := h.G 0 hg0
        unfold InAt at pg
        rw [hi] at pg
        simp only [Nat.zero_mul, Nat.add_zero] at pg
        obtain ⟨b', o, ap, kp, rfl, p0, p1, p2, p3, p4, p5, p6, p7, lp, P⟩ := h.cell i (by omega)
        have hg3 : ((x.gray.length : Int) == 0) = false := beq_eq_false_iff_ne.2 (by omega)
        have hg4 : (0 : Int) < (x.gray.length : Int) := by omega
        have hi0 : (0 : Int) ≤ (i : Int) := by omega
        have hi1 : (i : Int) < (x.cells.length : Int) := by omega
        clear r1 r5 h P hgr hi eg hg
        go_enter Tryz.func42, Tryz.ntmps42
        go_wp2_with fail
        go_quiet (fail)
        go_wp2_with fail
        go_ret
        exact ⟨_, rfl, unhide Y, (Ext.refl _).drewN _⟩
  · have Y := hide (R6_1 (x := x) (Or.inr (Or.inl hp)))
    clear r1 r5 h
    go_enter Tryz.func42, Tryz.ntmps42
    go_wp2_with fail
    go_ret
    exact ⟨_, rfl, unhide Y, Ext.refl _⟩
  · have Y := hide (R6_04 (x := x) (Or.inr hp))
    clear r1 r5 h
    cases q : (x.hand == 0)
    all_goals
      go_enter Tryz.func42, Tryz.ntmps42
      go_wp2_with fail
      go_ret
      exact ⟨_, rfl, by have := unhide Y; rw [q] at this; simpa using this, Ext.refl _⟩
  · obtain ⟨i, hi⟩ := Int.eq_ofNat_of_zero_le hh0
    cases q : (x.hand == (x.cells.length : Int))
    · have hi2 : i < x.cells.length := by simp at q; omega
      have q2 : ((i : Int) == (x.cells.length : Int)) = false := by simp; omega
      have hu := l1used_any x b i w h (by omega) (by omega)
      have HU := hide (fun n => l1used_any x b i (w.drewN n) (h.ext ((Ext.refl w).drewN n)) (by omega) (by omega))
      rw [Int.toNat_natCast] at HU
      obtain ⟨b', o, ap, kp, rfl, p0, p1, p2, p3, p4, p5, p6, p7, lp, P⟩ := h.cell i hi2
      rw [hi] at c6
      have hi0 : (0 : Int) ≤ (i : Int) := by omega
      have hi1 : (i : Int) < (x.cells.length : Int) := by omega
      cases qu : usedB x i
      · have Y := hide (show (x.sub == 0) = true ↔ R6 x by
          have q3 : ¬ (x.c i).st = 1 := by simpa [usedB] using qu
          unfold R6; simp [hp, hi, q3])
        clear r1 r5 h P hu q hh0 hh1 hi
        go_enter Tryz.func42, Tryz.ntmps42
        go_wp2_with fail
        go_quiet ((go_at_call 85; exact Calls.quiet_of_same (unhide HU _)))
        go_wp2_with fail
        go_ret
        exact ⟨_, rfl, unhide Y, (Ext.refl _).drewN _⟩
      · have Y := hide (show decide (x.sub ≤ ((x.c i).prs.length : Int)) = true ↔ R6 x by
          have q3 : (x.c i).st = 1 := by simpa [usedB] using qu
          have q4 : ¬ (i : Int) = (x.cells.length : Int) := by omega
          unfold R6; simp [hp, hi, q3, q4])
        clear r1 r5 h P hu q hh0 hh1 hi
        go_enter Tryz.func42, Tryz.ntmps42
        go_wp2_with fail
        go_quiet ((go_at_call 85; exact Calls.quiet_of_same (unhide HU _)))
        go_wp2_with fail
        go_quiet (fail)
        go_wp2_with fail
        go_ret
        exact ⟨_, rfl, unhide Y, ((Ext.refl _).drewN _).drewN _⟩
    · have Y := hide (show (x.sub == 0) = true ↔ R6 x by
          have q3 : x.hand = x.cells.length := by simpa using q
          unfold R6; simp [hp, q3])
      have q4 : x.hand = x.cells.length := by simpa using q
      rw [q4] at c6
      have q5 : ((x.cells.length : Int) == (x.cells.length : Int)) = true := by simp
      clear r1 r5 h q q4 hh0 hh1 hi
      go_enter Tryz.func42, Tryz.ntmps42
      go_wp2_with fail
      go_quiet (fail)
      go_wp2_with fail
      go_ret
      exact ⟨_, rfl, unhide Y, (Ext.refl _).drewN _⟩
  · have Y := hide (R6_1 (x := x) (Or.inr (Or.inr hp)))
    clear r1 r5 h
    go_enter Tryz.func42, Tryz.ntmps42
    go_wp2_with fail
    go_ret
    exact ⟨_, rfl, unhide Y, Ext.refl _⟩
end Go.Proofs.YtbcmjcomdjdjaaaGreat
