import Derived.Test.YtojdehkcggbdeabImpK
import Derived.Test.YtojdehkcggbdeabSpecE
namespace Go.Proofs.Ytojdehkcggbdeab
open Go.RowKit
attribute [local go_sem ↓] Go.wp_at_zero Go.wp_at_succ

set_option maxRecDepth 100000 in
set_option maxHeartbeats 1000000 in
theorem progressKept_any (x : Hp) (b : Nat) (w : World) {ar : Option Addr} {kr : Nat} {ac : Option Addr} {kc : Nat} {ag : Option Addr} {kg : Nat} {an : Option Addr} {kn : Nat} (h : VAt w b x ar kr ac kc ag kg an kn) (r1 : R1 x) (r2 : R2 x) (r5 : R5 x) :
    Calls Try.prog 78 #[.pointer (some ⟨b, 0, none⟩)] w fun e w' => ∃ r : Bool, Hid (e = .returned (.bool r)) ∧ (r = true ↔ R6 x) ∧ Ext w w' := by
  have c5 := h.H.c5
  have c6 := h.H.c6
  have c7 := h.H.c7
  obtain ⟨ph0, ph1⟩ := r1.phase
  obtain ⟨hh0, hh1⟩ := r1.hand
  have hs0 := r1.sub.1
  have hphase : x.phase = 0 ∨ x.phase = 1 ∨ x.phase = 2 ∨ x.phase = 3 ∨ x.phase = 4 ∨ x.phase = 5 ∨ x.phase = 6 := by omega
  clear ph0 ph1
  rcases hphase with hp | hp | hp | hp | hp | hp | hp
  · have Y := hide (R6_04 (x := x) (Or.inl hp))
    clear r1 r2 r5 h
    cases q : (x.hand == 0)
    all_goals
      go_enter Try.func78, Try.ntmps78
      go_wp2_with fail
      go_ret
      exact ⟨_, rfl, by have := unhide Y; rw [q] at this; simpa using this, Ext.refl _⟩
  · have Y := hide (R6_1 (x := x) (Or.inl hp))
    clear r1 r2 r5 h
    go_enter Try.func78, Try.ntmps78
    go_wp2_with fail
    go_ret
    exact ⟨_, rfl, unhide Y, Ext.refl _⟩
  · cases q : (x.hand == 0)
    · have Y := hide (show ¬ R6 x from fun r => by have := (r.2.1 hp).1; simp at q; omega)
      clear r1 r2 r5 h
      go_enter Try.func78, Try.ntmps78
      go_wp2_with fail
      go_quiet (fail)
      go_wp2_with fail
      go_ret
      exact ⟨false, rfl, ⟨fun f => by simp at f, fun r => (unhide Y r).elim⟩, (Ext.refl _).drewN _⟩
    · by_cases hg : x.gray.length = 0
      · have Y := hide (show decide (x.sub ≤ 0) = true ↔ R6 x by
          have q2 : x.hand = 0 := by simpa using q
          unfold R6; simp [hp, hg, q2]; omega)
        have c8 := h.H.c8
        rw [hg] at c8
        have HG := hide (fun n => grayPairs_none b (w.drewN n) (((Ext.refl w).drewN n).keep c8))
        clear r1 r2 r5 h hg c8
        go_enter Try.func78, Try.ntmps78
        go_wp2_with fail
        go_quiet ((go_at_call 103; exact Calls.quiet_of_same (unhide HG _)))
        go_wp2_with fail
        go_ret
        exact ⟨_, rfl, unhide Y, (Ext.refl _).drewN _⟩
      · have hg0 : 0 < x.gray.length := by omega
        have hgr := r5.2.2 x.gray[0] (List.getElem_mem hg0)
        obtain ⟨i, hi⟩ := Int.eq_ofNat_of_zero_le hgr.1
        have eg : x.g0 = i := by simp [Hp.g0, hg0, hi]
        have Y := hide (show decide (x.sub ≤ ((x.c i).prs.length : Int)) = true ↔ R6 x by
          have q2 : x.hand = 0 := by simpa using q
          have hg2 : x.gray ≠ [] := fun e => by simp [e] at hg
          unfold R6; rw [eg]; simp [hp, hg2, q2])
        obtain ⟨b', o, ap, kp, ea, C⟩ := h.H.cell i (by omega)
        have HG := hide (fun n => grayPairs_some x b i (w.drewN n) (h.ext ((Ext.refl w).drewN n)) hg0 hi (by omega) b' o ap kp ea (C.ext ((Ext.refl w).drewN n)))
        clear r1 r2 r5 h C hgr hi eg hg hg0 ea
        go_enter Try.func78, Try.ntmps78
        go_wp2_with fail
        go_quiet ((go_at_call 103; exact Calls.quiet_of (unhide HG _)))
        go_wp2_with fail
        go_ret
        exact ⟨_, rfl, unhide Y, (Ext.refl _).drewN _⟩
  · have Y := hide (R6_1 (x := x) (Or.inr (Or.inl hp)))
    clear r1 r2 r5 h
    go_enter Try.func78, Try.ntmps78
    go_wp2_with fail
    go_ret
    exact ⟨_, rfl, unhide Y, Ext.refl _⟩
  · have Y := hide (R6_04 (x := x) (Or.inr hp))
    clear r1 r2 r5 h
    cases q : (x.hand == 0)
    all_goals
      go_enter Try.func78, Try.ntmps78
      go_wp2_with fail
      go_ret
      exact ⟨_, rfl, by have := unhide Y; rw [q] at this; simpa using this, Ext.refl _⟩
  · obtain ⟨i, hi⟩ := Int.eq_ofNat_of_zero_le hh0
    by_cases hil : i < x.cells.length
    · have Y := hide (show decide (x.sub ≤ ((x.c i).prs.length : Int)) = true ↔ R6 x by
        have q4 : ¬ (i : Int) = (x.cells.length : Int) := by omega
        by_cases q3 : (x.c i).st = 1
        · unfold R6; simp [hp, hi, q3, q4]
        · have q5 : (x.c i).prs.length = 0 := by
            rcases r2.1 i hil with c | c | c
            · exact c.2.1.2.2.2.2.2
            · exact c.2.1.2.2.2.2.2
            · exact absurd c.1 q3
          unfold R6; simp [hp, hi, q3, q5]; omega)
      obtain ⟨b', o, ap, kp, ea, C⟩ := h.H.cell i hil
      have HG := hide (fun n => handPairs_some x b i (w.drewN n) (h.ext ((Ext.refl w).drewN n)) hi hil b' o ap kp ea (C.ext ((Ext.refl w).drewN n)))
      clear r1 r2 r5 h C ea hi hh0 hh1
      go_enter Try.func78, Try.ntmps78
      go_wp2_with fail
      go_quiet ((go_at_call 104; exact Calls.quiet_of (unhide HG _)))
      go_wp2_with fail
      go_ret
      exact ⟨_, rfl, unhide Y, (Ext.refl _).drewN _⟩
    · have he : x.hand = x.cells.length := by omega
      have Y := hide (show decide (x.sub ≤ 0) = true ↔ R6 x by
        unfold R6; simp [hp, he]; omega)
      have d6 := c6
      rw [he] at d6
      have HG := hide (fun n => handPairs_none x b (w.drewN n) (((Ext.refl w).drewN n).keep d6) (((Ext.refl w).drewN n).keep h.n13))
      clear r1 r2 r5 h hi hh0 hh1 he d6 hil
      go_enter Try.func78, Try.ntmps78
      go_wp2_with fail
      go_quiet ((go_at_call 104; exact Calls.quiet_of (unhide HG _)))
      go_wp2_with fail
      go_ret
      exact ⟨_, rfl, unhide Y, (Ext.refl _).drewN _⟩
  · have Y := hide (R6_1 (x := x) (Or.inr (Or.inr hp)))
    clear r1 r2 r5 h
    go_enter Try.func78, Try.ntmps78
    go_wp2_with fail
    go_ret
    exact ⟨_, rfl, unhide Y, Ext.refl _⟩
end Go.Proofs.Ytojdehkcggbdeab
