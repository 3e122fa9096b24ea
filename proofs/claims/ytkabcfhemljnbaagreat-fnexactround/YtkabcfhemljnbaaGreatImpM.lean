import Derived.Test.YtkabcfhemljnbaaGreatImpC
import Derived.Test.YtkabcfhemljnbaaGreatImpK
namespace Go.Proofs.YtkabcfhemljnbaaGreat
open Go.RowKit
attribute [local go_sem ↓] Go.wp_at_zero Go.wp_at_succ

theorem R6_04 {x : Hp} (h : x.phase = 0 ∨ x.phase = 4) : (((x.hand == 0) && (x.sub == 0)) = true ↔ R6 x) := by
  unfold R6
  rcases h with h | h <;> simp [h]
theorem R6_1 {x : Hp} (h : x.phase = 1 ∨ x.phase = 3 ∨ x.phase = 6) : ((x.sub == 0) = true ↔ R6 x) := by
  unfold R6
  rcases h with h | h | h <;> simp [h]

set_option maxRecDepth 100000 in
set_option maxHeartbeats 1000000 in
theorem l1hands_any (x : Hp) (b : Nat) (w : World) {ar : Option Addr} {kr : Nat} {ac : Option Addr} {kc : Nat} {ag : Option Addr} {kg : Nat} (h : HAt w b x ar kr ac kc ag kg) (r1 : R1 x) (r5 : R5 x) :
    Calls Tryz.prog 92 #[.pointer (some ⟨b, 0, none⟩)] w fun e w' => ∃ r : Bool, e = .returned (.bool r) ∧ (r = true ↔ R6 x) ∧ Ext w w' := by
  have c4 := h.c4
  have c5 := h.c5
  have c6 := h.c6
  have c7 := h.c7
  have c8 := h.c8
  have lc := h.lc
  have lg := h.lg
  obtain ⟨ph0, ph1⟩ := r1.phase
  obtain ⟨hh0, hh1⟩ := r1.hand
  have hphase : x.phase = 0 ∨ x.phase = 1 ∨ x.phase = 2 ∨ x.phase = 3 ∨ x.phase = 4 ∨ x.phase = 5 ∨ x.phase = 6 := by omega
  clear ph0 ph1
  rcases hphase with hp | hp | hp | hp | hp | hp | hp
  · have Y := hide (R6_04 (x := x) (Or.inl hp))
    clear r1 r5 h
    cases q : (x.hand == 0)
    all_goals
      go_enter Tryz.func92, Tryz.ntmps92
      go_wp2_with fail
      go_ret
      exact ⟨_, rfl, by have := unhide Y; rw [q] at this; simpa using this, Ext.refl _⟩
  · have Y := hide (R6_1 (x := x) (Or.inl hp))
    clear r1 r5 h
    go_enter Tryz.func92, Tryz.ntmps92
    go_wp2_with fail
    go_ret
    exact ⟨_, rfl, unhide Y, Ext.refl _⟩
  · cases q : (x.hand == 0)
    · have Y := hide (show ¬ R6 x from fun r => by have := (r.2.1 hp).1; simp at q; omega)
      have q' : (x.hand != 0) = true := by simpa using q
      clear r1 r5 h
      go_enter Tryz.func92, Tryz.ntmps92
      go_wp2_with fail
      go_ret
      exact ⟨false, rfl, ⟨fun f => by simp at f, fun r => (unhide Y r).elim⟩, Ext.refl _⟩
    · have q' : (x.hand != 0) = false := by simpa using q
      by_cases hg : x.gray.length = 0
      · have Y := hide (show (x.sub == 0) = true ↔ R6 x by
          have q2 : x.hand = 0 := by simpa using q
          unfold R6; simp [hp, hg, q2])
        clear r1 r5 h
        go_enter Tryz.func92, Tryz.ntmps92
        go_wp2_with fail
        go_ret
        exact ⟨_, rfl, unhide Y, Ext.refl _⟩
      · have hg0 : 0 < x.gray.length := by omega
        have hgr := r5.2.2 x.gray[0] (List.getElem_mem hg0)
        obtain ⟨i, hi⟩ := Int.eq_ofNat_of_zero_le hgr.1
        have eg : x.g0 = i := by simp [Hp.g0, hg0, hi]
        have Y := hide (show decide (x.sub ≤ ((x.c i).prs.length : Int)) = true ↔ R6 x by
          have q2 : x.hand = 0 := by simpa using q
          have hg2 : x.gray ≠ [] := fun e => by simp [e] at hg
          unfold R6; rw [eg]; simp [hp, hg2, q2])
        obtain ⟨bg, og, rfl, pg⟩ := h.G 0 hg0
        unfold InAt at pg
        rw [hi] at pg
        simp only [Nat.zero_mul, Nat.add_zero] at pg
        obtain ⟨b', o, ap, kp, rfl, p0, p1, p2, p3, p4, p5, p6, p7, lp, P⟩ := h.cell i (by omega)
        have hg3 : ((x.gray.length : Int) == 0) = false := beq_eq_false_iff_ne.2 (by omega)
        have hg4 : (0 : Int) < (x.gray.length : Int) := by omega
        have hi0 : (0 : Int) ≤ (i : Int) := by omega
        have hi1 : (i : Int) < (x.cells.length : Int) := by omega
        clear r1 r5 h P hgr hi eg hg
        go_enter Tryz.func92, Tryz.ntmps92
        go_wp2_with fail
        go_quiet (fail)
        go_wp2_with fail
        go_ret
        exact ⟨_, rfl, unhide Y, (Ext.refl _).drewN _⟩
  · have Y := hide (R6_1 (x := x) (Or.inr (Or.inl hp)))
    clear r1 r5 h
    go_enter Tryz.func92, Tryz.ntmps92
    go_wp2_with fail
    go_ret
    exact ⟨_, rfl, unhide Y, Ext.refl _⟩
  · have Y := hide (R6_04 (x := x) (Or.inr hp))
    clear r1 r5 h
    cases q : (x.hand == 0)
    all_goals
      go_enter Tryz.func92, Tryz.ntmps92
      go_wp2_with fail
      go_ret
      exact ⟨_, rfl, by have := unhide Y; rw [q] at this; simpa using this, Ext.refl _⟩
  · obtain ⟨i, hi⟩ := Int.eq_ofNat_of_zero_le hh0
    cases q : (x.hand == (x.cells.length : Int))
    · have hi2 : i < x.cells.length := by simp at q; omega
      have q2 : ((i : Int) == (x.cells.length : Int)) = false := by simp; omega
      have hu := l1used_any x b i w h (by omega) (by omega)
      have HU := hide (fun n => l1used_any x b i (w.drewN n) (h.ext ((Ext.refl w).drewN n)) (by omega) (by omega))
      rw [Int.toNat_natCast] at HU
      obtain ⟨b', o, ap, kp, rfl, p0, p1, p2, p3, p4, p5, p6, p7, lp, P⟩ := h.cell i hi2
      rw [hi] at c6
      have hi0 : (0 : Int) ≤ (i : Int) := by omega
      have hi1 : (i : Int) < (x.cells.length : Int) := by omega
      cases qu : usedB x i
      · have Y := hide (show (x.sub == 0) = true ↔ R6 x by
          have q3 : ¬ (x.c i).st = 1 := by simpa [usedB] using qu
          unfold R6; simp [hp, hi, q3])
        clear r1 r5 h P hu q hh0 hh1 hi
        go_enter Tryz.func92, Tryz.ntmps92
        go_wp2_with fail
        go_quiet ((go_at_call 134; exact Calls.quiet_of_same (unhide HU _)))
        go_wp2_with fail
        go_ret
        exact ⟨_, rfl, unhide Y, (Ext.refl _).drewN _⟩
      · have Y := hide (show decide (x.sub ≤ ((x.c i).prs.length : Int)) = true ↔ R6 x by
          have q3 : (x.c i).st = 1 := by simpa [usedB] using qu
          have q4 : ¬ (i : Int) = (x.cells.length : Int) := by omega
          unfold R6; simp [hp, hi, q3, q4])
        clear r1 r5 h P hu q hh0 hh1 hi
        go_enter Tryz.func92, Tryz.ntmps92
        go_wp2_with fail
        go_quiet ((go_at_call 134; exact Calls.quiet_of_same (unhide HU _)))
        go_wp2_with fail
        go_quiet (fail)
        go_wp2_with fail
        go_ret
        exact ⟨_, rfl, unhide Y, ((Ext.refl _).drewN _).drewN _⟩
    · have Y := hide (show (x.sub == 0) = true ↔ R6 x by
          have q3 : x.hand = x.cells.length := by simpa using q
          unfold R6; simp [hp, q3])
      have q4 : x.hand = x.cells.length := by simpa using q
      rw [q4] at c6
      have q5 : ((x.cells.length : Int) == (x.cells.length : Int)) = true := by simp
      clear r1 r5 h q q4 hh0 hh1 hi
      go_enter Tryz.func92, Tryz.ntmps92
      go_wp2_with fail
      go_quiet (fail)
      go_wp2_with fail
      go_ret
      exact ⟨_, rfl, unhide Y, (Ext.refl _).drewN _⟩
  · have Y := hide (R6_1 (x := x) (Or.inr (Or.inr hp)))
    clear r1 r5 h
    go_enter Tryz.func92, Tryz.ntmps92
    go_wp2_with fail
    go_ret
    exact ⟨_, rfl, unhide Y, Ext.refl _⟩
end Go.Proofs.YtkabcfhemljnbaaGreat

namespace Go.Proofs.YtkabcfhemljnbaaGreat
open Go.RowKit
attribute [local go_sem ↓] Go.wp_at_zero Go.wp_at_succ

set_option maxRecDepth 100000 in
set_option maxHeartbeats 1000000 in
theorem progressKept_any (x : Hp) (b : Nat) (w : World) {ar : Option Addr} {kr : Nat} {ac : Option Addr} {kc : Nat} {ag : Option Addr} {kg : Nat} {an : Option Addr} {kn : Nat} (h : VAt w b x ar kr ac kc ag kg an kn) (r1 : R1 x) (r2 : R2 x) (r5 : R5 x) :
    Calls Tryz.prog 148 #[.pointer (some ⟨b, 0, none⟩)] w fun e w' => ∃ r : Bool, Hid (e = .returned (.bool r)) ∧ (r = true ↔ R6 x) ∧ Ext w w' := by
  have c5 := h.H.c5
  have c6 := h.H.c6
  have c7 := h.H.c7
  obtain ⟨ph0, ph1⟩ := r1.phase
  obtain ⟨hh0, hh1⟩ := r1.hand
  have hs0 := r1.sub.1
  have hphase : x.phase = 0 ∨ x.phase = 1 ∨ x.phase = 2 ∨ x.phase = 3 ∨ x.phase = 4 ∨ x.phase = 5 ∨ x.phase = 6 := by omega
  clear ph0 ph1
  rcases hphase with hp | hp | hp | hp | hp | hp | hp
  · have Y := hide (R6_04 (x := x) (Or.inl hp))
    clear r1 r2 r5 h
    cases q : (x.hand == 0)
    all_goals
      go_enter Tryz.func148, Tryz.ntmps148
      go_wp2_with fail
      go_ret
      exact ⟨_, rfl, by have := unhide Y; rw [q] at this; simpa using this, Ext.refl _⟩
  · have Y := hide (R6_1 (x := x) (Or.inl hp))
    clear r1 r2 r5 h
    go_enter Tryz.func148, Tryz.ntmps148
    go_wp2_with fail
    go_ret
    exact ⟨_, rfl, unhide Y, Ext.refl _⟩
  · cases q : (x.hand == 0)
    · have Y := hide (show ¬ R6 x from fun r => by have := (r.2.1 hp).1; simp at q; omega)
      clear r1 r2 r5 h
      go_enter Tryz.func148, Tryz.ntmps148
      go_wp2_with fail
      go_quiet (fail)
      go_wp2_with fail
      go_ret
      exact ⟨false, rfl, ⟨fun f => by simp at f, fun r => (unhide Y r).elim⟩, (Ext.refl _).drewN _⟩
    · by_cases hg : x.gray.length = 0
      · have Y := hide (show decide (x.sub ≤ 0) = true ↔ R6 x by
          have q2 : x.hand = 0 := by simpa using q
          unfold R6; simp [hp, hg, q2]; omega)
        have c8 := h.H.c8
        rw [hg] at c8
        have HG := hide (fun n => grayPairs_none b (w.drewN n) (((Ext.refl w).drewN n).keep c8))
        clear r1 r2 r5 h hg c8
        go_enter Tryz.func148, Tryz.ntmps148
        go_wp2_with fail
        go_quiet ((go_at_call 184; exact Calls.quiet_of_same (unhide HG _)))
        go_wp2_with fail
        go_ret
        exact ⟨_, rfl, unhide Y, (Ext.refl _).drewN _⟩
      · have hg0 : 0 < x.gray.length := by omega
        have hgr := r5.2.2 x.gray[0] (List.getElem_mem hg0)
        obtain ⟨i, hi⟩ := Int.eq_ofNat_of_zero_le hgr.1
        have eg : x.g0 = i := by simp [Hp.g0, hg0, hi]
        have Y := hide (show decide (x.sub ≤ ((x.c i).prs.length : Int)) = true ↔ R6 x by
          have q2 : x.hand = 0 := by simpa using q
          have hg2 : x.gray ≠ [] := fun e => by simp [e] at hg
          unfold R6; rw [eg]; simp [hp, hg2, q2])
        obtain ⟨b', o, ap, kp, ea, C⟩ := h.H.cell i (by omega)
        have HG := hide (fun n => grayPairs_some x b i (w.drewN n) (h.ext ((Ext.refl w).drewN n)) hg0 hi (by omega) b' o ap kp ea (C.ext ((Ext.refl w).drewN n)))
        clear r1 r2 r5 h C hgr hi eg hg hg0 ea
        go_enter Tryz.func148, Tryz.ntmps148
        go_wp2_with fail
        go_quiet ((go_at_call 184; exact Calls.quiet_of (unhide HG _)))
        go_wp2_with fail
        go_ret
        exact ⟨_, rfl, unhide Y, (Ext.refl _).drewN _⟩
  · have Y := hide (R6_1 (x := x) (Or.inr (Or.inl hp)))
    clear r1 r2 r5 h
    go_enter Tryz.func148, Tryz.ntmps148
    go_wp2_with fail
    go_ret
    exact ⟨_, rfl, unhide Y, Ext.refl _⟩
  · have Y := hide (R6_04 (x := x) (Or.inr hp))
    clear r1 r2 r5 h
    cases q : (x.hand == 0)
    all_goals
      go_enter Tryz.func148, Tryz.ntmps148
      go_wp2_with fail
      go_ret
      exact ⟨_, rfl, by have := unhide Y; rw [q] at this; simpa using this, Ext.refl _⟩
  · obtain ⟨i, hi⟩ := Int.eq_ofNat_of_zero_le hh0
    by_cases hil : i < x.cells.length
    · have Y := hide (show decide (x.sub ≤ ((x.c i).prs.length : Int)) = true ↔ R6 x by
        have q4 : ¬ (i : Int) = (x.cells.length : Int) := by omega
        by_cases q3 : (x.c i).st = 1
        · unfold R6; simp [hp, hi, q3, q4]
        · have q5 : (x.c i).prs.length = 0 := by
            rcases r2.1 i hil with c | c | c
            · exact c.2.1.2.2.2.2.2
            · exact c.2.1.2.2.2.2.2
            · exact absurd c.1 q3
          unfold R6; simp [hp, hi, q3, q5]; omega)
      obtain ⟨b', o, ap, kp, ea, C⟩ := h.H.cell i hil
      have HG := hide (fun n => handPairs_some x b i (w.drewN n) (h.ext ((Ext.refl w).drewN n)) hi hil b' o ap kp ea (C.ext ((Ext.refl w).drewN n)))
      clear r1 r2 r5 h C ea hi hh0 hh1
      go_enter Tryz.func148, Tryz.ntmps148
      go_wp2_with fail
      go_quiet ((go_at_call 185; exact Calls.quiet_of (unhide HG _)))
      go_wp2_with fail
      go_ret
      exact ⟨_, rfl, unhide Y, (Ext.refl _).drewN _⟩
    · have he : x.hand = x.cells.length := by omega
      have Y := hide (show decide (x.sub ≤ 0) = true ↔ R6 x by
        unfold R6; simp [hp, he]; omega)
      have d6 := c6
      rw [he] at d6
      have HG := hide (fun n => handPairs_none x b (w.drewN n) (((Ext.refl w).drewN n).keep d6) (((Ext.refl w).drewN n).keep h.n13))
      clear r1 r2 r5 h hi hh0 hh1 he d6 hil
      go_enter Tryz.func148, Tryz.ntmps148
      go_wp2_with fail
      go_quiet ((go_at_call 185; exact Calls.quiet_of (unhide HG _)))
      go_wp2_with fail
      go_ret
      exact ⟨_, rfl, unhide Y, (Ext.refl _).drewN _⟩
  · have Y := hide (R6_1 (x := x) (Or.inr (Or.inr hp)))
    clear r1 r2 r5 h
    go_enter Tryz.func148, Tryz.ntmps148
    go_wp2_with fail
    go_ret
    exact ⟨_, rfl, unhide Y, Ext.refl _⟩
end Go.Proofs.YtkabcfhemljnbaaGreat

namespace Go.Proofs.YtkabcfhemljnbaaGreat
open Go.RowKit
attribute [local go_sem ↓] Go.wp_at_zero Go.wp_at_succ

/-- holdsWhite as it answers in a heap whose words are formed -/
def hwB (x : Hp) (y : Wd) : Bool := (y.k == 2) && whiteN (x.c y.a.toNat)

theorem holdsWhite_yes (x : Hp) (y : Wd) (b i : Nat) (w : World) {ar : Option Addr} {kr : Nat} {ac : Option Addr} {kc : Nat} {ag : Option Addr} {kg : Nat} {an : Option Addr} {kn : Nat} (h : VAt w b x ar kr ac kc ag kg an kn) (k2 : (y.k == 2) = true) (hi : i < x.cells.length) :
    Calls Tryz.prog 197 #[.pointer (some ⟨b, 0, none⟩), .agg #[iv y.k, iv y.n, iv i]] w fun e w' => e = .returned (.bool (whiteN (x.c i))) ∧ Ext w w' := by
  obtain ⟨bn, on, bc, oc, rfl, rfl, m0, m1⟩ := h.N i hi
  obtain ⟨bc', oc', ap, kp, e2, C⟩ := h.H.cell i hi
  cases e2
  have n13 := h.n13
  have x1 := (Ext.refl w).alloc (.cells #[iv y.k, iv y.n, iv i] 90)
  go_enter Tryz.func197, Tryz.ntmps197
  go_wp2_with fail
  refine (find_some y b x.cells.length bn on kn i _ k2 (x1.keep n13) hi).mono ?_
  rintro e w1 ⟨rfl, hq⟩
  have x2 := x1.trans hq
  go_wp2_with fail
  refine (white_any (x.c i) bn (on + i * 2) bc (oc + i * 8) ap kp _ (x2.keep m1) (C.ext x2)).mono ?_
  rintro e w2 ⟨rfl, rfl⟩
  go_wp2_with fail
  go_ret
  exact ⟨rfl, x2⟩

theorem holdsWhite_any (x : Hp) (y : Wd) (b : Nat) (w : World) {ar : Option Addr} {kr : Nat} {ac : Option Addr} {kc : Nat} {ag : Option Addr} {kg : Nat} {an : Option Addr} {kn : Nat} (h : VAt w b x ar kr ac kc ag kg an kn) (hy : Formed y x.cells.length) :
    Calls Tryz.prog 197 #[.pointer (some ⟨b, 0, none⟩), y.v] w fun e w' => e = .returned (.bool (hwB x y)) ∧ Ext w w' := by
  cases k2 : (y.k == 2)
  · have : hwB x y = false := by simp [hwB, k2]
    rw [this]; exact holdsWhite_no y b w k2
  · have hr : 0 ≤ y.a ∧ y.a < x.cells.length := by simp at k2; unfold Formed at hy; omega
    have e : hwB x y = whiteN (x.c y.a.toNat) := by simp [hwB, k2]
    rw [e]
    have := holdsWhite_yes x y b y.a.toNat w h k2 (by omega)
    rwa [Int.toNat_of_nonneg hr.1] at this


set_option maxRecDepth 100000 in
set_option maxHeartbeats 1000000 in
theorem anyWhite_any (x : Hp) (b n cap : Nat) (ap : Option Addr) (f : Nat → Pr) (w : World) {ar : Option Addr} {kr : Nat} {ac : Option Addr} {kc : Nat} {ag : Option Addr} {kg : Nat} {an : Option Addr} {kn : Nat} (h : VAt w b x ar kr ac kc ag kg an kn)
    (lp : n ≤ 35184372088832) (P : ∀ k, k < n → ∃ b' o', ap = some ⟨b', o', none⟩ ∧ PrAt w b' (o' + k * 6) (f k)) (hF : ∀ k, k < n → Formed (f k).key x.cells.length ∧ Formed (f k).val x.cells.length) :
    Calls Tryz.prog 187 #[.pointer (some ⟨b, 0, none⟩), .slice ap n cap] w fun e w' => ∃ r : Bool, Hid (e = .returned (.bool r)) ∧ (r = true ↔ ∃ k, k < n ∧ (hwB x (f k).key = true ∨ hwB x (f k).val = true)) ∧ Ext w w' := by
  have HP := hide P
  have HF := hide hF
  clear P hF
  go_enter Tryz.func187, Tryz.ntmps187
  go_wp2_with fail
  go_loopw [9] (fun i wr => ∃ l : Nat, l ≤ n ∧ i = .int .i64 l ∧ (∀ j, j < l → ¬ (hwB x (f j).key = true ∨ hwB x (f j).val = true)) ∧ Ext w wr) (fun i _ => n - (intOf i).toNat)
  case atStart => exact ⟨0, Nat.zero_le _, rfl, fun j h => by omega, Ext.refl _⟩
  case round =>
    obtain ⟨l, hl, rfl, hall, hbl⟩ := hrel
    have HB := hide hall
    clear hall
    by_cases hl2 : l < n
    · obtain ⟨b2, o2, rfl, q0, q1, q2, q3, q4, q5⟩ := unhide HP l hl2
      have HFl := hide (unhide HF l hl2)
      have e0 := hbl.keep q0
      have e1 := hbl.keep q1
      have e2 := hbl.keep q2
      have e3 := hbl.keep q3
      have e4 := hbl.keep q4
      have e5 := hbl.keep q5
      have hb2 : b2 < wr.heap.size := cell_lt e0
      clear q0 q1 q2 q3 q4 q5
      have hl0 : (0:Int) ≤ (l:Int) := by omega
      have hl1 : (l:Int) < (n:Int) := by omega
      have hx3 := hbl.alloc (.cells #[.int .i64 (f l).key.k, .int .i64 (f l).key.n, .int .i64 (f l).key.a, .int .i64 (f l).val.k, .int .i64 (f l).val.n, .int .i64 (f l).val.a] 123)
      go_wp2_with fail
      refine (holdsWhite_any x (f l).key b _ (h.ext hx3) (unhide HFl).1).mono ?_
      rintro e w2 ⟨rfl, hq2⟩
      have x2 := hx3.trans hq2
      have u := fun (o : Nat) (v : Value) (hc : (wr.alloc (.cells #[.int .i64 (f l).key.k, .int .i64 (f l).key.n, .int .i64 (f l).key.a, .int .i64 (f l).val.k, .int .i64 (f l).val.n, .int .i64 (f l).val.a] 123)).cell? ⟨wr.heap.size, o, none⟩ = some v) => hq2.keep hc
      have u3 := u 3 _ (by simp [go_sem]; rfl)
      have u4 := u 4 _ (by simp [go_sem]; rfl)
      have u5 := u 5 _ (by simp [go_sem]; rfl)
      clear u e0 e1 e2 e3 e4 e5
      cases tk : hwB x (f l).key
      · go_wp2_with fail
        refine (holdsWhite_any x (f l).val b _ (h.ext x2) (unhide HFl).2).mono ?_
        rintro e w3 ⟨rfl, hq3⟩
        have x3 := x2.trans hq3
        cases tv : hwB x (f l).val
        · have S := hide (show ∀ j, j < l + 1 → ¬ (hwB x (f j).key = true ∨ hwB x (f j).val = true) from fun j hj => by
            by_cases e : j = l
            · subst e; simp [tk, tv]
            · exact unhide HB j (by omega))
          go_wp2_with fail
          go_roundw
          case rel => exact ⟨l + 1, by omega, by go_num, unhide S, x3⟩
          case measure => simp [intOf]; omega
        · have Y := hide (show ∃ k, k < n ∧ (hwB x (f k).key = true ∨ hwB x (f k).val = true) from ⟨l, hl2, .inr tv⟩)
          go_wp2_with fail
          go_ret
          exact ⟨true, rfl, ⟨fun _ => unhide Y, fun _ => rfl⟩, x3⟩
      · have Y := hide (show ∃ k, k < n ∧ (hwB x (f k).key = true ∨ hwB x (f k).val = true) from ⟨l, hl2, .inl tk⟩)
        go_wp2_with fail
        go_ret
        exact ⟨true, rfl, ⟨fun _ => unhide Y, fun _ => rfl⟩, x2⟩
    · have N := hide (show ¬ ∃ k, k < n ∧ (hwB x (f k).key = true ∨ hwB x (f k).val = true) from fun ⟨k, hk, hh⟩ => unhide HB k (by omega) hh)
      go_wp2_with fail
      go_ret
      exact ⟨false, rfl, ⟨fun f => by simp at f, fun r => (unhide N r).elim⟩, hbl⟩
end Go.Proofs.YtkabcfhemljnbaaGreat
