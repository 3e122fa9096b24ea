import Derived.Test.YtbcmjcomdjdjaaaGreatRule
import Derived.Deep.QuietTactic
import Derived.BigQuiet
namespace Go.Proofs.YtbcmjcomdjdjaaaGreat
open Go.RowKit
attribute [local go_sem ↓] Go.wp_at_zero Go.wp_at_succ

/-! The small questions of the model's first chapter. -/
def usedB (x : Hp) (i : Nat) : Bool := (x.c i).st == 1
def formedB (w : Wd) (n : Nat) : Bool := if w.k = 0 then w.n == 0 && w.a == 0 else if w.k = 1 then w.a == 0 else if w.k = 2 then w.n == 0 && decide (0 ≤ w.a) && decide (w.a < n) else false
def doomedB (x : Hp) (i : Nat) : Bool := (x.phase == 3) && decide (x.hand ≤ i) && ((x.c i).st == 1) && ((x.c i).color == 0)
def mendedB (x : Hp) (i k : Nat) : Bool := if x.phase = 4 then false else if x.phase = 5 then decide ((i : Int) < x.hand) || ((i : Int) == x.hand && decide ((k : Int) < x.sub)) else true
theorem usedB_iff {x : Hp} {i : Nat} : usedB x i = true ↔ (x.c i).st = 1 := by simp [usedB]
theorem doomedB_iff {x : Hp} {i : Nat} : doomedB x i = true ↔ Doomed x i := by simp [doomedB, Doomed, and_assoc]
theorem formedB_iff {w : Wd} {n : Nat} : formedB w n = true ↔ Formed w n := by
  unfold formedB Formed
  by_cases h0 : w.k = 0
  · simp [h0]
  · by_cases h1 : w.k = 1
    · simp [h1]
    · by_cases h2 : w.k = 2
      · simp [h2, and_assoc]
      · simp [h0, h1, h2]
theorem mendedB_iff {x : Hp} {i k : Nat} : mendedB x i k = true ↔ Mended x i k := by
  unfold mendedB Mended
  by_cases h4 : x.phase = 4
  · simp [h4]
  · by_cases h5 : x.phase = 5
    · simp [h5]
    · simp [h4, h5]

theorem l1used_any (x : Hp) (b : Nat) (a : Int) (w : World) {ar : Option Addr} {kr : Nat} {ac : Option Addr} {kc : Nat} {ag : Option Addr} {kg : Nat} (h : HAt w b x ar kr ac kc ag kg) (h0 : 0 ≤ a) (h1 : a < x.cells.length) :
    Calls Tryz.prog 85 #[.pointer (some ⟨b, 0, none⟩), .int .i64 a] w fun e w' => e = .returned (.bool (usedB x a.toNat)) ∧ w' = w := by
  obtain ⟨i, rfl⟩ := Int.eq_ofNat_of_zero_le h0
  rw [Int.toNat_natCast]
  obtain ⟨b', o, rfl, vp, p0, _⟩ := h.C i (by omega)
  have c4 := h.c4
  have lc := h.lc
  clear h
  go_enter Tryz.func85, Tryz.ntmps85
  go_wp2
  go_ret
  exact ⟨rfl, rfl⟩

theorem l1formed_any (x : Wd) (n : Nat) (w : World) : Calls Tryz.prog 89 #[x.v, .int .i64 n] w fun e w' => e = .returned (.bool (formedB x n)) ∧ Ext w w' := by
  by_cases h0 : x.k = 0
  · have e : formedB x n = (x.n == 0 && x.a == 0) := by simp [formedB, h0]
    have E := hide e
    clear e
    cases q : (x.n == 0)
    all_goals
      go_enter Tryz.func89, Tryz.ntmps89
      go_wp2
      go_ret
      exact ⟨by rw [unhide E]; simp [q], (Ext.refl w).alloc _⟩
  · have k0 : (x.k == 0) = false := by simp [h0]
    by_cases h1 : x.k = 1
    · have e : formedB x n = (x.a == 0) := by simp [formedB, h1]
      have E := hide e
      clear e h0 k0
      go_enter Tryz.func89, Tryz.ntmps89
      go_wp2
      go_ret
      exact ⟨by rw [unhide E]; simp, (Ext.refl w).alloc _⟩
    · have k1 : (x.k == 1) = false := by simp [h1]
      by_cases h2 : x.k = 2
      · have e : formedB x n = (x.n == 0 && decide (0 ≤ x.a) && decide (x.a < n)) := by simp [formedB, h2]
        have E := hide e
        clear e h0 k0 h1 k1
        cases q : (x.n == 0)
        · go_enter Tryz.func89, Tryz.ntmps89
          go_wp2
          go_ret
          exact ⟨by rw [unhide E]; simp [q], (Ext.refl w).alloc _⟩
        · by_cases q2 : 0 ≤ x.a
          · go_enter Tryz.func89, Tryz.ntmps89
            go_wp2
            go_ret
            exact ⟨by rw [unhide E]; simp [q, q2], (Ext.refl w).alloc _⟩
          · have q3 : decide (0 ≤ x.a) = false := by simp; omega
            go_enter Tryz.func89, Tryz.ntmps89
            go_wp2
            go_ret
            exact ⟨by rw [unhide E, q3]; simp, (Ext.refl w).alloc _⟩
      · have k2 : (x.k == 2) = false := by simp [h2]
        have e : formedB x n = false := by simp [formedB, h0, h1, h2]
        have E := hide e
        clear e
        go_enter Tryz.func89, Tryz.ntmps89
        go_wp2
        go_ret
        exact ⟨by rw [unhide E]; rfl, (Ext.refl w).alloc _⟩

set_option maxHeartbeats 600000 in
theorem l1doomed_any (x : Hp) (b : Nat) (a : Int) (w : World) {ar : Option Addr} {kr : Nat} {ac : Option Addr} {kc : Nat} {ag : Option Addr} {kg : Nat} (h : HAt w b x ar kr ac kc ag kg) (h0 : 0 ≤ a) (h1 : a < x.cells.length) :
    Calls Tryz.prog 88 #[.pointer (some ⟨b, 0, none⟩), .int .i64 a] w fun e w' => e = .returned (.bool (doomedB x a.toNat)) ∧ w' = w := by
  obtain ⟨i, rfl⟩ := Int.eq_ofNat_of_zero_le h0
  rw [Int.toNat_natCast]
  have hu := l1used_any x b i w h h0 h1
  rw [Int.toNat_natCast] at hu
  have HU := hide hu
  clear hu
  obtain ⟨b', o, rfl, vp, p0, p1, p2, p3, p4, p5, _⟩ := h.C i (by omega)
  have c4 := h.c4
  have c5 := h.c5
  have c6 := h.c6
  have lc := h.lc
  clear h
  cases q1 : (x.phase == 3)
  · go_enter Tryz.func88, Tryz.ntmps88
    go_wp2
    go_ret
    exact ⟨by simp [doomedB, q1], rfl⟩
  · cases q2 : decide (x.hand ≤ (i : Int))
    · go_enter Tryz.func88, Tryz.ntmps88
      go_wp2
      go_ret
      exact ⟨by simp [doomedB, q1, q2], rfl⟩
    · cases q3 : usedB x i
      · go_enter Tryz.func88, Tryz.ntmps88
        go_wp2_with (go_at_call 85; refine (unhide HU).mono ?_; rintro e w' ⟨rfl, rfl⟩)
        go_ret
        exact ⟨by unfold usedB at q3; simp [doomedB, q3], rfl⟩
      · go_enter Tryz.func88, Tryz.ntmps88
        go_wp2_with (go_at_call 85; refine (unhide HU).mono ?_; rintro e w' ⟨rfl, rfl⟩)
        go_ret
        exact ⟨by unfold usedB at q3; simp [doomedB, q1, q2, q3], rfl⟩

theorem l1mended_any (x : Hp) (b i k : Nat) (w : World) {ar : Option Addr} {kr : Nat} {ac : Option Addr} {kc : Nat} {ag : Option Addr} {kg : Nat} (h : HAt w b x ar kr ac kc ag kg) :
    Calls Tryz.prog 90 #[.pointer (some ⟨b, 0, none⟩), .int .i64 i, .int .i64 k] w fun e w' => e = .returned (.bool (mendedB x i k)) ∧ w' = w := by
  have c5 := h.c5
  have c6 := h.c6
  have c7 := h.c7
  clear h
  by_cases h4 : x.phase = 4
  · have E := hide (show mendedB x i k = false by simp [mendedB, h4])
    go_enter Tryz.func90, Tryz.ntmps90
    go_wp2
    go_ret
    exact ⟨by rw [unhide E]; rfl, rfl⟩
  · have k4 : (x.phase == 4) = false := by simp [h4]
    by_cases h5 : x.phase = 5
    · have E := hide (show mendedB x i k = (decide ((i : Int) < x.hand) || ((i : Int) == x.hand && decide ((k : Int) < x.sub))) by simp [mendedB, h5])
      clear h4 k4
      cases q1 : decide ((i : Int) < x.hand)
      · cases q2 : ((i : Int) == x.hand)
        · go_enter Tryz.func90, Tryz.ntmps90
          go_wp2
          go_ret
          exact ⟨by rw [unhide E, q1, q2]; simp, rfl⟩
        · go_enter Tryz.func90, Tryz.ntmps90
          go_wp2
          go_ret
          exact ⟨by rw [unhide E, q1, q2]; simp, rfl⟩
      · go_enter Tryz.func90, Tryz.ntmps90
        go_wp2
        go_ret
        exact ⟨by rw [unhide E, q1]; simp, rfl⟩
    · have k5 : (x.phase == 5) = false := by simp [h5]
      have E := hide (show mendedB x i k = true by simp [mendedB, h4, h5])
      go_enter Tryz.func90, Tryz.ntmps90
      go_wp2
      go_ret
      exact ⟨by rw [unhide E]; rfl, rfl⟩
end Go.Proofs.YtbcmjcomdjdjaaaGreat
