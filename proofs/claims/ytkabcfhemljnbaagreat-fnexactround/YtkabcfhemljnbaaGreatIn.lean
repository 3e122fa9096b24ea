import Derived.Test.YtkabcfhemljnbaaGreatLm
import Derived.Deep.QuietTactic
import Derived.BigQuiet
namespace Go.Proofs.YtkabcfhemljnbaaGreat
open Go.RowKit

/-! The store's box: 4018 cells, of which 4000 are the ring's. -/
theorem zeroStore : Tryz.zeroCells109.size = 4018 ∧ Tryz.zeroCells109[4015]? = some (iv 0) ∧ Tryz.zeroCells109[4016]? = some (iv 0) ∧ Tryz.zeroCells109[4017]? = some (.slice none 0 0) := ⟨by kernel_rfl, by kernel_rfl, by kernel_rfl, by kernel_rfl⟩
abbrev stZ (cs : Array Value) (v0 v1 v2 v3 v4 v5 v6 v7 v8 v9 v10 v11 v12 v13 v14 : Value) : Array Value := (((((((((((((((cs.setIfInBounds 0 v0).setIfInBounds 1 v1).setIfInBounds 2 v2).setIfInBounds 3 v3).setIfInBounds 4 v4).setIfInBounds 5 v5).setIfInBounds 6 v6).setIfInBounds 7 v7).setIfInBounds 8 v8).setIfInBounds 9 v9).setIfInBounds 10 v10).setIfInBounds 11 v11).setIfInBounds 12 v12).setIfInBounds 13 v13).setIfInBounds 14 v14)
theorem stZ_at (cs : Array Value) (v0 v1 v2 v3 v4 v5 v6 v7 v8 v9 v10 v11 v12 v13 v14 : Value) (s0 : cs.size = 4018) (s1 : cs[4015]? = some (iv 0)) (s2 : cs[4016]? = some (iv 0)) (s3 : cs[4017]? = some (.slice none 0 0)) : (stZ cs v0 v1 v2 v3 v4 v5 v6 v7 v8 v9 v10 v11 v12 v13 v14).size = 4018 ∧
      ((stZ cs v0 v1 v2 v3 v4 v5 v6 v7 v8 v9 v10 v11 v12 v13 v14)[0]? = some v0 ∧ (stZ cs v0 v1 v2 v3 v4 v5 v6 v7 v8 v9 v10 v11 v12 v13 v14)[1]? = some v1 ∧ (stZ cs v0 v1 v2 v3 v4 v5 v6 v7 v8 v9 v10 v11 v12 v13 v14)[2]? = some v2 ∧ (stZ cs v0 v1 v2 v3 v4 v5 v6 v7 v8 v9 v10 v11 v12 v13 v14)[3]? = some v3 ∧ (stZ cs v0 v1 v2 v3 v4 v5 v6 v7 v8 v9 v10 v11 v12 v13 v14)[4]? = some v4 ∧ (stZ cs v0 v1 v2 v3 v4 v5 v6 v7 v8 v9 v10 v11 v12 v13 v14)[5]? = some v5 ∧ (stZ cs v0 v1 v2 v3 v4 v5 v6 v7 v8 v9 v10 v11 v12 v13 v14)[6]? = some v6 ∧ (stZ cs v0 v1 v2 v3 v4 v5 v6 v7 v8 v9 v10 v11 v12 v13 v14)[7]? = some v7 ∧ (stZ cs v0 v1 v2 v3 v4 v5 v6 v7 v8 v9 v10 v11 v12 v13 v14)[8]? = some v8 ∧ (stZ cs v0 v1 v2 v3 v4 v5 v6 v7 v8 v9 v10 v11 v12 v13 v14)[9]? = some v9 ∧ (stZ cs v0 v1 v2 v3 v4 v5 v6 v7 v8 v9 v10 v11 v12 v13 v14)[10]? = some v10 ∧ (stZ cs v0 v1 v2 v3 v4 v5 v6 v7 v8 v9 v10 v11 v12 v13 v14)[11]? = some v11 ∧ (stZ cs v0 v1 v2 v3 v4 v5 v6 v7 v8 v9 v10 v11 v12 v13 v14)[12]? = some v12 ∧ (stZ cs v0 v1 v2 v3 v4 v5 v6 v7 v8 v9 v10 v11 v12 v13 v14)[13]? = some v13 ∧ (stZ cs v0 v1 v2 v3 v4 v5 v6 v7 v8 v9 v10 v11 v12 v13 v14)[14]? = some v14) ∧
      (stZ cs v0 v1 v2 v3 v4 v5 v6 v7 v8 v9 v10 v11 v12 v13 v14)[4015]? = some (iv 0) ∧ (stZ cs v0 v1 v2 v3 v4 v5 v6 v7 v8 v9 v10 v11 v12 v13 v14)[4016]? = some (iv 0) ∧ (stZ cs v0 v1 v2 v3 v4 v5 v6 v7 v8 v9 v10 v11 v12 v13 v14)[4017]? = some (.slice none 0 0) := by
  unfold stZ
  exact ⟨by simp [s0], by simp [s0], by simp [s1], by simp [s2], by simp [s3]⟩
end Go.Proofs.YtkabcfhemljnbaaGreat

namespace Go.Proofs.YtkabcfhemljnbaaGreat
open Go.RowKit
attribute [local go_sem ↓] Go.wp_at_zero Go.wp_at_succ

/-! The small questions of the model's first chapter. -/
def usedB (x : Hp) (i : Nat) : Bool := (x.c i).st == 1
def formedB (w : Wd) (n : Nat) : Bool := if w.k = 0 then w.n == 0 && w.a == 0 else if w.k = 1 then w.a == 0 else if w.k = 2 then w.n == 0 && decide (0 ≤ w.a) && decide (w.a < n) else false
def doomedB (x : Hp) (i : Nat) : Bool := (x.phase == 3) && decide (x.hand ≤ i) && ((x.c i).st == 1) && ((x.c i).color == 0)
def mendedB (x : Hp) (i k : Nat) : Bool := if x.phase = 4 then false else if x.phase = 5 then decide ((i : Int) < x.hand) || ((i : Int) == x.hand && decide ((k : Int) < x.sub)) else true
theorem usedB_iff {x : Hp} {i : Nat} : usedB x i = true ↔ (x.c i).st = 1 := by simp [usedB]
theorem doomedB_iff {x : Hp} {i : Nat} : doomedB x i = true ↔ Doomed x i := by simp [doomedB, Doomed, and_assoc]
theorem formedB_iff {w : Wd} {n : Nat} : formedB w n = true ↔ Formed w n := by
  unfold formedB Formed
  by_cases h0 : w.k = 0
  · simp [h0]
  · by_cases h1 : w.k = 1
    · simp [h1]
    · by_cases h2 : w.k = 2
      · simp [h2, and_assoc]
      · simp [h0, h1, h2]
theorem mendedB_iff {x : Hp} {i k : Nat} : mendedB x i k = true ↔ Mended x i k := by
  unfold mendedB Mended
  by_cases h4 : x.phase = 4
  · simp [h4]
  · by_cases h5 : x.phase = 5
    · simp [h5]
    · simp [h4, h5]

theorem l1used_any (x : Hp) (b : Nat) (a : Int) (w : World) {ar : Option Addr} {kr : Nat} {ac : Option Addr} {kc : Nat} {ag : Option Addr} {kg : Nat} (h : HAt w b x ar kr ac kc ag kg) (h0 : 0 ≤ a) (h1 : a < x.cells.length) :
    Calls Tryz.prog 134 #[.pointer (some ⟨b, 0, none⟩), .int .i64 a] w fun e w' => e = .returned (.bool (usedB x a.toNat)) ∧ w' = w := by
  obtain ⟨i, rfl⟩ := Int.eq_ofNat_of_zero_le h0
  rw [Int.toNat_natCast]
  obtain ⟨b', o, rfl, vp, p0, _⟩ := h.C i (by omega)
  have c4 := h.c4
  have lc := h.lc
  clear h
  go_enter Tryz.func134, Tryz.ntmps134
  go_wp2
  go_ret
  exact ⟨rfl, rfl⟩

theorem l1formed_any (x : Wd) (n : Nat) (w : World) : Calls Tryz.prog 138 #[x.v, .int .i64 n] w fun e w' => e = .returned (.bool (formedB x n)) ∧ Ext w w' := by
  by_cases h0 : x.k = 0
  · have e : formedB x n = (x.n == 0 && x.a == 0) := by simp [formedB, h0]
    have E := hide e
    clear e
    cases q : (x.n == 0)
    all_goals
      go_enter Tryz.func138, Tryz.ntmps138
      go_wp2
      go_ret
      exact ⟨by rw [unhide E]; simp [q], (Ext.refl w).alloc _⟩
  · have k0 : (x.k == 0) = false := by simp [h0]
    by_cases h1 : x.k = 1
    · have e : formedB x n = (x.a == 0) := by simp [formedB, h1]
      have E := hide e
      clear e h0 k0
      go_enter Tryz.func138, Tryz.ntmps138
      go_wp2
      go_ret
      exact ⟨by rw [unhide E]; simp, (Ext.refl w).alloc _⟩
    · have k1 : (x.k == 1) = false := by simp [h1]
      by_cases h2 : x.k = 2
      · have e : formedB x n = (x.n == 0 && decide (0 ≤ x.a) && decide (x.a < n)) := by simp [formedB, h2]
        have E := hide e
        clear e h0 k0 h1 k1
        cases q : (x.n == 0)
        · go_enter Tryz.func138, Tryz.ntmps138
          go_wp2
          go_ret
          exact ⟨by rw [unhide E]; simp [q], (Ext.refl w).alloc _⟩
        · by_cases q2 : 0 ≤ x.a
          · go_enter Tryz.func138, Tryz.ntmps138
            go_wp2
            go_ret
            exact ⟨by rw [unhide E]; simp [q, q2], (Ext.refl w).alloc _⟩
          · have q3 : decide (0 ≤ x.a) = false := by simp; omega
            go_enter Tryz.func138, Tryz.ntmps138
            go_wp2
            go_ret
            exact ⟨by rw [unhide E, q3]; simp, (Ext.refl w).alloc _⟩
      · have k2 : (x.k == 2) = false := by simp [h2]
        have e : formedB x n = false := by simp [formedB, h0, h1, h2]
        have E := hide e
        clear e
        go_enter Tryz.func138, Tryz.ntmps138
        go_wp2
        go_ret
        exact ⟨by rw [unhide E]; rfl, (Ext.refl w).alloc _⟩

set_option maxHeartbeats 600000 in
theorem l1doomed_any (x : Hp) (b : Nat) (a : Int) (w : World) {ar : Option Addr} {kr : Nat} {ac : Option Addr} {kc : Nat} {ag : Option Addr} {kg : Nat} (h : HAt w b x ar kr ac kc ag kg) (h0 : 0 ≤ a) (h1 : a < x.cells.length) :
    Calls Tryz.prog 137 #[.pointer (some ⟨b, 0, none⟩), .int .i64 a] w fun e w' => e = .returned (.bool (doomedB x a.toNat)) ∧ w' = w := by
  obtain ⟨i, rfl⟩ := Int.eq_ofNat_of_zero_le h0
  rw [Int.toNat_natCast]
  have hu := l1used_any x b i w h h0 h1
  rw [Int.toNat_natCast] at hu
  have HU := hide hu
  clear hu
  obtain ⟨b', o, rfl, vp, p0, p1, p2, p3, p4, p5, _⟩ := h.C i (by omega)
  have c4 := h.c4
  have c5 := h.c5
  have c6 := h.c6
  have lc := h.lc
  clear h
  cases q1 : (x.phase == 3)
  · go_enter Tryz.func137, Tryz.ntmps137
    go_wp2
    go_ret
    exact ⟨by simp [doomedB, q1], rfl⟩
  · cases q2 : decide (x.hand ≤ (i : Int))
    · go_enter Tryz.func137, Tryz.ntmps137
      go_wp2
      go_ret
      exact ⟨by simp [doomedB, q1, q2], rfl⟩
    · cases q3 : usedB x i
      · go_enter Tryz.func137, Tryz.ntmps137
        go_wp2_with (go_at_call 134; refine (unhide HU).mono ?_; rintro e w' ⟨rfl, rfl⟩)
        go_ret
        exact ⟨by unfold usedB at q3; simp [doomedB, q3], rfl⟩
      · go_enter Tryz.func137, Tryz.ntmps137
        go_wp2_with (go_at_call 134; refine (unhide HU).mono ?_; rintro e w' ⟨rfl, rfl⟩)
        go_ret
        exact ⟨by unfold usedB at q3; simp [doomedB, q1, q2, q3], rfl⟩

theorem l1mended_any (x : Hp) (b i k : Nat) (w : World) {ar : Option Addr} {kr : Nat} {ac : Option Addr} {kc : Nat} {ag : Option Addr} {kg : Nat} (h : HAt w b x ar kr ac kc ag kg) :
    Calls Tryz.prog 139 #[.pointer (some ⟨b, 0, none⟩), .int .i64 i, .int .i64 k] w fun e w' => e = .returned (.bool (mendedB x i k)) ∧ w' = w := by
  have c5 := h.c5
  have c6 := h.c6
  have c7 := h.c7
  clear h
  by_cases h4 : x.phase = 4
  · have E := hide (show mendedB x i k = false by simp [mendedB, h4])
    go_enter Tryz.func139, Tryz.ntmps139
    go_wp2
    go_ret
    exact ⟨by rw [unhide E]; rfl, rfl⟩
  · have k4 : (x.phase == 4) = false := by simp [h4]
    by_cases h5 : x.phase = 5
    · have E := hide (show mendedB x i k = (decide ((i : Int) < x.hand) || ((i : Int) == x.hand && decide ((k : Int) < x.sub))) by simp [mendedB, h5])
      clear h4 k4
      cases q1 : decide ((i : Int) < x.hand)
      · cases q2 : ((i : Int) == x.hand)
        · go_enter Tryz.func139, Tryz.ntmps139
          go_wp2
          go_ret
          exact ⟨by rw [unhide E, q1, q2]; simp, rfl⟩
        · go_enter Tryz.func139, Tryz.ntmps139
          go_wp2
          go_ret
          exact ⟨by rw [unhide E, q1, q2]; simp, rfl⟩
      · go_enter Tryz.func139, Tryz.ntmps139
        go_wp2
        go_ret
        exact ⟨by rw [unhide E, q1]; simp, rfl⟩
    · have k5 : (x.phase == 5) = false := by simp [h5]
      have E := hide (show mendedB x i k = true by simp [mendedB, h4, h5])
      go_enter Tryz.func139, Tryz.ntmps139
      go_wp2
      go_ret
      exact ⟨by rw [unhide E]; rfl, rfl⟩
end Go.Proofs.YtkabcfhemljnbaaGreat

namespace Go.Proofs.YtkabcfhemljnbaaGreat
open Go.RowKit
attribute [local go_sem ↓] Go.wp_at_zero Go.wp_at_succ

theorem within_in (n lo hi : Int) (w : World) (h1 : lo ≤ n) (h2 : n ≤ hi) : Calls Tryz.prog 74 #[.int .i64 n, .int .i64 lo, .int .i64 hi] w fun e w' => e = .returned (.bool true) ∧ w' = w := by
  go_enter Tryz.func74, Tryz.ntmps74
  go_wp2
  go_ret
  exact ⟨rfl, rfl⟩
theorem within_out (n lo hi : Int) (w : World) (h : n < lo ∨ hi < n) : Calls Tryz.prog 74 #[.int .i64 n, .int .i64 lo, .int .i64 hi] w fun e w' => e = .returned (.bool false) ∧ w' = w := by
  by_cases h1 : lo ≤ n
  · have h2 : hi < n := by omega
    go_enter Tryz.func74, Tryz.ntmps74
    go_wp2
    go_ret
    exact ⟨by simp; omega, rfl⟩
  · go_enter Tryz.func74, Tryz.ntmps74
    go_wp2
    go_ret
    exact ⟨rfl, rfl⟩
def withinB (n lo hi : Int) : Bool := decide (lo ≤ n ∧ n ≤ hi)
theorem within_any (n lo hi : Int) (w : World) : Calls Tryz.prog 74 #[.int .i64 n, .int .i64 lo, .int .i64 hi] w fun e w' => e = .returned (.bool (withinB n lo hi)) ∧ w' = w := by
  by_cases h : lo ≤ n ∧ n ≤ hi
  · have e : withinB n lo hi = true := by simp [withinB, h]
    rw [e]; exact within_in n lo hi w h.1 h.2
  · have e : withinB n lo hi = false := by unfold withinB; exact decide_eq_false h
    rw [e]; exact within_out n lo hi w (by omega)

theorem l1in_in (n lo hi : Int) (w : World) (h1 : lo ≤ n) (h2 : n ≤ hi) : Calls Tryz.prog 133 #[.int .i64 n, .int .i64 lo, .int .i64 hi] w fun e w' => e = .returned (.bool true) ∧ w' = w := by
  go_enter Tryz.func133, Tryz.ntmps133
  go_wp2
  go_ret
  exact ⟨rfl, rfl⟩
theorem l1in_out (n lo hi : Int) (w : World) (h : n < lo ∨ hi < n) : Calls Tryz.prog 133 #[.int .i64 n, .int .i64 lo, .int .i64 hi] w fun e w' => e = .returned (.bool false) ∧ w' = w := by
  by_cases h1 : lo ≤ n
  · have h2 : hi < n := by omega
    go_enter Tryz.func133, Tryz.ntmps133
    go_wp2
    go_ret
    exact ⟨by simp; omega, rfl⟩
  · go_enter Tryz.func133, Tryz.ntmps133
    go_wp2
    go_ret
    exact ⟨rfl, rfl⟩
def l1inB (n lo hi : Int) : Bool := decide (lo ≤ n ∧ n ≤ hi)
theorem l1in_any (n lo hi : Int) (w : World) : Calls Tryz.prog 133 #[.int .i64 n, .int .i64 lo, .int .i64 hi] w fun e w' => e = .returned (.bool (l1inB n lo hi)) ∧ w' = w := by
  by_cases h : lo ≤ n ∧ n ≤ hi
  · have e : l1inB n lo hi = true := by simp [l1inB, h]
    rw [e]; exact l1in_in n lo hi w h.1 h.2
  · have e : l1inB n lo hi = false := by unfold l1inB; exact decide_eq_false h
    rw [e]; exact l1in_out n lo hi w (by omega)
end Go.Proofs.YtkabcfhemljnbaaGreat
