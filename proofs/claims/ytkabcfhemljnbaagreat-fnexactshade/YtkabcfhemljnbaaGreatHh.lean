import Derived.Test.YtkabcfhemljnbaaGreatMk
import Derived.Test.YtkabcfhemljnbaaGreatRule
namespace Go.Proofs.YtkabcfhemljnbaaGreat
open Go.RowKit
attribute [local go_sem ↓] Go.wp_at_zero Go.wp_at_succ

/-! Marks of a heap's rows, exact. -/
theorem open_only {S : Nat → Prop} {w w' : World} {b o : Nat} (h : Open w b o) (k : Only S w w') (hs : ¬ S b) : Open w' b o := by
  obtain ⟨⟨v, hv⟩, hf⟩ := h
  exact ⟨⟨v, k.keep hs hv⟩, by rw [k.frozen (cell_lt hv) hs]; exact hf⟩
set_option maxHeartbeats 2000000 in
theorem heldPairS_x (b o n cap : Nat) (k0 : Int) (w : World) (hn : n ≤ 1099511627776) (h0 : 0 ≤ k0) (h1 : k0 ≤ 1099511627776) (hm : ∀ j, j < 6 * n → w.cell? ⟨b, o + j, none⟩ = some (iv (k0 + j))) :
    Calls Tryz.prog 119 #[.slice (some ⟨b, o, none⟩) n cap, .int .i64 k0] w fun e w' => e = .returned (.int .i64 (k0 + 6 * n)) ∧ w' = w := by
  have HM := hide hm
  clear hm
  go_enter Tryz.func119, Tryz.ntmps119
  go_wp2_with fail
  go_loop [1, 5] (fun kk i => ∃ k : Nat, k ≤ n ∧ i = .int .i64 k ∧ kk = .int .i64 (k0 + 6 * k)) (fun _ i => n - (intOf i).toNat)
  case atStart => exact ⟨0, Nat.zero_le _, rfl, by simp⟩
  case round =>
    obtain ⟨k, hk, rfl, rfl⟩ := hrel
    by_cases hlt : k < n
    · have c0 : w.cell? ⟨b, o + k * 6, none⟩ = some (iv (k0 + 6 * k)) := by have := unhide HM (6 * k) (by omega); rw [show o + 6 * k = o + k * 6 by omega] at this; rw [this]; congr 2
      have c1 : w.cell? ⟨b, o + k * 6 + 1, none⟩ = some (iv (k0 + 6 * k + 1)) := by have := unhide HM (6 * k + 1) (by omega); rw [show o + (6 * k + 1) = o + k * 6 + 1 by omega] at this; rw [this]; congr 2; omega
      have c2 : w.cell? ⟨b, o + k * 6 + 2, none⟩ = some (iv (k0 + 6 * k + 1 + 1)) := by have := unhide HM (6 * k + 2) (by omega); rw [show o + (6 * k + 2) = o + k * 6 + 2 by omega] at this; rw [this]; congr 2; omega
      have c3 : w.cell? ⟨b, o + k * 6 + 3, none⟩ = some (iv (k0 + 6 * k + 1 + 1 + 1)) := by have := unhide HM (6 * k + 3) (by omega); rw [show o + (6 * k + 3) = o + k * 6 + 3 by omega] at this; rw [this]; congr 2; omega
      have c4 : w.cell? ⟨b, o + k * 6 + 4, none⟩ = some (iv (k0 + 6 * k + 1 + 1 + 1 + 1)) := by have := unhide HM (6 * k + 4) (by omega); rw [show o + (6 * k + 4) = o + k * 6 + 4 by omega] at this; rw [this]; congr 2; omega
      have c5 : w.cell? ⟨b, o + k * 6 + 5, none⟩ = some (iv (k0 + 6 * k + 1 + 1 + 1 + 1 + 1)) := by have := unhide HM (6 * k + 5) (by omega); rw [show o + (6 * k + 5) = o + k * 6 + 5 by omega] at this; rw [this]; congr 2; omega
      have g0 : (0:Int) ≤ (k:Int) := by omega
      have g1 : (k:Int) < (n:Int) := by omega
      go_wp2_with fail
      go_round
      case rel => exact ⟨k + 1, by omega, by go_num, by go_num⟩
      case measure => simp [intOf]; omega
    · have hk2 : k = n := by omega
      subst hk2
      go_wp2_with fail
      go_ret
      exact ⟨rfl, rfl⟩

set_option maxHeartbeats 1000000 in
theorem markWordS_z0 (a1 : Option Addr) (c1 : Nat) (k0 : Int) (w : World) :
    Calls Tryz.prog 58 #[.slice a1 0 c1, .int .i64 k0] w fun e w' => e = .returned (.int .i64 k0) ∧ w' = w := by
  go_enter Tryz.func58, Tryz.ntmps58
  go_wp2_with fail
  go_loopw [1, 5] (fun kk i wr => kk = .int .i64 k0 ∧ i = .int .i64 0 ∧ wr = w) (fun _ _ _ => 0)
  case atStart => exact ⟨rfl, rfl, rfl⟩
  case round =>
    obtain ⟨rfl, rfl, rfl⟩ := hrel
    go_wp2_with fail
    go_ret
    exact ⟨rfl, rfl⟩
set_option maxHeartbeats 1000000 in
theorem heldWordS_z0 (a1 : Option Addr) (c1 : Nat) (k0 : Int) (w : World) :
    Calls Tryz.prog 70 #[.slice a1 0 c1, .int .i64 k0] w fun e w' => e = .returned (.int .i64 k0) ∧ w' = w := by
  go_enter Tryz.func70, Tryz.ntmps70
  go_wp2_with fail
  go_loopw [1, 5] (fun kk i wr => kk = .int .i64 k0 ∧ i = .int .i64 0 ∧ wr = w) (fun _ _ _ => 0)
  case atStart => exact ⟨rfl, rfl, rfl⟩
  case round =>
    obtain ⟨rfl, rfl, rfl⟩ := hrel
    go_wp2_with fail
    go_ret
    exact ⟨rfl, rfl⟩
set_option maxHeartbeats 1000000 in
theorem markIntS_z0 (a1 : Option Addr) (c1 : Nat) (k0 : Int) (w : World) :
    Calls Tryz.prog 60 #[.slice a1 0 c1, .int .i64 k0] w fun e w' => e = .returned (.int .i64 k0) ∧ w' = w := by
  go_enter Tryz.func60, Tryz.ntmps60
  go_wp2_with fail
  go_loopw [1, 5] (fun kk i wr => kk = .int .i64 k0 ∧ i = .int .i64 0 ∧ wr = w) (fun _ _ _ => 0)
  case atStart => exact ⟨rfl, rfl, rfl⟩
  case round =>
    obtain ⟨rfl, rfl, rfl⟩ := hrel
    go_wp2_with fail
    go_ret
    exact ⟨rfl, rfl⟩
set_option maxHeartbeats 1000000 in
theorem heldIntS_z0 (a1 : Option Addr) (c1 : Nat) (k0 : Int) (w : World) :
    Calls Tryz.prog 79 #[.slice a1 0 c1, .int .i64 k0] w fun e w' => e = .returned (.int .i64 k0) ∧ w' = w := by
  go_enter Tryz.func79, Tryz.ntmps79
  go_wp2_with fail
  go_loopw [1, 5] (fun kk i wr => kk = .int .i64 k0 ∧ i = .int .i64 0 ∧ wr = w) (fun _ _ _ => 0)
  case atStart => exact ⟨rfl, rfl, rfl⟩
  case round =>
    obtain ⟨rfl, rfl, rfl⟩ := hrel
    go_wp2_with fail
    go_ret
    exact ⟨rfl, rfl⟩
set_option maxHeartbeats 1000000 in
theorem markPairS_z0 (a1 : Option Addr) (c1 : Nat) (k0 : Int) (w : World) :
    Calls Tryz.prog 109 #[.slice a1 0 c1, .int .i64 k0] w fun e w' => e = .returned (.int .i64 k0) ∧ w' = w := by
  go_enter Tryz.func109, Tryz.ntmps109
  go_wp2_with fail
  go_loopw [1, 5] (fun kk i wr => kk = .int .i64 k0 ∧ i = .int .i64 0 ∧ wr = w) (fun _ _ _ => 0)
  case atStart => exact ⟨rfl, rfl, rfl⟩
  case round =>
    obtain ⟨rfl, rfl, rfl⟩ := hrel
    go_wp2_with fail
    go_ret
    exact ⟨rfl, rfl⟩
set_option maxHeartbeats 1000000 in
theorem heldPairS_z0 (a1 : Option Addr) (c1 : Nat) (k0 : Int) (w : World) :
    Calls Tryz.prog 119 #[.slice a1 0 c1, .int .i64 k0] w fun e w' => e = .returned (.int .i64 k0) ∧ w' = w := by
  go_enter Tryz.func119, Tryz.ntmps119
  go_wp2_with fail
  go_loopw [1, 5] (fun kk i wr => kk = .int .i64 k0 ∧ i = .int .i64 0 ∧ wr = w) (fun _ _ _ => 0)
  case atStart => exact ⟨rfl, rfl, rfl⟩
  case round =>
    obtain ⟨rfl, rfl, rfl⟩ := hrel
    go_wp2_with fail
    go_ret
    exact ⟨rfl, rfl⟩
set_option maxHeartbeats 1000000 in
theorem markCellS_z0 (a1 : Option Addr) (c1 : Nat) (k0 : Int) (w : World) :
    Calls Tryz.prog 59 #[.slice a1 0 c1, .int .i64 k0] w fun e w' => e = .returned (.int .i64 k0) ∧ w' = w := by
  go_enter Tryz.func59, Tryz.ntmps59
  go_wp2_with fail
  go_loopw [1, 5] (fun kk i wr => kk = .int .i64 k0 ∧ i = .int .i64 0 ∧ wr = w) (fun _ _ _ => 0)
  case atStart => exact ⟨rfl, rfl, rfl⟩
  case round =>
    obtain ⟨rfl, rfl, rfl⟩ := hrel
    go_wp2_with fail
    go_ret
    exact ⟨rfl, rfl⟩
set_option maxHeartbeats 1000000 in
theorem heldCellS_z0 (a1 : Option Addr) (c1 : Nat) (k0 : Int) (w : World) :
    Calls Tryz.prog 78 #[.slice a1 0 c1, .int .i64 k0] w fun e w' => e = .returned (.int .i64 k0) ∧ w' = w := by
  go_enter Tryz.func78, Tryz.ntmps78
  go_wp2_with fail
  go_loopw [1, 5] (fun kk i wr => kk = .int .i64 k0 ∧ i = .int .i64 0 ∧ wr = w) (fun _ _ _ => 0)
  case atStart => exact ⟨rfl, rfl, rfl⟩
  case round =>
    obtain ⟨rfl, rfl, rfl⟩ := hrel
    go_wp2_with fail
    go_ret
    exact ⟨rfl, rfl⟩

set_option maxHeartbeats 2000000 in
theorem heldIntS_any (b o n cap : Nat) (k0 : Int) (w : World) (hn : n ≤ 1099511627776) (h0 : 0 ≤ k0) (h1 : k0 ≤ 1099511627776) (hm : ∀ j, j < n → w.cell? ⟨b, o + j, none⟩ = some (iv (k0 + j))) :
    Calls Tryz.prog 79 #[.slice (some ⟨b, o, none⟩) n cap, .int .i64 k0] w fun e w' => e = .returned (.int .i64 (k0 + n)) ∧ w' = w := by
  have HM := hide hm
  clear hm
  go_enter Tryz.func79, Tryz.ntmps79
  go_wp2_with fail
  go_loop [1, 5] (fun kk i => ∃ k : Nat, k ≤ n ∧ i = .int .i64 k ∧ kk = .int .i64 (k0 + k)) (fun _ i => n - (intOf i).toNat)
  case atStart => exact ⟨0, Nat.zero_le _, rfl, by simp⟩
  case round =>
    obtain ⟨k, hk, rfl, rfl⟩ := hrel
    by_cases hlt : k < n
    · have c0 := unhide HM k hlt
      have g0 : (0:Int) ≤ (k:Int) := by omega
      have g1 : (k:Int) < (n:Int) := by omega
      go_wp2_with fail
      go_round
      case rel => exact ⟨k + 1, by omega, by go_num, by go_num⟩
      case measure => simp [intOf]; omega
    · have hk2 : k = n := by omega
      subst hk2
      go_wp2_with fail
      go_ret
      exact ⟨rfl, rfl⟩
theorem markWordS_row (ad : Option Addr) (b n cap : Nat) (k0 : Int) (w : World) (hn : n ≤ 1099511627776) (h0 : 0 ≤ k0) (h1 : k0 ≤ 1099511627776) (ha : 0 < n → ad = some ⟨b, 0, none⟩) (ho : ∀ j, j < 3 * n → Open w b (0 + j)) :
    Calls Tryz.prog 58 #[.slice ad n cap, .int .i64 k0] w fun e w' =>
      e = .returned (.int .i64 (k0 + 3 * n)) ∧ (∀ j, j < 3 * n → w'.cell? ⟨b, 0 + j, none⟩ = some (iv (k0 + j))) ∧ (∀ j, j < 3 * n → Open w' b (0 + j)) ∧ Only (fun q => q = b ∧ 0 < n) w w' := by
  rcases Nat.eq_zero_or_pos n with h | h
  · subst h
    exact (markWordS_z0 ad cap k0 w).mono fun e w' ⟨he, hw⟩ => by subst hw; exact ⟨by rw [he]; simp, fun j hj => by omega, fun j hj => by omega, Only.refl _ _⟩
  · rw [ha h]
    exact (markWordS_any b 0 n cap k0 w hn h0 h1 ho).mono fun e w' ⟨he, a, c, d⟩ => ⟨he, a, c, d.mono (fun q e => ⟨e, h⟩)⟩
theorem heldWordS_row (ad : Option Addr) (b n cap : Nat) (k0 : Int) (w : World) (hn : n ≤ 1099511627776) (h0 : 0 ≤ k0) (h1 : k0 ≤ 1099511627776) (ha : 0 < n → ad = some ⟨b, 0, none⟩) (hm : ∀ j, j < 3 * n → w.cell? ⟨b, 0 + j, none⟩ = some (iv (k0 + j))) :
    Calls Tryz.prog 70 #[.slice ad n cap, .int .i64 k0] w fun e w' => e = .returned (.int .i64 (k0 + 3 * n)) ∧ w' = w := by
  rcases Nat.eq_zero_or_pos n with h | h
  · subst h
    exact (heldWordS_z0 ad cap k0 w).mono fun e w' ⟨he, hw⟩ => ⟨by rw [he]; simp, hw⟩
  · rw [ha h]
    exact heldWordS_any b 0 n cap k0 w hn h0 h1 hm
theorem markIntS_row (ad : Option Addr) (b n cap : Nat) (k0 : Int) (w : World) (hn : n ≤ 1099511627776) (h0 : 0 ≤ k0) (h1 : k0 ≤ 1099511627776) (ha : 0 < n → ad = some ⟨b, 0, none⟩) (ho : ∀ j, j < n → Open w b (0 + j)) :
    Calls Tryz.prog 60 #[.slice ad n cap, .int .i64 k0] w fun e w' =>
      e = .returned (.int .i64 (k0 + n)) ∧ (∀ j, j < n → w'.cell? ⟨b, 0 + j, none⟩ = some (iv (k0 + j))) ∧ (∀ j, j < n → Open w' b (0 + j)) ∧ Only (fun q => q = b ∧ 0 < n) w w' := by
  rcases Nat.eq_zero_or_pos n with h | h
  · subst h
    exact (markIntS_z0 ad cap k0 w).mono fun e w' ⟨he, hw⟩ => by subst hw; exact ⟨by rw [he]; simp, fun j hj => by omega, fun j hj => by omega, Only.refl _ _⟩
  · rw [ha h]
    exact (markIntS_any b 0 n cap k0 w hn h0 h1 ho).mono fun e w' ⟨he, a, c, d⟩ => ⟨he, a, c, d.mono (fun q e => ⟨e, h⟩)⟩
theorem heldIntS_row (ad : Option Addr) (b n cap : Nat) (k0 : Int) (w : World) (hn : n ≤ 1099511627776) (h0 : 0 ≤ k0) (h1 : k0 ≤ 1099511627776) (ha : 0 < n → ad = some ⟨b, 0, none⟩) (hm : ∀ j, j < n → w.cell? ⟨b, 0 + j, none⟩ = some (iv (k0 + j))) :
    Calls Tryz.prog 79 #[.slice ad n cap, .int .i64 k0] w fun e w' => e = .returned (.int .i64 (k0 + n)) ∧ w' = w := by
  rcases Nat.eq_zero_or_pos n with h | h
  · subst h
    exact (heldIntS_z0 ad cap k0 w).mono fun e w' ⟨he, hw⟩ => ⟨by rw [he]; simp, hw⟩
  · rw [ha h]
    exact heldIntS_any b 0 n cap k0 w hn h0 h1 hm
theorem markPairS_row (ad : Option Addr) (b n cap : Nat) (k0 : Int) (w : World) (hn : n ≤ 1099511627776) (h0 : 0 ≤ k0) (h1 : k0 ≤ 1099511627776) (ha : 0 < n → ad = some ⟨b, 0, none⟩) (ho : ∀ j, j < 6 * n → Open w b (0 + j)) :
    Calls Tryz.prog 109 #[.slice ad n cap, .int .i64 k0] w fun e w' =>
      e = .returned (.int .i64 (k0 + 6 * n)) ∧ (∀ j, j < 6 * n → w'.cell? ⟨b, 0 + j, none⟩ = some (iv (k0 + j))) ∧ (∀ j, j < 6 * n → Open w' b (0 + j)) ∧ Only (fun q => q = b ∧ 0 < n) w w' := by
  rcases Nat.eq_zero_or_pos n with h | h
  · subst h
    exact (markPairS_z0 ad cap k0 w).mono fun e w' ⟨he, hw⟩ => by subst hw; exact ⟨by rw [he]; simp, fun j hj => by omega, fun j hj => by omega, Only.refl _ _⟩
  · rw [ha h]
    exact (markPairS_any b 0 n cap k0 w hn h0 h1 ho).mono fun e w' ⟨he, a, c, d⟩ => ⟨he, a, c, d.mono (fun q e => ⟨e, h⟩)⟩
theorem heldPairS_row (ad : Option Addr) (b n cap : Nat) (k0 : Int) (w : World) (hn : n ≤ 1099511627776) (h0 : 0 ≤ k0) (h1 : k0 ≤ 1099511627776) (ha : 0 < n → ad = some ⟨b, 0, none⟩) (hm : ∀ j, j < 6 * n → w.cell? ⟨b, 0 + j, none⟩ = some (iv (k0 + j))) :
    Calls Tryz.prog 119 #[.slice ad n cap, .int .i64 k0] w fun e w' => e = .returned (.int .i64 (k0 + 6 * n)) ∧ w' = w := by
  rcases Nat.eq_zero_or_pos n with h | h
  · subst h
    exact (heldPairS_z0 ad cap k0 w).mono fun e w' ⟨he, hw⟩ => ⟨by rw [he]; simp, hw⟩
  · rw [ha h]
    exact heldPairS_x b 0 n cap k0 w hn h0 h1 hm
end Go.Proofs.YtkabcfhemljnbaaGreat

namespace Go.Proofs.YtkabcfhemljnbaaGreat
open Go.RowKit
attribute [local go_sem ↓] Go.wp_at_zero Go.wp_at_succ

/-- the first number of a cell -/
def Kc (len : Nat → Nat) (k0 : Int) : Nat → Int
  | 0 => k0
  | q + 1 => Kc len k0 q + 7 + 6 * (len q : Int)
theorem Kc_bd {len : Nat → Nat} {k0 : Int} (h0 : 0 ≤ k0) (q : Nat) (hl : ∀ p, p < q → len p ≤ 200) : 0 ≤ Kc len k0 q ∧ Kc len k0 q ≤ k0 + 1207 * q := by
  induction q with
  | zero => simp [Kc, h0]
  | succ q ih =>
    have := ih (fun p hp => hl p (by omega))
    have := hl q (by omega)
    simp only [Kc]
    omega
/-- cells under the marks: k are marked -/
structure CMk (w : World) (B n : Nat) (len pb : Nat → Nat) (pa : Nat → Option Addr) (pk : Nat → Nat) (K : Nat → Int) (k : Nat) : Prop where
  a : ∀ q, q < n → w.cell? ⟨B, q * 8 + 7, none⟩ = some (.slice (pa q) (len q) (pk q))
  l : ∀ q, q < n → 0 < len q → pa q = some ⟨pb q, 0, none⟩
  o : ∀ q, q < n → ∀ i, i < 7 → Open w B (q * 8 + i)
  p : ∀ q, q < n → ∀ j, j < 6 * len q → Open w (pb q) (0 + j)
  m : ∀ q, q < k → (∀ i, i < 7 → w.cell? ⟨B, q * 8 + i, none⟩ = some (iv (K q + i))) ∧ ∀ j, j < 6 * len q → w.cell? ⟨pb q, 0 + j, none⟩ = some (iv (K q + 7 + j))
theorem CMk.ext {w w' : World} {B n k : Nat} {len pb : Nat → Nat} {pa : Nat → Option Addr} {pk : Nat → Nat} {K : Nat → Int} (h : CMk w B n len pb pa pk K k) (e : Ext w w') : CMk w' B n len pb pa pk K k :=
  ⟨fun q hq => e.keep (h.a q hq), h.l, fun q hq i hi => (h.o q hq i hi).ext e, fun q hq j hj => (h.p q hq j hj).ext e, fun q hq => ⟨fun i hi => e.keep ((h.m q hq).1 i hi), fun j hj => e.keep ((h.m q hq).2 j hj)⟩⟩
theorem CMk.only {S : Nat → Prop} {w w' : World} {B n k : Nat} {len pb : Nat → Nat} {pa : Nat → Option Addr} {pk : Nat → Nat} {K : Nat → Int} (h : CMk w B n len pb pa pk K k) (e : Only S w w') (hk : k ≤ n) (hB : ¬ S B) (hp : ∀ q, q < n → 0 < len q → ¬ S (pb q)) : CMk w' B n len pb pa pk K k :=
  ⟨fun q hq => e.keep hB (h.a q hq), h.l, fun q hq i hi => open_only (h.o q hq i hi) e hB, fun q hq j hj => open_only (h.p q hq j hj) e (hp q hq (by omega)), fun q hq => ⟨fun i hi => e.keep hB ((h.m q hq).1 i hi), fun j hj => e.keep (hp q (by omega) (by omega)) ((h.m q hq).2 j hj)⟩⟩
/-- the seven numbers of a cell -/
theorem put7 {w wr : World} {B n k : Nat} {len pb : Nat → Nat} {pa : Nat → Option Addr} {pk : Nat → Nat} {K : Nat → Int} {S : Nat → Prop} (h : CMk wr B n len pb pa pk K k) (hk : k < n) (hB : ∀ q, q < n → 0 < len q → pb q ≠ B) (hS : S B) (ho : Only S w wr) :
    let W := ((((((wr.setCell ⟨B, k * 8, none⟩ (iv (K k))).setCell ⟨B, k * 8 + 1, none⟩ (iv (K k + 1))).setCell ⟨B, k * 8 + 2, none⟩ (iv (K k + 1 + 1))).setCell ⟨B, k * 8 + 3, none⟩ (iv (K k + 1 + 1 + 1))).setCell ⟨B, k * 8 + 4, none⟩ (iv (K k + 1 + 1 + 1 + 1))).setCell ⟨B, k * 8 + 5, none⟩ (iv (K k + 1 + 1 + 1 + 1 + 1))).setCell ⟨B, k * 8 + 6, none⟩ (iv (K k + 1 + 1 + 1 + 1 + 1 + 1))
    CMk W B n len pb pa pk K k ∧ (∀ i, i < 7 → W.cell? ⟨B, k * 8 + i, none⟩ = some (iv (K k + i))) ∧ Only S w W := by
  intro W
  have oth : ∀ b o, (b ≠ B ∨ o < k * 8 ∨ k * 8 + 7 ≤ o) → W.cell? ⟨b, o, none⟩ = wr.cell? ⟨b, o, none⟩ := fun b o hb => by
    show (World.setCell _ _ _).cell? _ = _
    rw [cell_other _ (by omega), cell_other _ (by omega), cell_other _ (by omega), cell_other _ (by omega), cell_other _ (by omega), cell_other _ (by omega), cell_other _ (by omega)]
  have op : ∀ b o, Open wr b o → Open W b o := fun b o hb => ((((((hb.set _ _).set _ _).set _ _).set _ _).set _ _).set _ _).set _ _
  refine ⟨⟨fun q hq => ?_, h.l, fun q hq i hi => op _ _ (h.o q hq i hi), fun q hq j hj => op _ _ (h.p q hq j hj), fun q hq => ⟨fun i hi => ?_, fun j hj => ?_⟩⟩, fun i hi => ?_, ((((((ho.setCell hS _).setCell hS _).setCell hS _).setCell hS _).setCell hS _).setCell hS _).setCell hS _⟩
  · rw [oth _ _ (by omega)]; exact h.a q hq
  · rw [oth _ _ (by omega)]; exact (h.m q hq).1 i hi
  · rw [oth _ _ (.inl (hB q (by omega) (by omega)))]; exact (h.m q hq).2 j hj
  · have o0 : Open wr B (k * 8) := h.o k hk 0 (by omega)
    have o1 := h.o k hk 1 (by omega)
    have o2 := h.o k hk 2 (by omega)
    have o3 := h.o k hk 3 (by omega)
    have o4 := h.o k hk 4 (by omega)
    have o5 := h.o k hk 5 (by omega)
    have o6 := h.o k hk 6 (by omega)
    show (World.setCell _ _ _).cell? _ = _
    have : i = 0 ∨ i = 1 ∨ i = 2 ∨ i = 3 ∨ i = 4 ∨ i = 5 ∨ i = 6 := by omega
    rcases this with e | e | e | e | e | e | e
    · subst e
      rw [cell_other _ (by omega), cell_other _ (by omega), cell_other _ (by omega), cell_other _ (by omega), cell_other _ (by omega), cell_other _ (by omega)]
      have := o0.same (iv (K k))
      simpa using this
    · subst e
      rw [cell_other _ (by omega), cell_other _ (by omega), cell_other _ (by omega), cell_other _ (by omega), cell_other _ (by omega), (o1.set _ _).same]
      congr 2
    · subst e
      rw [cell_other _ (by omega), cell_other _ (by omega), cell_other _ (by omega), cell_other _ (by omega), ((o2.set _ _).set _ _).same]
      congr 2; omega
    · subst e
      rw [cell_other _ (by omega), cell_other _ (by omega), cell_other _ (by omega), (((o3.set _ _).set _ _).set _ _).same]
      congr 2; omega
    · subst e
      rw [cell_other _ (by omega), cell_other _ (by omega), ((((o4.set _ _).set _ _).set _ _).set _ _).same]
      congr 2; omega
    · subst e
      rw [cell_other _ (by omega), (((((o5.set _ _).set _ _).set _ _).set _ _).set _ _).same]
      congr 2; omega
    · subst e
      rw [((((((o6.set _ _).set _ _).set _ _).set _ _).set _ _).set _ _).same]
      congr 2; omega
theorem CMk.next {w W w2 : World} {B n k : Nat} {len pb : Nat → Nat} {pa : Nat → Option Addr} {pk : Nat → Nat} {K : Nat → Int} {S : Nat → Prop} (h : CMk W B n len pb pa pk K k) (hc : ∀ i, i < 7 → W.cell? ⟨B, k * 8 + i, none⟩ = some (iv (K k + i))) (hk : k < n) (hB : ∀ q, q < n → 0 < len q → pb q ≠ B) (hd : ∀ q q', q < n → q' < n → q ≠ q' → 0 < len q → 0 < len q' → pb q ≠ pb q') (hs : 0 < len k → S (pb k)) (ho : Only S w W)
    (hm : ∀ j, j < 6 * len k → w2.cell? ⟨pb k, 0 + j, none⟩ = some (iv (K k + 7 + j))) (hop : ∀ j, j < 6 * len k → Open w2 (pb k) (0 + j)) (h2 : Only (fun q => q = pb k ∧ 0 < len k) W w2) : CMk w2 B n len pb pa pk K (k + 1) ∧ Only S w w2 := by
  have nB : ¬ (B = pb k ∧ 0 < len k) := fun e => hB k hk e.2 e.1.symm
  refine ⟨⟨fun q hq => h2.keep nB (h.a q hq), h.l, fun q hq i hi => open_only (h.o q hq i hi) h2 nB, fun q hq j hj => ?_, fun q hq => ?_⟩, ho.trans (h2.mono (fun q e => by rw [e.1]; exact hs e.2))⟩
  · by_cases e : q = k
    · subst e; exact hop j hj
    · exact open_only (h.p q hq j hj) h2 (fun z => hd q k hq hk e (by omega) z.2 z.1)
  · by_cases e : q = k
    · subst e
      exact ⟨fun i hi => h2.keep nB (hc i hi), hm⟩
    · have hx := h.m q (by omega)
      exact ⟨fun i hi => h2.keep nB (hx.1 i hi), fun j hj => h2.keep (fun z => hd q k (by omega) hk e (by omega) z.2 z.1) (hx.2 j hj)⟩

set_option maxRecDepth 100000 in
set_option maxHeartbeats 2000000 in
theorem markCellS_any (B n cap : Nat) (len pb : Nat → Nat) (pa : Nat → Option Addr) (pk : Nat → Nat) (k0 : Int) (w : World) (hn : n ≤ 8000) (h0 : 0 ≤ k0) (h1 : k0 ≤ 1000000) (hl : ∀ q, q < n → len q ≤ 200) (h : CMk w B n len pb pa pk (Kc len k0) 0) (hB : ∀ q, q < n → 0 < len q → pb q ≠ B) (hd : ∀ q q', q < n → q' < n → q ≠ q' → 0 < len q → 0 < len q' → pb q ≠ pb q') (S : Nat → Prop) (hS : S B) (hp : ∀ q, q < n → 0 < len q → S (pb q)) :
    Calls Tryz.prog 59 #[.slice (some ⟨B, 0, none⟩) n cap, .int .i64 k0] w fun e w' => e = .returned (.int .i64 (Kc len k0 n)) ∧ CMk w' B n len pb pa pk (Kc len k0) n ∧ Only S w w' := by
  have H0 := hide h
  have HL := hide hl
  clear h hl
  go_enter Tryz.func59, Tryz.ntmps59
  go_wp2_with fail
  go_loopw [1, 5] (fun kk i wr => ∃ k : Nat, k ≤ n ∧ i = .int .i64 k ∧ kk = .int .i64 (Kc len k0 k) ∧ Hid (CMk wr B n len pb pa pk (Kc len k0) k ∧ Only S w wr)) (fun _ i _ => n - (intOf i).toNat)
  case atStart => exact ⟨0, Nat.zero_le _, rfl, rfl, unhide H0, Only.refl _ _⟩
  case round =>
    clear H0
    obtain ⟨k, hk, rfl, rfl, hm⟩ := hrel
    have hbd := Kc_bd (len := len) h0 k (fun p hp => unhide HL p (by omega))
    by_cases hlt : k < n
    · obtain ⟨m, em⟩ : ∃ m, m = Kc len k0 k := ⟨_, rfl⟩
      rw [← em] at hbd ⊢
      have EM := hide em
      have R := hide (put7 (unhide hm).1 hlt hB hS (unhide hm).2)
      rw [← em] at R
      obtain ⟨⟨v0, c0⟩, f0⟩ : Open wr B (k * 8) := (unhide hm).1.o k hlt 0 (by omega)
      obtain ⟨⟨v1, c1⟩, f1⟩ := (unhide hm).1.o k hlt 1 (by omega)
      obtain ⟨⟨v2, c2⟩, f2⟩ := (unhide hm).1.o k hlt 2 (by omega)
      obtain ⟨⟨v3, c3⟩, f3⟩ := (unhide hm).1.o k hlt 3 (by omega)
      obtain ⟨⟨v4, c4⟩, f4⟩ := (unhide hm).1.o k hlt 4 (by omega)
      obtain ⟨⟨v5, c5⟩, f5⟩ := (unhide hm).1.o k hlt 5 (by omega)
      obtain ⟨⟨v6, c6⟩, f6⟩ := (unhide hm).1.o k hlt 6 (by omega)
      have c7 := (unhide hm).1.a k hlt
      have AD := hide ((unhide hm).1.l k hlt)
      have g0 : (0:Int) ≤ (k:Int) := by omega
      have g1 : (k:Int) < (n:Int) := by omega
      have b0 := hbd.1
      have b1 := hbd.2
      have hlk := unhide HL k hlt
      clear hm em hbd
      go_wp2_with fail
      refine (markPairS_row (pa k) (pb k) (len k) (pk k) (m + 1 + 1 + 1 + 1 + 1 + 1 + 1) _ (by omega) (by omega) (by omega) (unhide AD) (fun j hj => (unhide R).1.p k hlt j hj)).mono ?_
      rintro e w2 ⟨rfl, hmk, hop, hon⟩
      have R2 := hide (CMk.next (unhide R).1 (fun i hi => by rw [(unhide R).2.1 i hi, unhide EM]) hlt hB hd (hp k hlt) (unhide R).2.2 (fun j hj => by rw [hmk j hj, ← unhide EM]; congr 2; omega) hop hon)
      have EK := hide (show Kc len k0 (k + 1) = m + 1 + 1 + 1 + 1 + 1 + 1 + 1 + 6 * (len k : Int) by simp only [Kc]; rw [← unhide EM]; omega)
      clear hmk hop hon R
      go_wp2_with fail
      go_roundw
      case rel => exact ⟨k + 1, by omega, by go_num, by rw [unhide EK], (unhide R2).1, (unhide R2).2⟩
      case measure => simp [intOf]; omega
    · have hk2 : k = n := by omega
      subst hk2
      go_wp2_with fail
      go_ret
      exact ⟨rfl, (unhide hm).1, (unhide hm).2⟩

set_option maxRecDepth 100000 in
set_option maxHeartbeats 2000000 in
theorem heldCellS_any (B n cap : Nat) (len pb : Nat → Nat) (pa : Nat → Option Addr) (pk : Nat → Nat) (k0 : Int) (w : World) (hn : n ≤ 8000) (h0 : 0 ≤ k0) (h1 : k0 ≤ 1000000) (hl : ∀ q, q < n → len q ≤ 200) (h : CMk w B n len pb pa pk (Kc len k0) n) :
    Calls Tryz.prog 78 #[.slice (some ⟨B, 0, none⟩) n cap, .int .i64 k0] w fun e w' => e = .returned (.int .i64 (Kc len k0 n)) ∧ w' = w := by
  have H0 := hide h
  have HL := hide hl
  clear h hl
  go_enter Tryz.func78, Tryz.ntmps78
  go_wp2_with fail
  go_loop [1, 5] (fun kk i => ∃ k : Nat, k ≤ n ∧ i = .int .i64 k ∧ kk = .int .i64 (Kc len k0 k)) (fun _ i => n - (intOf i).toNat)
  case atStart => exact ⟨0, Nat.zero_le _, rfl, rfl⟩
  case round =>
    obtain ⟨k, hk, rfl, rfl⟩ := hrel
    have hbd := Kc_bd (len := len) h0 k (fun p hp => unhide HL p (by omega))
    by_cases hlt : k < n
    · obtain ⟨m, em⟩ : ∃ m, m = Kc len k0 k := ⟨_, rfl⟩
      rw [← em] at hbd ⊢
      have EM := hide em
      have hx := (unhide H0).m k hlt
      rw [← em] at hx
      have c0 : w.cell? ⟨B, k * 8, none⟩ = some (iv m) := by have := hx.1 0 (by omega); simpa using this
      have c1 : w.cell? ⟨B, k * 8 + 1, none⟩ = some (iv (m + 1)) := by have := hx.1 1 (by omega); simpa using this
      have c2 : w.cell? ⟨B, k * 8 + 2, none⟩ = some (iv (m + 1 + 1)) := by have := hx.1 2 (by omega); rw [this]; congr 2; omega
      have c3 : w.cell? ⟨B, k * 8 + 3, none⟩ = some (iv (m + 1 + 1 + 1)) := by have := hx.1 3 (by omega); rw [this]; congr 2; omega
      have c4 : w.cell? ⟨B, k * 8 + 4, none⟩ = some (iv (m + 1 + 1 + 1 + 1)) := by have := hx.1 4 (by omega); rw [this]; congr 2; omega
      have c5 : w.cell? ⟨B, k * 8 + 5, none⟩ = some (iv (m + 1 + 1 + 1 + 1 + 1)) := by have := hx.1 5 (by omega); rw [this]; congr 2; omega
      have c6 : w.cell? ⟨B, k * 8 + 6, none⟩ = some (iv (m + 1 + 1 + 1 + 1 + 1 + 1)) := by have := hx.1 6 (by omega); rw [this]; congr 2; omega
      have c7 := (unhide H0).a k hlt
      have AD := hide ((unhide H0).l k hlt)
      have HX := hide hx.2
      have g0 : (0:Int) ≤ (k:Int) := by omega
      have g1 : (k:Int) < (n:Int) := by omega
      have b0 := hbd.1
      have b1 := hbd.2
      have hlk := unhide HL k hlt
      have EK := hide (show Kc len k0 (k + 1) = m + 1 + 1 + 1 + 1 + 1 + 1 + 1 + 6 * (len k : Int) by simp only [Kc]; rw [← em]; omega)
      clear hx em hbd
      go_wp2_with fail
      refine (heldPairS_row (pa k) (pb k) (len k) (pk k) (m + 1 + 1 + 1 + 1 + 1 + 1 + 1) _ (by omega) (by omega) (by omega) (unhide AD) (fun j hj => by rw [unhide HX j hj]; congr 2; omega)).mono ?_
      rintro e w2 ⟨rfl, rfl⟩
      go_wp2_with fail
      go_round
      case rel => exact ⟨k + 1, by omega, by go_num, by rw [unhide EK]⟩
      case measure => simp [intOf]; omega
    · have hk2 : k = n := by omega
      subst hk2
      go_wp2_with fail
      go_ret
      exact ⟨rfl, rfl⟩
end Go.Proofs.YtkabcfhemljnbaaGreat

namespace Go.Proofs.YtkabcfhemljnbaaGreat
open Go.RowKit
attribute [local go_sem ↓] Go.wp_at_zero Go.wp_at_succ

/-! A heap as an answer: read, owned, marked. -/
/-- rows of its own, in blocks from B on below U, apart from one another -/
structure HRow (B U : Nat) (w : World) (x : Hp) (br kr bc kc bg kg : Nat) (pb : Nat → Nat) (pa : Nat → Option Addr) (pk : Nat → Nat) : Prop where
  r : SlW w (.slice (some ⟨br, 0, none⟩) x.regs.length kr) x.regs
  s : ∀ q, q < x.cells.length → w.cell? ⟨bc, q * 8, none⟩ = some (iv (x.c q).st) ∧ w.cell? ⟨bc, q * 8 + 1, none⟩ = some (iv (x.c q).kind) ∧ w.cell? ⟨bc, q * 8 + 2, none⟩ = some (iv (x.c q).weak) ∧ w.cell? ⟨bc, q * 8 + 3, none⟩ = some (iv (x.c q).last) ∧ w.cell? ⟨bc, q * 8 + 4, none⟩ = some (iv (x.c q).born) ∧ w.cell? ⟨bc, q * 8 + 5, none⟩ = some (iv (x.c q).color) ∧ w.cell? ⟨bc, q * 8 + 6, none⟩ = some (iv (x.c q).to)
  p : ∀ q, q < x.cells.length → SlP w (.slice (pa q) (x.c q).prs.length (pk q)) (x.c q).prs
  g : SlI w (.slice (some ⟨bg, 0, none⟩) x.gray.length kg) x.gray
  p7 : ∀ q, q < x.cells.length → w.cell? ⟨bc, q * 8 + 7, none⟩ = some (.slice (pa q) (x.c q).prs.length (pk q))
  pl : ∀ q, q < x.cells.length → 0 < (x.c q).prs.length → pa q = some ⟨pb q, 0, none⟩ ∧ Nf1 (pb q) w ∧ (pb q ≠ br ∧ pb q ≠ bc ∧ pb q ≠ bg) ∧ B ≤ pb q ∧ pb q < U
  nr : Nf1 br w
  nc : Nf1 bc w
  ng : Nf1 bg w
  d : br ≠ bc ∧ br ≠ bg ∧ bc ≠ bg
  dp : ∀ q q', q < x.cells.length → q' < x.cells.length → q ≠ q' → 0 < (x.c q).prs.length → 0 < (x.c q').prs.length → pb q ≠ pb q'
  b : (B ≤ br ∧ br < U) ∧ (B ≤ bc ∧ bc < U) ∧ (B ≤ bg ∧ bg < U)
  l : x.regs.length ≤ 100 ∧ x.cells.length ≤ 8000 ∧ x.gray.length ≤ 8000 ∧ ∀ q, q < x.cells.length → (x.c q).prs.length ≤ 200
theorem nf1_only {S : Nat → Prop} {w w' : World} {B : Nat} (h : Nf1 B w) (k : Only S w w') (hs : ¬ S B) : Nf1 B w' := ⟨Nat.lt_of_lt_of_le h.1 k.size, fun j => by rw [k.frozen h.1 hs]; exact h.2 j⟩
theorem HRow.ext {B U : Nat} {w w' : World} {x : Hp} {br kr bc kc bg kg : Nat} {pb : Nat → Nat} {pa : Nat → Option Addr} {pk : Nat → Nat} (h : HRow B U w x br kr bc kc bg kg pb pa pk) (e : Ext w w') : HRow B U w' x br kr bc kc bg kg pb pa pk :=
  ⟨SlW.ext e h.r, fun q hq => let ⟨a0, a1, a2, a3, a4, a5, a6⟩ := h.s q hq; ⟨e.keep a0, e.keep a1, e.keep a2, e.keep a3, e.keep a4, e.keep a5, e.keep a6⟩, fun q hq => SlP.ext e (h.p q hq), SlI.ext e h.g, fun q hq => e.keep (h.p7 q hq), fun q hq hl => let ⟨a, b, c⟩ := h.pl q hq hl; ⟨a, b.ext e, c⟩, h.nr.ext e, h.nc.ext e, h.ng.ext e, h.d, h.dp, h.b, h.l⟩
theorem HRow.only {S : Nat → Prop} {B U : Nat} {w w' : World} {x : Hp} {br kr bc kc bg kg : Nat} {pb : Nat → Nat} {pa : Nat → Option Addr} {pk : Nat → Nat} (h : HRow B U w x br kr bc kc bg kg pb pa pk) (e : Only S w w') (hs : ∀ q, B ≤ q → q < U → ¬ S q) : HRow B U w' x br kr bc kc bg kg pb pa pk := by
  have nr := hs _ h.b.1.1 h.b.1.2
  have nc := hs _ h.b.2.1.1 h.b.2.1.2
  have ng := hs _ h.b.2.2.1 h.b.2.2.2
  refine ⟨SlOf.mono2 h.r fun b o n c z o' y hy => ?_, fun q hq => let ⟨a0, a1, a2, a3, a4, a5, a6⟩ := h.s q hq; ⟨e.keep nc a0, e.keep nc a1, e.keep nc a2, e.keep nc a3, e.keep nc a4, e.keep nc a5, e.keep nc a6⟩, fun q hq => ?_, SlOf.mono2 h.g fun b o n c z o' y hy => ?_, fun q hq => e.keep nc (h.p7 q hq), fun q hq hl => let ⟨a, b, c⟩ := h.pl q hq hl; ⟨a, nf1_only b e (hs _ c.2.1 c.2.2), c⟩, nf1_only h.nr e nr, nf1_only h.nc e nc, nf1_only h.ng e ng, h.d, h.dp, h.b, h.l⟩
  · simp only [Value.slice.injEq, Option.some.injEq, Addr.mk.injEq] at z
    obtain ⟨⟨rfl, _, _⟩, _, _⟩ := z
    exact ⟨e.keep nr hy.1, e.keep nr hy.2.1, e.keep nr hy.2.2⟩
  · rcases Nat.eq_zero_or_pos (x.c q).prs.length with z | z
    · have z2 : (x.c q).prs = [] := List.eq_nil_of_length_eq_zero z
      rw [z2]; exact SlOf.nil
    · obtain ⟨a, _, c⟩ := h.pl q hq z
      refine slP_only e (fun b o n k e2 => ?_) (h.p q hq)
      rw [a] at e2
      simp only [Value.slice.injEq, Option.some.injEq, Addr.mk.injEq] at e2
      rw [← e2.1.1]; exact hs _ c.2.1 c.2.2
  · simp only [Value.slice.injEq, Option.some.injEq, Addr.mk.injEq] at z
    obtain ⟨⟨rfl, _, _⟩, _, _⟩ := z
    exact e.keep ng hy
theorem HRow.cs {B U : Nat} {w : World} {x : Hp} {br kr bc kc bg kg : Nat} {pb : Nat → Nat} {pa : Nat → Option Addr} {pk : Nat → Nat} (h : HRow B U w x br kr bc kc bg kg pb pa pk) : SlC w (.slice (some ⟨bc, 0, none⟩) x.cells.length kc) x.cells := by
  refine ⟨_, _, rfl, by have := h.l.2.1; omega, fun i hi => ⟨bc, 0, rfl, ?_⟩⟩
  have e : x.c i = x.cells[i] := (Hp.c_eq x i hi).symm
  obtain ⟨a0, a1, a2, a3, a4, a5, a6⟩ := h.s i hi
  have hp := h.p i hi
  have h7 := h.p7 i hi
  rw [e] at a0 a1 a2 a3 a4 a5 a6 hp h7
  rw [Nat.zero_add]
  exact ⟨_, a0, a1, a2, a3, a4, a5, a6, h7, hp⟩
/-- the marks in it: k is the number behind them -/
def HMd (w : World) (br nr bc n bg ng : Nat) (len pb : Nat → Nat) (pa : Nat → Option Addr) (pk : Nat → Nat) : Prop := (∀ j, j < 3 * nr → w.cell? ⟨br, 0 + j, none⟩ = some (iv (1 + j))) ∧ CMk w bc n len pb pa pk (Kc len (1 + 3 * nr)) n ∧ ∀ j, j < ng → w.cell? ⟨bg, 0 + j, none⟩ = some (iv (Kc len (1 + 3 * nr) n + j))
theorem HMd.ext {w w' : World} {br nr bc n bg ng : Nat} {len pb : Nat → Nat} {pa : Nat → Option Addr} {pk : Nat → Nat} (h : HMd w br nr bc n bg ng len pb pa pk) (e : Ext w w') : HMd w' br nr bc n bg ng len pb pa pk := ⟨fun j hj => e.keep (h.1 j hj), h.2.1.ext e, fun j hj => e.keep (h.2.2 j hj)⟩
theorem slW_cell {w : World} {b n k : Nat} {xs : List Wd} (h : SlW w (.slice (some ⟨b, 0, none⟩) n k) xs) (j : Nat) (hj : j < 3 * xs.length) : ∃ v, w.cell? ⟨b, 0 + j, none⟩ = some v := by
  obtain ⟨ad, cap, e1, _, e2⟩ := h
  obtain ⟨b', o', e3, p⟩ := e2 (j / 3) (by omega)
  simp only [Value.slice.injEq] at e1
  rw [e3] at e1
  simp only [Option.some.injEq, Addr.mk.injEq] at e1
  obtain ⟨⟨rfl, rfl, _⟩, _⟩ := e1
  obtain ⟨p0, p1, p2⟩ := p
  have hm : j = (j / 3) * 3 + j % 3 := by omega
  rcases (by omega : j % 3 = 0 ∨ j % 3 = 1 ∨ j % 3 = 2) with z | z | z <;> rw [hm, z]
  · exact ⟨_, p0⟩
  · exact ⟨_, p1⟩
  · exact ⟨_, p2⟩
theorem slP_cell {w : World} {b n k : Nat} {xs : List Pr} (h : SlP w (.slice (some ⟨b, 0, none⟩) n k) xs) (j : Nat) (hj : j < 6 * xs.length) : ∃ v, w.cell? ⟨b, 0 + j, none⟩ = some v := by
  obtain ⟨ad, cap, e1, _, e2⟩ := h
  obtain ⟨b', o', e3, p⟩ := e2 (j / 6) (by omega)
  simp only [Value.slice.injEq] at e1
  rw [e3] at e1
  simp only [Option.some.injEq, Addr.mk.injEq] at e1
  obtain ⟨⟨rfl, rfl, _⟩, _⟩ := e1
  obtain ⟨p0, p1, p2, p3, p4, p5⟩ := p
  have hm : j = (j / 6) * 6 + j % 6 := by omega
  rcases (by omega : j % 6 = 0 ∨ j % 6 = 1 ∨ j % 6 = 2 ∨ j % 6 = 3 ∨ j % 6 = 4 ∨ j % 6 = 5) with z | z | z | z | z | z <;> rw [hm, z]
  · exact ⟨_, p0⟩
  · exact ⟨_, p1⟩
  · exact ⟨_, p2⟩
  · exact ⟨_, p3⟩
  · exact ⟨_, p4⟩
  · exact ⟨_, p5⟩
theorem slI_cell {w : World} {b n k : Nat} {xs : List Int} (h : SlI w (.slice (some ⟨b, 0, none⟩) n k) xs) (j : Nat) (hj : j < xs.length) : ∃ v, w.cell? ⟨b, 0 + j, none⟩ = some v := by
  obtain ⟨ad, cap, e1, _, e2⟩ := h
  obtain ⟨b', o', e3, p⟩ := e2 j hj
  simp only [Value.slice.injEq] at e1
  rw [e3] at e1
  simp only [Option.some.injEq, Addr.mk.injEq] at e1
  obtain ⟨⟨rfl, rfl, _⟩, _⟩ := e1
  rw [Nat.mul_one] at p
  exact ⟨_, p⟩
theorem HRow.cmk {B U : Nat} {w : World} {x : Hp} {br kr bc kc bg kg : Nat} {pb : Nat → Nat} {pa : Nat → Option Addr} {pk : Nat → Nat} (h : HRow B U w x br kr bc kc bg kg pb pa pk) (K : Nat → Int) : CMk w bc x.cells.length (fun q => (x.c q).prs.length) pb pa pk K 0 where
  a := h.p7
  l := fun q hq hl => (h.pl q hq hl).1
  o := fun q hq i hi => ⟨by
    obtain ⟨a0, a1, a2, a3, a4, a5, a6⟩ := h.s q hq
    rcases (by omega : i = 0 ∨ i = 1 ∨ i = 2 ∨ i = 3 ∨ i = 4 ∨ i = 5 ∨ i = 6) with z | z | z | z | z | z | z <;> subst z
    · exact ⟨_, a0⟩
    · exact ⟨_, a1⟩
    · exact ⟨_, a2⟩
    · exact ⟨_, a3⟩
    · exact ⟨_, a4⟩
    · exact ⟨_, a5⟩
    · exact ⟨_, a6⟩, h.nc.2 _⟩
  p := fun q hq j hj => by
    obtain ⟨a, b, _⟩ := h.pl q hq (by omega)
    have hp := h.p q hq
    rw [a] at hp
    exact ⟨slP_cell hp j hj, b.2 _⟩
  m := fun q hq => by omega

set_option maxRecDepth 100000 in
set_option maxHeartbeats 2000000 in
theorem markHeap_any (x y : Hp) (B U : Nat) (w : World) {br kr bc kc bg kg : Nat} {pb : Nat → Nat} {pa : Nat → Option Addr} {pk : Nat → Nat} (h : HRow B U w x br kr bc kc bg kg pb pa pk) (hU : U ≤ w.heap.size) :
    Calls Tryz.prog 18 #[y.v (.slice (some ⟨br, 0, none⟩) x.regs.length kr) (.slice (some ⟨bc, 0, none⟩) x.cells.length kc) (.slice (some ⟨bg, 0, none⟩) x.gray.length kg), .int .i64 1] w fun e w' => e = .returned (.int .i64 (Kc (fun q => (x.c q).prs.length) (1 + 3 * x.regs.length) x.cells.length + x.gray.length)) ∧ HMd w' br x.regs.length bc x.cells.length bg x.gray.length (fun q => (x.c q).prs.length) pb pa pk ∧ ∃ w1, Ext w w1 ∧ Only (fun q => B ≤ q ∧ q < U) w1 w' := by
  have x1 := (Ext.refl w).alloc (.cells #[iv y.room, iv y.used, iv y.born, .slice (some ⟨br, 0, none⟩) x.regs.length kr, .slice (some ⟨bc, 0, none⟩) x.cells.length kc, iv y.phase, iv y.hand, iv y.sub, .slice (some ⟨bg, 0, none⟩) x.gray.length kg, iv y.per, iv y.start, iv y.rounds, iv y.forced] 33)
  have H := hide (h.ext x1)
  have l1 := h.l.1
  have l2 := h.l.2.1
  have l3 := h.l.2.2.1
  have hbd := Kc_bd (len := fun q => (x.c q).prs.length) (k0 := 1 + 3 * x.regs.length) (by omega) x.cells.length (fun p hp => h.l.2.2.2 p hp)
  have nbr : ¬ w.heap.size = br := fun e => by have := h.b.1.2; omega
  have nbc : ¬ w.heap.size = bc := fun e => by have := h.b.2.1.2; omega
  have nbg : ¬ w.heap.size = bg := fun e => by have := h.b.2.2.2; omega
  clear h
  go_enter Tryz.func18, Tryz.ntmps18
  go_wp2_with fail
  refine (markWordS_row (some ⟨br, 0, none⟩) br x.regs.length kr 1 _ (by omega) (by omega) (by omega) (fun _ => rfl) (fun j hj => ⟨slW_cell (unhide H).r j hj, (unhide H).nr.2 _⟩)).mono ?_
  rintro e w1 ⟨rfl, hm1, _, ho1⟩
  have c4 : w1.cell? ⟨w.heap.size, 4, none⟩ = some (.slice (some ⟨bc, 0, none⟩) x.cells.length kc) := ho1.keep (fun e => nbr e.1) (by simp [go_sem])
  have c8 : w1.cell? ⟨w.heap.size, 8, none⟩ = some (.slice (some ⟨bg, 0, none⟩) x.gray.length kg) := ho1.keep (fun e => nbr e.1) (by simp [go_sem])
  have M1 := hide (CMk.only ((unhide H).cmk (Kc (fun q => (x.c q).prs.length) (1 + 3 * x.regs.length))) ho1 (Nat.zero_le _) (fun e => (unhide H).d.1 e.1.symm) (fun q hq hl e => ((unhide H).pl q hq hl).2.2.1.1 e.1))
  have C1 := hide hm1
  have O1 := hide ho1
  clear hm1 ho1
  go_wp2_with fail
  refine (markCellS_any bc x.cells.length kc (fun q => (x.c q).prs.length) pb pa pk (1 + 3 * x.regs.length) _ l2 (by omega) (by omega) (unhide H).l.2.2.2 (unhide M1) (fun q hq hl => ((unhide H).pl q hq hl).2.2.1.2.1) (unhide H).dp (fun q => (B ≤ q ∧ q < U) ∧ q ≠ br ∧ q ≠ bg) ⟨(unhide H).b.2.1, fun e => (unhide H).d.1 e.symm, (unhide H).d.2.2⟩ (fun q hq hl => ⟨((unhide H).pl q hq hl).2.2.2, ((unhide H).pl q hq hl).2.2.1.1, ((unhide H).pl q hq hl).2.2.1.2.2⟩)).mono ?_
  rintro e w2 ⟨rfl, hm2, ho2⟩
  have c8 : w2.cell? ⟨w.heap.size, 8, none⟩ = some (.slice (some ⟨bg, 0, none⟩) x.gray.length kg) := ho2.keep (fun e => by have := e.1.2; omega) c8
  have G2 := hide (show ∀ j, j < x.gray.length → Open w2 bg (0 + j) from fun j hj => open_only (open_only ⟨slI_cell (unhide H).g j hj, (unhide H).ng.2 _⟩ (unhide O1) (fun e => (unhide H).d.2.1 e.1.symm)) ho2 (fun e => e.2.2 rfl))
  have C2 := hide (show ∀ j, j < 3 * x.regs.length → w2.cell? ⟨br, 0 + j, none⟩ = some (iv (1 + j)) from fun j hj => ho2.keep (fun e => e.2.1 rfl) (unhide C1 j hj))
  have M2 := hide hm2
  have O2 := hide ho2
  obtain ⟨m, em⟩ : ∃ m, m = Kc (fun q => (x.c q).prs.length) (1 + 3 * x.regs.length) x.cells.length := ⟨_, rfl⟩
  have EM := hide em
  rw [← em] at hbd ⊢
  clear hm2 ho2 em c4
  go_wp2_with fail
  refine (markIntS_row (some ⟨bg, 0, none⟩) bg x.gray.length kg m _ (by omega) (by omega) (by omega) (fun _ => rfl) (unhide G2)).mono ?_
  rintro e w3 ⟨rfl, hm3, _, ho3⟩
  have FIN := hide (show HMd w3 br x.regs.length bc x.cells.length bg x.gray.length (fun q => (x.c q).prs.length) pb pa pk from ⟨fun j hj => ho3.keep (fun e => (unhide H).d.2.1 e.1) (unhide C2 j hj), CMk.only (unhide M2) ho3 (Nat.le_refl _) (fun e => (unhide H).d.2.2 e.1) (fun q hq hl e => ((unhide H).pl q hq hl).2.2.1.2.2 e.1), fun j hj => by rw [← unhide EM]; exact hm3 j hj⟩)
  have FO := hide ((((unhide O1).mono (T := fun q => B ≤ q ∧ q < U) (fun q e => by rw [e.1]; exact (unhide H).b.1)).trans ((unhide O2).mono (fun q e => e.1))).trans (ho3.mono (fun q e => by rw [e.1]; exact (unhide H).b.2.2)))
  clear hm3 ho3
  go_wp2_with fail
  go_ret
  exact ⟨by have := unhide EM; subst this; rfl, unhide FIN, _, x1, unhide FO⟩

set_option maxRecDepth 100000 in
set_option maxHeartbeats 2000000 in
theorem heldHeap_any (y : Hp) (w : World) (br nr kr bc n kc bg ng kg : Nat) (len pb : Nat → Nat) (pa : Nat → Option Addr) (pk : Nat → Nat) (l1 : nr ≤ 100) (l2 : n ≤ 8000) (l3 : ng ≤ 8000) (hl : ∀ q, q < n → len q ≤ 200) (h : HMd w br nr bc n bg ng len pb pa pk) :
    Calls Tryz.prog 34 #[y.v (.slice (some ⟨br, 0, none⟩) nr kr) (.slice (some ⟨bc, 0, none⟩) n kc) (.slice (some ⟨bg, 0, none⟩) ng kg), .int .i64 1] w fun e w' => e = .returned (.int .i64 (Kc len (1 + 3 * nr) n + ng)) ∧ Ext w w' := by
  have x1 := (Ext.refl w).alloc (.cells #[iv y.room, iv y.used, iv y.born, .slice (some ⟨br, 0, none⟩) nr kr, .slice (some ⟨bc, 0, none⟩) n kc, iv y.phase, iv y.hand, iv y.sub, .slice (some ⟨bg, 0, none⟩) ng kg, iv y.per, iv y.start, iv y.rounds, iv y.forced] 33)
  have H := hide (h.ext x1)
  have hbd := Kc_bd (len := len) (k0 := 1 + 3 * nr) (by omega) n (fun p hp => hl p hp)
  obtain ⟨m, em⟩ : ∃ m, m = Kc len (1 + 3 * nr) n := ⟨_, rfl⟩
  have EM := hide em
  rw [← em] at hbd ⊢
  have hm0 : ¬ m < 0 := by omega
  have hm1 : ¬ (1 + 3 * (nr : Int)) < 0 := by omega
  have hm2 : ¬ m + (ng : Int) < 0 := by omega
  clear h em
  go_enter Tryz.func34, Tryz.ntmps34
  go_wp2_with fail
  refine (heldWordS_row (some ⟨br, 0, none⟩) br nr kr 1 _ (by omega) (by omega) (by omega) (fun _ => rfl) (unhide H).1).mono ?_
  rintro e w1 ⟨rfl, rfl⟩
  go_wp2_with fail
  refine (heldCellS_any bc n kc len pb pa pk (1 + 3 * nr) _ l2 (by omega) (by omega) hl (unhide H).2.1).mono ?_
  rintro e w2 ⟨rfl, rfl⟩
  rw [← unhide EM]
  go_wp2_with fail
  refine (heldIntS_row (some ⟨bg, 0, none⟩) bg ng kg m _ (by omega) (by omega) (by omega) (fun _ => rfl) (fun j hj => by rw [unhide EM]; exact (unhide H).2.2 j hj)).mono ?_
  rintro e w3 ⟨rfl, rfl⟩
  go_wp2_with fail
  go_ret
  exact ⟨rfl, x1⟩
end Go.Proofs.YtkabcfhemljnbaaGreat
