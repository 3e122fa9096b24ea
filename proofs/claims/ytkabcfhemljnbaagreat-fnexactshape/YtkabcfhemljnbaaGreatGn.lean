import Derived.Test.YtkabcfhemljnbaaGreatBase
import Derived.Test.YtkabcfhemljnbaaGreatBo2
import Derived.Test.YtkabcfhemljnbaaGreatNb6
namespace Go.Proofs.YtkabcfhemljnbaaGreat
open Go.RowKit
attribute [local go_sem ↓] Go.wp_at_zero Go.wp_at_succ

/-! markWordS writes the numbers from k on into the cells of the row, heldWordS finds them there. -/
theorem mark_step {w wr : World} {b o n k : Nat} {k0 : Int} (hk : k < n) (hm : ∀ j, j < 3 * k → wr.cell? ⟨b, o + j, none⟩ = some (iv (k0 + j))) (ho : ∀ j, j < 3 * n → Open wr b (o + j)) (hon : Only (fun q => q = b) w wr) :
    let W := ((wr.setCell ⟨b, o + k * 3, none⟩ (iv (k0 + 3 * k))).setCell ⟨b, o + k * 3 + 1, none⟩ (iv (k0 + 3 * k + 1))).setCell ⟨b, o + k * 3 + 2, none⟩ (iv (k0 + 3 * k + 1 + 1))
    (∀ j, j < 3 * (k + 1) → W.cell? ⟨b, o + j, none⟩ = some (iv (k0 + j))) ∧ (∀ j, j < 3 * n → Open W b (o + j)) ∧ Only (fun q => q = b) w W := by
  intro W
  refine ⟨?_, fun j hj => (((ho j hj).set _ _).set _ _).set _ _, ((hon.setCell rfl _).setCell rfl _).setCell rfl _⟩
  intro j hj
  have o0 : Open wr b (o + k * 3) := by rw [Nat.mul_comm]; exact ho (3 * k) (by omega)
  have o1 : Open wr b (o + k * 3 + 1) := by rw [Nat.mul_comm]; exact ho (3 * k + 1) (by omega)
  have o2 : Open wr b (o + k * 3 + 2) := by rw [Nat.mul_comm]; exact ho (3 * k + 2) (by omega)
  by_cases h2 : j = 3 * k + 2
  · subst h2
    have e : o + (3 * k + 2) = o + k * 3 + 2 := by omega
    rw [e]
    show (World.setCell _ _ _).cell? _ = _
    rw [((o2.set _ _).set _ _).same]
    congr 2; omega
  · show (World.setCell _ _ _).cell? _ = _
    rw [cell_other _ (Or.inr (by omega))]
    by_cases h1 : j = 3 * k + 1
    · subst h1
      have e : o + (3 * k + 1) = o + k * 3 + 1 := by omega
      rw [e, (o1.set _ _).same]
      congr 2; omega
    · rw [cell_other _ (Or.inr (by omega))]
      by_cases h0 : j = 3 * k
      · subst h0
        have e : o + 3 * k = o + k * 3 := by omega
        rw [e, o0.same]
        congr 2
      · rw [cell_other _ (Or.inr (by omega))]
        exact hm j (by omega)

set_option maxHeartbeats 1000000 in
theorem markWordS_any (b o n cap : Nat) (k0 : Int) (w : World) (hn : n ≤ 1099511627776) (h0 : 0 ≤ k0) (h1 : k0 ≤ 1099511627776) (ho : ∀ j, j < 3 * n → Open w b (o + j)) :
    Calls Tryz.prog 58 #[.slice (some ⟨b, o, none⟩) n cap, .int .i64 k0] w fun e w' =>
      e = .returned (.int .i64 (k0 + 3 * n)) ∧ (∀ j, j < 3 * n → w'.cell? ⟨b, o + j, none⟩ = some (iv (k0 + j))) ∧ (∀ j, j < 3 * n → Open w' b (o + j)) ∧ Only (fun q => q = b) w w' := by
  go_enter Tryz.func58, Tryz.ntmps58
  go_wp2
  go_loopw [1, 5] (fun kk i wr => ∃ k : Nat, k ≤ n ∧ i = .int .i64 k ∧ kk = .int .i64 (k0 + 3 * k) ∧ (∀ j, j < 3 * k → wr.cell? ⟨b, o + j, none⟩ = some (iv (k0 + j))) ∧ (∀ j, j < 3 * n → Open wr b (o + j)) ∧ Only (fun q => q = b) w wr) (fun _ i _ => n - (intOf i).toNat)
  case atStart => exact ⟨0, Nat.zero_le _, rfl, by simp, fun j hj => by omega, ho, Only.refl _ _⟩
  case round =>
    obtain ⟨k, hk, rfl, rfl, hm, hop, hon⟩ := hrel
    by_cases hlt : k < n
    · have R := mark_step hlt hm hop hon
      have HR := hide R
      obtain ⟨⟨v0, c0⟩, f0⟩ : Open wr b (o + k * 3) := by rw [Nat.mul_comm]; exact hop (3 * k) (by omega)
      obtain ⟨⟨v1, c1⟩, f1⟩ : Open wr b (o + k * 3 + 1) := by rw [Nat.mul_comm]; exact hop (3 * k + 1) (by omega)
      obtain ⟨⟨v2, c2⟩, f2⟩ : Open wr b (o + k * 3 + 2) := by rw [Nat.mul_comm]; exact hop (3 * k + 2) (by omega)
      clear R hm hop hon
      go_wp2
      go_roundw
      case rel => exact ⟨k + 1, by omega, by go_num, by go_num, (unhide HR).1, (unhide HR).2.1, (unhide HR).2.2⟩
      case measure => simp [intOf]; omega
    · obtain rfl : k = n := by omega
      go_wp2
      go_ret
      exact ⟨rfl, hm, hop, hon⟩

set_option maxHeartbeats 1000000 in
theorem heldWordS_any (b o n cap : Nat) (k0 : Int) (w : World) (hn : n ≤ 1099511627776) (h0 : 0 ≤ k0) (h1 : k0 ≤ 1099511627776) (hm : ∀ j, j < 3 * n → w.cell? ⟨b, o + j, none⟩ = some (iv (k0 + j))) :
    Calls Tryz.prog 70 #[.slice (some ⟨b, o, none⟩) n cap, .int .i64 k0] w fun e w' =>
      e = .returned (.int .i64 (k0 + 3 * n)) ∧ w' = w := by
  go_enter Tryz.func70, Tryz.ntmps70
  go_wp2
  go_loop [1, 5] (fun kk i => ∃ k : Nat, k ≤ n ∧ i = .int .i64 k ∧ kk = .int .i64 (k0 + 3 * k)) (fun _ i => n - (intOf i).toNat)
  case atStart => exact ⟨0, Nat.zero_le _, rfl, by simp⟩
  case round =>
    obtain ⟨k, hk, rfl, rfl⟩ := hrel
    by_cases hlt : k < n
    · have c0 : w.cell? ⟨b, o + k * 3, none⟩ = some (iv (k0 + 3 * k)) := by rw [Nat.mul_comm, hm (3 * k) (by omega)]; congr 2
      have c1 : w.cell? ⟨b, o + k * 3 + 1, none⟩ = some (iv (k0 + 3 * k + 1)) := by rw [Nat.mul_comm, Nat.add_assoc, hm (3 * k + 1) (by omega)]; congr 2; omega
      have c2 : w.cell? ⟨b, o + k * 3 + 2, none⟩ = some (iv (k0 + 3 * k + 1 + 1)) := by rw [Nat.mul_comm, Nat.add_assoc, hm (3 * k + 2) (by omega)]; congr 2; omega
      go_wp2
      go_round
      case rel => exact ⟨k + 1, by omega, by go_num, by go_num⟩
      case measure => simp [intOf]; omega
    · obtain rfl : k = n := by omega
      go_wp2
      go_ret
      exact ⟨rfl, rfl⟩
end Go.Proofs.YtkabcfhemljnbaaGreat

namespace Go.Proofs.YtkabcfhemljnbaaGreat
open Go.RowKit
attribute [local go_sem ↓] Go.wp_at_zero Go.wp_at_succ

set_option maxHeartbeats 1000000 in
/-- markIntS writes the numbers from k0 on -/
theorem markIntS_any (b o n cap : Nat) (k0 : Int) (w : World) (hn : n ≤ 1099511627776) (h0 : 0 ≤ k0) (h1 : k0 ≤ 1099511627776) (ho : ∀ j, j < n → Open w b (o + j)) :
    Calls Tryz.prog 60 #[.slice (some ⟨b, o, none⟩) n cap, .int .i64 k0] w fun e w' =>
      e = .returned (.int .i64 (k0 + n)) ∧ (∀ j, j < n → w'.cell? ⟨b, o + j, none⟩ = some (iv (k0 + j))) ∧ (∀ j, j < n → Open w' b (o + j)) ∧ Only (fun q => q = b) w w' := by
  have H0 := hide ho
  clear ho
  go_enter Tryz.func60, Tryz.ntmps60
  go_wp2_with fail
  go_loopw [1, 5] (fun kk i wr => ∃ k : Nat, k ≤ n ∧ i = .int .i64 k ∧ kk = .int .i64 (k0 + k) ∧ Hid ((∀ j, j < k → wr.cell? ⟨b, o + j, none⟩ = some (iv (k0 + j))) ∧ (∀ j, j < n → Open wr b (o + j)) ∧ Only (fun q => q = b) w wr)) (fun _ i _ => n - (intOf i).toNat)
  case atStart => exact ⟨0, Nat.zero_le _, rfl, by simp, fun j hj => by omega, unhide H0, Only.refl _ _⟩
  case round =>
    obtain ⟨k, hk, rfl, rfl, hm⟩ := hrel
    by_cases hlt : k < n
    · have R := hide (show (∀ j, j < k + 1 → (wr.setCell ⟨b, o + k, none⟩ (iv (k0 + k))).cell? ⟨b, o + j, none⟩ = some (iv (k0 + j))) ∧ (∀ j, j < n → Open (wr.setCell ⟨b, o + k, none⟩ (iv (k0 + k))) b (o + j)) ∧ Only (fun q => q = b) w (wr.setCell ⟨b, o + k, none⟩ (iv (k0 + k))) from
        ⟨fun j hj => by
          by_cases e : j = k
          · subst e; exact ((unhide hm).2.1 j hlt).same _
          · rw [cell_other _ (.inr (by omega))]; exact (unhide hm).1 j (by omega), fun j hj => ((unhide hm).2.1 j hj).set _ _, (unhide hm).2.2.setCell rfl _⟩)
      obtain ⟨⟨v0, c0⟩, f0⟩ : Open wr b (o + k) := (unhide hm).2.1 k hlt
      have g0 : (0:Int) ≤ (k:Int) := by omega
      have g1 : (k:Int) < (n:Int) := by omega
      go_wp2_with fail
      go_roundw
      case rel => exact ⟨k + 1, by omega, by go_num, by go_num, (unhide R).1, (unhide R).2.1, (unhide R).2.2⟩
      case measure => simp [intOf]; omega
    · have hk2 : k = n := by omega
      subst hk2
      go_wp2_with fail
      go_ret
      exact ⟨rfl, (unhide hm).1, (unhide hm).2.1, (unhide hm).2.2⟩

theorem mark6_step {w wr : World} {b o n k : Nat} {k0 : Int} (hk : k < n) (hm : ∀ j, j < 6 * k → wr.cell? ⟨b, o + j, none⟩ = some (iv (k0 + j))) (ho : ∀ j, j < 6 * n → Open wr b (o + j)) (hon : Only (fun q => q = b) w wr) :
    let W := ((((((wr.setCell ⟨b, o + k * 6, none⟩ (iv (k0 + 6 * k))).setCell ⟨b, o + k * 6 + 1, none⟩ (iv (k0 + 6 * k + 1))).setCell ⟨b, o + k * 6 + 2, none⟩ (iv (k0 + 6 * k + 1 + 1))).setCell ⟨b, o + k * 6 + 3, none⟩ (iv (k0 + 6 * k + 1 + 1 + 1))).setCell ⟨b, o + k * 6 + 4, none⟩ (iv (k0 + 6 * k + 1 + 1 + 1 + 1))).setCell ⟨b, o + k * 6 + 5, none⟩ (iv (k0 + 6 * k + 1 + 1 + 1 + 1 + 1)))
    (∀ j, j < 6 * (k + 1) → W.cell? ⟨b, o + j, none⟩ = some (iv (k0 + j))) ∧ (∀ j, j < 6 * n → Open W b (o + j)) ∧ Only (fun q => q = b) w W := by
  intro W
  refine ⟨?_, fun j hj => ((((((ho j hj).set _ _).set _ _).set _ _).set _ _).set _ _).set _ _, (((((hon.setCell rfl _).setCell rfl _).setCell rfl _).setCell rfl _).setCell rfl _).setCell rfl _⟩
  intro j hj
  have op : ∀ i, i < 6 → Open wr b (o + k * 6 + i) := fun i hi => by
    have := ho (6 * k + i) (by omega)
    have e : o + (6 * k + i) = o + k * 6 + i := by omega
    rw [e] at this; exact this
  show (World.setCell _ _ _).cell? _ = _
  by_cases h5 : j = 6 * k + 5
  · subst h5
    have e : o + (6 * k + 5) = o + k * 6 + 5 := by omega
    rw [e]
    rw [Open.same (Open.set (Open.set (Open.set (Open.set (Open.set (op 5 (by omega)) _ _) _ _) _ _) _ _) _ _)]
    congr 2; omega
  · rw [cell_other _ (Or.inr (by omega))]
    by_cases h4 : j = 6 * k + 4
    · subst h4
      have e : o + (6 * k + 4) = o + k * 6 + 4 := by omega
      rw [e]
      rw [Open.same (Open.set (Open.set (Open.set (Open.set (op 4 (by omega)) _ _) _ _) _ _) _ _)]
      congr 2; omega
    · rw [cell_other _ (Or.inr (by omega))]
      by_cases h3 : j = 6 * k + 3
      · subst h3
        have e : o + (6 * k + 3) = o + k * 6 + 3 := by omega
        rw [e]
        rw [Open.same (Open.set (Open.set (Open.set (op 3 (by omega)) _ _) _ _) _ _)]
        congr 2; omega
      · rw [cell_other _ (Or.inr (by omega))]
        by_cases h2 : j = 6 * k + 2
        · subst h2
          have e : o + (6 * k + 2) = o + k * 6 + 2 := by omega
          rw [e]
          rw [Open.same (Open.set (Open.set (op 2 (by omega)) _ _) _ _)]
          congr 2; omega
        · rw [cell_other _ (Or.inr (by omega))]
          by_cases h1 : j = 6 * k + 1
          · subst h1
            have e : o + (6 * k + 1) = o + k * 6 + 1 := by omega
            rw [e]
            rw [Open.same (Open.set (op 1 (by omega)) _ _)]
            congr 2; omega
          · rw [cell_other _ (Or.inr (by omega))]
            by_cases h0 : j = 6 * k + 0
            · subst h0
              have e : o + (6 * k + 0) = o + k * 6 := by omega
              rw [e]
              rw [Open.same (show Open wr b (o + k * 6) from op 0 (by omega))]
              congr 2
            · rw [cell_other _ (Or.inr (by omega))]
              exact hm j (by omega)

set_option maxHeartbeats 2000000 in
theorem markPairS_any (b o n cap : Nat) (k0 : Int) (w : World) (hn : n ≤ 1099511627776) (h0 : 0 ≤ k0) (h1 : k0 ≤ 1099511627776) (ho : ∀ j, j < 6 * n → Open w b (o + j)) :
    Calls Tryz.prog 109 #[.slice (some ⟨b, o, none⟩) n cap, .int .i64 k0] w fun e w' =>
      e = .returned (.int .i64 (k0 + 6 * n)) ∧ (∀ j, j < 6 * n → w'.cell? ⟨b, o + j, none⟩ = some (iv (k0 + j))) ∧ (∀ j, j < 6 * n → Open w' b (o + j)) ∧ Only (fun q => q = b) w w' := by
  have H0 := hide ho
  clear ho
  go_enter Tryz.func109, Tryz.ntmps109
  go_wp2_with fail
  go_loopw [1, 5] (fun kk i wr => ∃ k : Nat, k ≤ n ∧ i = .int .i64 k ∧ kk = .int .i64 (k0 + 6 * k) ∧ Hid ((∀ j, j < 6 * k → wr.cell? ⟨b, o + j, none⟩ = some (iv (k0 + j))) ∧ (∀ j, j < 6 * n → Open wr b (o + j)) ∧ Only (fun q => q = b) w wr)) (fun _ i _ => n - (intOf i).toNat)
  case atStart => exact ⟨0, Nat.zero_le _, rfl, by simp, fun j hj => by omega, unhide H0, Only.refl _ _⟩
  case round =>
    obtain ⟨k, hk, rfl, rfl, hm⟩ := hrel
    by_cases hlt : k < n
    · have HR := hide (mark6_step hlt (unhide hm).1 (unhide hm).2.1 (unhide hm).2.2)
      have op : ∀ i, i < 6 → Open wr b (o + k * 6 + i) := fun i hi => by
        have := (unhide hm).2.1 (6 * k + i) (by omega)
        have e : o + (6 * k + i) = o + k * 6 + i := by omega
        rw [e] at this; exact this
      obtain ⟨⟨v0, c0⟩, f0⟩ : Open wr b (o + k * 6) := op 0 (by omega)
      obtain ⟨⟨v1, c1⟩, f1⟩ := op 1 (by omega)
      obtain ⟨⟨v2, c2⟩, f2⟩ := op 2 (by omega)
      obtain ⟨⟨v3, c3⟩, f3⟩ := op 3 (by omega)
      obtain ⟨⟨v4, c4⟩, f4⟩ := op 4 (by omega)
      obtain ⟨⟨v5, c5⟩, f5⟩ := op 5 (by omega)
      have g0 : (0:Int) ≤ (k:Int) := by omega
      have g1 : (k:Int) < (n:Int) := by omega
      clear op
      go_wp2_with fail
      go_roundw
      case rel => exact ⟨k + 1, by omega, by go_num, by go_num, (unhide HR).1, (unhide HR).2.1, (unhide HR).2.2⟩
      case measure => simp [intOf]; omega
    · have hk2 : k = n := by omega
      subst hk2
      go_wp2_with fail
      go_ret
      exact ⟨rfl, (unhide hm).1, (unhide hm).2.1, (unhide hm).2.2⟩
end Go.Proofs.YtkabcfhemljnbaaGreat

namespace Go.Proofs.YtkabcfhemljnbaaGreat
open Go.RowKit
attribute [local go_sem ↓] Go.wp_at_zero Go.wp_at_succ

set_option maxHeartbeats 2000000 in
theorem heldPairS_any (b o n cap : Nat) (k0 : Int) (w : World) (hn : n ≤ 1099511627776) (h0 : 0 ≤ k0) (h1 : k0 ≤ 1099511627776) (hm : ∀ j, j < 6 * n → w.cell? ⟨b, o + j, none⟩ = some (iv (k0 + j))) :
    Calls Tryz.prog 119 #[.slice (some ⟨b, o, none⟩) n cap, .int .i64 k0] w fun e w' => e = .returned (.int .i64 (k0 + 6 * n)) ∧ w' = w := by
  have HM := hide hm
  clear hm
  go_enter Tryz.func119, Tryz.ntmps119
  go_wp2_with fail
  go_loop [1, 5] (fun kk i => ∃ k : Nat, k ≤ n ∧ i = .int .i64 k ∧ kk = .int .i64 (k0 + 6 * k)) (fun _ i => n - (intOf i).toNat)
  case atStart => exact ⟨0, Nat.zero_le _, rfl, by simp⟩
  case round =>
    obtain ⟨k, hk, rfl, rfl⟩ := hrel
    by_cases hlt : k < n
    · have c0 : w.cell? ⟨b, o + k * 6, none⟩ = some (iv (k0 + 6 * k)) := by have := unhide HM (6 * k) (by omega); rw [show o + 6 * k = o + k * 6 by omega] at this; rw [this]; congr 2
      have c1 : w.cell? ⟨b, o + k * 6 + 1, none⟩ = some (iv (k0 + 6 * k + 1)) := by have := unhide HM (6 * k + 1) (by omega); rw [show o + (6 * k + 1) = o + k * 6 + 1 by omega] at this; rw [this]; congr 2; omega
      have c2 : w.cell? ⟨b, o + k * 6 + 2, none⟩ = some (iv (k0 + 6 * k + 1 + 1)) := by have := unhide HM (6 * k + 2) (by omega); rw [show o + (6 * k + 2) = o + k * 6 + 2 by omega] at this; rw [this]; congr 2; omega
      have c3 : w.cell? ⟨b, o + k * 6 + 3, none⟩ = some (iv (k0 + 6 * k + 1 + 1 + 1)) := by have := unhide HM (6 * k + 3) (by omega); rw [show o + (6 * k + 3) = o + k * 6 + 3 by omega] at this; rw [this]; congr 2; omega
      have c4 : w.cell? ⟨b, o + k * 6 + 4, none⟩ = some (iv (k0 + 6 * k + 1 + 1 + 1 + 1)) := by have := unhide HM (6 * k + 4) (by omega); rw [show o + (6 * k + 4) = o + k * 6 + 4 by omega] at this; rw [this]; congr 2; omega
      have c5 : w.cell? ⟨b, o + k * 6 + 5, none⟩ = some (iv (k0 + 6 * k + 1 + 1 + 1 + 1 + 1)) := by have := unhide HM (6 * k + 5) (by omega); rw [show o + (6 * k + 5) = o + k * 6 + 5 by omega] at this; rw [this]; congr 2; omega
      have g0 : (0:Int) ≤ (k:Int) := by omega
      have g1 : (k:Int) < (n:Int) := by omega
      go_wp2_with fail
      go_round
      case rel => exact ⟨k + 1, by omega, by go_num, by go_num⟩
      case measure => simp [intOf]; omega
    · have hk2 : k = n := by omega
      subst hk2
      go_wp2_with fail
      go_ret
      exact ⟨rfl, rfl⟩

/-- the first number of a node -/
def Kf (len : Nat → Nat) (k0 : Int) : Nat → Int
  | 0 => k0
  | q + 1 => Kf len k0 q + 4 + 6 * (len q : Int)
theorem Kf_bd {len : Nat → Nat} {k0 : Int} (h0 : 0 ≤ k0) (q : Nat) (hl : ∀ p, p < q → len p ≤ 200) : 0 ≤ Kf len k0 q ∧ Kf len k0 q ≤ k0 + 1204 * q := by
  induction q with
  | zero => simp [Kf, h0]
  | succ q ih =>
    have := ih (fun p hp => hl p (by omega))
    have := hl q (by omega)
    simp only [Kf]
    omega
/-- nodes under the marks: k are marked -/
structure NMk (w : World) (B n : Nat) (len pb : Nat → Nat) (K : Nat → Int) (k : Nat) : Prop where
  a : ∀ q, q < n → w.cell? ⟨B, q * 5 + 4, none⟩ = some (.slice (some ⟨pb q, 0, none⟩) (len q) (len q))
  o : ∀ q, q < n → ∀ i, i < 4 → Open w B (q * 5 + i)
  p : ∀ q, q < n → ∀ j, j < 6 * len q → Open w (pb q) (0 + j)
  m : ∀ q, q < k → (∀ i, i < 4 → w.cell? ⟨B, q * 5 + i, none⟩ = some (iv (K q + i))) ∧ ∀ j, j < 6 * len q → w.cell? ⟨pb q, 0 + j, none⟩ = some (iv (K q + 4 + j))
theorem NMk.ext {w w' : World} {B n k : Nat} {len pb : Nat → Nat} {K : Nat → Int} (h : NMk w B n len pb K k) (e : Ext w w') : NMk w' B n len pb K k :=
  ⟨fun q hq => e.keep (h.a q hq), fun q hq i hi => (h.o q hq i hi).ext e, fun q hq j hj => (h.p q hq j hj).ext e, fun q hq => ⟨fun i hi => e.keep ((h.m q hq).1 i hi), fun j hj => e.keep ((h.m q hq).2 j hj)⟩⟩
/-- the four numbers of a node -/
theorem put4 {w wr : World} {B n k : Nat} {len pb : Nat → Nat} {K : Nat → Int} {S : Nat → Prop} (h : NMk wr B n len pb K k) (hk : k < n) (hB : ∀ q, q < n → pb q ≠ B) (hS : S B) (ho : Only S w wr) :
    let W := (((wr.setCell ⟨B, k * 5, none⟩ (iv (K k))).setCell ⟨B, k * 5 + 1, none⟩ (iv (K k + 1))).setCell ⟨B, k * 5 + 2, none⟩ (iv (K k + 1 + 1))).setCell ⟨B, k * 5 + 3, none⟩ (iv (K k + 1 + 1 + 1))
    NMk W B n len pb K k ∧ (∀ i, i < 4 → W.cell? ⟨B, k * 5 + i, none⟩ = some (iv (K k + i))) ∧ Only S w W := by
  intro W
  have oth : ∀ b o, (b ≠ B ∨ o < k * 5 ∨ k * 5 + 4 ≤ o) → W.cell? ⟨b, o, none⟩ = wr.cell? ⟨b, o, none⟩ := fun b o hb => by
    show (World.setCell _ _ _).cell? _ = _
    rw [cell_other _ (by omega), cell_other _ (by omega), cell_other _ (by omega), cell_other _ (by omega)]
  have op : ∀ b o, Open wr b o → Open W b o := fun b o hb => (((hb.set _ _).set _ _).set _ _).set _ _
  refine ⟨⟨fun q hq => ?_, fun q hq i hi => op _ _ (h.o q hq i hi), fun q hq j hj => op _ _ (h.p q hq j hj), fun q hq => ⟨fun i hi => ?_, fun j hj => ?_⟩⟩, fun i hi => ?_, (((ho.setCell hS _).setCell hS _).setCell hS _).setCell hS _⟩
  · rw [oth _ _ (by omega)]; exact h.a q hq
  · rw [oth _ _ (by omega)]; exact (h.m q hq).1 i hi
  · rw [oth _ _ (.inl (hB q (by omega)))]; exact (h.m q hq).2 j hj
  · have o0 : Open wr B (k * 5) := h.o k hk 0 (by omega)
    have o1 := h.o k hk 1 (by omega)
    have o2 := h.o k hk 2 (by omega)
    have o3 := h.o k hk 3 (by omega)
    show (World.setCell _ _ _).cell? _ = _
    have : i = 0 ∨ i = 1 ∨ i = 2 ∨ i = 3 := by omega
    rcases this with e | e | e | e
    · subst e
      rw [cell_other _ (by omega), cell_other _ (by omega), cell_other _ (by omega)]
      have := o0.same (iv (K k))
      simpa using this
    · subst e
      rw [cell_other _ (by omega), cell_other _ (by omega), (o1.set _ _).same]
      congr 2
    · subst e
      rw [cell_other _ (by omega), ((o2.set _ _).set _ _).same]
      congr 2; omega
    · subst e
      rw [(((o3.set _ _).set _ _).set _ _).same]
      congr 2; omega
theorem NMk.next {w W w2 : World} {B n k : Nat} {len pb : Nat → Nat} {K : Nat → Int} {S : Nat → Prop} (h : NMk W B n len pb K k) (hc : ∀ i, i < 4 → W.cell? ⟨B, k * 5 + i, none⟩ = some (iv (K k + i))) (hk : k < n) (hB : ∀ q, q < n → pb q ≠ B) (hd : ∀ q q', q < n → q' < n → q ≠ q' → pb q ≠ pb q') (hs : S (pb k)) (ho : Only S w W)
    (hm : ∀ j, j < 6 * len k → w2.cell? ⟨pb k, 0 + j, none⟩ = some (iv (K k + 4 + j))) (hop : ∀ j, j < 6 * len k → Open w2 (pb k) (0 + j)) (h2 : Only (fun q => q = pb k) W w2) : NMk w2 B n len pb K (k + 1) ∧ Only S w w2 := by
  refine ⟨⟨fun q hq => h2.keep (fun e => hB k hk e.symm) (h.a q hq), fun q hq i hi => ?_, fun q hq j hj => ?_, fun q hq => ?_⟩, ho.trans (h2.mono (fun q e => by rw [e]; exact hs))⟩
  · obtain ⟨⟨v, hv⟩, hf⟩ := h.o q hq i hi
    exact ⟨⟨v, h2.keep (fun e => hB k hk e.symm) hv⟩, by rw [h2.frozen (cell_lt hv) (fun e => hB k hk e.symm)]; exact hf⟩
  · by_cases e : q = k
    · subst e; exact hop j hj
    · obtain ⟨⟨v, hv⟩, hf⟩ := h.p q hq j hj
      exact ⟨⟨v, h2.keep (hd q k hq hk e) hv⟩, by rw [h2.frozen (cell_lt hv) (hd q k hq hk e)]; exact hf⟩
  · by_cases e : q = k
    · subst e
      exact ⟨fun i hi => h2.keep (fun e => hB q hk e.symm) (hc i hi), hm⟩
    · have hx := h.m q (by omega)
      exact ⟨fun i hi => h2.keep (fun z => hB k hk z.symm) (hx.1 i hi), fun j hj => h2.keep (hd q k (by omega) hk e) (hx.2 j hj)⟩

set_option maxRecDepth 100000 in
set_option maxHeartbeats 2000000 in
theorem markNodeS_any (B n cap : Nat) (len pb : Nat → Nat) (k0 : Int) (w : World) (hn : n ≤ 8000) (h0 : 0 ≤ k0) (h1 : k0 ≤ 1000000) (hl : ∀ q, q < n → len q ≤ 200) (h : NMk w B n len pb (Kf len k0) 0) (hB : ∀ q, q < n → pb q ≠ B) (hd : ∀ q q', q < n → q' < n → q ≠ q' → pb q ≠ pb q') (S : Nat → Prop) (hS : S B) (hp : ∀ q, q < n → S (pb q)) :
    Calls Tryz.prog 69 #[.slice (some ⟨B, 0, none⟩) n cap, .int .i64 k0] w fun e w' => e = .returned (.int .i64 (Kf len k0 n)) ∧ NMk w' B n len pb (Kf len k0) n ∧ Only S w w' := by
  have H0 := hide h
  have HL := hide hl
  clear h hl
  go_enter Tryz.func69, Tryz.ntmps69
  go_wp2_with fail
  go_loopw [1, 5] (fun kk i wr => ∃ k : Nat, k ≤ n ∧ i = .int .i64 k ∧ kk = .int .i64 (Kf len k0 k) ∧ Hid (NMk wr B n len pb (Kf len k0) k ∧ Only S w wr)) (fun _ i _ => n - (intOf i).toNat)
  case atStart => exact ⟨0, Nat.zero_le _, rfl, rfl, unhide H0, Only.refl _ _⟩
  case round =>
    clear H0
    obtain ⟨k, hk, rfl, rfl, hm⟩ := hrel
    have hbd := Kf_bd (len := len) h0 k (fun p hp => unhide HL p (by omega))
    by_cases hlt : k < n
    · obtain ⟨m, em⟩ : ∃ m, m = Kf len k0 k := ⟨_, rfl⟩
      rw [← em] at hbd ⊢
      have EM := hide em
      have R := hide (put4 (unhide hm).1 hlt hB hS (unhide hm).2)
      rw [← em] at R
      obtain ⟨⟨v0, c0⟩, f0⟩ : Open wr B (k * 5) := (unhide hm).1.o k hlt 0 (by omega)
      obtain ⟨⟨v1, c1⟩, f1⟩ := (unhide hm).1.o k hlt 1 (by omega)
      obtain ⟨⟨v2, c2⟩, f2⟩ := (unhide hm).1.o k hlt 2 (by omega)
      obtain ⟨⟨v3, c3⟩, f3⟩ := (unhide hm).1.o k hlt 3 (by omega)
      have c4 := (unhide hm).1.a k hlt
      have g0 : (0:Int) ≤ (k:Int) := by omega
      have g1 : (k:Int) < (n:Int) := by omega
      have b0 := hbd.1
      have b1 := hbd.2
      have hlk := unhide HL k hlt
      clear hm em hbd
      go_wp2_with fail
      refine (markPairS_any (pb k) 0 (len k) (len k) (m + 1 + 1 + 1 + 1) _ (by omega) (by omega) (by omega) (fun j hj => (unhide R).1.p k hlt j hj)).mono ?_
      rintro e w2 ⟨rfl, hmk, hop, hon⟩
      have R2 := hide (NMk.next (unhide R).1 (fun i hi => by rw [(unhide R).2.1 i hi, unhide EM]) hlt hB hd (hp k hlt) (unhide R).2.2 (fun j hj => by rw [hmk j hj, ← unhide EM]; congr 2; omega) hop hon)
      have EK := hide (show Kf len k0 (k + 1) = m + 1 + 1 + 1 + 1 + 6 * (len k : Int) by simp only [Kf]; rw [← unhide EM]; omega)
      clear hmk hop hon R
      go_wp2_with fail
      go_roundw
      case rel => exact ⟨k + 1, by omega, by go_num, by rw [unhide EK], (unhide R2).1, (unhide R2).2⟩
      case measure => simp [intOf]; omega
    · have hk2 : k = n := by omega
      subst hk2
      go_wp2_with fail
      go_ret
      exact ⟨rfl, (unhide hm).1, (unhide hm).2⟩

set_option maxRecDepth 100000 in
set_option maxHeartbeats 2000000 in
theorem heldNodeS_any (B n cap : Nat) (len pb : Nat → Nat) (k0 : Int) (w : World) (hn : n ≤ 8000) (h0 : 0 ≤ k0) (h1 : k0 ≤ 1000000) (hl : ∀ q, q < n → len q ≤ 200) (h : NMk w B n len pb (Kf len k0) n) :
    Calls Tryz.prog 71 #[.slice (some ⟨B, 0, none⟩) n cap, .int .i64 k0] w fun e w' => e = .returned (.int .i64 (Kf len k0 n)) ∧ w' = w := by
  have H0 := hide h
  have HL := hide hl
  clear h hl
  go_enter Tryz.func71, Tryz.ntmps71
  go_wp2_with fail
  go_loop [1, 5] (fun kk i => ∃ k : Nat, k ≤ n ∧ i = .int .i64 k ∧ kk = .int .i64 (Kf len k0 k)) (fun _ i => n - (intOf i).toNat)
  case atStart => exact ⟨0, Nat.zero_le _, rfl, rfl⟩
  case round =>
    obtain ⟨k, hk, rfl, rfl⟩ := hrel
    have hbd := Kf_bd (len := len) h0 k (fun p hp => unhide HL p (by omega))
    by_cases hlt : k < n
    · obtain ⟨m, em⟩ : ∃ m, m = Kf len k0 k := ⟨_, rfl⟩
      rw [← em] at hbd ⊢
      have EM := hide em
      have hx := (unhide H0).m k hlt
      rw [← em] at hx
      have c0 : w.cell? ⟨B, k * 5, none⟩ = some (iv m) := by have := hx.1 0 (by omega); simpa using this
      have c1 : w.cell? ⟨B, k * 5 + 1, none⟩ = some (iv (m + 1)) := by have := hx.1 1 (by omega); simpa using this
      have c2 : w.cell? ⟨B, k * 5 + 2, none⟩ = some (iv (m + 1 + 1)) := by have := hx.1 2 (by omega); rw [this]; congr 2; omega
      have c3 : w.cell? ⟨B, k * 5 + 3, none⟩ = some (iv (m + 1 + 1 + 1)) := by have := hx.1 3 (by omega); rw [this]; congr 2; omega
      have c4 := (unhide H0).a k hlt
      have HX := hide hx.2
      have g0 : (0:Int) ≤ (k:Int) := by omega
      have g1 : (k:Int) < (n:Int) := by omega
      have b0 := hbd.1
      have b1 := hbd.2
      have hlk := unhide HL k hlt
      have EK := hide (show Kf len k0 (k + 1) = m + 1 + 1 + 1 + 1 + 6 * (len k : Int) by simp only [Kf]; rw [← em]; omega)
      clear hx em hbd
      go_wp2_with fail
      refine (heldPairS_any (pb k) 0 (len k) (len k) (m + 1 + 1 + 1 + 1) _ (by omega) (by omega) (by omega) (fun j hj => by rw [unhide HX j hj]; congr 2; omega)).mono ?_
      rintro e w2 ⟨rfl, rfl⟩
      go_wp2_with fail
      go_round
      case rel => exact ⟨k + 1, by omega, by go_num, by rw [unhide EK]⟩
      case measure => simp [intOf]; omega
    · have hk2 : k = n := by omega
      subst hk2
      go_wp2_with fail
      go_ret
      exact ⟨rfl, rfl⟩
end Go.Proofs.YtkabcfhemljnbaaGreat

namespace Go.Proofs.YtkabcfhemljnbaaGreat
open Go.RowKit
attribute [local go_sem ↓] Go.wp_at_zero Go.wp_at_succ

theorem NMk.only {S : Nat → Prop} {w w' : World} {B n k : Nat} {len pb : Nat → Nat} {K : Nat → Int} (h : NMk w B n len pb K k) (e : Only S w w') (hk : k ≤ n) (hB : ¬ S B) (hp : ∀ q, q < n → ¬ S (pb q)) : NMk w' B n len pb K k :=
  ⟨fun q hq => e.keep hB (h.a q hq), fun q hq i hi => (h.o q hq i hi).only e hB, fun q hq j hj => (h.p q hq j hj).only e (hp q hq), fun q hq => ⟨fun i hi => e.keep hB ((h.m q hq).1 i hi), fun j hj => e.keep (hp q (by omega)) ((h.m q hq).2 j hj)⟩⟩
/-- a graph's rows: where they lie, apart from one another -/
structure GLay (S : Nat → Prop) (w : World) (br nr B n : Nat) (len pb : Nat → Nat) (k0 : Int) : Prop where
  r : ∀ j, j < 3 * nr → Open w br (0 + j)
  m : NMk w B n len pb (Kf len k0) 0
  d1 : br ≠ B
  d2 : ∀ q, q < n → pb q ≠ br
  d3 : ∀ q, q < n → pb q ≠ B
  d4 : ∀ q q', q < n → q' < n → q ≠ q' → pb q ≠ pb q'
  s1 : S br
  s2 : S B
  s3 : ∀ q, q < n → S (pb q)
  l : ∀ q, q < n → len q ≤ 200
/-- all marked -/
def GMd (w : World) (br nr B n : Nat) (len pb : Nat → Nat) (k0 : Int) : Prop := (∀ j, j < 3 * nr → w.cell? ⟨br, 0 + j, none⟩ = some (iv (1 + j))) ∧ NMk w B n len pb (Kf len k0) n
theorem GMd.ext {w w' : World} {br nr B n : Nat} {len pb : Nat → Nat} {k0 : Int} (h : GMd w br nr B n len pb k0) (e : Ext w w') : GMd w' br nr B n len pb k0 := ⟨fun j hj => e.keep (h.1 j hj), h.2.ext e⟩

set_option maxRecDepth 100000 in
set_option maxHeartbeats 2000000 in
theorem markGraph_any (S : Nat → Prop) (br nr B n : Nat) (len pb : Nat → Nat) (w : World) (hnr : nr ≤ 100) (hn : n ≤ 8000) (h : GLay S w br nr B n len pb (1 + 3 * nr)) (hS : ∀ q, S q → q < w.heap.size) :
    Calls Tryz.prog 30 #[.agg #[.slice (some ⟨br, 0, none⟩) nr nr, .slice (some ⟨B, 0, none⟩) n n], .int .i64 1] w fun e w' => e = .returned (.int .i64 (Kf len (1 + 3 * nr) n)) ∧ GMd w' br nr B n len pb (1 + 3 * nr) ∧ ∃ w1, Ext w w1 ∧ Only S w1 w' := by
  have x1 := (Ext.refl w).alloc (.cells #[.slice (some ⟨br, 0, none⟩) nr nr, .slice (some ⟨B, 0, none⟩) n n] 43)
  have hns : ¬ S w.heap.size := fun e => by have := hS _ e; omega
  have H := hide h
  have R0 := hide (fun j (hj : j < 3 * nr) => (h.r j hj).ext x1)
  have M0 := hide (h.m.ext x1)
  have hbr : ¬ br = w.heap.size := fun e => hns (e ▸ h.s1)
  clear h
  go_enter Tryz.func30, Tryz.ntmps30
  go_wp2_with fail
  refine (markWordS_any br 0 nr nr 1 _ (by omega) (by omega) (by omega) (unhide R0)).mono ?_
  rintro e w1 ⟨rfl, hm1, hop1, ho1⟩
  have d1 : w1.cell? ⟨w.heap.size, 1, none⟩ = some (.slice (some ⟨B, 0, none⟩) n n) := ho1.keep (fun e => hbr e.symm) (by simp [go_sem])
  have M1 := hide (NMk.only (unhide M0) ho1 (Nat.zero_le _) (fun e => (unhide H).d1 e.symm) (fun q hq e => (unhide H).d2 q hq e))
  have C1 := hide hm1
  have O1 := hide (ho1.mono (T := S) (fun q e => by rw [e]; exact (unhide H).s1))
  clear hm1 hop1 ho1
  go_wp2_with fail
  refine (markNodeS_any B n n len pb (1 + 3 * nr) _ hn (by omega) (by omega) (unhide H).l (unhide M1) (unhide H).d3 (unhide H).d4 (fun q => S q ∧ q ≠ br) ⟨(unhide H).s2, fun e => (unhide H).d1 e.symm⟩ (fun q hq => ⟨(unhide H).s3 q hq, (unhide H).d2 q hq⟩)).mono ?_
  rintro e w2 ⟨rfl, hm2, ho2⟩
  have FIN := hide (show GMd w2 br nr B n len pb (1 + 3 * nr) ∧ Only S (w.alloc (.cells #[.slice (some ⟨br, 0, none⟩) nr nr, .slice (some ⟨B, 0, none⟩) n n] 43)) w2 from ⟨⟨fun j hj => ho2.keep (fun e => e.2 rfl) (unhide C1 j hj), hm2⟩, (unhide O1).trans (ho2.mono (fun q e => e.1))⟩)
  clear hm2 ho2
  go_wp2_with fail
  go_ret
  exact ⟨rfl, (unhide FIN).1, _, x1, (unhide FIN).2⟩

set_option maxRecDepth 100000 in
set_option maxHeartbeats 2000000 in
theorem heldGraph_any (br nr B n : Nat) (len pb : Nat → Nat) (w : World) (hnr : nr ≤ 100) (hn : n ≤ 8000) (hl : ∀ q, q < n → len q ≤ 200) (h : GMd w br nr B n len pb (1 + 3 * nr)) :
    Calls Tryz.prog 31 #[.agg #[.slice (some ⟨br, 0, none⟩) nr nr, .slice (some ⟨B, 0, none⟩) n n], .int .i64 1] w fun e w' => e = .returned (.int .i64 (Kf len (1 + 3 * nr) n)) ∧ Ext w w' := by
  have x1 := (Ext.refl w).alloc (.cells #[.slice (some ⟨br, 0, none⟩) nr nr, .slice (some ⟨B, 0, none⟩) n n] 43)
  have H := hide (h.ext x1)
  have hbd := Kf_bd (len := len) (k0 := 1 + 3 * nr) (by omega) n (fun p hp => hl p hp)
  obtain ⟨m, em⟩ : ∃ m, m = Kf len (1 + 3 * nr) n := ⟨_, rfl⟩
  have EM := hide em
  rw [← em] at hbd ⊢
  have hm0 : ¬ m < 0 := by omega
  clear h em hbd
  go_enter Tryz.func31, Tryz.ntmps31
  go_wp2_with fail
  refine (heldWordS_any br 0 nr nr 1 _ (by omega) (by omega) (by omega) (unhide H).1).mono ?_
  rintro e w1 ⟨rfl, rfl⟩
  go_wp2_with fail
  refine (heldNodeS_any B n n len pb (1 + 3 * nr) _ hn (by omega) (by omega) hl (unhide H).2).mono ?_
  rintro e w2 ⟨rfl, rfl⟩
  rw [← unhide EM]
  go_wp2_with fail
  go_ret
  exact ⟨rfl, x1⟩
end Go.Proofs.YtkabcfhemljnbaaGreat
