import Derived.Test.YtddkhnclmeikfacGreatDoorKa0
namespace Go.Proofs.YtddkhnclmeikfacGreatDoor
open Go.RowKit
attribute [local go_sem ↓] Go.wp_at_zero Go.wp_at_succ

/-! Acts: marks. -/
theorem markA_step {w wr : World} {b o n k : Nat} {k0 : Int} (hk : k < n) (hm : ∀ j, j < 5 * k → wr.cell? ⟨b, o + j, none⟩ = some (iv (k0 + j))) (ho : ∀ j, j < 5 * n → Open wr b (o + j)) (hon : Only (fun q => q = b) w wr) :
    let W := ((((wr.setCell ⟨b, o + k * 5, none⟩ (iv (k0 + 5 * k))).setCell ⟨b, o + k * 5 + 1, none⟩ (iv (k0 + 5 * k + 1))).setCell ⟨b, o + k * 5 + 2, none⟩ (iv (k0 + 5 * k + 1 + 1))).setCell ⟨b, o + k * 5 + 3, none⟩ (iv (k0 + 5 * k + 1 + 1 + 1))).setCell ⟨b, o + k * 5 + 4, none⟩ (iv (k0 + 5 * k + 1 + 1 + 1 + 1))
    (∀ j, j < 5 * (k + 1) → W.cell? ⟨b, o + j, none⟩ = some (iv (k0 + j))) ∧ (∀ j, j < 5 * n → Open W b (o + j)) ∧ Only (fun q => q = b) w W := by
  intro W
  refine ⟨?_, fun j hj => (((((ho j hj).set _ _).set _ _).set _ _).set _ _).set _ _, ((((hon.setCell rfl _).setCell rfl _).setCell rfl _).setCell rfl _).setCell rfl _⟩
  intro j hj
  have o0 : Open wr b (o + k * 5) := by rw [Nat.mul_comm]; exact ho (5 * k) (by omega)
  have o1 : Open wr b (o + k * 5 + 1) := by rw [Nat.mul_comm]; exact ho (5 * k + 1) (by omega)
  have o2 : Open wr b (o + k * 5 + 2) := by rw [Nat.mul_comm]; exact ho (5 * k + 2) (by omega)
  have o3 : Open wr b (o + k * 5 + 3) := by rw [Nat.mul_comm]; exact ho (5 * k + 3) (by omega)
  have o4 : Open wr b (o + k * 5 + 4) := by rw [Nat.mul_comm]; exact ho (5 * k + 4) (by omega)
  by_cases h4 : j = 5 * k + 4
  · subst h4
    have e : o + (5 * k + 4) = o + k * 5 + 4 := by omega
    rw [e]
    show (World.setCell _ _ _).cell? _ = _
    rw [((((o4.set _ _).set _ _).set _ _).set _ _).same]
    congr 2 <;> omega
  · show (World.setCell _ _ _).cell? _ = _
    rw [cell_other _ (Or.inr (by omega))]
    by_cases h3 : j = 5 * k + 3
    · subst h3
      have e : o + (5 * k + 3) = o + k * 5 + 3 := by omega
      rw [e]
      show (World.setCell _ _ _).cell? _ = _
      rw [(((o3.set _ _).set _ _).set _ _).same]
      congr 2 <;> omega
    · show (World.setCell _ _ _).cell? _ = _
      rw [cell_other _ (Or.inr (by omega))]
      by_cases h2 : j = 5 * k + 2
      · subst h2
        have e : o + (5 * k + 2) = o + k * 5 + 2 := by omega
        rw [e]
        show (World.setCell _ _ _).cell? _ = _
        rw [((o2.set _ _).set _ _).same]
        congr 2 <;> omega
      · show (World.setCell _ _ _).cell? _ = _
        rw [cell_other _ (Or.inr (by omega))]
        by_cases h1 : j = 5 * k + 1
        · subst h1
          have e : o + (5 * k + 1) = o + k * 5 + 1 := by omega
          rw [e]
          show (World.setCell _ _ _).cell? _ = _
          rw [(o1.set _ _).same]
          congr 2 <;> omega
        · show (World.setCell _ _ _).cell? _ = _
          rw [cell_other _ (Or.inr (by omega))]
          by_cases h0 : j = 5 * k
          · subst h0
            have e : o + (5 * k) = o + k * 5 := by omega
            rw [e]
            show (World.setCell _ _ _).cell? _ = _
            rw [o0.same]
            congr 2 <;> omega
          · show (World.setCell _ _ _).cell? _ = _
            rw [cell_other _ (Or.inr (by omega))]
            exact hm j (by omega)
set_option maxHeartbeats 1000000 in
theorem markActS_any (b o n cap : Nat) (k0 : Int) (w : World) (hn : n ≤ 1099511627776) (h0 : 0 ≤ k0) (h1 : k0 ≤ 1099511627776) (ho : ∀ j, j < 5 * n → Open w b (o + j)) :
    Calls Tryz.prog 53 #[.slice (some ⟨b, o, none⟩) n cap, .int .i64 k0] w fun e w' =>
      e = .returned (.int .i64 (k0 + 5 * n)) ∧ (∀ j, j < 5 * n → w'.cell? ⟨b, o + j, none⟩ = some (iv (k0 + j))) ∧ (∀ j, j < 5 * n → Open w' b (o + j)) ∧ Only (fun q => q = b) w w' := by
  go_enter Tryz.func53, Tryz.ntmps53
  go_wp2
  go_loopw [1, 5] (fun kk i wr => ∃ k : Nat, k ≤ n ∧ i = .int .i64 k ∧ kk = .int .i64 (k0 + 5 * k) ∧ (∀ j, j < 5 * k → wr.cell? ⟨b, o + j, none⟩ = some (iv (k0 + j))) ∧ (∀ j, j < 5 * n → Open wr b (o + j)) ∧ Only (fun q => q = b) w wr) (fun _ i _ => n - (intOf i).toNat)
  case atStart => exact ⟨0, Nat.zero_le _, rfl, by simp, fun j hj => by omega, ho, Only.refl _ _⟩
  case round =>
    obtain ⟨k, hk, rfl, rfl, hm, hop, hon⟩ := hrel
    by_cases hlt : k < n
    · have R := markA_step hlt hm hop hon
      have HR := hide R
      obtain ⟨⟨v0, c0⟩, f0⟩ : Open wr b (o + k * 5) := by rw [Nat.mul_comm]; exact hop (5 * k) (by omega)
      obtain ⟨⟨v1, c1⟩, f1⟩ : Open wr b (o + k * 5 + 1) := by rw [Nat.mul_comm]; exact hop (5 * k + 1) (by omega)
      obtain ⟨⟨v2, c2⟩, f2⟩ : Open wr b (o + k * 5 + 2) := by rw [Nat.mul_comm]; exact hop (5 * k + 2) (by omega)
      obtain ⟨⟨v3, c3⟩, f3⟩ : Open wr b (o + k * 5 + 3) := by rw [Nat.mul_comm]; exact hop (5 * k + 3) (by omega)
      obtain ⟨⟨v4, c4⟩, f4⟩ : Open wr b (o + k * 5 + 4) := by rw [Nat.mul_comm]; exact hop (5 * k + 4) (by omega)
      clear R hm hop hon
      go_wp2
      go_roundw
      case rel => exact ⟨k + 1, by omega, by go_num, by go_num, (unhide HR).1, (unhide HR).2.1, (unhide HR).2.2⟩
      case measure => simp [intOf]; omega
    · obtain rfl : k = n := by omega
      go_wp2
      go_ret
      exact ⟨rfl, hm, hop, hon⟩
set_option maxHeartbeats 1000000 in
theorem heldActS_any (b o n cap : Nat) (k0 : Int) (w : World) (hn : n ≤ 1099511627776) (h0 : 0 ≤ k0) (h1 : k0 ≤ 1099511627776) (hm : ∀ j, j < 5 * n → w.cell? ⟨b, o + j, none⟩ = some (iv (k0 + j))) :
    Calls Tryz.prog 54 #[.slice (some ⟨b, o, none⟩) n cap, .int .i64 k0] w fun e w' =>
      e = .returned (.int .i64 (k0 + 5 * n)) ∧ w' = w := by
  go_enter Tryz.func54, Tryz.ntmps54
  go_wp2
  go_loop [1, 5] (fun kk i => ∃ k : Nat, k ≤ n ∧ i = .int .i64 k ∧ kk = .int .i64 (k0 + 5 * k)) (fun _ i => n - (intOf i).toNat)
  case atStart => exact ⟨0, Nat.zero_le _, rfl, by simp⟩
  case round =>
    obtain ⟨k, hk, rfl, rfl⟩ := hrel
    by_cases hlt : k < n
    · have c0 : w.cell? ⟨b, o + k * 5, none⟩ = some (iv (k0 + 5 * k)) := by rw [Nat.mul_comm, hm (5 * k) (by omega)]; congr 2
      have c1 : w.cell? ⟨b, o + k * 5 + 1, none⟩ = some (iv (k0 + 5 * k + 1)) := by rw [Nat.mul_comm, Nat.add_assoc, hm (5 * k + 1) (by omega)]; congr 2; omega
      have c2 : w.cell? ⟨b, o + k * 5 + 2, none⟩ = some (iv (k0 + 5 * k + 1 + 1)) := by rw [Nat.mul_comm, Nat.add_assoc, hm (5 * k + 2) (by omega)]; congr 2; omega
      have c3 : w.cell? ⟨b, o + k * 5 + 3, none⟩ = some (iv (k0 + 5 * k + 1 + 1 + 1)) := by rw [Nat.mul_comm, Nat.add_assoc, hm (5 * k + 3) (by omega)]; congr 2; omega
      have c4 : w.cell? ⟨b, o + k * 5 + 4, none⟩ = some (iv (k0 + 5 * k + 1 + 1 + 1 + 1)) := by rw [Nat.mul_comm, Nat.add_assoc, hm (5 * k + 4) (by omega)]; congr 2; omega
      go_wp2
      go_round
      case rel => exact ⟨k + 1, by omega, by go_num, by go_num⟩
      case measure => simp [intOf]; omega
    · obtain rfl : k = n := by omega
      go_wp2
      go_ret
      exact ⟨rfl, rfl⟩
end Go.Proofs.YtddkhnclmeikfacGreatDoor
