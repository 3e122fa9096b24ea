import Derived.Test.YtkabcfhemljnbaaBase
namespace Go.Proofs.Ytkabcfhemljnbaa
open Go.RowKit
attribute [local go_sem ↓] Go.wp_at_zero Go.wp_at_succ

/-! markWordS writes the numbers from k on into the cells of the row, heldWordS finds them there. -/
theorem mark_step {w wr : World} {b o n k : Nat} {k0 : Int} (hk : k < n) (hm : ∀ j, j < 3 * k → wr.cell? ⟨b, o + j, none⟩ = some (iv (k0 + j))) (ho : ∀ j, j < 3 * n → Open wr b (o + j)) (hon : Only (fun q => q = b) w wr) :
    let W := ((wr.setCell ⟨b, o + k * 3, none⟩ (iv (k0 + 3 * k))).setCell ⟨b, o + k * 3 + 1, none⟩ (iv (k0 + 3 * k + 1))).setCell ⟨b, o + k * 3 + 2, none⟩ (iv (k0 + 3 * k + 1 + 1))
    (∀ j, j < 3 * (k + 1) → W.cell? ⟨b, o + j, none⟩ = some (iv (k0 + j))) ∧ (∀ j, j < 3 * n → Open W b (o + j)) ∧ Only (fun q => q = b) w W := by
  intro W
  refine ⟨?_, fun j hj => (((ho j hj).set _ _).set _ _).set _ _, ((hon.setCell rfl _).setCell rfl _).setCell rfl _⟩
  intro j hj
  have o0 : Open wr b (o + k * 3) := by rw [Nat.mul_comm]; exact ho (3 * k) (by omega)
  have o1 : Open wr b (o + k * 3 + 1) := by rw [Nat.mul_comm]; exact ho (3 * k + 1) (by omega)
  have o2 : Open wr b (o + k * 3 + 2) := by rw [Nat.mul_comm]; exact ho (3 * k + 2) (by omega)
  by_cases h2 : j = 3 * k + 2
  · subst h2
    have e : o + (3 * k + 2) = o + k * 3 + 2 := by omega
    rw [e]
    show (World.setCell _ _ _).cell? _ = _
    rw [((o2.set _ _).set _ _).same]
    congr 2; omega
  · show (World.setCell _ _ _).cell? _ = _
    rw [cell_other _ (Or.inr (by omega))]
    by_cases h1 : j = 3 * k + 1
    · subst h1
      have e : o + (3 * k + 1) = o + k * 3 + 1 := by omega
      rw [e, (o1.set _ _).same]
      congr 2; omega
    · rw [cell_other _ (Or.inr (by omega))]
      by_cases h0 : j = 3 * k
      · subst h0
        have e : o + 3 * k = o + k * 3 := by omega
        rw [e, o0.same]
        congr 2
      · rw [cell_other _ (Or.inr (by omega))]
        exact hm j (by omega)

set_option maxHeartbeats 1000000 in
theorem markWordS_any (b o n cap : Nat) (k0 : Int) (w : World) (hn : n ≤ 1099511627776) (h0 : 0 ≤ k0) (h1 : k0 ≤ 1099511627776) (ho : ∀ j, j < 3 * n → Open w b (o + j)) :
    Calls Try.prog 41 #[.slice (some ⟨b, o, none⟩) n cap, .int .i64 k0] w fun e w' =>
      e = .returned (.int .i64 (k0 + 3 * n)) ∧ (∀ j, j < 3 * n → w'.cell? ⟨b, o + j, none⟩ = some (iv (k0 + j))) ∧ (∀ j, j < 3 * n → Open w' b (o + j)) ∧ Only (fun q => q = b) w w' := by
  go_enter Try.func41, Try.ntmps41
  go_wp2
  go_loopw [1, 5] (fun kk i wr => ∃ k : Nat, k ≤ n ∧ i = .int .i64 k ∧ kk = .int .i64 (k0 + 3 * k) ∧ (∀ j, j < 3 * k → wr.cell? ⟨b, o + j, none⟩ = some (iv (k0 + j))) ∧ (∀ j, j < 3 * n → Open wr b (o + j)) ∧ Only (fun q => q = b) w wr) (fun _ i _ => n - (intOf i).toNat)
  case atStart => exact ⟨0, Nat.zero_le _, rfl, by simp, fun j hj => by omega, ho, Only.refl _ _⟩
  case round =>
    obtain ⟨k, hk, rfl, rfl, hm, hop, hon⟩ := hrel
    by_cases hlt : k < n
    · have R := mark_step hlt hm hop hon
      have HR := hide R
      obtain ⟨⟨v0, c0⟩, f0⟩ : Open wr b (o + k * 3) := by rw [Nat.mul_comm]; exact hop (3 * k) (by omega)
      obtain ⟨⟨v1, c1⟩, f1⟩ : Open wr b (o + k * 3 + 1) := by rw [Nat.mul_comm]; exact hop (3 * k + 1) (by omega)
      obtain ⟨⟨v2, c2⟩, f2⟩ : Open wr b (o + k * 3 + 2) := by rw [Nat.mul_comm]; exact hop (3 * k + 2) (by omega)
      clear R hm hop hon
      go_wp2
      go_roundw
      case rel => exact ⟨k + 1, by omega, by go_num, by go_num, (unhide HR).1, (unhide HR).2.1, (unhide HR).2.2⟩
      case measure => simp [intOf]; omega
    · obtain rfl : k = n := by omega
      go_wp2
      go_ret
      exact ⟨rfl, hm, hop, hon⟩

set_option maxHeartbeats 1000000 in
theorem heldWordS_any (b o n cap : Nat) (k0 : Int) (w : World) (hn : n ≤ 1099511627776) (h0 : 0 ≤ k0) (h1 : k0 ≤ 1099511627776) (hm : ∀ j, j < 3 * n → w.cell? ⟨b, o + j, none⟩ = some (iv (k0 + j))) :
    Calls Try.prog 44 #[.slice (some ⟨b, o, none⟩) n cap, .int .i64 k0] w fun e w' =>
      e = .returned (.int .i64 (k0 + 3 * n)) ∧ w' = w := by
  go_enter Try.func44, Try.ntmps44
  go_wp2
  go_loop [1, 5] (fun kk i => ∃ k : Nat, k ≤ n ∧ i = .int .i64 k ∧ kk = .int .i64 (k0 + 3 * k)) (fun _ i => n - (intOf i).toNat)
  case atStart => exact ⟨0, Nat.zero_le _, rfl, by simp⟩
  case round =>
    obtain ⟨k, hk, rfl, rfl⟩ := hrel
    by_cases hlt : k < n
    · have c0 : w.cell? ⟨b, o + k * 3, none⟩ = some (iv (k0 + 3 * k)) := by rw [Nat.mul_comm, hm (3 * k) (by omega)]; congr 2
      have c1 : w.cell? ⟨b, o + k * 3 + 1, none⟩ = some (iv (k0 + 3 * k + 1)) := by rw [Nat.mul_comm, Nat.add_assoc, hm (3 * k + 1) (by omega)]; congr 2; omega
      have c2 : w.cell? ⟨b, o + k * 3 + 2, none⟩ = some (iv (k0 + 3 * k + 1 + 1)) := by rw [Nat.mul_comm, Nat.add_assoc, hm (3 * k + 2) (by omega)]; congr 2; omega
      go_wp2
      go_round
      case rel => exact ⟨k + 1, by omega, by go_num, by go_num⟩
      case measure => simp [intOf]; omega
    · obtain rfl : k = n := by omega
      go_wp2
      go_ret
      exact ⟨rfl, rfl⟩
end Go.Proofs.Ytkabcfhemljnbaa
