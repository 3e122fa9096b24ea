import Derived.Test.YtkabcfhemljnbaaGreatBase
import Derived.Test.YtkabcfhemljnbaaGreatTo2
namespace Go.Proofs.YtkabcfhemljnbaaGreat
open Go.RowKit
attribute [local go_sem ↓] Go.wp_at_zero Go.wp_at_succ

/-! markWordS writes the numbers from k on into the cells of the row, heldWordS finds them there. -/
theorem mark_step {w wr : World} {b o n k : Nat} {k0 : Int} (hk : k < n) (hm : ∀ j, j < 3 * k → wr.cell? ⟨b, o + j, none⟩ = some (iv (k0 + j))) (ho : ∀ j, j < 3 * n → Open wr b (o + j)) (hon : Only (fun q => q = b) w wr) :
    let W := ((wr.setCell ⟨b, o + k * 3, none⟩ (iv (k0 + 3 * k))).setCell ⟨b, o + k * 3 + 1, none⟩ (iv (k0 + 3 * k + 1))).setCell ⟨b, o + k * 3 + 2, none⟩ (iv (k0 + 3 * k + 1 + 1))
    (∀ j, j < 3 * (k + 1) → W.cell? ⟨b, o + j, none⟩ = some (iv (k0 + j))) ∧ (∀ j, j < 3 * n → Open W b (o + j)) ∧ Only (fun q => q = b) w W := by
  intro W
  refine ⟨?_, fun j hj => (((ho j hj).set _ _).set _ _).set _ _, ((hon.setCell rfl _).setCell rfl _).setCell rfl _⟩
  intro j hj
  have o0 : Open wr b (o + k * 3) := by rw [Nat.mul_comm]; exact ho (3 * k) (by omega)
  have o1 : Open wr b (o + k * 3 + 1) := by rw [Nat.mul_comm]; exact ho (3 * k + 1) (by omega)
  have o2 : Open wr b (o + k * 3 + 2) := by rw [Nat.mul_comm]; exact ho (3 * k + 2) (by omega)
  by_cases h2 : j = 3 * k + 2
  · subst h2
    have e : o + (3 * k + 2) = o + k * 3 + 2 := by omega
    rw [e]
    show (World.setCell _ _ _).cell? _ = _
    rw [((o2.set _ _).set _ _).same]
    congr 2; omega
  · show (World.setCell _ _ _).cell? _ = _
    rw [cell_other _ (Or.inr (by omega))]
    by_cases h1 : j = 3 * k + 1
    · subst h1
      have e : o + (3 * k + 1) = o + k * 3 + 1 := by omega
      rw [e, (o1.set _ _).same]
      congr 2; omega
    · rw [cell_other _ (Or.inr (by omega))]
      by_cases h0 : j = 3 * k
      · subst h0
        have e : o + 3 * k = o + k * 3 := by omega
        rw [e, o0.same]
        congr 2
      · rw [cell_other _ (Or.inr (by omega))]
        exact hm j (by omega)

set_option maxHeartbeats 1000000 in
theorem markWordS_any (b o n cap : Nat) (k0 : Int) (w : World) (hn : n ≤ 1099511627776) (h0 : 0 ≤ k0) (h1 : k0 ≤ 1099511627776) (ho : ∀ j, j < 3 * n → Open w b (o + j)) :
    Calls Tryz.prog 58 #[.slice (some ⟨b, o, none⟩) n cap, .int .i64 k0] w fun e w' =>
      e = .returned (.int .i64 (k0 + 3 * n)) ∧ (∀ j, j < 3 * n → w'.cell? ⟨b, o + j, none⟩ = some (iv (k0 + j))) ∧ (∀ j, j < 3 * n → Open w' b (o + j)) ∧ Only (fun q => q = b) w w' := by
  go_enter Tryz.func58, Tryz.ntmps58
  go_wp2
  go_loopw [1, 5] (fun kk i wr => ∃ k : Nat, k ≤ n ∧ i = .int .i64 k ∧ kk = .int .i64 (k0 + 3 * k) ∧ (∀ j, j < 3 * k → wr.cell? ⟨b, o + j, none⟩ = some (iv (k0 + j))) ∧ (∀ j, j < 3 * n → Open wr b (o + j)) ∧ Only (fun q => q = b) w wr) (fun _ i _ => n - (intOf i).toNat)
  case atStart => exact ⟨0, Nat.zero_le _, rfl, by simp, fun j hj => by omega, ho, Only.refl _ _⟩
  case round =>
    obtain ⟨k, hk, rfl, rfl, hm, hop, hon⟩ := hrel
    by_cases hlt : k < n
    · have R := mark_step hlt hm hop hon
      have HR := hide R
      obtain ⟨⟨v0, c0⟩, f0⟩ : Open wr b (o + k * 3) := by rw [Nat.mul_comm]; exact hop (3 * k) (by omega)
      obtain ⟨⟨v1, c1⟩, f1⟩ : Open wr b (o + k * 3 + 1) := by rw [Nat.mul_comm]; exact hop (3 * k + 1) (by omega)
      obtain ⟨⟨v2, c2⟩, f2⟩ : Open wr b (o + k * 3 + 2) := by rw [Nat.mul_comm]; exact hop (3 * k + 2) (by omega)
      clear R hm hop hon
      go_wp2
      go_roundw
      case rel => exact ⟨k + 1, by omega, by go_num, by go_num, (unhide HR).1, (unhide HR).2.1, (unhide HR).2.2⟩
      case measure => simp [intOf]; omega
    · obtain rfl : k = n := by omega
      go_wp2
      go_ret
      exact ⟨rfl, hm, hop, hon⟩

set_option maxHeartbeats 1000000 in
theorem heldWordS_any (b o n cap : Nat) (k0 : Int) (w : World) (hn : n ≤ 1099511627776) (h0 : 0 ≤ k0) (h1 : k0 ≤ 1099511627776) (hm : ∀ j, j < 3 * n → w.cell? ⟨b, o + j, none⟩ = some (iv (k0 + j))) :
    Calls Tryz.prog 70 #[.slice (some ⟨b, o, none⟩) n cap, .int .i64 k0] w fun e w' =>
      e = .returned (.int .i64 (k0 + 3 * n)) ∧ w' = w := by
  go_enter Tryz.func70, Tryz.ntmps70
  go_wp2
  go_loop [1, 5] (fun kk i => ∃ k : Nat, k ≤ n ∧ i = .int .i64 k ∧ kk = .int .i64 (k0 + 3 * k)) (fun _ i => n - (intOf i).toNat)
  case atStart => exact ⟨0, Nat.zero_le _, rfl, by simp⟩
  case round =>
    obtain ⟨k, hk, rfl, rfl⟩ := hrel
    by_cases hlt : k < n
    · have c0 : w.cell? ⟨b, o + k * 3, none⟩ = some (iv (k0 + 3 * k)) := by rw [Nat.mul_comm, hm (3 * k) (by omega)]; congr 2
      have c1 : w.cell? ⟨b, o + k * 3 + 1, none⟩ = some (iv (k0 + 3 * k + 1)) := by rw [Nat.mul_comm, Nat.add_assoc, hm (3 * k + 1) (by omega)]; congr 2; omega
      have c2 : w.cell? ⟨b, o + k * 3 + 2, none⟩ = some (iv (k0 + 3 * k + 1 + 1)) := by rw [Nat.mul_comm, Nat.add_assoc, hm (3 * k + 2) (by omega)]; congr 2; omega
      go_wp2
      go_round
      case rel => exact ⟨k + 1, by omega, by go_num, by go_num⟩
      case measure => simp [intOf]; omega
    · obtain rfl : k = n := by omega
      go_wp2
      go_ret
      exact ⟨rfl, rfl⟩
end Go.Proofs.YtkabcfhemljnbaaGreat

namespace Go.Proofs.YtkabcfhemljnbaaGreat
open Go.RowKit
attribute [local go_sem ↓] Go.wp_at_zero Go.wp_at_succ

set_option maxHeartbeats 1000000 in
/-- markIntS writes the numbers from k0 on -/
theorem markIntS_any (b o n cap : Nat) (k0 : Int) (w : World) (hn : n ≤ 1099511627776) (h0 : 0 ≤ k0) (h1 : k0 ≤ 1099511627776) (ho : ∀ j, j < n → Open w b (o + j)) :
    Calls Tryz.prog 60 #[.slice (some ⟨b, o, none⟩) n cap, .int .i64 k0] w fun e w' =>
      e = .returned (.int .i64 (k0 + n)) ∧ (∀ j, j < n → w'.cell? ⟨b, o + j, none⟩ = some (iv (k0 + j))) ∧ (∀ j, j < n → Open w' b (o + j)) ∧ Only (fun q => q = b) w w' := by
  have H0 := hide ho
  clear ho
  go_enter Tryz.func60, Tryz.ntmps60
  go_wp2_with fail
  go_loopw [1, 5] (fun kk i wr => ∃ k : Nat, k ≤ n ∧ i = .int .i64 k ∧ kk = .int .i64 (k0 + k) ∧ Hid ((∀ j, j < k → wr.cell? ⟨b, o + j, none⟩ = some (iv (k0 + j))) ∧ (∀ j, j < n → Open wr b (o + j)) ∧ Only (fun q => q = b) w wr)) (fun _ i _ => n - (intOf i).toNat)
  case atStart => exact ⟨0, Nat.zero_le _, rfl, by simp, fun j hj => by omega, unhide H0, Only.refl _ _⟩
  case round =>
    obtain ⟨k, hk, rfl, rfl, hm⟩ := hrel
    by_cases hlt : k < n
    · have R := hide (show (∀ j, j < k + 1 → (wr.setCell ⟨b, o + k, none⟩ (iv (k0 + k))).cell? ⟨b, o + j, none⟩ = some (iv (k0 + j))) ∧ (∀ j, j < n → Open (wr.setCell ⟨b, o + k, none⟩ (iv (k0 + k))) b (o + j)) ∧ Only (fun q => q = b) w (wr.setCell ⟨b, o + k, none⟩ (iv (k0 + k))) from
        ⟨fun j hj => by
          by_cases e : j = k
          · subst e; exact ((unhide hm).2.1 j hlt).same _
          · rw [cell_other _ (.inr (by omega))]; exact (unhide hm).1 j (by omega), fun j hj => ((unhide hm).2.1 j hj).set _ _, (unhide hm).2.2.setCell rfl _⟩)
      obtain ⟨⟨v0, c0⟩, f0⟩ : Open wr b (o + k) := (unhide hm).2.1 k hlt
      have g0 : (0:Int) ≤ (k:Int) := by omega
      have g1 : (k:Int) < (n:Int) := by omega
      go_wp2_with fail
      go_roundw
      case rel => exact ⟨k + 1, by omega, by go_num, by go_num, (unhide R).1, (unhide R).2.1, (unhide R).2.2⟩
      case measure => simp [intOf]; omega
    · have hk2 : k = n := by omega
      subst hk2
      go_wp2_with fail
      go_ret
      exact ⟨rfl, (unhide hm).1, (unhide hm).2.1, (unhide hm).2.2⟩

theorem mark6_step {w wr : World} {b o n k : Nat} {k0 : Int} (hk : k < n) (hm : ∀ j, j < 6 * k → wr.cell? ⟨b, o + j, none⟩ = some (iv (k0 + j))) (ho : ∀ j, j < 6 * n → Open wr b (o + j)) (hon : Only (fun q => q = b) w wr) :
    let W := ((((((wr.setCell ⟨b, o + k * 6, none⟩ (iv (k0 + 6 * k))).setCell ⟨b, o + k * 6 + 1, none⟩ (iv (k0 + 6 * k + 1))).setCell ⟨b, o + k * 6 + 2, none⟩ (iv (k0 + 6 * k + 1 + 1))).setCell ⟨b, o + k * 6 + 3, none⟩ (iv (k0 + 6 * k + 1 + 1 + 1))).setCell ⟨b, o + k * 6 + 4, none⟩ (iv (k0 + 6 * k + 1 + 1 + 1 + 1))).setCell ⟨b, o + k * 6 + 5, none⟩ (iv (k0 + 6 * k + 1 + 1 + 1 + 1 + 1)))
    (∀ j, j < 6 * (k + 1) → W.cell? ⟨b, o + j, none⟩ = some (iv (k0 + j))) ∧ (∀ j, j < 6 * n → Open W b (o + j)) ∧ Only (fun q => q = b) w W := by
  intro W
  refine ⟨?_, fun j hj => ((((((ho j hj).set _ _).set _ _).set _ _).set _ _).set _ _).set _ _, (((((hon.setCell rfl _).setCell rfl _).setCell rfl _).setCell rfl _).setCell rfl _).setCell rfl _⟩
  intro j hj
  have op : ∀ i, i < 6 → Open wr b (o + k * 6 + i) := fun i hi => by
    have := ho (6 * k + i) (by omega)
    have e : o + (6 * k + i) = o + k * 6 + i := by omega
    rw [e] at this; exact this
  show (World.setCell _ _ _).cell? _ = _
  by_cases h5 : j = 6 * k + 5
  · subst h5
    have e : o + (6 * k + 5) = o + k * 6 + 5 := by omega
    rw [e]
    rw [Open.same (Open.set (Open.set (Open.set (Open.set (Open.set (op 5 (by omega)) _ _) _ _) _ _) _ _) _ _)]
    congr 2; omega
  · rw [cell_other _ (Or.inr (by omega))]
    by_cases h4 : j = 6 * k + 4
    · subst h4
      have e : o + (6 * k + 4) = o + k * 6 + 4 := by omega
      rw [e]
      rw [Open.same (Open.set (Open.set (Open.set (Open.set (op 4 (by omega)) _ _) _ _) _ _) _ _)]
      congr 2; omega
    · rw [cell_other _ (Or.inr (by omega))]
      by_cases h3 : j = 6 * k + 3
      · subst h3
        have e : o + (6 * k + 3) = o + k * 6 + 3 := by omega
        rw [e]
        rw [Open.same (Open.set (Open.set (Open.set (op 3 (by omega)) _ _) _ _) _ _)]
        congr 2; omega
      · rw [cell_other _ (Or.inr (by omega))]
        by_cases h2 : j = 6 * k + 2
        · subst h2
          have e : o + (6 * k + 2) = o + k * 6 + 2 := by omega
          rw [e]
          rw [Open.same (Open.set (Open.set (op 2 (by omega)) _ _) _ _)]
          congr 2; omega
        · rw [cell_other _ (Or.inr (by omega))]
          by_cases h1 : j = 6 * k + 1
          · subst h1
            have e : o + (6 * k + 1) = o + k * 6 + 1 := by omega
            rw [e]
            rw [Open.same (Open.set (op 1 (by omega)) _ _)]
            congr 2; omega
          · rw [cell_other _ (Or.inr (by omega))]
            by_cases h0 : j = 6 * k + 0
            · subst h0
              have e : o + (6 * k + 0) = o + k * 6 := by omega
              rw [e]
              rw [Open.same (show Open wr b (o + k * 6) from op 0 (by omega))]
              congr 2
            · rw [cell_other _ (Or.inr (by omega))]
              exact hm j (by omega)

set_option maxHeartbeats 2000000 in
theorem markPairS_any (b o n cap : Nat) (k0 : Int) (w : World) (hn : n ≤ 1099511627776) (h0 : 0 ≤ k0) (h1 : k0 ≤ 1099511627776) (ho : ∀ j, j < 6 * n → Open w b (o + j)) :
    Calls Tryz.prog 109 #[.slice (some ⟨b, o, none⟩) n cap, .int .i64 k0] w fun e w' =>
      e = .returned (.int .i64 (k0 + 6 * n)) ∧ (∀ j, j < 6 * n → w'.cell? ⟨b, o + j, none⟩ = some (iv (k0 + j))) ∧ (∀ j, j < 6 * n → Open w' b (o + j)) ∧ Only (fun q => q = b) w w' := by
  have H0 := hide ho
  clear ho
  go_enter Tryz.func109, Tryz.ntmps109
  go_wp2_with fail
  go_loopw [1, 5] (fun kk i wr => ∃ k : Nat, k ≤ n ∧ i = .int .i64 k ∧ kk = .int .i64 (k0 + 6 * k) ∧ Hid ((∀ j, j < 6 * k → wr.cell? ⟨b, o + j, none⟩ = some (iv (k0 + j))) ∧ (∀ j, j < 6 * n → Open wr b (o + j)) ∧ Only (fun q => q = b) w wr)) (fun _ i _ => n - (intOf i).toNat)
  case atStart => exact ⟨0, Nat.zero_le _, rfl, by simp, fun j hj => by omega, unhide H0, Only.refl _ _⟩
  case round =>
    obtain ⟨k, hk, rfl, rfl, hm⟩ := hrel
    by_cases hlt : k < n
    · have HR := hide (mark6_step hlt (unhide hm).1 (unhide hm).2.1 (unhide hm).2.2)
      have op : ∀ i, i < 6 → Open wr b (o + k * 6 + i) := fun i hi => by
        have := (unhide hm).2.1 (6 * k + i) (by omega)
        have e : o + (6 * k + i) = o + k * 6 + i := by omega
        rw [e] at this; exact this
      obtain ⟨⟨v0, c0⟩, f0⟩ : Open wr b (o + k * 6) := op 0 (by omega)
      obtain ⟨⟨v1, c1⟩, f1⟩ := op 1 (by omega)
      obtain ⟨⟨v2, c2⟩, f2⟩ := op 2 (by omega)
      obtain ⟨⟨v3, c3⟩, f3⟩ := op 3 (by omega)
      obtain ⟨⟨v4, c4⟩, f4⟩ := op 4 (by omega)
      obtain ⟨⟨v5, c5⟩, f5⟩ := op 5 (by omega)
      have g0 : (0:Int) ≤ (k:Int) := by omega
      have g1 : (k:Int) < (n:Int) := by omega
      clear op
      go_wp2_with fail
      go_roundw
      case rel => exact ⟨k + 1, by omega, by go_num, by go_num, (unhide HR).1, (unhide HR).2.1, (unhide HR).2.2⟩
      case measure => simp [intOf]; omega
    · have hk2 : k = n := by omega
      subst hk2
      go_wp2_with fail
      go_ret
      exact ⟨rfl, (unhide hm).1, (unhide hm).2.1, (unhide hm).2.2⟩
end Go.Proofs.YtkabcfhemljnbaaGreat

namespace Go.Proofs.YtkabcfhemljnbaaGreat
open Go.RowKit
attribute [local go_sem ↓] Go.wp_at_zero Go.wp_at_succ

/-- written to, cell by cell, in the blocks of S -/
structure Wr (S : Nat → Prop) (w w' : World) : Prop where
  o : Only S w w'
  op : ∀ b k, Open w b k → Open w' b k
theorem Wr.refl (S : Nat → Prop) (w : World) : Wr S w w := ⟨Only.refl _ _, fun _ _ h => h⟩
theorem Wr.trans {S : Nat → Prop} {a b c : World} (h : Wr S a b) (k : Wr S b c) : Wr S a c := ⟨h.o.trans k.o, fun b' i q => k.op b' i (h.op b' i q)⟩
theorem Wr.set {S : Nat → Prop} {a w : World} (h : Wr S a w) {p : Addr} (hp : S p.block) (u : Value) : Wr S a (w.setCell p u) := ⟨h.o.setCell hp u, fun b k q => (h.op b k q).set _ _⟩
theorem Wr.mono {S T : Nat → Prop} {w w' : World} (h : Wr S w w') (hST : ∀ k, S k → T k) : Wr T w w' := ⟨h.o.mono hST, h.op⟩

/-- n elements of sz cells each that may be written, in a block of S -/
def OpSl (S : Nat → Prop) (w : World) (sz : Nat) (ad : Option Addr) (n : Nat) : Prop := 0 < n → ∃ b o, ad = some ⟨b, o, none⟩ ∧ S b ∧ ∀ j, j < sz * n → Open w b (o + j)
theorem OpSl.wr {S T : Nat → Prop} {w w' : World} {sz n : Nat} {ad : Option Addr} (h : OpSl S w sz ad n) (k : Wr T w w') : OpSl S w' sz ad n := fun h0 => by
  obtain ⟨b, o, e, s, q⟩ := h h0
  exact ⟨b, o, e, s, fun j hj => k.op _ _ (q j hj)⟩
theorem OpSl.ext {S : Nat → Prop} {w w' : World} {sz n : Nat} {ad : Option Addr} (h : OpSl S w sz ad n) (k : Ext w w') : OpSl S w' sz ad n := fun h0 => by
  obtain ⟨b, o, e, s, q⟩ := h h0
  exact ⟨b, o, e, s, fun j hj => (q j hj).ext k⟩
/-- cells that may be written, their pairs too -/
def OpC (S : Nat → Prop) (w : World) (ad : Option Addr) (xs : List Cl) : Prop := 0 < xs.length → ∃ b o, ad = some ⟨b, o, none⟩ ∧ S b ∧ ∀ i (hi : i < xs.length), (∀ j, j < 7 → Open w b (o + i * 8 + j)) ∧ ∃ ap kp, w.cell? ⟨b, o + i * 8 + 7, none⟩ = some (.slice ap xs[i].prs.length kp) ∧ OpSl (fun q => S q ∧ q ≠ b) w 6 ap xs[i].prs.length
theorem OpC.ext {S : Nat → Prop} {w w' : World} {ad : Option Addr} {xs : List Cl} (h : OpC S w ad xs) (k : Ext w w') : OpC S w' ad xs := fun h0 => by
  obtain ⟨b, o, e, s, q⟩ := h h0
  refine ⟨b, o, e, s, fun i hi => ⟨fun j hj => ((q i hi).1 j hj).ext k, ?_⟩⟩
  obtain ⟨ap, kp, c, d⟩ := (q i hi).2
  exact ⟨ap, kp, k.keep c, d.ext k⟩
theorem OpC.wr {S T : Nat → Prop} {w w' : World} {ad : Option Addr} {xs : List Cl} (h : OpC S w ad xs) (k : Wr T w w') (hT : ∀ b o, ad = some ⟨b, o, none⟩ → ¬ T b) : OpC S w' ad xs := fun h0 => by
  obtain ⟨b, o, e, s, q⟩ := h h0
  refine ⟨b, o, e, s, fun i hi => ⟨fun j hj => k.op _ _ ((q i hi).1 j hj), ?_⟩⟩
  obtain ⟨ap, kp, c, d⟩ := (q i hi).2
  exact ⟨ap, kp, k.o.keep (hT b o e) c, d.wr k⟩

set_option maxHeartbeats 1000000 in
theorem markWordS_wr (S : Nat → Prop) (ad : Option Addr) (n cap : Nat) (k0 : Int) (w : World) (hn : n ≤ 1048576) (h0 : 0 ≤ k0) (h1 : k0 ≤ 1125899906842624) (ho : OpSl S w 3 ad n) :
    Calls Tryz.prog 58 #[.slice ad n cap, .int .i64 k0] w fun e w' => e = .returned (.int .i64 (k0 + 3 * n)) ∧ Wr S w w' := by
  have H0 := hide ho
  clear ho
  go_enter Tryz.func58, Tryz.ntmps58
  go_wp2_with fail
  go_loopw [1, 5] (fun kk i wr => ∃ k : Nat, k ≤ n ∧ i = .int .i64 k ∧ kk = .int .i64 (k0 + 3 * k) ∧ Hid (Wr S w wr)) (fun _ i _ => n - (intOf i).toNat)
  case atStart => exact ⟨0, Nat.zero_le _, rfl, by simp, Wr.refl _ _⟩
  case round =>
    obtain ⟨k, hk, rfl, rfl, hm⟩ := hrel
    by_cases hlt : k < n
    · obtain ⟨b, o, rfl, hs, hop⟩ := unhide H0 (by omega)
      have op : ∀ i, i < 3 → Open wr b (o + k * 3 + i) := fun i hi => by
        have := (unhide hm).op _ _ (hop (3 * k + i) (by omega))
        have e : o + (3 * k + i) = o + k * 3 + i := by omega
        rw [e] at this; exact this
      obtain ⟨⟨v0, c0⟩, f0⟩ : Open wr b (o + k * 3) := op 0 (by omega)
      obtain ⟨⟨v1, c1⟩, f1⟩ := op 1 (by omega)
      obtain ⟨⟨v2, c2⟩, f2⟩ := op 2 (by omega)
      have g0 : (0:Int) ≤ (k:Int) := by omega
      have g1 : (k:Int) < (n:Int) := by omega
      have R := hide (fun (x0 x1 x2 : Value) => (((unhide hm).set (p := ⟨b, o + k * 3, none⟩) hs x0).set (p := ⟨b, o + k * 3 + 1, none⟩) hs x1).set (p := ⟨b, o + k * 3 + 2, none⟩) hs x2)
      clear op hop
      go_wp2_with fail
      go_roundw
      case rel => exact ⟨k + 1, by omega, by go_num, by go_num, unhide R _ _ _⟩
      case measure => simp [intOf]; omega
    · have hk2 : k = n := by omega
      subst hk2
      go_wp2_with fail
      go_ret
      exact ⟨rfl, unhide hm⟩

set_option maxHeartbeats 1000000 in
theorem markIntS_wr (S : Nat → Prop) (ad : Option Addr) (n cap : Nat) (k0 : Int) (w : World) (hn : n ≤ 1048576) (h0 : 0 ≤ k0) (h1 : k0 ≤ 1125899906842624) (ho : OpSl S w 1 ad n) :
    Calls Tryz.prog 60 #[.slice ad n cap, .int .i64 k0] w fun e w' => e = .returned (.int .i64 (k0 + n)) ∧ Wr S w w' := by
  have H0 := hide ho
  clear ho
  go_enter Tryz.func60, Tryz.ntmps60
  go_wp2_with fail
  go_loopw [1, 5] (fun kk i wr => ∃ k : Nat, k ≤ n ∧ i = .int .i64 k ∧ kk = .int .i64 (k0 + k) ∧ Hid (Wr S w wr)) (fun _ i _ => n - (intOf i).toNat)
  case atStart => exact ⟨0, Nat.zero_le _, rfl, by simp, Wr.refl _ _⟩
  case round =>
    obtain ⟨k, hk, rfl, rfl, hm⟩ := hrel
    by_cases hlt : k < n
    · obtain ⟨b, o, rfl, hs, hop⟩ := unhide H0 (by omega)
      obtain ⟨⟨v0, c0⟩, f0⟩ : Open wr b (o + k) := (unhide hm).op _ _ (hop k (by omega))
      have g0 : (0:Int) ≤ (k:Int) := by omega
      have g1 : (k:Int) < (n:Int) := by omega
      have R := hide (fun (x0 : Value) => ((unhide hm).set (p := ⟨b, o + k, none⟩) hs x0))
      clear hop
      go_wp2_with fail
      go_roundw
      case rel => exact ⟨k + 1, by omega, by go_num, by go_num, unhide R _⟩
      case measure => simp [intOf]; omega
    · have hk2 : k = n := by omega
      subst hk2
      go_wp2_with fail
      go_ret
      exact ⟨rfl, unhide hm⟩

set_option maxHeartbeats 1000000 in
theorem markPairS_wr (S : Nat → Prop) (ad : Option Addr) (n cap : Nat) (k0 : Int) (w : World) (hn : n ≤ 1048576) (h0 : 0 ≤ k0) (h1 : k0 ≤ 1125899906842624) (ho : OpSl S w 6 ad n) :
    Calls Tryz.prog 109 #[.slice ad n cap, .int .i64 k0] w fun e w' => e = .returned (.int .i64 (k0 + 6 * n)) ∧ Wr S w w' := by
  have H0 := hide ho
  clear ho
  go_enter Tryz.func109, Tryz.ntmps109
  go_wp2_with fail
  go_loopw [1, 5] (fun kk i wr => ∃ k : Nat, k ≤ n ∧ i = .int .i64 k ∧ kk = .int .i64 (k0 + 6 * k) ∧ Hid (Wr S w wr)) (fun _ i _ => n - (intOf i).toNat)
  case atStart => exact ⟨0, Nat.zero_le _, rfl, by simp, Wr.refl _ _⟩
  case round =>
    obtain ⟨k, hk, rfl, rfl, hm⟩ := hrel
    by_cases hlt : k < n
    · obtain ⟨b, o, rfl, hs, hop⟩ := unhide H0 (by omega)
      have op : ∀ i, i < 6 → Open wr b (o + k * 6 + i) := fun i hi => by
        have := (unhide hm).op _ _ (hop (6 * k + i) (by omega))
        have e : o + (6 * k + i) = o + k * 6 + i := by omega
        rw [e] at this; exact this
      obtain ⟨⟨v0, c0⟩, f0⟩ : Open wr b (o + k * 6) := op 0 (by omega)
      obtain ⟨⟨v1, c1⟩, f1⟩ := op 1 (by omega)
      obtain ⟨⟨v2, c2⟩, f2⟩ := op 2 (by omega)
      obtain ⟨⟨v3, c3⟩, f3⟩ := op 3 (by omega)
      obtain ⟨⟨v4, c4⟩, f4⟩ := op 4 (by omega)
      obtain ⟨⟨v5, c5⟩, f5⟩ := op 5 (by omega)
      have g0 : (0:Int) ≤ (k:Int) := by omega
      have g1 : (k:Int) < (n:Int) := by omega
      have R := hide (fun (x0 x1 x2 x3 x4 x5 : Value) => ((((((unhide hm).set (p := ⟨b, o + k * 6, none⟩) hs x0).set (p := ⟨b, o + k * 6 + 1, none⟩) hs x1).set (p := ⟨b, o + k * 6 + 2, none⟩) hs x2).set (p := ⟨b, o + k * 6 + 3, none⟩) hs x3).set (p := ⟨b, o + k * 6 + 4, none⟩) hs x4).set (p := ⟨b, o + k * 6 + 5, none⟩) hs x5)
      clear op hop
      go_wp2_with fail
      go_roundw
      case rel => exact ⟨k + 1, by omega, by go_num, by go_num, unhide R _ _ _ _ _ _⟩
      case measure => simp [intOf]; omega
    · have hk2 : k = n := by omega
      subst hk2
      go_wp2_with fail
      go_ret
      exact ⟨rfl, unhide hm⟩

theorem put8 {S : Nat → Prop} {w wr : World} {b a : Nat} (hs : S b) (h : Wr S w wr) (x0 x1 x2 x3 x4 x5 x6 : Value) :
    let W := ((((((wr.setCell ⟨b, a, none⟩ x0).setCell ⟨b, a + 1, none⟩ x1).setCell ⟨b, a + 2, none⟩ x2).setCell ⟨b, a + 3, none⟩ x3).setCell ⟨b, a + 4, none⟩ x4).setCell ⟨b, a + 5, none⟩ x5).setCell ⟨b, a + 6, none⟩ x6
    Wr S w W ∧ (∀ o, (o < a ∨ a + 7 ≤ o) → W.cell? ⟨b, o, none⟩ = wr.cell? ⟨b, o, none⟩) := by
  intro W
  refine ⟨((((((h.set (p := ⟨b, a, none⟩) hs _).set (p := ⟨b, a + 1, none⟩) hs _).set (p := ⟨b, a + 2, none⟩) hs _).set (p := ⟨b, a + 3, none⟩) hs _).set (p := ⟨b, a + 4, none⟩) hs _).set (p := ⟨b, a + 5, none⟩) hs _).set (p := ⟨b, a + 6, none⟩) hs _, fun o ho => ?_⟩
  show (World.setCell _ _ _).cell? _ = _
  rw [cell_other _ (.inr (by omega)), cell_other _ (.inr (by omega)), cell_other _ (.inr (by omega)), cell_other _ (.inr (by omega)), cell_other _ (.inr (by omega)), cell_other _ (.inr (by omega)), cell_other _ (.inr (by omega))]

set_option maxRecDepth 100000 in
set_option maxHeartbeats 2000000 in
theorem markCellS_wr (S : Nat → Prop) (ad : Option Addr) (xs : List Cl) (cap : Nat) (k0 : Int) (w : World) (hn : xs.length ≤ 1048576) (hp : prsum xs ≤ 1048576) (h0 : 0 ≤ k0) (h1 : k0 ≤ 4194304) (ho : OpC S w ad xs) :
    Calls Tryz.prog 59 #[.slice ad xs.length cap, .int .i64 k0] w fun e w' => ∃ k1 : Int, Hid (e = .returned (.int .i64 k1)) ∧ 0 ≤ k1 ∧ k1 ≤ 7000000000000 ∧ Wr S w w' := by
  have H0 := hide ho
  have HP := hide (fun k (h : k < xs.length) => Nat.le_trans (prs_le xs k h) hp)
  clear ho
  go_enter Tryz.func59, Tryz.ntmps59
  go_wp2_with fail
  go_loopw [1, 5] (fun kk i wr => ∃ (k : Nat) (m : Int), k ≤ xs.length ∧ i = .int .i64 k ∧ kk = .int .i64 m ∧ 0 ≤ m ∧ m ≤ 4194304 + 6291463 * k ∧ Hid (Wr S w wr ∧ ∀ b o j, ad = some ⟨b, o, none⟩ → j < xs.length → wr.cell? ⟨b, o + j * 8 + 7, none⟩ = w.cell? ⟨b, o + j * 8 + 7, none⟩)) (fun _ i _ => xs.length - (intOf i).toNat)
  case atStart => exact ⟨0, k0, Nat.zero_le _, rfl, rfl, h0, by omega, Wr.refl _ _, fun _ _ _ _ _ => rfl⟩
  case round =>
    obtain ⟨k, m, hk, rfl, rfl, hm0, hm1, hm⟩ := hrel
    by_cases hlt : k < xs.length
    · obtain ⟨b, o, rfl, hs, hop⟩ := unhide H0 (by omega)
      have op : ∀ i, i < 7 → Open wr b (o + k * 8 + i) := fun i hi => (unhide hm).1.op _ _ ((hop k hlt).1 i hi)
      obtain ⟨⟨v0, c0⟩, f0⟩ : Open wr b (o + k * 8) := op 0 (by omega)
      obtain ⟨⟨v1, c1⟩, f1⟩ := op 1 (by omega)
      obtain ⟨⟨v2, c2⟩, f2⟩ := op 2 (by omega)
      obtain ⟨⟨v3, c3⟩, f3⟩ := op 3 (by omega)
      obtain ⟨⟨v4, c4⟩, f4⟩ := op 4 (by omega)
      obtain ⟨⟨v5, c5⟩, f5⟩ := op 5 (by omega)
      obtain ⟨⟨v6, c6⟩, f6⟩ := op 6 (by omega)
      obtain ⟨ap, kp, c7, hpo⟩ := (hop k hlt).2
      have d7 := ((unhide hm).2 b o k rfl hlt).trans c7
      have g0 : (0:Int) ≤ (k:Int) := by omega
      have g1 : (k:Int) < (xs.length:Int) := by omega
      have hpl := unhide HP k hlt
      have PO := hide hpo
      have HOP := hide hop
      have R := hide (fun (x0 x1 x2 x3 x4 x5 x6 : Value) => put8 (a := o + k * 8) hs (unhide hm).1 x0 x1 x2 x3 x4 x5 x6)
      clear op hop c7 hpo
      go_wp2_with fail
      refine (markPairS_wr (fun q => S q ∧ q ≠ b) ap xs[k].prs.length kp (m + 1 + 1 + 1 + 1 + 1 + 1 + 1) _ hpl (by omega) (by omega) ((unhide PO).wr (unhide R _ _ _ _ _ _ _).1)).mono ?_
      rintro e w2 ⟨rfl, hq⟩
      have R2 := hide (show Wr S w w2 ∧ ∀ b' o' j, (some ⟨b, o, none⟩ : Option Addr) = some ⟨b', o', none⟩ → j < xs.length → w2.cell? ⟨b', o' + j * 8 + 7, none⟩ = w.cell? ⟨b', o' + j * 8 + 7, none⟩ from by
        refine ⟨(unhide R _ _ _ _ _ _ _).1.trans (hq.mono (fun _ h => h.1)), fun b' o' j e hj => ?_⟩
        cases e
        obtain ⟨ap', kp', c', _⟩ := (unhide HOP j hj).2
        rw [c']
        refine hq.o.keep (by simp) ?_
        rw [(unhide R _ _ _ _ _ _ _).2 _ (by omega)]
        exact ((unhide hm).2 b o j rfl hj).trans c')
      clear hq R
      go_wp2_with fail
      go_roundw
      case rel => exact ⟨k + 1, _, by omega, by go_num, rfl, by omega, by omega, unhide R2⟩
      case measure => simp [intOf]; omega
    · have hk2 : k = xs.length := by omega
      go_wp2_with fail
      go_ret
      exact ⟨_, rfl, hm0, by omega, (unhide hm).1⟩

set_option maxRecDepth 100000 in
set_option maxHeartbeats 2000000 in
theorem markHeap_wr (S : Nat → Prop) (x : Hp) (ar ac ag : Option Addr) (kr kc kg : Nat) (w : World) (n1 : x.regs.length ≤ 1048576) (n2 : x.cells.length ≤ 1048576) (n3 : prsum x.cells ≤ 1048576) (n4 : x.gray.length ≤ 1048576) (hS : ∀ q, S q → q < w.heap.size) (oR : OpSl S w 3 ar x.regs.length) (oC : OpC S w ac x.cells) (oG : OpSl S w 1 ag x.gray.length) (hd : ∀ b o b' o', ar = some ⟨b, o, none⟩ → ac = some ⟨b', o', none⟩ → b ≠ b') :
    Calls Tryz.prog 18 #[x.v (.slice ar x.regs.length kr) (.slice ac x.cells.length kc) (.slice ag x.gray.length kg), .int .i64 1] w fun e w' => ∃ k1 : Int, Hid (e = .returned (.int .i64 k1)) ∧ 0 ≤ k1 ∧ ∃ w1, Ext w w1 ∧ Wr S w1 w' := by
  have x1 := (Ext.refl w).alloc (.cells #[iv x.room, iv x.used, iv x.born, .slice ar x.regs.length kr, .slice ac x.cells.length kc, iv x.phase, iv x.hand, iv x.sub, .slice ag x.gray.length kg, iv x.per, iv x.start, iv x.rounds, iv x.forced] 33)
  have hns : ¬ S w.heap.size := fun h => by have := hS _ h; omega
  have O1 := hide (show OpSl (fun q => S q ∧ ∀ b o, ac = some ⟨b, o, none⟩ → q ≠ b) (w.alloc (.cells #[iv x.room, iv x.used, iv x.born, .slice ar x.regs.length kr, .slice ac x.cells.length kc, iv x.phase, iv x.hand, iv x.sub, .slice ag x.gray.length kg, iv x.per, iv x.start, iv x.rounds, iv x.forced] 33)) 3 ar x.regs.length from fun h0 => by
    obtain ⟨b, o, e, s, q⟩ := oR.ext x1 h0
    exact ⟨b, o, e, ⟨s, fun b' o' e' => hd b o b' o' e e'⟩, q⟩)
  have O2 := hide (oC.ext x1)
  have O3 := hide (oG.ext x1)
  clear oR oC oG hd
  go_enter Tryz.func18, Tryz.ntmps18
  go_wp2_with fail
  refine (markWordS_wr _ ar x.regs.length kr 1 _ n1 (by omega) (by omega) (unhide O1)).mono ?_
  rintro e w1 ⟨rfl, q1⟩
  have d4 : w1.cell? ⟨w.heap.size, 4, none⟩ = some (.slice ac x.cells.length kc) := q1.o.keep (fun h => hns h.1) (by simp [go_sem])
  have d8 : w1.cell? ⟨w.heap.size, 8, none⟩ = some (.slice ag x.gray.length kg) := q1.o.keep (fun h => hns h.1) (by simp [go_sem])
  have P2 := hide ((unhide O2).wr q1 (fun b o e h => h.2 b o e rfl))
  have P3 := hide ((unhide O3).wr q1)
  have Q1 := hide (q1.mono (fun _ h => h.1))
  clear O1 O2 O3 q1
  go_wp2_with fail
  refine (markCellS_wr S ac x.cells kc (1 + 3 * x.regs.length) _ n2 n3 (by omega) (by omega) (unhide P2)).mono ?_
  rintro e w2 ⟨k2, rfl, h20, h21, q2⟩
  have e8 : w2.cell? ⟨w.heap.size, 8, none⟩ = some (.slice ag x.gray.length kg) := q2.o.keep hns d8
  have P4 := hide ((unhide P3).wr q2)
  have Q2 := hide ((unhide Q1).trans q2)
  clear P2 P3 q2 d4 d8 Q1
  go_wp2_with fail
  refine (markIntS_wr S ag x.gray.length kg k2 _ n4 h20 (by omega) (unhide P4)).mono ?_
  rintro e w3 ⟨rfl, q3⟩
  have Q3 := hide ((unhide Q2).trans q3)
  clear q3 P4 Q2 e8
  go_wp2_with fail
  go_ret
  exact ⟨_, rfl, by omega, _, x1, unhide Q3⟩

theorem opW {S : Nat → Prop} {B cap : Nat} {w : World} {ad : Option Addr} {xs : List Wd} (h : SlWF B w (.slice ad xs.length cap) xs) (hS : ∀ b, B ≤ b → b < w.heap.size → S b) : OpSl S w 3 ad xs.length := fun h0 => by
  obtain ⟨ad', cap', e, _, hx⟩ := h.1
  simp only [Value.slice.injEq, true_and] at e
  obtain ⟨rfl, rfl⟩ := e
  obtain ⟨b, o, rfl, _⟩ := hx 0 h0
  refine ⟨b, o, rfl, hS b (h.2.1 b o _ _ rfl).1 (h.2.2 b o _ _ rfl).1, fun j hj => ⟨?_, (h.2.2 b o _ _ rfl).2 _⟩⟩
  obtain ⟨b2, o2, e2, p0, p1, p2⟩ := hx (j / 3) (by omega)
  cases e2
  have : j % 3 = 0 ∨ j % 3 = 1 ∨ j % 3 = 2 := by omega
  rcases this with q | q | q
  · exact ⟨_, by rw [show o + j = o + j / 3 * 3 by omega]; exact p0⟩
  · exact ⟨_, by rw [show o + j = o + j / 3 * 3 + 1 by omega]; exact p1⟩
  · exact ⟨_, by rw [show o + j = o + j / 3 * 3 + 2 by omega]; exact p2⟩
theorem opI {S : Nat → Prop} {B cap : Nat} {w : World} {ad : Option Addr} {xs : List Int} (h : SlI w (.slice ad xs.length cap) xs) (hf : Fn0 B w (.slice ad xs.length cap)) (hS : ∀ b, B ≤ b → b < w.heap.size → S b) : OpSl S w 1 ad xs.length := fun h0 => by
  obtain ⟨ad', cap', e, _, hx⟩ := h
  simp only [Value.slice.injEq, true_and] at e
  obtain ⟨rfl, rfl⟩ := e
  obtain ⟨b, o, rfl, _⟩ := hx 0 h0
  refine ⟨b, o, rfl, hS b (hf.1 b o _ _ rfl).1 (hf.2 b o _ _ rfl).1, fun j hj => ⟨?_, (hf.2 b o _ _ rfl).2 _⟩⟩
  obtain ⟨b2, o2, e2, p0⟩ := hx j (by omega)
  cases e2
  have p0 : w.cell? ⟨b, o + j * 1, none⟩ = some (iv xs[j]) := p0
  exact ⟨_, by rw [Nat.mul_one] at p0; exact p0⟩
theorem opP {S : Nat → Prop} {B b0 cap : Nat} {w : World} {ad : Option Addr} {xs : List Pr} (h : SlP w (.slice ad xs.length cap) xs) (hf : Fn2 B w b0 (.slice ad xs.length cap)) (hS : ∀ b, B ≤ b → b < w.heap.size → S b) : OpSl (fun q => S q ∧ q ≠ b0) w 6 ad xs.length := fun h0 => by
  obtain ⟨ad', cap', e, _, hx⟩ := h
  simp only [Value.slice.injEq, true_and] at e
  obtain ⟨rfl, rfl⟩ := e
  obtain ⟨b, o, rfl, _⟩ := hx 0 h0
  refine ⟨b, o, rfl, ⟨hS b (hf.1.1 b o _ _ rfl).1 (hf.1.2 b o _ _ rfl).1, hf.2 b o _ _ rfl⟩, fun j hj => ⟨?_, (hf.1.2 b o _ _ rfl).2 _⟩⟩
  obtain ⟨b2, o2, e2, p0, p1, p2, p3, p4, p5⟩ := hx (j / 6) (by omega)
  cases e2
  have : j % 6 = 0 ∨ j % 6 = 1 ∨ j % 6 = 2 ∨ j % 6 = 3 ∨ j % 6 = 4 ∨ j % 6 = 5 := by omega
  rcases this with q | q | q | q | q | q
  · exact ⟨_, by rw [show o + j = o + j / 6 * 6 by omega]; exact p0⟩
  · exact ⟨_, by rw [show o + j = o + j / 6 * 6 + 1 by omega]; exact p1⟩
  · exact ⟨_, by rw [show o + j = o + j / 6 * 6 + 2 by omega]; exact p2⟩
  · exact ⟨_, by rw [show o + j = o + j / 6 * 6 + 3 by omega]; exact p3⟩
  · exact ⟨_, by rw [show o + j = o + j / 6 * 6 + 4 by omega]; exact p4⟩
  · exact ⟨_, by rw [show o + j = o + j / 6 * 6 + 5 by omega]; exact p5⟩
theorem opC {S : Nat → Prop} {B cap : Nat} {w : World} {ad : Option Addr} {xs : List Cl} (h : SlCF B w (.slice ad xs.length cap) xs) (hS : ∀ b, B ≤ b → b < w.heap.size → S b) : OpC S w ad xs := fun h0 => by
  obtain ⟨ad', cap', e, _, hx⟩ := h.1
  simp only [Value.slice.injEq, true_and] at e
  obtain ⟨rfl, rfl⟩ := e
  obtain ⟨b, o, rfl, _⟩ := hx 0 h0
  refine ⟨b, o, rfl, hS b (h.2.1 b o _ _ rfl).1 (h.2.2 b o _ _ rfl).1, fun i hi => ?_⟩
  obtain ⟨b2, o2, e2, vp, p0, p1, p2, p3, p4, p5, p6, p7, hP, hF⟩ := hx i hi
  cases e2
  have fz := (h.2.2 b o _ _ rfl).2
  refine ⟨fun j hj => ⟨?_, fz _⟩, ?_⟩
  · have : j = 0 ∨ j = 1 ∨ j = 2 ∨ j = 3 ∨ j = 4 ∨ j = 5 ∨ j = 6 := by omega
    rcases this with q | q | q | q | q | q | q
    · subst q; exact ⟨_, p0⟩
    · subst q; exact ⟨_, p1⟩
    · subst q; exact ⟨_, p2⟩
    · subst q; exact ⟨_, p3⟩
    · subst q; exact ⟨_, p4⟩
    · subst q; exact ⟨_, p5⟩
    · subst q; exact ⟨_, p6⟩
  · obtain ⟨ap, kp, e, _⟩ := id hP
    subst e
    exact ⟨ap, kp, p7, opP hP hF hS⟩
end Go.Proofs.YtkabcfhemljnbaaGreat
