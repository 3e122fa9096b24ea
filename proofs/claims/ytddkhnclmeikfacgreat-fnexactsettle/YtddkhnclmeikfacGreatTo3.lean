import Derived.Test.YtddkhnclmeikfacGreatTo
import Derived.Test.YtddkhnclmeikfacGreatTo2
namespace Go.Proofs.YtddkhnclmeikfacGreat
open Go.RowKit
attribute [local go_sem ↓] Go.wp_at_zero Go.wp_at_succ

/-! markWordS writes the numbers from k on into the cells of the row, heldWordS finds them there. -/
theorem mark_step {w wr : World} {b o n k : Nat} {k0 : Int} (hk : k < n) (hm : ∀ j, j < 3 * k → wr.cell? ⟨b, o + j, none⟩ = some (iv (k0 + j))) (ho : ∀ j, j < 3 * n → Open wr b (o + j)) (hon : Only (fun q => q = b) w wr) :
    let W := ((wr.setCell ⟨b, o + k * 3, none⟩ (iv (k0 + 3 * k))).setCell ⟨b, o + k * 3 + 1, none⟩ (iv (k0 + 3 * k + 1))).setCell ⟨b, o + k * 3 + 2, none⟩ (iv (k0 + 3 * k + 1 + 1))
    (∀ j, j < 3 * (k + 1) → W.cell? ⟨b, o + j, none⟩ = some (iv (k0 + j))) ∧ (∀ j, j < 3 * n → Open W b (o + j)) ∧ Only (fun q => q = b) w W := by
  intro W
  refine ⟨?_, fun j hj => (((ho j hj).set _ _).set _ _).set _ _, ((hon.setCell rfl _).setCell rfl _).setCell rfl _⟩
  intro j hj
  have o0 : Open wr b (o + k * 3) := by rw [Nat.mul_comm]; exact ho (3 * k) (by omega)
  have o1 : Open wr b (o + k * 3 + 1) := by rw [Nat.mul_comm]; exact ho (3 * k + 1) (by omega)
  have o2 : Open wr b (o + k * 3 + 2) := by rw [Nat.mul_comm]; exact ho (3 * k + 2) (by omega)
  by_cases h2 : j = 3 * k + 2
  · subst h2
    have e : o + (3 * k + 2) = o + k * 3 + 2 := by omega
    rw [e]
    show (World.setCell _ _ _).cell? _ = _
    rw [((o2.set _ _).set _ _).same]
    congr 2; omega
  · show (World.setCell _ _ _).cell? _ = _
    rw [cell_other _ (Or.inr (by omega))]
    by_cases h1 : j = 3 * k + 1
    · subst h1
      have e : o + (3 * k + 1) = o + k * 3 + 1 := by omega
      rw [e, (o1.set _ _).same]
      congr 2; omega
    · rw [cell_other _ (Or.inr (by omega))]
      by_cases h0 : j = 3 * k
      · subst h0
        have e : o + 3 * k = o + k * 3 := by omega
        rw [e, o0.same]
        congr 2
      · rw [cell_other _ (Or.inr (by omega))]
        exact hm j (by omega)

set_option maxHeartbeats 1000000 in
theorem markWordS_any (b o n cap : Nat) (k0 : Int) (w : World) (hn : n ≤ 1099511627776) (h0 : 0 ≤ k0) (h1 : k0 ≤ 1099511627776) (ho : ∀ j, j < 3 * n → Open w b (o + j)) :
    Calls Tryz.prog 61 #[.slice (some ⟨b, o, none⟩) n cap, .int .i64 k0] w fun e w' =>
      e = .returned (.int .i64 (k0 + 3 * n)) ∧ (∀ j, j < 3 * n → w'.cell? ⟨b, o + j, none⟩ = some (iv (k0 + j))) ∧ (∀ j, j < 3 * n → Open w' b (o + j)) ∧ Only (fun q => q = b) w w' := by
  go_enter Tryz.func61, Tryz.ntmps61
  go_wp2
  go_loopw [1, 5] (fun kk i wr => ∃ k : Nat, k ≤ n ∧ i = .int .i64 k ∧ kk = .int .i64 (k0 + 3 * k) ∧ (∀ j, j < 3 * k → wr.cell? ⟨b, o + j, none⟩ = some (iv (k0 + j))) ∧ (∀ j, j < 3 * n → Open wr b (o + j)) ∧ Only (fun q => q = b) w wr) (fun _ i _ => n - (intOf i).toNat)
  case atStart => exact ⟨0, Nat.zero_le _, rfl, by simp, fun j hj => by omega, ho, Only.refl _ _⟩
  case round =>
    obtain ⟨k, hk, rfl, rfl, hm, hop, hon⟩ := hrel
    by_cases hlt : k < n
    · have R := mark_step hlt hm hop hon
      have HR := hide R
      obtain ⟨⟨v0, c0⟩, f0⟩ : Open wr b (o + k * 3) := by rw [Nat.mul_comm]; exact hop (3 * k) (by omega)
      obtain ⟨⟨v1, c1⟩, f1⟩ : Open wr b (o + k * 3 + 1) := by rw [Nat.mul_comm]; exact hop (3 * k + 1) (by omega)
      obtain ⟨⟨v2, c2⟩, f2⟩ : Open wr b (o + k * 3 + 2) := by rw [Nat.mul_comm]; exact hop (3 * k + 2) (by omega)
      clear R hm hop hon
      go_wp2
      go_roundw
      case rel => exact ⟨k + 1, by omega, by go_num, by go_num, (unhide HR).1, (unhide HR).2.1, (unhide HR).2.2⟩
      case measure => simp [intOf]; omega
    · obtain rfl : k = n := by omega
      go_wp2
      go_ret
      exact ⟨rfl, hm, hop, hon⟩

set_option maxHeartbeats 1000000 in
theorem heldWordS_any (b o n cap : Nat) (k0 : Int) (w : World) (hn : n ≤ 1099511627776) (h0 : 0 ≤ k0) (h1 : k0 ≤ 1099511627776) (hm : ∀ j, j < 3 * n → w.cell? ⟨b, o + j, none⟩ = some (iv (k0 + j))) :
    Calls Tryz.prog 64 #[.slice (some ⟨b, o, none⟩) n cap, .int .i64 k0] w fun e w' =>
      e = .returned (.int .i64 (k0 + 3 * n)) ∧ w' = w := by
  go_enter Tryz.func64, Tryz.ntmps64
  go_wp2
  go_loop [1, 5] (fun kk i => ∃ k : Nat, k ≤ n ∧ i = .int .i64 k ∧ kk = .int .i64 (k0 + 3 * k)) (fun _ i => n - (intOf i).toNat)
  case atStart => exact ⟨0, Nat.zero_le _, rfl, by simp⟩
  case round =>
    obtain ⟨k, hk, rfl, rfl⟩ := hrel
    by_cases hlt : k < n
    · have c0 : w.cell? ⟨b, o + k * 3, none⟩ = some (iv (k0 + 3 * k)) := by rw [Nat.mul_comm, hm (3 * k) (by omega)]; congr 2
      have c1 : w.cell? ⟨b, o + k * 3 + 1, none⟩ = some (iv (k0 + 3 * k + 1)) := by rw [Nat.mul_comm, Nat.add_assoc, hm (3 * k + 1) (by omega)]; congr 2; omega
      have c2 : w.cell? ⟨b, o + k * 3 + 2, none⟩ = some (iv (k0 + 3 * k + 1 + 1)) := by rw [Nat.mul_comm, Nat.add_assoc, hm (3 * k + 2) (by omega)]; congr 2; omega
      go_wp2
      go_round
      case rel => exact ⟨k + 1, by omega, by go_num, by go_num⟩
      case measure => simp [intOf]; omega
    · obtain rfl : k = n := by omega
      go_wp2
      go_ret
      exact ⟨rfl, rfl⟩
end Go.Proofs.YtddkhnclmeikfacGreat

namespace Go.Proofs.YtddkhnclmeikfacGreat
open Go.RowKit
attribute [local go_sem ↓] Go.wp_at_zero Go.wp_at_succ

set_option maxHeartbeats 1000000 in
/-- markIntS writes the numbers from k0 on -/
theorem markIntS_any (b o n cap : Nat) (k0 : Int) (w : World) (hn : n ≤ 1099511627776) (h0 : 0 ≤ k0) (h1 : k0 ≤ 1099511627776) (ho : ∀ j, j < n → Open w b (o + j)) :
    Calls Tryz.prog 63 #[.slice (some ⟨b, o, none⟩) n cap, .int .i64 k0] w fun e w' =>
      e = .returned (.int .i64 (k0 + n)) ∧ (∀ j, j < n → w'.cell? ⟨b, o + j, none⟩ = some (iv (k0 + j))) ∧ (∀ j, j < n → Open w' b (o + j)) ∧ Only (fun q => q = b) w w' := by
  have H0 := hide ho
  clear ho
  go_enter Tryz.func63, Tryz.ntmps63
  go_wp2_with fail
  go_loopw [1, 5] (fun kk i wr => ∃ k : Nat, k ≤ n ∧ i = .int .i64 k ∧ kk = .int .i64 (k0 + k) ∧ Hid ((∀ j, j < k → wr.cell? ⟨b, o + j, none⟩ = some (iv (k0 + j))) ∧ (∀ j, j < n → Open wr b (o + j)) ∧ Only (fun q => q = b) w wr)) (fun _ i _ => n - (intOf i).toNat)
  case atStart => exact ⟨0, Nat.zero_le _, rfl, by simp, fun j hj => by omega, unhide H0, Only.refl _ _⟩
  case round =>
    obtain ⟨k, hk, rfl, rfl, hm⟩ := hrel
    by_cases hlt : k < n
    · have R := hide (show (∀ j, j < k + 1 → (wr.setCell ⟨b, o + k, none⟩ (iv (k0 + k))).cell? ⟨b, o + j, none⟩ = some (iv (k0 + j))) ∧ (∀ j, j < n → Open (wr.setCell ⟨b, o + k, none⟩ (iv (k0 + k))) b (o + j)) ∧ Only (fun q => q = b) w (wr.setCell ⟨b, o + k, none⟩ (iv (k0 + k))) from
        ⟨fun j hj => by
          by_cases e : j = k
          · subst e; exact ((unhide hm).2.1 j hlt).same _
          · rw [cell_other _ (.inr (by omega))]; exact (unhide hm).1 j (by omega), fun j hj => ((unhide hm).2.1 j hj).set _ _, (unhide hm).2.2.setCell rfl _⟩)
      obtain ⟨⟨v0, c0⟩, f0⟩ : Open wr b (o + k) := (unhide hm).2.1 k hlt
      have g0 : (0:Int) ≤ (k:Int) := by omega
      have g1 : (k:Int) < (n:Int) := by omega
      go_wp2_with fail
      go_roundw
      case rel => exact ⟨k + 1, by omega, by go_num, by go_num, (unhide R).1, (unhide R).2.1, (unhide R).2.2⟩
      case measure => simp [intOf]; omega
    · have hk2 : k = n := by omega
      subst hk2
      go_wp2_with fail
      go_ret
      exact ⟨rfl, (unhide hm).1, (unhide hm).2.1, (unhide hm).2.2⟩

theorem mark6_step {w wr : World} {b o n k : Nat} {k0 : Int} (hk : k < n) (hm : ∀ j, j < 6 * k → wr.cell? ⟨b, o + j, none⟩ = some (iv (k0 + j))) (ho : ∀ j, j < 6 * n → Open wr b (o + j)) (hon : Only (fun q => q = b) w wr) :
    let W := ((((((wr.setCell ⟨b, o + k * 6, none⟩ (iv (k0 + 6 * k))).setCell ⟨b, o + k * 6 + 1, none⟩ (iv (k0 + 6 * k + 1))).setCell ⟨b, o + k * 6 + 2, none⟩ (iv (k0 + 6 * k + 1 + 1))).setCell ⟨b, o + k * 6 + 3, none⟩ (iv (k0 + 6 * k + 1 + 1 + 1))).setCell ⟨b, o + k * 6 + 4, none⟩ (iv (k0 + 6 * k + 1 + 1 + 1 + 1))).setCell ⟨b, o + k * 6 + 5, none⟩ (iv (k0 + 6 * k + 1 + 1 + 1 + 1 + 1)))
    (∀ j, j < 6 * (k + 1) → W.cell? ⟨b, o + j, none⟩ = some (iv (k0 + j))) ∧ (∀ j, j < 6 * n → Open W b (o + j)) ∧ Only (fun q => q = b) w W := by
  intro W
  refine ⟨?_, fun j hj => ((((((ho j hj).set _ _).set _ _).set _ _).set _ _).set _ _).set _ _, (((((hon.setCell rfl _).setCell rfl _).setCell rfl _).setCell rfl _).setCell rfl _).setCell rfl _⟩
  intro j hj
  have op : ∀ i, i < 6 → Open wr b (o + k * 6 + i) := fun i hi => by
    have := ho (6 * k + i) (by omega)
    have e : o + (6 * k + i) = o + k * 6 + i := by omega
    rw [e] at this; exact this
  show (World.setCell _ _ _).cell? _ = _
  by_cases h5 : j = 6 * k + 5
  · subst h5
    have e : o + (6 * k + 5) = o + k * 6 + 5 := by omega
    rw [e]
    rw [Open.same (Open.set (Open.set (Open.set (Open.set (Open.set (op 5 (by omega)) _ _) _ _) _ _) _ _) _ _)]
    congr 2; omega
  · rw [cell_other _ (Or.inr (by omega))]
    by_cases h4 : j = 6 * k + 4
    · subst h4
      have e : o + (6 * k + 4) = o + k * 6 + 4 := by omega
      rw [e]
      rw [Open.same (Open.set (Open.set (Open.set (Open.set (op 4 (by omega)) _ _) _ _) _ _) _ _)]
      congr 2; omega
    · rw [cell_other _ (Or.inr (by omega))]
      by_cases h3 : j = 6 * k + 3
      · subst h3
        have e : o + (6 * k + 3) = o + k * 6 + 3 := by omega
        rw [e]
        rw [Open.same (Open.set (Open.set (Open.set (op 3 (by omega)) _ _) _ _) _ _)]
        congr 2; omega
      · rw [cell_other _ (Or.inr (by omega))]
        by_cases h2 : j = 6 * k + 2
        · subst h2
          have e : o + (6 * k + 2) = o + k * 6 + 2 := by omega
          rw [e]
          rw [Open.same (Open.set (Open.set (op 2 (by omega)) _ _) _ _)]
          congr 2; omega
        · rw [cell_other _ (Or.inr (by omega))]
          by_cases h1 : j = 6 * k + 1
          · subst h1
            have e : o + (6 * k + 1) = o + k * 6 + 1 := by omega
            rw [e]
            rw [Open.same (Open.set (op 1 (by omega)) _ _)]
            congr 2; omega
          · rw [cell_other _ (Or.inr (by omega))]
            by_cases h0 : j = 6 * k + 0
            · subst h0
              have e : o + (6 * k + 0) = o + k * 6 := by omega
              rw [e]
              rw [Open.same (show Open wr b (o + k * 6) from op 0 (by omega))]
              congr 2
            · rw [cell_other _ (Or.inr (by omega))]
              exact hm j (by omega)

set_option maxHeartbeats 2000000 in
theorem markPairS_any (b o n cap : Nat) (k0 : Int) (w : World) (hn : n ≤ 1099511627776) (h0 : 0 ≤ k0) (h1 : k0 ≤ 1099511627776) (ho : ∀ j, j < 6 * n → Open w b (o + j)) :
    Calls Tryz.prog 115 #[.slice (some ⟨b, o, none⟩) n cap, .int .i64 k0] w fun e w' =>
      e = .returned (.int .i64 (k0 + 6 * n)) ∧ (∀ j, j < 6 * n → w'.cell? ⟨b, o + j, none⟩ = some (iv (k0 + j))) ∧ (∀ j, j < 6 * n → Open w' b (o + j)) ∧ Only (fun q => q = b) w w' := by
  have H0 := hide ho
  clear ho
  go_enter Tryz.func115, Tryz.ntmps115
  go_wp2_with fail
  go_loopw [1, 5] (fun kk i wr => ∃ k : Nat, k ≤ n ∧ i = .int .i64 k ∧ kk = .int .i64 (k0 + 6 * k) ∧ Hid ((∀ j, j < 6 * k → wr.cell? ⟨b, o + j, none⟩ = some (iv (k0 + j))) ∧ (∀ j, j < 6 * n → Open wr b (o + j)) ∧ Only (fun q => q = b) w wr)) (fun _ i _ => n - (intOf i).toNat)
  case atStart => exact ⟨0, Nat.zero_le _, rfl, by simp, fun j hj => by omega, unhide H0, Only.refl _ _⟩
  case round =>
    obtain ⟨k, hk, rfl, rfl, hm⟩ := hrel
    by_cases hlt : k < n
    · have HR := hide (mark6_step hlt (unhide hm).1 (unhide hm).2.1 (unhide hm).2.2)
      have op : ∀ i, i < 6 → Open wr b (o + k * 6 + i) := fun i hi => by
        have := (unhide hm).2.1 (6 * k + i) (by omega)
        have e : o + (6 * k + i) = o + k * 6 + i := by omega
        rw [e] at this; exact this
      obtain ⟨⟨v0, c0⟩, f0⟩ : Open wr b (o + k * 6) := op 0 (by omega)
      obtain ⟨⟨v1, c1⟩, f1⟩ := op 1 (by omega)
      obtain ⟨⟨v2, c2⟩, f2⟩ := op 2 (by omega)
      obtain ⟨⟨v3, c3⟩, f3⟩ := op 3 (by omega)
      obtain ⟨⟨v4, c4⟩, f4⟩ := op 4 (by omega)
      obtain ⟨⟨v5, c5⟩, f5⟩ := op 5 (by omega)
      have g0 : (0:Int) ≤ (k:Int) := by omega
      have g1 : (k:Int) < (n:Int) := by omega
      clear op
      go_wp2_with fail
      go_roundw
      case rel => exact ⟨k + 1, by omega, by go_num, by go_num, (unhide HR).1, (unhide HR).2.1, (unhide HR).2.2⟩
      case measure => simp [intOf]; omega
    · have hk2 : k = n := by omega
      subst hk2
      go_wp2_with fail
      go_ret
      exact ⟨rfl, (unhide hm).1, (unhide hm).2.1, (unhide hm).2.2⟩
end Go.Proofs.YtddkhnclmeikfacGreat

namespace Go.Proofs.YtddkhnclmeikfacGreat
open Go.RowKit
attribute [local go_sem ↓] Go.wp_at_zero Go.wp_at_succ

/-- the two lie in two blocks -/
def Dis (vr vc : Value) : Prop := ∀ b o n c b' o' n' c', vr = .slice (some ⟨b, o, none⟩) n c → vc = .slice (some ⟨b', o', none⟩) n' c' → b ≠ b'
def SlIG (B : Nat) (w : World) (v : Value) (xs : List Int) (vr vc : Value) : Prop := SlI w v xs ∧ Fn0 B w v ∧ Dis vr vc
/-- the three slices of a heap, in blocks from B on -/
def HpF (B : Nat) (w : World) (x : Hp) (vr vc vg : Value) : Prop := SlWF B w vr x.regs ∧ SlCF B w vc x.cells ∧ SlIG B w vg x.gray vr vc
theorem HpF.only {S : Nat → Prop} {B : Nat} {w w' : World} {x : Hp} {vr vc vg : Value} (h : HpF B w x vr vc vg) (ho : Only S w w') (hS : ∀ q, S q → q < B) : HpF B w' x vr vc vg :=
  ⟨h.1.only ho hS, h.2.1.only ho hS, (SlIF.only ⟨h.2.2.1, h.2.2.2.1⟩ ho hS).1, h.2.2.2.1.only ho hS, h.2.2.2.2⟩
theorem HpF.ext {B : Nat} {w w' : World} {x : Hp} {vr vc vg : Value} (h : HpF B w x vr vc vg) (he : Ext w w') : HpF B w' x vr vc vg := ⟨h.1.ext he, h.2.1.ext he, SlI.ext he h.2.2.1, h.2.2.2.1.ext he, h.2.2.2.2⟩

set_option maxRecDepth 100000 in
set_option maxHeartbeats 2000000 in
theorem toHeap_any (x : Hp) (vr vc vg : Value) (w : World) (hR : SlW w vr x.regs) (hC : SlC w vc x.cells) (hG : SlI w vg x.gray) (n1 : x.regs.length ≤ 1048576) (n2 : x.cells.length ≤ 1048576) (n3 : prsum x.cells ≤ 1048576) (n4 : x.gray.length ≤ 1048576) :
    Calls Tryz.prog 12 #[x.v vr vc vg] w fun e w' => ∃ vr' vc' vg', e = .returned (x.v vr' vc' vg') ∧ HpF w.heap.size w' x vr' vc' vg' ∧ Ext w w' := by
  go_enter Tryz.func12, Tryz.ntmps12
  go_wp2_with fail
  refine (toWordS_any x.regs vr _ (SlW.ext ((((Ext.refl w).alloc _).alloc _).alloc _) hR) n1).mono ?_
  rintro e w1 ⟨vr', rfl, hR', hFr, x1⟩
  obtain ⟨adr, capr, rfl⟩ : ∃ ad cap, vr' = .slice ad x.regs.length cap := let ⟨a, c, h, _⟩ := hR'; ⟨a, c, h⟩
  have hc1 := (bcell x1).1
  have hf1 := (bcell x1).2
  have z1 : w.heap.size + 1 + 1 < w1.heap.size := by have := x1.size; simp at this; omega
  have z1a : w.heap.size < w1.heap.size := by omega
  have z1b : w.heap.size + 1 < w1.heap.size := by omega
  have y1 : Ext w w1 := Ext.trans ((((Ext.refl w).alloc _).alloc _).alloc _) x1
  have A1 : SlWF (w.heap.size + 3) w1 (.slice adr x.regs.length capr) x.regs := ⟨hR', hFr.mono (by simp)⟩
  have A1 := hide A1
  clear hR' hFr
  go_wp2_with fail
  have s1 : ∀ v, Only (fun q => q = w.heap.size + 1 + 1) w1 (w1.setCell ⟨w.heap.size + 1 + 1, 3, none⟩ v) := fun v => Only.setCell (S := fun q => q = w.heap.size + 1 + 1) (p := ⟨w.heap.size + 1 + 1, 3, none⟩) (Only.refl _ _) rfl v
  have e1 : ∀ v, Ext w (w1.setCell ⟨w.heap.size + 1 + 1, 3, none⟩ v) := fun v => (s1 v).ext y1 (by intro k hk; omega)
  refine (toCellS_any x.cells vc _ (SlC.ext (e1 _) hC) n2 n3).mono ?_
  rintro e w2 ⟨vc', rfl, hC', x2⟩
  obtain ⟨adc, capc, rfl⟩ : ∃ ad cap, vc' = .slice ad x.cells.length cap := let ⟨a, c, h, _⟩ := hC'.1; ⟨a, c, h⟩
  have hc2 := (bcell x2).1
  have hf2 := (bcell x2).2
  have z2 : w.heap.size + 1 + 1 < w2.heap.size := by have := x2.size; simp at this; omega
  have z2a : w.heap.size < w2.heap.size := by omega
  have z2b : w.heap.size + 1 < w2.heap.size := by omega
  have y2 : Ext w w2 := Ext.trans (e1 _) x2
  have A2 := hide (((unhide A1).only (s1 _) (by intro q hq; omega)).ext x2)
  have DI := hide (show Dis (.slice adr x.regs.length capr) (.slice adc x.cells.length capc) from fun b o n c b' o' n' c' e1 e2 => by
    have q1 := ((unhide A1).2.2 b o n c e1).1
    have q2 := (hC'.2.1 b' o' n' c' e2).1
    simp at q2
    omega)
  have B2 := hide (hC'.less (C := w.heap.size + 3) (by simp; omega))
  clear hC' A1
  go_wp2_with fail
  have s2 : ∀ v a b c, Only (fun q => q = w.heap.size + 1 + 1) w2 ((((w2.setCell ⟨w.heap.size + 1 + 1, 4, none⟩ v).setCell ⟨w.heap.size + 1 + 1, 5, none⟩ a).setCell ⟨w.heap.size + 1 + 1, 6, none⟩ b).setCell ⟨w.heap.size + 1 + 1, 7, none⟩ c) := fun v a b c => by
    repeat (first | refine Only.setCell ?_ (by simp) _ | exact Only.refl _ _)
  have e2 : ∀ v a b c, Ext w ((((w2.setCell ⟨w.heap.size + 1 + 1, 4, none⟩ v).setCell ⟨w.heap.size + 1 + 1, 5, none⟩ a).setCell ⟨w.heap.size + 1 + 1, 6, none⟩ b).setCell ⟨w.heap.size + 1 + 1, 7, none⟩ c) := fun v a b c => (s2 v a b c).ext y2 (by intro k hk; omega)
  refine (toIntS_any x.gray vg _ (SlI.ext (e2 _ _ _ _) hG) n4).mono ?_
  rintro e w3 ⟨vg', rfl, hG', hFg, x3⟩
  obtain ⟨adg, capg, rfl⟩ : ∃ ad cap, vg' = .slice ad x.gray.length cap := let ⟨a, c, h, _⟩ := hG'; ⟨a, c, h⟩
  have hc3 := (bcell x3).1
  have hf3 := (bcell x3).2
  have z3 : w.heap.size + 1 + 1 < w3.heap.size := by have := x3.size; simp at this; omega
  have z3a : w.heap.size < w3.heap.size := by omega
  have z3b : w.heap.size + 1 < w3.heap.size := by omega
  have y3 : Ext w w3 := Ext.trans (e2 _ _ _ _) x3
  have G : SlIF (w.heap.size + 3) w3 (.slice adg x.gray.length capg) x.gray := ⟨hG', hFg.mono (by simp; omega)⟩
  have HF : HpF (w.heap.size + 3) w3 x (.slice adr x.regs.length capr) (.slice adc x.cells.length capc) (.slice adg x.gray.length capg) :=
    ⟨((unhide A2).only (s2 _ _ _ _) (by intro q hq; omega)).ext x3, ((unhide B2).only (s2 _ _ _ _) (by intro q hq; omega)).ext x3, G.1, G.2, unhide DI⟩
  have fin : ∀ W, Only (fun q => q = w.heap.size + 1 ∨ q = w.heap.size + 1 + 1) w3 W → HpF w.heap.size W x (.slice adr x.regs.length capr) (.slice adc x.cells.length capc) (.slice adg x.gray.length capg) ∧ Ext w W := fun W h => by
    have h1 := HF.only h (by intro q hq; omega)
    exact ⟨⟨⟨h1.1.1, h1.1.2.mono (by omega)⟩, h1.2.1.less (by omega), ⟨h1.2.2.1, h1.2.2.2.1.mono (by omega), h1.2.2.2.2⟩⟩, h.ext y3 (by intro k hk; omega)⟩
  have FIN := hide fin
  clear hG' hFg A2 B2 G HF fin s2 e2 s1 e1 DI
  go_wp2_with fail
  refine bodyPost_ret (v := x.v (.slice adr x.regs.length capr) (.slice adc x.cells.length capc) (.slice adg x.gray.length capg)) ?_ rfl ⟨_, _, _, rfl, unhide FIN _ ?_⟩
  · simp [results, Tryz.results12, go_sem, hc1, hc2, hc3, z2b, z1b]
  repeat (first | refine Only.setCell ?_ (by simp) _ | exact Only.refl _ _)
end Go.Proofs.YtddkhnclmeikfacGreat
