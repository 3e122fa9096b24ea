import Derived.Test.YtbcmjcomdjdjaaaGreatTo
import Derived.Test.YtbcmjcomdjdjaaaGreatSz
namespace Go.Proofs.YtbcmjcomdjdjaaaGreat
open Go.RowKit
attribute [local go_sem ↓] Go.wp_at_zero Go.wp_at_succ

theorem ints_step {w wr : World} {xs : List Int} {k : Nat} (hlt : k < xs.length) (hm : ∀ j (hj : j < xs.length), j < k → InAt wr w.heap.size (0 + j * 1) xs[j]) (ho : ∀ j, j < xs.length * 1 → Open wr w.heap.size j) (hbl : Ext w wr) (hnf : Nf1 w.heap.size wr) :
    let W := wr.setCell ⟨w.heap.size, k, none⟩ (iv xs[k])
    (∀ j (hj : j < xs.length), j < k + 1 → InAt W w.heap.size (0 + j * 1) xs[j]) ∧ (∀ j, j < xs.length * 1 → Open W w.heap.size j) ∧ Ext w W ∧ Nf1 w.heap.size W := by
  intro W
  refine ⟨fun j hj hjk => ?_, fun j hj => (ho j hj).set _ _, hbl.setCell (Nat.le_refl _) _, hnf.set _ _⟩
  by_cases e : j = k
  · subst e
    show W.cell? _ = _
    have := (ho j (by omega)).same (iv xs[j])
    simpa using this
  · show W.cell? _ = _
    rw [cell_other _ (Or.inr (by omega))]
    exact hm j hj (by omega)

set_option maxHeartbeats 1000000 in
theorem toIntS_any (xs : List Int) (v : Value) (w : World) (h : SlI w v xs) (hn : xs.length ≤ 1048576) :
    Calls Tryz.prog 23 #[v] w fun e w' => ∃ v', e = .returned v' ∧ SlI w' v' xs ∧ Fn0 w.heap.size w' v' ∧ Ext w w' := by
  obtain ⟨ad, cap, rfl, hl, hx⟩ := h
  obtain ⟨z, hmk⟩ := mkInts xs.length hn w
  go_enter Tryz.func23, Tryz.ntmps23
  go_wp2_with fail
  go_loopw [4] (fun i wr => ∃ k : Nat, k ≤ xs.length ∧ i = .int .i64 k ∧ (∀ j (hj : j < xs.length), j < k → InAt wr w.heap.size (0 + j * 1) xs[j]) ∧ (∀ j, j < xs.length * 1 → Open wr w.heap.size j) ∧ Ext w wr ∧ Hid (Nf1 w.heap.size wr)) (fun i _ => xs.length - (intOf i).toNat)
  case atStart => exact ⟨0, Nat.zero_le _, rfl, fun j hj h => by omega, fun j hj => made_open _ _ _ _ _ (by omega), (Ext.refl w).alloc _, Nf1.made _ _ _ _⟩
  case round =>
    obtain ⟨k, hk, rfl, hm, hop, hbl, hnf⟩ := hrel
    by_cases hlt : k < xs.length
    · obtain ⟨b, o, rfl, p0⟩ := hx k hlt
      have e0 := hbl.keep p0
      simp only [Nat.mul_one] at e0
      clear p0
      have hk0 : (0:Int) ≤ (k:Int) := by omega
      have hk1 : (k:Int) < (xs.length:Int) := by omega
      obtain ⟨⟨v0, c0⟩, f0⟩ := hop k (by omega)
      have R := hide (ints_step hlt hm hop hbl (unhide hnf))
      clear hm hop
      go_wp2_with fail
      go_roundw
      case rel => exact ⟨k + 1, by omega, by go_num, (unhide R).1, (unhide R).2.1, (unhide R).2.2.1, (unhide R).2.2.2⟩
      case measure => simp [intOf]; omega
    · have hk2 : k = xs.length := by omega
      have HM : SlOf (InAt wr) 1 (.slice (some ⟨w.heap.size, 0, none⟩) xs.length xs.length) xs := ⟨_, _, rfl, hl, fun i hi => ⟨_, _, rfl, hm i hi (by omega)⟩⟩
      have HM := hide HM
      clear hm hop hk2
      go_wp2_with fail
      go_ret
      exact ⟨_, rfl, unhide HM, (unhide hnf).fn, hbl⟩

set_option maxRecDepth 100000 in
set_option maxHeartbeats 1000000 in
theorem toCell_any (x : Cl) (vp : Value) (w : World) (hP : SlP w vp x.prs) (hn : x.prs.length ≤ 1048576) : Calls Tryz.prog 48 #[x.v vp] w fun e w' => ∃ vp', e = .returned (x.v vp') ∧ SlP w' vp' x.prs ∧ Fn0 w.heap.size w' vp' ∧ Ext w w' := by
  go_enter Tryz.func48, Tryz.ntmps48
  go_wp2_with fail
  refine (toPairS_any x.prs vp _ (SlP.ext ((((Ext.refl w).alloc _).alloc _).alloc _) hP) hn).mono ?_
  rintro e w1 ⟨vp', rfl, hP', hF, x1⟩
  obtain ⟨ad', cap', rfl⟩ : ∃ ad cap, vp' = .slice ad x.prs.length cap := let ⟨a, c, h, _⟩ := hP'; ⟨a, c, h⟩
  have hc1 := (bcell x1).1
  have hf1 := (bcell x1).2
  have z1 : w.heap.size + 2 < w1.heap.size := by have := x1.size; simp at this; omega
  have F2 := hide (hF.mono (C := w.heap.size + 3) (by simp))
  have y : Ext w w1 := Ext.trans ((((Ext.refl w).alloc _).alloc _).alloc _) x1
  have fin : ∀ W, Only (fun q => q = w.heap.size + 1 ∨ q = w.heap.size + 1 + 1) w1 W → SlP W (.slice ad' x.prs.length cap') x.prs ∧ Fn0 w.heap.size W (.slice ad' x.prs.length cap') ∧ Ext w W := fun W h =>
    ⟨slP_only h (fun b o n c e => by have := (unhide F2).1 b o n c e; omega) hP', ((unhide F2).only h (by intro q hq; omega)).mono (by omega), h.ext y (by intro k hk; omega)⟩
  have FIN := hide fin
  clear hF fin hP' hP
  go_wp2_with fail
  refine bodyPost_ret (v := x.v (.slice ad' x.prs.length cap')) (by simp [results, Tryz.results48, go_sem, hc1]) rfl ⟨_, rfl, unhide FIN _ ?_⟩
  repeat (first | refine Only.setCell ?_ (by simp) _ | exact Only.refl _ _)

/-- the pairs' block: from B on, none frozen, another one than the cell's -/
def Fn2 (B : Nat) (w : World) (b : Nat) (v : Value) : Prop := Fn0 B w v ∧ ∀ b' o n c, v = .slice (some ⟨b', o, none⟩) n c → b' ≠ b
/-- a cell whose pairs lie in a block from B on -/
def ClAtF (B : Nat) (w : World) (b o : Nat) (x : Cl) : Prop :=
  ∃ vp, w.cell? ⟨b, o, none⟩ = some (iv x.st) ∧ w.cell? ⟨b, o + 1, none⟩ = some (iv x.kind) ∧ w.cell? ⟨b, o + 2, none⟩ = some (iv x.weak) ∧
    w.cell? ⟨b, o + 3, none⟩ = some (iv x.last) ∧ w.cell? ⟨b, o + 4, none⟩ = some (iv x.born) ∧ w.cell? ⟨b, o + 5, none⟩ = some (iv x.color) ∧
    w.cell? ⟨b, o + 6, none⟩ = some (iv x.to) ∧ w.cell? ⟨b, o + 7, none⟩ = some vp ∧ SlP w vp x.prs ∧ Fn2 B w b vp
theorem ClAtF.at {B : Nat} {w : World} {b o : Nat} {x : Cl} (h : ClAtF B w b o x) : ClAt w b o x := by
  obtain ⟨vp, h0, h1, h2, h3, h4, h5, h6, h7, h8, _⟩ := h
  exact ⟨vp, h0, h1, h2, h3, h4, h5, h6, h7, h8⟩

theorem ClAtF.less {B C : Nat} {w : World} {b o : Nat} {x : Cl} (h : ClAtF B w b o x) (hc : C ≤ B) : ClAtF C w b o x := by
  obtain ⟨vp, h0, h1, h2, h3, h4, h5, h6, h7, h8, h9⟩ := h
  exact ⟨vp, h0, h1, h2, h3, h4, h5, h6, h7, h8, h9.1.mono hc, h9.2⟩
/-- cells, and their pairs, in blocks from B on -/
def SlCF (B : Nat) (w : World) (v : Value) (xs : List Cl) : Prop := SlOf (ClAtF B w) 8 v xs ∧ Fn0 B w v
theorem SlCF.sl {B : Nat} {w : World} {v : Value} {xs : List Cl} (h : SlCF B w v xs) : SlC w v xs := h.1.mono fun _ _ _ k => k.at
theorem SlCF.only {S : Nat → Prop} {B : Nat} {w w' : World} {v : Value} {xs : List Cl} (h : SlCF B w v xs) (ho : Only S w w') (hS : ∀ q, S q → q < B) : SlCF B w' v xs := by
  refine ⟨h.1.mono2 fun b o n c e o' x hx => ?_, h.2.only ho hS⟩
  have hb : ¬ S b := fun s => by have := hS b s; have := h.2.1 b o n c e; omega
  obtain ⟨vp, h0, h1, h2, h3, h4, h5, h6, h7, h8, h9⟩ := hx
  exact ⟨vp, ho.keep hb h0, ho.keep hb h1, ho.keep hb h2, ho.keep hb h3, ho.keep hb h4, ho.keep hb h5, ho.keep hb h6, ho.keep hb h7, slP_only ho (fun b o n c e s => by have := hS b s; have := h9.1.1 b o n c e; omega) h8, h9.1.only ho hS, h9.2⟩
theorem SlCF.less {B C : Nat} {w : World} {v : Value} {xs : List Cl} (h : SlCF B w v xs) (hc : C ≤ B) : SlCF C w v xs := ⟨h.1.mono fun _ _ _ k => k.less hc, h.2.mono hc⟩
theorem SlCF.ext {B : Nat} {w w' : World} {v : Value} {xs : List Cl} (h : SlCF B w v xs) (he : Ext w w') : SlCF B w' v xs :=
  h.only (S := fun _ => False) (Only.of_ext he) (fun _ f => f.elim)
def SlWF (B : Nat) (w : World) (v : Value) (xs : List Wd) : Prop := SlW w v xs ∧ Fn0 B w v
theorem SlWF.only {S : Nat → Prop} {B : Nat} {w w' : World} {v : Value} {xs : List Wd} (h : SlWF B w v xs) (ho : Only S w w') (hS : ∀ q, S q → q < B) : SlWF B w' v xs := by
  refine ⟨SlOf.mono2 h.1 fun b o n c e o' x hx => ?_, h.2.only ho hS⟩
  have hb : ¬ S b := fun s => by have := hS b s; have := h.2.1 b o n c e; omega
  exact ⟨ho.keep hb hx.1, ho.keep hb hx.2.1, ho.keep hb hx.2.2⟩
theorem SlWF.ext {B : Nat} {w w' : World} {v : Value} {xs : List Wd} (h : SlWF B w v xs) (he : Ext w w') : SlWF B w' v xs := ⟨SlW.ext he h.1, h.2.ext he⟩
def SlIF (B : Nat) (w : World) (v : Value) (xs : List Int) : Prop := SlI w v xs ∧ Fn0 B w v
theorem SlIF.only {S : Nat → Prop} {B : Nat} {w w' : World} {v : Value} {xs : List Int} (h : SlIF B w v xs) (ho : Only S w w') (hS : ∀ q, S q → q < B) : SlIF B w' v xs := by
  refine ⟨SlOf.mono2 h.1 fun b o n c e o' x hx => ?_, h.2.only ho hS⟩
  have hb : ¬ S b := fun s => by have := hS b s; have := h.2.1 b o n c e; omega
  exact ho.keep hb hx
theorem SlIF.ext {B : Nat} {w w' : World} {v : Value} {xs : List Int} (h : SlIF B w v xs) (he : Ext w w') : SlIF B w' v xs := ⟨SlI.ext he h.1, h.2.ext he⟩

theorem cells_step {w wr w1 : World} {xs : List Cl} {k : Nat} {vp : Value} (hlt : k < xs.length) (hm : ∀ j (hj : j < xs.length), j < k → ClAtF (w.heap.size + 1) wr w.heap.size (0 + j * 8) xs[j]) (ho : ∀ j, j < xs.length * 8 → Open wr w.heap.size j) (hbl : Ext w wr) (hg : w.heap.size < wr.heap.size) (hq : Ext wr w1) (hP : SlP w1 vp xs[k].prs) (hF : Fn0 wr.heap.size w1 vp) (hnf : Nf1 w.heap.size wr) :
    let W := w1.setCells w.heap.size (k * 8) [iv xs[k].st, iv xs[k].kind, iv xs[k].weak, iv xs[k].last, iv xs[k].born, iv xs[k].color, iv xs[k].to, vp]
    (∀ j (hj : j < xs.length), j < k + 1 → ClAtF (w.heap.size + 1) W w.heap.size (0 + j * 8) xs[j]) ∧ (∀ j, j < xs.length * 8 → Open W w.heap.size j) ∧ Ext w W ∧ w.heap.size < W.heap.size ∧ Nf1 w.heap.size W := by
  intro W
  have ho1 : ∀ j, j < [iv xs[k].st, iv xs[k].kind, iv xs[k].weak, iv xs[k].last, iv xs[k].born, iv xs[k].color, iv xs[k].to, vp].length → Open w1 w.heap.size (k * 8 + j) := fun j hj => (ho (k * 8 + j) (by simp at hj; omega)).ext hq
  have hon : Only (fun q => q = w.heap.size) w1 W := put_only (S := fun q => q = w.heap.size) rfl (Only.refl _ w1)
  refine ⟨fun j hj hjk => ?_, fun j hj => put_open ((ho j hj).ext hq), hon.ext (hbl.trans hq) (by intro k hk; omega), by have := hon.size; have := hq.size; omega, (hnf.ext hq).put⟩
  by_cases e : j = k
  · subst e
    refine ⟨vp, ?_, ?_, ?_, ?_, ?_, ?_, ?_, ?_, slP_only hon (fun b o n c e => by have := hF.1 b o n c e; omega) hP, (hF.only hon (by intro q hq; omega)).mono (by omega), fun b o n c e => by have := hF.1 b o n c e; omega⟩
    · have := put_in ho1 0 (by simp)
      simpa using this
    · have := put_in ho1 1 (by simp)
      simpa using this
    · have := put_in ho1 2 (by simp)
      simpa using this
    · have := put_in ho1 3 (by simp)
      simpa using this
    · have := put_in ho1 4 (by simp)
      simpa using this
    · have := put_in ho1 5 (by simp)
      simpa using this
    · have := put_in ho1 6 (by simp)
      simpa using this
    · have := put_in ho1 7 (by simp)
      simpa using this
  · obtain ⟨vq, h0, h1, h2, h3, h4, h5, h6, h7, h8, h9⟩ := hm j hj (by omega)
    refine ⟨vq, ?_, ?_, ?_, ?_, ?_, ?_, ?_, ?_, slP_only hon (fun b o n c e => by have := h9.1.1 b o n c e; omega) (SlP.ext hq h8), (h9.1.ext hq).only hon (by intro q hq; omega), h9.2⟩
    · rw [put_out _ _ (Or.inr (by simp; omega))]; exact hq.keep h0
    · rw [put_out _ _ (Or.inr (by simp; omega))]; exact hq.keep h1
    · rw [put_out _ _ (Or.inr (by simp; omega))]; exact hq.keep h2
    · rw [put_out _ _ (Or.inr (by simp; omega))]; exact hq.keep h3
    · rw [put_out _ _ (Or.inr (by simp; omega))]; exact hq.keep h4
    · rw [put_out _ _ (Or.inr (by simp; omega))]; exact hq.keep h5
    · rw [put_out _ _ (Or.inr (by simp; omega))]; exact hq.keep h6
    · rw [put_out _ _ (Or.inr (by simp; omega))]; exact hq.keep h7

set_option maxRecDepth 100000 in
set_option maxHeartbeats 1000000 in
theorem toCellS_any (xs : List Cl) (v : Value) (w : World) (h : SlC w v xs) (hn : xs.length ≤ 1048576) (hp : prsum xs ≤ 1048576) :
    Calls Tryz.prog 22 #[v] w fun e w' => ∃ v', e = .returned v' ∧ SlCF w.heap.size w' v' xs ∧ Ext w w' := by
  obtain ⟨ad, cap, rfl, hl, hx⟩ := h
  obtain ⟨z, hmk⟩ := mkCells xs.length hn w
  go_enter Tryz.func22, Tryz.ntmps22
  go_wp2_with fail
  go_loopw [4] (fun i wr => ∃ k : Nat, k ≤ xs.length ∧ i = .int .i64 k ∧ (∀ j (hj : j < xs.length), j < k → ClAtF (w.heap.size + 1) wr w.heap.size (0 + j * 8) xs[j]) ∧ (∀ j, j < xs.length * 8 → Open wr w.heap.size j) ∧ Ext w wr ∧ w.heap.size < wr.heap.size ∧ Hid (Nf1 w.heap.size wr)) (fun i _ => xs.length - (intOf i).toNat)
  case atStart => exact ⟨0, Nat.zero_le _, rfl, fun j hj h => by omega, fun j hj => made_open _ _ _ _ _ (by omega), (Ext.refl w).alloc _, by simp, Nf1.made _ _ _ _⟩
  case round =>
    obtain ⟨k, hk, rfl, hm, hop, hbl, hg, hnf⟩ := hrel
    by_cases hlt : k < xs.length
    · obtain ⟨b, o, rfl, vp, p0, p1, p2, p3, p4, p5, p6, p7, hP⟩ := hx k hlt
      have e0 := hbl.keep p0
      have e1 := hbl.keep p1
      have e2 := hbl.keep p2
      have e3 := hbl.keep p3
      have e4 := hbl.keep p4
      have e5 := hbl.keep p5
      have e6 := hbl.keep p6
      have e7 := hbl.keep p7
      have hP := SlP.ext hbl hP
      have hpl : xs[k].prs.length ≤ 1048576 := Nat.le_trans (prs_le xs k hlt) hp
      clear p0 p1 p2 p3 p4 p5 p6 p7
      have hk0 : (0:Int) ≤ (k:Int) := by omega
      have hk1 : (k:Int) < (xs.length:Int) := by omega
      go_wp2_with fail
      refine (toCell_any xs[k] vp _ hP hpl).mono ?_
      rintro e w1 ⟨vp', rfl, hP', hF', hq1⟩
      obtain ⟨⟨v0, c0⟩, f0⟩ := (hop (k * 8) (by omega)).ext hq1
      obtain ⟨⟨v1, c1⟩, f1⟩ := (hop (k * 8 + 1) (by omega)).ext hq1
      obtain ⟨⟨v2, c2⟩, f2⟩ := (hop (k * 8 + 2) (by omega)).ext hq1
      obtain ⟨⟨v3, c3⟩, f3⟩ := (hop (k * 8 + 3) (by omega)).ext hq1
      obtain ⟨⟨v4, c4⟩, f4⟩ := (hop (k * 8 + 4) (by omega)).ext hq1
      obtain ⟨⟨v5, c5⟩, f5⟩ := (hop (k * 8 + 5) (by omega)).ext hq1
      obtain ⟨⟨v6, c6⟩, f6⟩ := (hop (k * 8 + 6) (by omega)).ext hq1
      obtain ⟨⟨v7, c7⟩, f7⟩ := (hop (k * 8 + 7) (by omega)).ext hq1
      have R := hide (cells_step hlt hm hop hbl hg hq1 hP' hF' (unhide hnf))
      obtain ⟨ad', cap', rfl⟩ : ∃ ad cap, vp' = .slice ad xs[k].prs.length cap := let ⟨a, c, h, _⟩ := hP'; ⟨a, c, h⟩
      clear hm hop hP' hF'
      go_wp2_with fail
      go_roundw
      case rel => exact ⟨k + 1, by omega, by go_num, (unhide R).1, (unhide R).2.1, (unhide R).2.2.1, (unhide R).2.2.2.1, (unhide R).2.2.2.2⟩
      case measure => simp [intOf]; omega
    · have hk2 : k = xs.length := by omega
      have HM : SlOf (ClAtF w.heap.size wr) 8 (.slice (some ⟨w.heap.size, 0, none⟩) xs.length xs.length) xs := ⟨_, _, rfl, hl, fun i hi => ⟨_, _, rfl, (hm i hi (by omega)).less (by omega)⟩⟩
      have HM := hide HM
      clear hm hop hk2
      go_wp2_with fail
      go_ret
      exact ⟨_, rfl, ⟨unhide HM, (unhide hnf).fn⟩, hbl⟩
end Go.Proofs.YtbcmjcomdjdjaaaGreat

namespace Go.Proofs.YtbcmjcomdjdjaaaGreat
open Go.RowKit
attribute [local go_sem ↓] Go.wp_at_zero Go.wp_at_succ

/-- the two lie in two blocks -/
def Dis (vr vc : Value) : Prop := ∀ b o n c b' o' n' c', vr = .slice (some ⟨b, o, none⟩) n c → vc = .slice (some ⟨b', o', none⟩) n' c' → b ≠ b'
def SlIG (B : Nat) (w : World) (v : Value) (xs : List Int) (vr vc : Value) : Prop := SlI w v xs ∧ Fn0 B w v ∧ Dis vr vc
/-- the three slices of a heap, in blocks from B on -/
def HpF (B : Nat) (w : World) (x : Hp) (vr vc vg : Value) : Prop := SlWF B w vr x.regs ∧ SlCF B w vc x.cells ∧ SlIG B w vg x.gray vr vc
theorem HpF.only {S : Nat → Prop} {B : Nat} {w w' : World} {x : Hp} {vr vc vg : Value} (h : HpF B w x vr vc vg) (ho : Only S w w') (hS : ∀ q, S q → q < B) : HpF B w' x vr vc vg :=
  ⟨h.1.only ho hS, h.2.1.only ho hS, (SlIF.only ⟨h.2.2.1, h.2.2.2.1⟩ ho hS).1, h.2.2.2.1.only ho hS, h.2.2.2.2⟩
theorem HpF.ext {B : Nat} {w w' : World} {x : Hp} {vr vc vg : Value} (h : HpF B w x vr vc vg) (he : Ext w w') : HpF B w' x vr vc vg := ⟨h.1.ext he, h.2.1.ext he, SlI.ext he h.2.2.1, h.2.2.2.1.ext he, h.2.2.2.2⟩

set_option maxRecDepth 100000 in
set_option maxHeartbeats 2000000 in
theorem toHeap_any (x : Hp) (vr vc vg : Value) (w : World) (hR : SlW w vr x.regs) (hC : SlC w vc x.cells) (hG : SlI w vg x.gray) (n1 : x.regs.length ≤ 1048576) (n2 : x.cells.length ≤ 1048576) (n3 : prsum x.cells ≤ 1048576) (n4 : x.gray.length ≤ 1048576) :
    Calls Tryz.prog 8 #[x.v vr vc vg] w fun e w' => ∃ vr' vc' vg', e = .returned (x.v vr' vc' vg') ∧ HpF w.heap.size w' x vr' vc' vg' ∧ Ext w w' := by
  go_enter Tryz.func8, Tryz.ntmps8
  go_wp2_with fail
  refine (toWordS_any x.regs vr _ (SlW.ext ((((Ext.refl w).alloc _).alloc _).alloc _) hR) n1).mono ?_
  rintro e w1 ⟨vr', rfl, hR', hFr, x1⟩
  obtain ⟨adr, capr, rfl⟩ : ∃ ad cap, vr' = .slice ad x.regs.length cap := let ⟨a, c, h, _⟩ := hR'; ⟨a, c, h⟩
  have hc1 := (bcell x1).1
  have hf1 := (bcell x1).2
  have z1 : w.heap.size + 1 + 1 < w1.heap.size := by have := x1.size; simp at this; omega
  have z1a : w.heap.size < w1.heap.size := by omega
  have z1b : w.heap.size + 1 < w1.heap.size := by omega
  have y1 : Ext w w1 := Ext.trans ((((Ext.refl w).alloc _).alloc _).alloc _) x1
  have A1 : SlWF (w.heap.size + 3) w1 (.slice adr x.regs.length capr) x.regs := ⟨hR', hFr.mono (by simp)⟩
  have A1 := hide A1
  clear hR' hFr
  go_wp2_with fail
  have s1 : ∀ v, Only (fun q => q = w.heap.size + 1 + 1) w1 (w1.setCell ⟨w.heap.size + 1 + 1, 3, none⟩ v) := fun v => Only.setCell (S := fun q => q = w.heap.size + 1 + 1) (p := ⟨w.heap.size + 1 + 1, 3, none⟩) (Only.refl _ _) rfl v
  have e1 : ∀ v, Ext w (w1.setCell ⟨w.heap.size + 1 + 1, 3, none⟩ v) := fun v => (s1 v).ext y1 (by intro k hk; omega)
  refine (toCellS_any x.cells vc _ (SlC.ext (e1 _) hC) n2 n3).mono ?_
  rintro e w2 ⟨vc', rfl, hC', x2⟩
  obtain ⟨adc, capc, rfl⟩ : ∃ ad cap, vc' = .slice ad x.cells.length cap := let ⟨a, c, h, _⟩ := hC'.1; ⟨a, c, h⟩
  have hc2 := (bcell x2).1
  have hf2 := (bcell x2).2
  have z2 : w.heap.size + 1 + 1 < w2.heap.size := by have := x2.size; simp at this; omega
  have z2a : w.heap.size < w2.heap.size := by omega
  have z2b : w.heap.size + 1 < w2.heap.size := by omega
  have y2 : Ext w w2 := Ext.trans (e1 _) x2
  have A2 := hide (((unhide A1).only (s1 _) (by intro q hq; omega)).ext x2)
  have DI := hide (show Dis (.slice adr x.regs.length capr) (.slice adc x.cells.length capc) from fun b o n c b' o' n' c' e1 e2 => by
    have q1 := ((unhide A1).2.2 b o n c e1).1
    have q2 := (hC'.2.1 b' o' n' c' e2).1
    simp at q2
    omega)
  have B2 := hide (hC'.less (C := w.heap.size + 3) (by simp; omega))
  clear hC' A1
  go_wp2_with fail
  have s2 : ∀ v a b c, Only (fun q => q = w.heap.size + 1 + 1) w2 ((((w2.setCell ⟨w.heap.size + 1 + 1, 4, none⟩ v).setCell ⟨w.heap.size + 1 + 1, 5, none⟩ a).setCell ⟨w.heap.size + 1 + 1, 6, none⟩ b).setCell ⟨w.heap.size + 1 + 1, 7, none⟩ c) := fun v a b c => by
    repeat (first | refine Only.setCell ?_ (by simp) _ | exact Only.refl _ _)
  have e2 : ∀ v a b c, Ext w ((((w2.setCell ⟨w.heap.size + 1 + 1, 4, none⟩ v).setCell ⟨w.heap.size + 1 + 1, 5, none⟩ a).setCell ⟨w.heap.size + 1 + 1, 6, none⟩ b).setCell ⟨w.heap.size + 1 + 1, 7, none⟩ c) := fun v a b c => (s2 v a b c).ext y2 (by intro k hk; omega)
  refine (toIntS_any x.gray vg _ (SlI.ext (e2 _ _ _ _) hG) n4).mono ?_
  rintro e w3 ⟨vg', rfl, hG', hFg, x3⟩
  obtain ⟨adg, capg, rfl⟩ : ∃ ad cap, vg' = .slice ad x.gray.length cap := let ⟨a, c, h, _⟩ := hG'; ⟨a, c, h⟩
  have hc3 := (bcell x3).1
  have hf3 := (bcell x3).2
  have z3 : w.heap.size + 1 + 1 < w3.heap.size := by have := x3.size; simp at this; omega
  have z3a : w.heap.size < w3.heap.size := by omega
  have z3b : w.heap.size + 1 < w3.heap.size := by omega
  have y3 : Ext w w3 := Ext.trans (e2 _ _ _ _) x3
  have G : SlIF (w.heap.size + 3) w3 (.slice adg x.gray.length capg) x.gray := ⟨hG', hFg.mono (by simp; omega)⟩
  have HF : HpF (w.heap.size + 3) w3 x (.slice adr x.regs.length capr) (.slice adc x.cells.length capc) (.slice adg x.gray.length capg) :=
    ⟨((unhide A2).only (s2 _ _ _ _) (by intro q hq; omega)).ext x3, ((unhide B2).only (s2 _ _ _ _) (by intro q hq; omega)).ext x3, G.1, G.2, unhide DI⟩
  have fin : ∀ W, Only (fun q => q = w.heap.size + 1 ∨ q = w.heap.size + 1 + 1) w3 W → HpF w.heap.size W x (.slice adr x.regs.length capr) (.slice adc x.cells.length capc) (.slice adg x.gray.length capg) ∧ Ext w W := fun W h => by
    have h1 := HF.only h (by intro q hq; omega)
    exact ⟨⟨⟨h1.1.1, h1.1.2.mono (by omega)⟩, h1.2.1.less (by omega), ⟨h1.2.2.1, h1.2.2.2.1.mono (by omega), h1.2.2.2.2⟩⟩, h.ext y3 (by intro k hk; omega)⟩
  have FIN := hide fin
  clear hG' hFg A2 B2 G HF fin s2 e2 s1 e1 DI
  go_wp2_with fail
  refine bodyPost_ret (v := x.v (.slice adr x.regs.length capr) (.slice adc x.cells.length capc) (.slice adg x.gray.length capg)) ?_ rfl ⟨_, _, _, rfl, unhide FIN _ ?_⟩
  · simp [results, Tryz.results8, go_sem, hc1, hc2, hc3, z2b, z1b]
  repeat (first | refine Only.setCell ?_ (by simp) _ | exact Only.refl _ _)
end Go.Proofs.YtbcmjcomdjdjaaaGreat
