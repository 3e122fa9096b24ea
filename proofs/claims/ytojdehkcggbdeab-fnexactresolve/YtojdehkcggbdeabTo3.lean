import Derived.Test.YtojdehkcggbdeabTo2
namespace Go.Proofs.Ytojdehkcggbdeab
open Go.RowKit
attribute [local go_sem ↓] Go.wp_at_zero Go.wp_at_succ

/-- the three slices of a heap, in blocks from B on -/
def HpF (B : Nat) (w : World) (x : Hp) (vr vc vg : Value) : Prop := SlWF B w vr x.regs ∧ SlCF B w vc x.cells ∧ SlIF B w vg x.gray
theorem HpF.only {S : Nat → Prop} {B : Nat} {w w' : World} {x : Hp} {vr vc vg : Value} (h : HpF B w x vr vc vg) (ho : Only S w w') (hS : ∀ q, S q → q < B) : HpF B w' x vr vc vg :=
  ⟨h.1.only ho hS, h.2.1.only ho hS, h.2.2.only ho hS⟩
theorem HpF.ext {B : Nat} {w w' : World} {x : Hp} {vr vc vg : Value} (h : HpF B w x vr vc vg) (he : Ext w w') : HpF B w' x vr vc vg := ⟨h.1.ext he, h.2.1.ext he, h.2.2.ext he⟩

set_option maxRecDepth 100000 in
set_option maxHeartbeats 2000000 in
theorem toHeap_any (x : Hp) (vr vc vg : Value) (w : World) (hR : SlW w vr x.regs) (hC : SlC w vc x.cells) (hG : SlI w vg x.gray) (n1 : x.regs.length ≤ 1048576) (n2 : x.cells.length ≤ 1048576) (n3 : prsum x.cells ≤ 1048576) (n4 : x.gray.length ≤ 1048576) :
    Calls Try.prog 10 #[x.v vr vc vg] w fun e w' => ∃ vr' vc' vg', e = .returned (x.v vr' vc' vg') ∧ HpF w.heap.size w' x vr' vc' vg' ∧ Ext w w' := by
  go_enter Try.func10, Try.ntmps10
  go_wp2_with fail
  refine (toWordS_any x.regs vr _ (SlW.ext ((((Ext.refl w).alloc _).alloc _).alloc _) hR) n1).mono ?_
  rintro e w1 ⟨vr', rfl, hR', hFr, x1⟩
  obtain ⟨adr, capr, rfl⟩ : ∃ ad cap, vr' = .slice ad x.regs.length cap := let ⟨a, c, h, _⟩ := hR'; ⟨a, c, h⟩
  have hc1 := (bcell x1).1
  have hf1 := (bcell x1).2
  have z1 : w.heap.size + 1 + 1 < w1.heap.size := by have := x1.size; simp at this; omega
  have z1a : w.heap.size < w1.heap.size := by omega
  have z1b : w.heap.size + 1 < w1.heap.size := by omega
  have y1 : Ext w w1 := Ext.trans ((((Ext.refl w).alloc _).alloc _).alloc _) x1
  have A1 : SlWF (w.heap.size + 3) w1 (.slice adr x.regs.length capr) x.regs := ⟨hR', hFr.mono (by simp)⟩
  have A1 := hide A1
  clear hR' hFr
  go_wp2_with fail
  have s1 : ∀ v, Only (fun q => q = w.heap.size + 1 + 1) w1 (w1.setCell ⟨w.heap.size + 1 + 1, 3, none⟩ v) := fun v => Only.setCell (S := fun q => q = w.heap.size + 1 + 1) (p := ⟨w.heap.size + 1 + 1, 3, none⟩) (Only.refl _ _) rfl v
  have e1 : ∀ v, Ext w (w1.setCell ⟨w.heap.size + 1 + 1, 3, none⟩ v) := fun v => (s1 v).ext y1 (by intro k hk; omega)
  refine (toCellS_any x.cells vc _ (SlC.ext (e1 _) hC) n2 n3).mono ?_
  rintro e w2 ⟨vc', rfl, hC', x2⟩
  obtain ⟨adc, capc, rfl⟩ : ∃ ad cap, vc' = .slice ad x.cells.length cap := let ⟨a, c, h, _⟩ := hC'.1; ⟨a, c, h⟩
  have hc2 := (bcell x2).1
  have hf2 := (bcell x2).2
  have z2 : w.heap.size + 1 + 1 < w2.heap.size := by have := x2.size; simp at this; omega
  have z2a : w.heap.size < w2.heap.size := by omega
  have z2b : w.heap.size + 1 < w2.heap.size := by omega
  have y2 : Ext w w2 := Ext.trans (e1 _) x2
  have A2 := hide (((unhide A1).only (s1 _) (by intro q hq; omega)).ext x2)
  have B2 := hide (hC'.less (C := w.heap.size + 3) (by simp; omega))
  clear hC' A1
  go_wp2_with fail
  have s2 : ∀ v a b c, Only (fun q => q = w.heap.size + 1 + 1) w2 ((((w2.setCell ⟨w.heap.size + 1 + 1, 4, none⟩ v).setCell ⟨w.heap.size + 1 + 1, 5, none⟩ a).setCell ⟨w.heap.size + 1 + 1, 6, none⟩ b).setCell ⟨w.heap.size + 1 + 1, 7, none⟩ c) := fun v a b c => by
    repeat (first | refine Only.setCell ?_ (by simp) _ | exact Only.refl _ _)
  have e2 : ∀ v a b c, Ext w ((((w2.setCell ⟨w.heap.size + 1 + 1, 4, none⟩ v).setCell ⟨w.heap.size + 1 + 1, 5, none⟩ a).setCell ⟨w.heap.size + 1 + 1, 6, none⟩ b).setCell ⟨w.heap.size + 1 + 1, 7, none⟩ c) := fun v a b c => (s2 v a b c).ext y2 (by intro k hk; omega)
  refine (toIntS_any x.gray vg _ (SlI.ext (e2 _ _ _ _) hG) n4).mono ?_
  rintro e w3 ⟨vg', rfl, hG', hFg, x3⟩
  obtain ⟨adg, capg, rfl⟩ : ∃ ad cap, vg' = .slice ad x.gray.length cap := let ⟨a, c, h, _⟩ := hG'; ⟨a, c, h⟩
  have hc3 := (bcell x3).1
  have hf3 := (bcell x3).2
  have z3 : w.heap.size + 1 + 1 < w3.heap.size := by have := x3.size; simp at this; omega
  have z3a : w.heap.size < w3.heap.size := by omega
  have z3b : w.heap.size + 1 < w3.heap.size := by omega
  have y3 : Ext w w3 := Ext.trans (e2 _ _ _ _) x3
  have G : SlIF (w.heap.size + 3) w3 (.slice adg x.gray.length capg) x.gray := ⟨hG', hFg.mono (by simp; omega)⟩
  have HF : HpF (w.heap.size + 3) w3 x (.slice adr x.regs.length capr) (.slice adc x.cells.length capc) (.slice adg x.gray.length capg) :=
    ⟨((unhide A2).only (s2 _ _ _ _) (by intro q hq; omega)).ext x3, ((unhide B2).only (s2 _ _ _ _) (by intro q hq; omega)).ext x3, G⟩
  have fin : ∀ W, Only (fun q => q = w.heap.size + 1 ∨ q = w.heap.size + 1 + 1) w3 W → HpF w.heap.size W x (.slice adr x.regs.length capr) (.slice adc x.cells.length capc) (.slice adg x.gray.length capg) ∧ Ext w W := fun W h => by
    have h1 := HF.only h (by intro q hq; omega)
    exact ⟨⟨⟨h1.1.1, h1.1.2.mono (by omega)⟩, h1.2.1.less (by omega), ⟨h1.2.2.1, h1.2.2.2.mono (by omega)⟩⟩, h.ext y3 (by intro k hk; omega)⟩
  have FIN := hide fin
  clear hG' hFg A2 B2 G HF fin s2 e2 s1 e1
  go_wp2_with fail
  refine bodyPost_ret (v := x.v (.slice adr x.regs.length capr) (.slice adc x.cells.length capc) (.slice adg x.gray.length capg)) ?_ rfl ⟨_, _, _, rfl, unhide FIN _ ?_⟩
  · simp [results, Try.results10, go_sem, hc1, hc2, hc3, z2b, z1b]
  repeat (first | refine Only.setCell ?_ (by simp) _ | exact Only.refl _ _)
end Go.Proofs.Ytojdehkcggbdeab
