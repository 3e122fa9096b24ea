import Derived.Test.YtkabcfhemljnbaaGreatCn
import Derived.Test.YtkabcfhemljnbaaGreatSt0
import Derived.Test.YtkabcfhemljnbaaGreatImpS
import Derived.Test.YtkabcfhemljnbaaGreatOkA
namespace Go.Proofs.YtkabcfhemljnbaaGreat
open Go.RowKit
attribute [local go_sem ↓] Go.wp_at_zero Go.wp_at_succ

/-! The store: a sound heap in memory of its own. -/
abbrev ndp (bn i : Nat) : Value := .pointer (some ⟨bn, i * 2, none⟩)
/-- the parts of the store lie in blocks apart: each block has one role -/
structure SSep (x : Hp) (role : Nat → Nat) (b br bc bn : Nat) (pb : Nat → Nat) (vf vk : Value) : Prop where
  b : role b = 0
  n : role bn = 1
  r : 0 < x.regs.length → role br = 2
  c : 0 < x.cells.length → role bc = 3
  f : ∀ q, vf.ownBlock = some q → role q = 4
  k : ∀ q, vk.ownBlock = some q → role q = 5
  p : ∀ q, q < x.cells.length → 0 < (x.c q).prs.length → role (pb q) = 6 + q
/-- the ring in the store's box -/
structure RAt (w : World) (b bn hd : Nat) (G : List Int) : Prop where
  h0 : hd < 4000
  hl : G.length ≤ 4000
  r0 : w.cell? ⟨b, 4015, none⟩ = some (iv hd)
  r1 : w.cell? ⟨b, 4016, none⟩ = some (iv G.length)
  rg : ∀ i (hi : i < G.length), w.cell? ⟨b, 15 + (hd + i) % 4000, none⟩ = some (ndp bn G[i].toNat)
  ro : ∀ j, j < 4000 → ∃ v, w.cell? ⟨b, 15 + j, none⟩ = some v
/-- the store's box, its nodes, its free places, its ring, what it keeps -/
structure SB (B : Nat) (w : World) (b : Nat) (x : Hp) (ar : Option Addr) (kr : Nat) (v4 v8 : Value) (br bc bn : Nat) (kn hd : Nat) (vf : Value) (F : List Int) (vk : Value) (K : List Nat) : Prop where
  bx : HBox w b x (.slice ar x.regs.length kr) v4 v8
  ha : 0 < x.regs.length → ar = some ⟨br, 0, none⟩
  n13 : w.cell? ⟨b, 13, none⟩ = some (.slice (some ⟨bn, 0, none⟩) x.cells.length kn)
  nd : ∀ i, i < x.cells.length → w.cell? ⟨bn, i * 2, none⟩ = some (iv i) ∧ w.cell? ⟨bn, i * 2 + 1, none⟩ = some (.pointer (some ⟨bc, i * 8, none⟩))
  fr : LsAt w B b 14 vf F
  rg : RAt w b bn hd x.gray
  k0 : w.cell? ⟨b, 4017, none⟩ = some vk
  kp : w.ownsRow B 103 1 vk K.length (K.map (ndp bn))
  nb : Nf1 b w
  lo : B ≤ b ∧ B ≤ bn ∧ bn < w.heap.size
/-- the whole store -/
structure SAt (B : Nat) (w : World) (b : Nat) (x : Hp) (ar : Option Addr) (kr : Nat) (v4 v8 : Value) (br bc bn : Nat) (pb : Nat → Nat) (pa : Nat → Option Addr) (pk : Nat → Nat) (kn hd : Nat) (vf : Value) (F : List Int) (vk : Value) (K : List Nat) (role : Nat → Nat) : Prop where
  sb : SB B w b x ar kr v4 v8 br bc bn kn hd vf F vk K
  rw : Rws B w x br bc pb pa pk
  sp : SSep x role b br bc bn pb vf vk

theorem ring_idx (a : Nat) : ((a : Int).tmod 4000) = ((a % 4000 : Nat) : Int) := by
  rw [Int.tmod_eq_emod_of_nonneg (by omega)]; omega

theorem RAt.of {w w' : World} {b bn hd : Nat} {G : List Int} (h : RAt w b bn hd G) (e : ∀ o, 15 ≤ o → o < 4017 → w'.cell? ⟨b, o, none⟩ = w.cell? ⟨b, o, none⟩) : RAt w' b bn hd G :=
  ⟨h.h0, h.hl, (e 4015 (by omega) (by omega)).trans h.r0, (e 4016 (by omega) (by omega)).trans h.r1, fun i hi => (e _ (by omega) (by have : (hd + i) % 4000 < 4000 := Nat.mod_lt _ (by omega); omega)).trans (h.rg i hi), fun j hj => let ⟨v, q⟩ := h.ro j hj; ⟨v, (e _ (by omega) (by omega)).trans q⟩⟩
theorem RAt.block {w w' : World} {b bn hd : Nat} {G : List Int} (h : RAt w b bn hd G) (e : w'.heap[b]? = w.heap[b]?) : RAt w' b bn hd G := h.of fun o _ _ => World.cell?_of_block (a := ⟨b, o, none⟩) e
theorem RAt.put {w : World} {b bn hd i m : Nat} {G : List Int} (h : RAt w b bn hd G) (hl : G.length < 4000) (hm : m = (hd + G.length) % 4000) :
    RAt ((w.setCell ⟨b, 15 + m, none⟩ (ndp bn i)).setCell ⟨b, 4016, none⟩ (iv (G.length + 1))) b bn hd (G ++ [(i : Int)]) := by
  have hm4 : m < 4000 := by rw [hm]; exact Nat.mod_lt _ (by omega)
  refine ⟨h.h0, by simp; omega, ?_, ?_, fun k hk => ?_, fun j hj => ?_⟩
  · rw [cell_other _ (.inr (by omega)), cell_other _ (.inr (by omega))]; exact h.r0
  · have : (w.setCell ⟨b, 15 + m, none⟩ (ndp bn i)).cell? ⟨b, 4016, none⟩ = some (iv G.length) := by rw [cell_other _ (.inr (by omega))]; exact h.r1
    rw [World.cell?_setCell_same _ _ _ this]
    simp
  · have hk2 : (hd + k) % 4000 < 4000 := Nat.mod_lt _ (by omega)
    rw [cell_other _ (.inr (by omega))]
    by_cases e : k = G.length
    · subst e
      obtain ⟨v, hv⟩ := h.ro m hm4
      rw [← hm, World.cell?_setCell_same _ _ _ hv]
      simp
    · have hk3 : k < G.length := by simp at hk; omega
      rw [cell_other _ (.inr (by have := h.h0; omega)), h.rg k hk3]
      simp [hk3]
  · rw [cell_other _ (.inr (by omega))]
    obtain ⟨v, hv⟩ := h.ro j hj
    exact cell?_setCell_some hv
theorem drew_cell (w : World) (p : Addr) : w.drew.cell? p = w.cell? p := World.cell?_of_block (a := p) rfl

theorem SB.same {B : Nat} {w : World} {b : Nat} {x : Hp} {ar : Option Addr} {kr : Nat} {v4 v8 : Value} {br bc bn : Nat} {kn hd : Nat} {vf : Value} {F : List Int} {vk : Value} {K : List Nat} {w' : World} (h : SB B w b x ar kr v4 v8 br bc bn kn hd vf F vk K) (hs : w.heap.size ≤ w'.heap.size) (hb : w'.heap[b]? = w.heap[b]?) (hn : w'.heap[bn]? = w.heap[bn]?) (hf : ∀ q, vf.ownBlock = some q → w'.heap[q]? = w.heap[q]?) (hk : ∀ q, vk.ownBlock = some q → w'.heap[q]? = w.heap[q]?) : SB B w' b x ar kr v4 v8 br bc bn kn hd vf F vk K where
  bx := h.bx.block hb
  ha := h.ha
  n13 := (World.cell?_of_block (a := ⟨b, 13, none⟩) hb).trans h.n13
  nd := fun i hi => ⟨(World.cell?_of_block (a := ⟨bn, _, none⟩) hn).trans (h.nd i hi).1, (World.cell?_of_block (a := ⟨bn, _, none⟩) hn).trans (h.nd i hi).2⟩
  fr := ⟨(World.cell?_of_block (a := ⟨b, 14, none⟩) hb).trans h.fr.hd, (World.frozen?_of_block (a := ⟨b, 14, none⟩) hb).trans h.fr.hf, ownsRow_of_block h.fr.own hf, h.fr.apart⟩
  rg := h.rg.block hb
  k0 := (World.cell?_of_block (a := ⟨b, 4017, none⟩) hb).trans h.k0
  kp := ownsRow_of_block h.kp hk
  nb := nf1_block h.nb hb hs
  lo := ⟨h.lo.1, h.lo.2.1, Nat.lt_of_lt_of_le h.lo.2.2 hs⟩
theorem SAt.ext {B : Nat} {w : World} {b : Nat} {x : Hp} {ar : Option Addr} {kr : Nat} {v4 v8 : Value} {br bc bn : Nat} {pb : Nat → Nat} {pa : Nat → Option Addr} {pk : Nat → Nat} {kn hd : Nat} {vf : Value} {F : List Int} {vk : Value} {K : List Nat} {role : Nat → Nat} {w' : World} (h : SAt B w b x ar kr v4 v8 br bc bn pb pa pk kn hd vf F vk K role) (e : Ext w w') : SAt B w' b x ar kr v4 v8 br bc bn pb pa pk kn hd vf F vk K role :=
  ⟨h.sb.same e.size (e.block b h.sb.nb.1) (e.block bn h.sb.lo.2.2) (fun q hq => e.block q (h.sb.fr.own.lt q hq).2) (fun q hq => e.block q (h.sb.kp.lt q hq).2), h.rw.ext e, h.sp⟩
/-- something was appended to what is kept -/
theorem SAt.push {B : Nat} {b : Nat} {x : Hp} {ar : Option Addr} {kr : Nat} {v4 v8 : Value} {br bc bn : Nat} {pb : Nat → Nat} {pa : Nat → Option Addr} {pk : Nat → Nat} {kn hd : Nat} {vf : Value} {F : List Int} {vk : Value} {K : List Nat} {role : Nat → Nat} {W w5 : World} {i g cap : Nat} (h : SAt B W b x ar kr v4 v8 br bc bn pb pa pk kn hd vf F vk K role) (hg : W.grownBy w5 vk.ownBlock) (h5 : w5.ownsRow B 103 1 (.slice (some ⟨g, 0, none⟩) (K.length + 1) cap) (K.length + 1) (K.map (ndp bn) ++ [ndp bn i])) (hat : vk.ownBlock = some g ∨ g = W.heap.size) :
    SAt B (w5.setCell ⟨b, 4017, none⟩ (.slice (some ⟨g, 0, none⟩) (K.length + 1) cap)) b x ar kr v4 v8 br bc bn pb pa pk kn hd vf F (.slice (some ⟨g, 0, none⟩) (K.length + 1) cap) (K ++ [i]) (fun q => if q = g then 5 else role q) := by
  have hgb : ∀ q, q < W.heap.size → role q ≠ 5 → q ≠ g := fun q hq hr e => by
    rcases hat with a | a
    · exact hr (by rw [e]; exact h.sp.k g a)
    · omega
  have far : ∀ q, q < W.heap.size → role q ≠ 5 → w5.heap[q]? = W.heap[q]? := fun q hq hr => hg.block q hq (fun e => hr (h.sp.k q e.symm))
  have hb := h.sb.nb.1
  have rb : role b ≠ 5 := by rw [h.sp.b]; omega
  have fb := far b hb rb
  have nbg := hgb b hb rb
  have far2 : ∀ q, q < W.heap.size → role q ≠ 5 → q ≠ b → (w5.setCell ⟨b, 4017, none⟩ (.slice (some ⟨g, 0, none⟩) (K.length + 1) cap)).heap[q]? = W.heap[q]? := fun q hq hr hne => (Below.heap_setCell _ _ _ _ hne).trans (far q hq hr)
  have cb : ∀ o, o ≠ 4017 → (w5.setCell ⟨b, 4017, none⟩ (.slice (some ⟨g, 0, none⟩) (K.length + 1) cap)).cell? ⟨b, o, none⟩ = W.cell? ⟨b, o, none⟩ := fun o ho => (cell_other _ (.inr (fun e => ho e.symm))).trans (World.cell?_of_block (a := ⟨b, o, none⟩) fb)
  have hsz : W.heap.size ≤ (w5.setCell ⟨b, 4017, none⟩ (.slice (some ⟨g, 0, none⟩) (K.length + 1) cap)).heap.size := by have := hg.size; simpa [World.setCell] using this
  have rn : role bn ≠ 5 := by rw [h.sp.n]; omega
  have nnb : bn ≠ b := fun e => by have h1 := h.sp.n; have h2 := h.sp.b; rw [e] at h1; omega
  have fn := far2 bn h.sb.lo.2.2 rn nnb
  have ff : ∀ q, vf.ownBlock = some q → (w5.setCell ⟨b, 4017, none⟩ (.slice (some ⟨g, 0, none⟩) (K.length + 1) cap)).heap[q]? = W.heap[q]? := fun q hq => far2 q (h.sb.fr.own.lt q hq).2 (by rw [h.sp.f q hq]; omega) (fun e => by have h1 := h.sp.f q hq; have h2 := h.sp.b; rw [e] at h1; omega)
  refine ⟨⟨h.sb.bx.of fun o ho => cb o (by omega), h.sb.ha, (cb 13 (by omega)).trans h.sb.n13, fun k hk => ⟨(World.cell?_of_block (a := ⟨bn, _, none⟩) fn).trans (h.sb.nd k hk).1, (World.cell?_of_block (a := ⟨bn, _, none⟩) fn).trans (h.sb.nd k hk).2⟩, ⟨(cb 14 (by omega)).trans h.sb.fr.hd, ?_, ownsRow_of_block h.sb.fr.own ff, h.sb.fr.apart⟩, h.sb.rg.of fun o _ h2 => cb o (by omega), ?_, ?_, ?_, ⟨h.sb.lo.1, h.sb.lo.2.1, Nat.lt_of_lt_of_le h.sb.lo.2.2 hsz⟩⟩, ?_, ?_⟩
  · rw [World.frozen?_setCell]; exact (World.frozen?_of_block (a := ⟨b, 14, none⟩) fb).trans h.sb.fr.hf
  · exact World.cell?_setCell_same _ _ _ ((World.cell?_of_block (a := ⟨b, 4017, none⟩) fb).trans h.sb.k0)
  · have := ownsRow_of_block (w' := w5.setCell ⟨b, 4017, none⟩ (.slice (some ⟨g, 0, none⟩) (K.length + 1) cap)) h5 (fun q hq => Below.heap_setCell _ _ _ _ (fun e => nbg (by simp [Value.ownBlock] at hq; rw [hq]; exact e.symm)))
    simpa using this
  · refine ⟨Nat.lt_of_lt_of_le hb hsz, fun j => ?_⟩
    rw [World.frozen?_setCell]; exact (World.frozen?_of_block (a := ⟨b, j, none⟩) fb).trans (h.sb.nb.2 j)
  · exact h.rw.same hsz (fun hl => far2 br (h.rw.nr hl).1.1 (by rw [h.sp.r hl]; omega) (fun e => by have h1 := h.sp.r hl; have h2 := h.sp.b; rw [e] at h1; omega)) (fun hl => far2 bc (h.rw.nc hl).1.1 (by rw [h.sp.c hl]; omega) (fun e => by have h1 := h.sp.c hl; have h2 := h.sp.b; rw [e] at h1; omega)) (fun q hq hl => far2 (pb q) (h.rw.pl q hq hl).2.1.1 (by rw [h.sp.p q hq hl]; omega) (fun e => by have h1 := h.sp.p q hq hl; have h2 := h.sp.b; rw [e] at h1; omega))
  · refine ⟨?_, ?_, fun hl => ?_, fun hl => ?_, fun q hq => ?_, fun q hq => ?_, fun q hq hl => ?_⟩
    · rw [if_neg nbg]; exact h.sp.b
    · rw [if_neg (hgb bn h.sb.lo.2.2 rn)]; exact h.sp.n
    · rw [if_neg (hgb br (h.rw.nr hl).1.1 (by rw [h.sp.r hl]; omega))]; exact h.sp.r hl
    · rw [if_neg (hgb bc (h.rw.nc hl).1.1 (by rw [h.sp.c hl]; omega))]; exact h.sp.c hl
    · rw [if_neg (hgb q (h.sb.fr.own.lt q hq).2 (by rw [h.sp.f q hq]; omega))]; exact h.sp.f q hq
    · simp [Value.ownBlock] at hq; rw [if_pos hq.symm]
    · rw [if_neg (hgb (pb q) (h.rw.pl q hq hl).2.1.1 (by rw [h.sp.p q hq hl]; omega))]; exact h.sp.p q hq hl

def sweptB (x : Hp) (i : Nat) : Bool := x.phase == 4 || (x.phase == 3 && decide ((i : Int) < x.hand))
set_option maxRecDepth 100000 in
set_option maxHeartbeats 2000000 in
theorem swept_any (x : Hp) (b bn i : Nat) (w : World) (c5 : w.cell? ⟨b, 5, none⟩ = some (iv x.phase)) (c6 : w.cell? ⟨b, 6, none⟩ = some (iv x.hand)) (m0 : w.cell? ⟨bn, i * 2, none⟩ = some (iv i)) :
    Calls Tryz.prog 124 #[.pointer (some ⟨b, 0, none⟩), ndp bn i] w fun e w' => e = .returned (.bool (sweptB x i)) ∧ Ext w w' := by
  cases q4 : (x.phase == 4)
  · cases q3 : (x.phase == 3)
    · have E := hide (show sweptB x i = false by simp [sweptB, q4, q3])
      go_enter Tryz.func124, Tryz.ntmps124
      go_wp2_with fail
      go_quiet (fail)
      go_wp2_with fail
      go_ret
      exact ⟨by rw [unhide E]; rfl, Ext.drewN (Ext.refl _) _⟩
    · have E := hide (show sweptB x i = decide ((i : Int) < x.hand) by simp [sweptB, q4, q3])
      go_enter Tryz.func124, Tryz.ntmps124
      go_wp2_with fail
      go_quiet (fail)
      go_wp2_with fail
      go_ret
      exact ⟨by rw [unhide E]; rfl, Ext.drewN (Ext.refl _) _⟩
  · have E := hide (show sweptB x i = true by simp [sweptB, q4])
    go_enter Tryz.func124, Tryz.ntmps124
    go_wp2_with fail
    go_quiet (fail)
    go_wp2_with fail
    go_ret
    exact ⟨by rw [unhide E]; rfl, Ext.drewN (Ext.refl _) _⟩

set_option maxRecDepth 100000 in
set_option maxHeartbeats 2000000 in
theorem rput_any (b bn hd i : Nat) (G : List Int) (w : World) (h : RAt w b bn hd G) (hn : Nf1 b w) (hl : G.length < 4000) :
    Calls Tryz.prog 123 #[.pointer (some ⟨b, 15, none⟩), ndp bn i] w fun e w' => e = .returned (.tuple #[]) ∧ RAt w' b bn hd (G ++ [(i : Int)]) ∧ Only (fun q => q = b) w w' ∧ Nf1 b w' ∧ ∀ o, (o < 15 ∨ o = 4015 ∨ o = 4017) → w'.cell? ⟨b, o, none⟩ = w.cell? ⟨b, o, none⟩ := by
  have r0 := h.r0
  have r1 := h.r1
  have h0 := h.h0
  obtain ⟨u, ru⟩ := h.ro ((hd + G.length) % 4000) (Nat.mod_lt _ (by omega))
  have f0 := hn.2 (15 + (hd + G.length) % 4000)
  have f1 := hn.2 4016
  obtain ⟨m, hm⟩ : ∃ m, m = (hd + G.length) % 4000 := ⟨_, rfl⟩
  rw [← hm] at ru f0
  have hm4 : m < 4000 := by rw [hm]; exact Nat.mod_lt _ (by omega)
  have hr : ((hd : Int) + (G.length : Int)).tmod 4000 = (m : Int) := by have := ring_idx (hd + G.length); rw [← hm] at this; simpa using this
  have m0 : (0:Int) ≤ (m:Int) := by omega
  have m1 : (m:Int) < 4000 := by omega
  have HM := hide hm
  have H := hide h
  clear h hm
  go_enter Tryz.func123, Tryz.ntmps123
  go_wp2_with fail
  go_region
  all_goals
    go_wp2_with fail
    go_end0
    refine ⟨rfl, ((unhide H).put hl (unhide HM)).block rfl, (Only.setCell (S := fun q => q = b) (Only.setCell (S := fun q => q = b) (Only.refl _ w) (p := ⟨b, 15 + m, none⟩) rfl _) (p := ⟨b, 4016, none⟩) rfl _).drew, ⟨by have := hn.1; simpa [World.setCell] using this, fun j => by rw [show ∀ (W : World) (p : Addr), W.drew.frozen? p = W.frozen? p from fun W p => World.frozen?_of_block (a := p) rfl, World.frozen?_setCell, World.frozen?_setCell]; exact hn.2 j⟩, fun o ho => ?_⟩
    rw [drew_cell, cell_other _ (.inr (by omega)), cell_other _ (.inr (by omega))]
end Go.Proofs.YtkabcfhemljnbaaGreat

namespace Go.Proofs.YtkabcfhemljnbaaGreat
open Go.RowKit

/-- the ring has turned, and nothing else -/
theorem SAt.ring {B : Nat} {w : World} {b : Nat} {x : Hp} {ar : Option Addr} {kr : Nat} {v4 v8 : Value} {br bc bn : Nat} {pb : Nat → Nat} {pa : Nat → Option Addr} {pk : Nat → Nat} {kn hd : Nat} {vf : Value} {F : List Int} {vk : Value} {K : List Nat} {role : Nat → Nat} {w' : World} {hd' : Nat} {G : List Int} (h : SAt B w b x ar kr v4 v8 br bc bn pb pa pk kn hd vf F vk K role) (r : RAt w' b bn hd' G) (o : Only (fun q => q = b) w w') (n : Nf1 b w') (c : ∀ k, (k < 15 ∨ k = 4017) → w'.cell? ⟨b, k, none⟩ = w.cell? ⟨b, k, none⟩) :
    SAt B w' b { x with gray := G } ar kr v4 v8 br bc bn pb pa pk kn hd' vf F vk K role := by
  have far : ∀ q, q < w.heap.size → role q ≠ 0 → w'.heap[q]? = w.heap[q]? := fun q hq hr => o.block q hq (fun e => hr (by rw [e]; exact h.sp.b))
  have fn := far bn h.sb.lo.2.2 (by rw [h.sp.n]; omega)
  refine ⟨⟨h.sb.bx.of fun k hk => c k (by omega), h.sb.ha, (c 13 (by omega)).trans h.sb.n13, fun k hk => ⟨(World.cell?_of_block (a := ⟨bn, _, none⟩) fn).trans (h.sb.nd k hk).1, (World.cell?_of_block (a := ⟨bn, _, none⟩) fn).trans (h.sb.nd k hk).2⟩, ⟨(c 14 (by omega)).trans h.sb.fr.hd, n.2 14, ownsRow_of_block h.sb.fr.own (fun q hq => far q (h.sb.fr.own.lt q hq).2 (by rw [h.sp.f q hq]; omega)), h.sb.fr.apart⟩, r, (c 4017 (by omega)).trans h.sb.k0, ownsRow_of_block h.sb.kp (fun q hq => far q (h.sb.kp.lt q hq).2 (by rw [h.sp.k q hq]; omega)), n, ⟨h.sb.lo.1, h.sb.lo.2.1, Nat.lt_of_lt_of_le h.sb.lo.2.2 o.size⟩⟩, ?_, ⟨h.sp.b, h.sp.n, h.sp.r, h.sp.c, h.sp.f, h.sp.k, h.sp.p⟩⟩
  have := h.rw.same o.size (fun hl => far br (h.rw.nr hl).1.1 (by rw [h.sp.r hl]; omega)) (fun hl => far bc (h.rw.nc hl).1.1 (by rw [h.sp.c hl]; omega)) (fun q hq hl => far (pb q) (h.rw.pl q hq hl).2.1.1 (by rw [h.sp.p q hq hl]; omega))
  exact ⟨this.r, this.s, this.p7, this.p, this.pl, this.nr, this.nc, this.d, this.dp⟩

theorem SAt.start {B : Nat} {w1 w2 : World} {x : Hp} {bx b2 bn : Nat} {ar : Option Addr} {kr : Nat} {ac : Option Addr} {kc : Nat} {ag : Option Addr} {kg : Nat} {vf : Value} {F : List Int} {br bc : Nat} {pb : Nat → Nat} {pa : Nat → Option Addr} {pk : Nat → Nat} {Z : Array Value} {T : TypeId}
    (ho : Opn w1 w2 x bx b2 bn x.cells.length x.cells.length ar kr ac kc ag kg vf F) (hrw : Rws B w1 x br bc pb pa pk) (hB : B ≤ w1.heap.size) (har : 0 < x.regs.length → ar = some ⟨br, 0, none⟩) (hac : 0 < x.cells.length → ac = some ⟨bc, 0, none⟩) (hr : 0 < x.regs.length)
    (hZ : Z.size = 4018 ∧ (Z[0]? = some (iv x.room) ∧ Z[1]? = some (iv x.used) ∧ Z[2]? = some (iv x.born) ∧ Z[3]? = some (.slice ar x.regs.length kr) ∧ Z[4]? = some (.slice ac x.cells.length kc) ∧ Z[5]? = some (iv x.phase) ∧ Z[6]? = some (iv x.hand) ∧ Z[7]? = some (iv x.sub) ∧ Z[8]? = some (.slice ag x.gray.length kg) ∧ Z[9]? = some (iv x.per) ∧ Z[10]? = some (iv x.start) ∧ Z[11]? = some (iv x.rounds) ∧ Z[12]? = some (iv x.forced) ∧ Z[13]? = some (.slice (some ⟨bn, 0, none⟩) x.cells.length x.cells.length) ∧ Z[14]? = some vf) ∧ Z[4015]? = some (iv 0) ∧ Z[4016]? = some (iv 0) ∧ Z[4017]? = some (.slice none 0 0)) :
    ∃ role, SAt B (w2.alloc (.cells Z T)) w2.heap.size { x with gray := [] } ar kr (.slice ac x.cells.length kc) (.slice ag x.gray.length kg) br bc bn pb pa pk x.cells.length 0 vf F (.slice none 0 0) [] role := by
  obtain ⟨hZs, ⟨z0, z1, z2, z3, z4, z5, z6, z7, z8, z9, z10, z11, z12, z13, z14⟩, y0, y1, y2⟩ := hZ
  obtain ⟨hb1, hb2, hb3, hb4⟩ := ho.hb
  have xe : Ext w1 (w2.alloc (.cells Z T)) := ho.e.alloc _
  have x2 : Ext w2 (w2.alloc (.cells Z T)) := (Ext.refl w2).alloc _
  have hnew : (w2.alloc (.cells Z T)).heap[w2.heap.size]? = some (.cells Z T) := heap_alloc_new w2 _
  have cz : ∀ o, (w2.alloc (.cells Z T)).cell? ⟨w2.heap.size, o, none⟩ = Z[o]? := fun o => cell_of_row _ w2.heap.size o _ _ (0, 0) hnew
  have nz : Nf1 w2.heap.size (w2.alloc (.cells Z T)) := ⟨by simp, fun j => by simp [go_sem]⟩
  have lr := (hrw.nr hr).1.1
  have lsz := ho.e.size
  have lp : ∀ q, q < x.cells.length → 0 < (x.c q).prs.length → pb q < w1.heap.size := fun q hq hl => (hrw.pl q hq hl).2.1.1
  have lf : ∀ q, vf.ownBlock = some q → bn + 1 ≤ q ∧ q < w2.heap.size := fun q hq => ho.f.own.lt q hq
  refine ⟨fun q => if q = w2.heap.size then 0 else if q = bn then 1 else if q = br then 2 else if 0 < x.cells.length ∧ q = bc then 3 else
    (open Classical in if h : ∃ i, i < x.cells.length ∧ 0 < (x.c i).prs.length ∧ pb i = q then 6 + Classical.choose h else 4), ⟨⟨(cz 0).trans z0, (cz 1).trans z1, (cz 2).trans z2, (cz 3).trans z3, (cz 4).trans z4, (cz 5).trans z5, (cz 6).trans z6, (cz 7).trans z7, (cz 8).trans z8, (cz 9).trans z9, (cz 10).trans z10, (cz 11).trans z11, (cz 12).trans z12⟩, har, (cz 13).trans z13, fun i hi => ?_, ⟨(cz 14).trans z14, nz.2 14, own_less (ho.f.own.alloc _) (by omega), fun e => by have := (lf _ e).2; omega⟩, ⟨by omega, by simp, (cz 4015).trans y0, (cz 4016).trans y1, fun i hi => by simp at hi, fun j hj => ⟨Z[15 + j]'(by omega), (cz _).trans (by simp)⟩⟩, (cz 4017).trans y2, World.ownsRow_nil _ _ _ _, nz, ⟨by omega, by omega, by simp; omega⟩⟩, ?_, ?_⟩
  · obtain ⟨bc', oc, e, p, q⟩ := ho.n i hi
    have e2 := (hac (Nat.lt_of_le_of_lt (Nat.zero_le _) hi)).symm.trans e
    simp only [Option.some.injEq, Addr.mk.injEq] at e2
    obtain ⟨rfl, rfl, _⟩ := e2
    rw [Nat.zero_add] at q
    exact ⟨x2.keep p, x2.keep q⟩
  · have := hrw.ext xe
    exact ⟨this.r, this.s, this.p7, this.p, this.pl, this.nr, this.nc, this.d, this.dp⟩
  · refine ⟨if_pos rfl, ?_, fun _ => ?_, fun hl => ?_, fun q hq => ?_, fun q hq => by simp [Value.ownBlock] at hq, fun q hq hl => ?_⟩
    · rw [if_neg (by omega), if_pos rfl]
    · rw [if_neg (by omega), if_neg (by omega), if_pos rfl]
    · have l1 := (hrw.nc hl).1.1
      have l2 := hrw.d hl
      rw [if_neg (by omega), if_neg (by omega), if_neg (fun e => l2 e.symm), if_pos ⟨hl, rfl⟩]
    · have l1 := lf q hq
      rw [if_neg (by omega), if_neg (by omega), if_neg (by omega), if_neg (fun e => by have := (hrw.nc e.1).1.1; omega), dif_neg (fun ⟨i, h1, h2, h3⟩ => by have := lp i h1 h2; omega)]
    · have l1 := lp q hq hl
      have l2 := (hrw.pl q hq hl).2.2.1
      have hex : ∃ i, i < x.cells.length ∧ 0 < (x.c i).prs.length ∧ pb i = pb q := ⟨q, hq, hl, rfl⟩
      rw [if_neg (by omega), if_neg (by omega), if_neg l2.1, if_neg (fun e => l2.2 e.2), dif_pos hex]
      have sp := Classical.choose_spec hex
      have : Classical.choose hex = q := by
        rcases Nat.decEq (Classical.choose hex) q with h | h
        · exact absurd sp.2.2 (hrw.dp _ q sp.1 hq h sp.2.1 hl)
        · exact h
      rw [this]
end Go.Proofs.YtkabcfhemljnbaaGreat

namespace Go.Proofs.YtkabcfhemljnbaaGreat
open Go.RowKit
attribute [local go_sem ↓] Go.wp_at_zero Go.wp_at_succ

/-! Shading, in plain words and in the store. -/
theorem Hp.c_set (x : Hp) (i : Nat) (c : Cl) (hi : i < x.cells.length) (q : Nat) : ({ x with cells := x.cells.set i c } : Hp).c q = if q = i then c else x.c q := by
  simp only [Hp.c, List.getD_eq_getElem?_getD, List.getElem?_set]
  by_cases e : q = i
  · subst e; simp [hi]
  · rw [if_neg (fun h => e h.symm), if_neg e]
def mkB (x : Hp) : Bool := x.phase == 1 || x.phase == 2
def whB (c : Cl) : Bool := c.st == 1 && c.color == 0
def shadeB (x : Hp) (i : Nat) : Bool := mkB x && whB (x.c i)
def grayC (c : Cl) : Cl := { c with color := 1 }
def shadeH (x : Hp) (i : Nat) : Hp := if shadeB x i = true then { x with cells := x.cells.set i (grayC (x.c i)), gray := x.gray ++ [(i : Int)] } else x
theorem SAt.setc {B : Nat} {w : World} {b : Nat} {x : Hp} {ar : Option Addr} {kr : Nat} {v4 v8 : Value} {br bc bn : Nat} {pb : Nat → Nat} {pa : Nat → Option Addr} {pk : Nat → Nat} {kn hd : Nat} {vf : Value} {F : List Int} {vk : Value} {K : List Nat} {role : Nat → Nat} {w' : World} {i : Nat} {c' : Cl}
    (h : SAt B w b x ar kr v4 v8 br bc bn pb pa pk kn hd vf F vk K role) (hi : i < x.cells.length) (hp : c'.prs = (x.c i).prs) (o : Only (fun q => q = bc) w w') (hs : S7 w' bc (i * 8) c') (ho : ∀ k, (k < i * 8 ∨ i * 8 + 7 ≤ k) → w'.cell? ⟨bc, k, none⟩ = w.cell? ⟨bc, k, none⟩) (nf : Nf1 bc w') :
    SAt B w' b { x with cells := x.cells.set i c' } ar kr v4 v8 br bc bn pb pa pk kn hd vf F vk K role := by
  have hn : 0 < x.cells.length := by omega
  have far : ∀ q, q < w.heap.size → role q ≠ 3 → w'.heap[q]? = w.heap[q]? := fun q hq hr => o.block q hq (fun e => hr (by rw [e]; exact h.sp.c hn))
  have hl : ({ x with cells := x.cells.set i c' } : Hp).cells.length = x.cells.length := by simp
  have hc := Hp.c_set x i c' hi
  have hpr : ∀ q, (({ x with cells := x.cells.set i c' } : Hp).c q).prs = (x.c q).prs := fun q => by
    rw [hc q]; by_cases e : q = i
    · rw [if_pos e, hp, e]
    · rw [if_neg e]
  have sb := h.sb.same o.size (far b h.sb.nb.1 (by rw [h.sp.b]; omega)) (far bn h.sb.lo.2.2 (by rw [h.sp.n]; omega)) (fun q hq => far q (h.sb.fr.own.lt q hq).2 (by rw [h.sp.f q hq]; omega)) (fun q hq => far q (h.sb.kp.lt q hq).2 (by rw [h.sp.k q hq]; omega))
  have pf : ∀ q, q < x.cells.length → 0 < (x.c q).prs.length → w'.heap[pb q]? = w.heap[pb q]? := fun q hq hl => far (pb q) (h.rw.pl q hq hl).2.1.1 (by rw [h.sp.p q hq hl]; omega)
  refine ⟨⟨sb.bx, sb.ha, by rw [hl]; exact sb.n13, fun k hk => sb.nd k (by rw [hl] at hk; exact hk), sb.fr, sb.rg, sb.k0, sb.kp, sb.nb, sb.lo⟩, ⟨fun k hk => ?_, fun q hq => ?_, fun q hq => ?_, fun q hq k hk => ?_, fun q hq hlq => ?_, fun hr => ⟨nf1_block (h.rw.nr hr).1 (far br (h.rw.nr hr).1.1 (by rw [h.sp.r hr]; omega)) o.size, (h.rw.nr hr).2⟩, fun _ => ⟨nf, (h.rw.nc hn).2⟩, fun _ => h.rw.d hn, fun q q' hq hq' hne h1 h2 => ?_⟩, ⟨h.sp.b, h.sp.n, h.sp.r, fun _ => h.sp.c hn, h.sp.f, h.sp.k, fun q hq hlq => ?_⟩⟩
  · exact (h.rw.r k hk).of fun j _ => World.cell?_of_block (a := ⟨br, _, none⟩) (far br (h.rw.nr (by have : k < x.regs.length := hk; omega)).1.1 (by rw [h.sp.r (by have : k < x.regs.length := hk; omega)]; omega))
  · rw [hl] at hq
    rw [hc q]
    by_cases e : q = i
    · subst e; rw [if_pos rfl]; exact hs
    · rw [if_neg e]; exact (h.rw.s q hq).of fun j hj => ho _ (by omega)
  · rw [hl] at hq
    rw [hpr q, ho _ (by omega)]; exact h.rw.p7 q hq
  · rw [hl] at hq
    have e2 : (({ x with cells := x.cells.set i c' } : Hp).c q).p k = (x.c q).p k := by simp only [Cl.p, hpr q]
    rw [hpr q] at hk
    rw [e2]
    exact (h.rw.p q hq k hk).of fun j _ => World.cell?_of_block (a := ⟨pb q, _, none⟩) (pf q hq (by omega))
  · rw [hl] at hq; rw [hpr q] at hlq
    obtain ⟨a1, a2, a3⟩ := h.rw.pl q hq hlq
    exact ⟨a1, nf1_block a2 (pf q hq hlq) o.size, a3⟩
  · rw [hl] at hq hq'; rw [hpr] at h1 h2; exact h.rw.dp q q' hq hq' hne h1 h2
  · rw [hl] at hq; rw [hpr q] at hlq; exact h.sp.p q hq hlq

theorem smarking_any (x : Hp) (b : Nat) (w : World) (c5 : w.cell? ⟨b, 5, none⟩ = some (iv x.phase)) :
    Calls Tryz.prog 125 #[.pointer (some ⟨b, 0, none⟩)] w fun e w' => e = .returned (.bool (mkB x)) ∧ w' = w := by
  cases q : (x.phase == 1)
  · have E := hide (show mkB x = (x.phase == 2) by simp [mkB, q])
    go_enter Tryz.func125, Tryz.ntmps125
    go_wp2_with fail
    go_ret
    exact ⟨by rw [unhide E]; rfl, rfl⟩
  · have E := hide (show mkB x = true by simp [mkB, q])
    go_enter Tryz.func125, Tryz.ntmps125
    go_wp2_with fail
    go_ret
    exact ⟨by rw [unhide E]; rfl, rfl⟩
theorem swhite_any (c : Cl) (bn i bc : Nat) (w : World) (m1 : w.cell? ⟨bn, i * 2 + 1, none⟩ = some (.pointer (some ⟨bc, i * 8, none⟩))) (s : S7 w bc (i * 8) c) :
    Calls Tryz.prog 126 #[ndp bn i] w fun e w' => e = .returned (.bool (whB c)) ∧ w' = w := by
  have s0 := s.1
  have s5 := s.2.2.2.2.2.1
  clear s
  cases q : (c.st == 1)
  · have E := hide (show whB c = false by simp [whB, q])
    go_enter Tryz.func126, Tryz.ntmps126
    go_wp2_with fail
    go_ret
    exact ⟨by rw [unhide E]; rfl, rfl⟩
  · have E := hide (show whB c = (c.color == 0) by simp [whB, q])
    go_enter Tryz.func126, Tryz.ntmps126
    go_wp2_with fail
    go_ret
    exact ⟨by rw [unhide E]; rfl, rfl⟩

set_option maxRecDepth 100000 in
set_option maxHeartbeats 2000000 in
theorem sshade_any {B : Nat} {b : Nat} {x : Hp} {ar : Option Addr} {kr : Nat} {v4 v8 : Value} {br bc bn : Nat} {pb : Nat → Nat} {pa : Nat → Option Addr} {pk : Nat → Nat} {kn hd : Nat} {vf : Value} {F : List Int} {vk : Value} {K : List Nat} {role : Nat → Nat} (i : Nat) (w : World)
    (h : SAt B w b x ar kr v4 v8 br bc bn pb pa pk kn hd vf F vk K role) (hi : i < x.cells.length) (hg : shadeB x i = true → x.gray.length < 4000) (a : World) (ha : a.heap.size ≤ B) (hx : Ext a w) :
    Calls Tryz.prog 76 #[.pointer (some ⟨b, 0, none⟩), ndp bn i] w fun e w' => e = .returned (.tuple #[]) ∧ Hid (SAt B w' b (shadeH x i) ar kr v4 v8 br bc bn pb pa pk kn hd vf F vk K role) ∧ Ext a w' := by
  have H := hide h
  have c5 := h.sb.bx.2.2.2.2.2.1
  obtain ⟨m0, m1⟩ := h.sb.nd i hi
  have S := hide (h.rw.s i hi)
  have hn : 0 < x.cells.length := by omega
  clear h
  go_enter Tryz.func76, Tryz.ntmps76
  go_wp2_with fail
  refine (smarking_any x b _ c5).mono ?_
  rintro e w1 ⟨rfl, rfl⟩
  cases q1 : mkB x
  · have E := hide (show shadeH x i = x by unfold shadeH; rw [if_neg (by simp [shadeB, q1])])
    go_wp2_with fail
    try simp only [Exit.inBlock, Exit.then]
    refine bodyPost_ret (results_none rfl _ _ _) rfl ?_
    exact ⟨rfl, by rw [unhide E]; exact unhide H, hx⟩
  · go_wp2_with fail
    refine (swhite_any (x.c i) bn i bc _ m1 (unhide S)).mono ?_
    rintro e w2 ⟨rfl, rfl⟩
    cases q2 : whB (x.c i)
    · have E := hide (show shadeH x i = x by unfold shadeH; rw [if_neg (by simp [shadeB, q2])])
      go_wp2_with fail
      try simp only [Exit.inBlock, Exit.then]
      refine bodyPost_ret (results_none rfl _ _ _) rfl ?_
      exact ⟨rfl, by rw [unhide E]; exact unhide H, hx⟩
    · have hb : shadeB x i = true := by simp [shadeB, q1, q2]
      have E := hide (show shadeH x i = { x with cells := x.cells.set i (grayC (x.c i)), gray := x.gray ++ [(i : Int)] } by unfold shadeH; rw [if_pos hb])
      have hl4 := hg hb
      have s5 := (unhide S).2.2.2.2.2.1
      have f5 := ((unhide H).rw.nc hn).1.2 (i * 8 + 5)
      have C := hide (show SAt B (w2.setCell ⟨bc, i * 8 + 5, none⟩ (iv 1)) b { x with cells := x.cells.set i (grayC (x.c i)) } ar kr v4 v8 br bc bn pb pa pk kn hd vf F vk K role from
        (unhide H).setc hi rfl (Only.setCell (S := fun q => q = bc) (Only.refl _ w2) (p := ⟨bc, i * 8 + 5, none⟩) rfl _) (by
          obtain ⟨a0, a1, a2, a3, a4, a5, a6⟩ := unhide S
          refine ⟨?_, ?_, ?_, ?_, ?_, World.cell?_setCell_same _ _ _ a5, ?_⟩
          · rw [cell_other _ (.inr (by omega))]; exact a0
          · rw [cell_other _ (.inr (by omega))]; exact a1
          · rw [cell_other _ (.inr (by omega))]; exact a2
          · rw [cell_other _ (.inr (by omega))]; exact a3
          · rw [cell_other _ (.inr (by omega))]; exact a4
          · rw [cell_other _ (.inr (by omega))]; exact a6) (fun k hk => cell_other _ (.inr (by omega))) (((unhide H).rw.nc hn).1.set _ _))
      have X2 := hide (hx.setCell (p := ⟨bc, i * 8 + 5, none⟩) (show a.heap.size ≤ bc from Nat.le_trans ha ((unhide H).rw.nc hn).2) (iv 1))
      have LB := hide (Nat.le_trans ha (unhide H).sb.lo.1)
      clear hb hg
      go_wp2_with fail
      refine (rput_any b bn hd i x.gray _ (unhide C).sb.rg (unhide C).sb.nb hl4).mono ?_
      rintro e w3 ⟨rfl, hr3, ho3, hn3, hc3⟩
      have R := hide ((unhide C).ring hr3 ho3 hn3 (fun o ho => hc3 o (by omega)))
      have XX := hide (ho3.ext (unhide X2) (fun q hq e => by have := unhide LB; omega))
      clear hr3 ho3 hn3 hc3
      go_wp2_with fail
      go_end0
      exact ⟨rfl, by rw [unhide E]; exact unhide R, unhide XX⟩
end Go.Proofs.YtkabcfhemljnbaaGreat

namespace Go.Proofs.YtkabcfhemljnbaaGreat
open Go.RowKit

/-! What Shade answers, in plain words; the gray cells fit into the ring. -/
def Hp0 : Hp := ⟨0, 0, 0, [], [], 0, 0, 0, [], 0, 0, 0, 0⟩
def ShOk (x : Hp) (at_ : Int) : Prop := OkIs x 0 ∧ 0 ≤ at_ ∧ at_ < x.cells.length ∧ (x.c at_.toNat).st = 1
def ShIs (x : Hp) (at_ : Int) (y : Hp) : Prop := (ShOk x at_ ∧ y = shadeH x at_.toNat) ∨ (¬ ShOk x at_ ∧ y = Hp0)
theorem ShIs.uniq {x : Hp} {a : Int} {y z : Hp} (h : ShIs x a y) (k : ShIs x a z) : y = z := by
  rcases h with ⟨h1, h2⟩ | ⟨h1, h2⟩ <;> rcases k with ⟨k1, k2⟩ | ⟨k1, k2⟩
  · rw [h2, k2]
  · exact (k1 h1).elim
  · exact (h1 k1).elim
  · rw [h2, k2]
theorem OkIs.r5 {x : Hp} (h : OkIs x 0) : R5 x := by
  unfold OkIs at h
  rcases h with h | h | h | h | h | h | h | h | h
  · have := h.2; omega
  · have := h.2.2; omega
  · have := h.2.2.2; omega
  · have := h.2.2.2.2; omega
  · have := h.2.2.2.2.2; omega
  · have := h.2.2.2.2.2.2; omega
  · have := h.2.2.2.2.2.2.2; omega
  · have := h.2.2.2.2.2.2.2.2; omega
  · exact h.2.2.2.2.1

/-- places of used cells, no two the same: not more than units -/
theorem used_len (x : Hp) : ∀ (k : Nat) (L : List Nat), k ≤ x.cells.length → L.Nodup → (∀ i, i ∈ L → i < k ∧ (x.c i).st = 1) → L.length ≤ units (x.cells.take k)
  | 0, L, _, _, h => by
    cases L with
    | nil => simp
    | cons a L => have := (h a (List.mem_cons_self ..)).1; omega
  | k + 1, L, hk, hn, h => by
    have e : units (x.cells.take (k + 1)) = units (x.cells.take k) + unitsOf (x.c k) := by
      rw [units_take x.cells k (by omega), Hp.c_eq x k (by omega)]
    by_cases hm : k ∈ L
    · have h1 := used_len x k (L.erase k) (by omega) (hn.erase k) (fun i hi => by
        have h2 := h i (List.mem_of_mem_erase hi)
        have h3 : i ≠ k := fun e => by rw [e] at hi; exact (List.Nodup.not_mem_erase hn) hi
        exact ⟨by omega, h2.2⟩)
      rw [List.length_erase_of_mem hm] at h1
      have h4 : unitsOf (x.c k) ≥ 1 := by unfold unitsOf; rw [if_pos (h k hm).2]; omega
      have h5 : 0 < L.length := List.length_pos_of_mem hm
      omega
    · have h1 := used_len x k L (by omega) hn (fun i hi => by
        have h2 := h i hi
        have h3 : i ≠ k := fun e => hm (by rw [← e]; exact hi)
        exact ⟨by omega, h2.2⟩)
      omega
theorem gray_nodup {x : Hp} (r5 : R5 x) : x.gray.Nodup := by
  rw [List.nodup_iff_count]
  intro g
  by_cases hg : g ∈ x.gray
  · obtain ⟨h0, h1⟩ := r5.2.2 g hg
    have e : ((g.toNat : Nat) : Int) = g := by omega
    have hc := r5.2.1 g.toNat (by omega)
    by_cases hcol : (x.c g.toNat).color = 1
    · have := hc.1 hcol
      unfold cnt at this
      rw [e] at this
      omega
    · have := hc.2.1 hcol
      unfold cnt at this
      rw [e] at this
      omega
  · rw [List.count_eq_zero_of_not_mem hg]; omega
theorem gray_used {x : Hp} (r2 : R2 x) (r5 : R5 x) (g : Int) (hg : g ∈ x.gray) : (x.c g.toNat).color = 1 ∧ (x.c g.toNat).st = 1 := by
  obtain ⟨h0, h1⟩ := r5.2.2 g hg
  have e : ((g.toNat : Nat) : Int) = g := by omega
  have hc := r5.2.1 g.toNat (by omega)
  have hcol : (x.c g.toNat).color = 1 := by
    rcases Int.decEq (x.c g.toNat).color 1 with hn | hy
    · have := hc.2.1 hn
      unfold cnt at this
      rw [e] at this
      exact absurd hg (List.count_eq_zero.1 this)
    · exact hy
  refine ⟨hcol, ?_⟩
  rcases r2.1 g.toNat (by omega) with c | c | c
  · have := c.2.1.2.2.2.2.1; omega
  · have := c.2.1.2.2.2.2.1; omega
  · exact c.1
theorem gray_fit {x : Hp} (ok : OkIs x 0) : x.gray.length ≤ 4000 ∧ ∀ i, i < x.cells.length → shadeB x i = true → x.gray.length < 4000 := by
  obtain ⟨r1, r2, r3, _⟩ := ok.all
  have r5 := ok.r5
  have hu : (units x.cells : Int) ≤ 4000 := by have := r3.1; have := r3.2; have := r1.room; omega
  have hn : (x.gray.map Int.toNat).Nodup := by
    unfold List.Nodup
    rw [List.pairwise_map]
    exact List.Pairwise.imp_of_mem (fun ha hb hne e => hne (by have := (r5.2.2 _ ha).1; have := (r5.2.2 _ hb).1; omega)) (gray_nodup r5)
  have hm : ∀ i, i ∈ x.gray.map Int.toNat → i < x.cells.length ∧ (x.c i).st = 1 ∧ (x.c i).color = 1 := fun i hi => by
    obtain ⟨g, hg, rfl⟩ := List.mem_map.1 hi
    have h1 := r5.2.2 g hg
    have h2 := gray_used r2 r5 g hg
    exact ⟨by omega, h2.2, h2.1⟩
  have h1 := used_len x x.cells.length (x.gray.map Int.toNat) (Nat.le_refl _) hn (fun i hi => ⟨(hm i hi).1, (hm i hi).2.1⟩)
  rw [List.take_length, List.length_map] at h1
  refine ⟨by omega, fun i hi hb => ?_⟩
  have hb2 : (x.c i).st = 1 ∧ (x.c i).color = 0 := by simp [shadeB, whB] at hb; exact hb.2
  have h2 := used_len x x.cells.length (i :: x.gray.map Int.toNat) (Nat.le_refl _) (List.nodup_cons.2 ⟨fun h => by have := (hm i h).2.2; omega, hn⟩) (fun j hj => by
    rcases List.mem_cons.1 hj with e | e
    · rw [e]; exact ⟨hi, hb2.1⟩
    · exact ⟨(hm j e).1, (hm j e).2.1⟩)
  rw [List.take_length, List.length_cons, List.length_map] at h2
  omega
end Go.Proofs.YtkabcfhemljnbaaGreat
