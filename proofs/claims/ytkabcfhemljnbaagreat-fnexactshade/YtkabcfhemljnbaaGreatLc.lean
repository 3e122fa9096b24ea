import Derived.Test.YtkabcfhemljnbaaGreatCn
import Derived.Maps.AppendAt
import Derived.Deep.AppendLies
namespace Go.Proofs.YtkabcfhemljnbaaGreat
open Go.RowKit

/-! A row of ints of a call's own that may begin anywhere in its block: 'q = q[1:]' and 'q = append(q, x)'. -/
def Grw (w : World) (B : Nat) (v : Value) (G : List Int) : Prop :=
  (v = .slice none 0 0 ∧ G = []) ∨ ∃ gb go cap cur, v = .slice (some ⟨gb, go, none⟩) G.length cap ∧ B ≤ gb ∧ w.heap[gb]? = some (.cells cur 3 (0, 0)) ∧ G.length ≤ cap ∧ go + cap ≤ cur.size ∧ (cur.toList.drop go).take G.length = G.map iv
theorem Grw.lt {w : World} {B : Nat} {v : Value} {G : List Int} (h : Grw w B v G) : ∀ k, v.ownBlock = some k → B ≤ k ∧ k < w.heap.size := by
  intro k hk
  rcases h with ⟨rfl, _⟩ | ⟨gb, go, cap, cur, rfl, hb, hg, _⟩
  · simp [Value.ownBlock] at hk
  · simp [Value.ownBlock] at hk
    subst hk
    exact ⟨hb, (Array.getElem?_eq_some_iff.1 hg).1⟩
theorem Grw.block {w w' : World} {B : Nat} {v : Value} {G : List Int} (h : Grw w B v G) (hb : ∀ k, v.ownBlock = some k → w'.heap[k]? = w.heap[k]?) : Grw w' B v G := by
  rcases h with h | ⟨gb, go, cap, cur, rfl, h1, hg, h2⟩
  · exact .inl h
  · exact .inr ⟨gb, go, cap, cur, rfl, h1, by rw [hb gb rfl]; exact hg, h2⟩
theorem Grw.form {w : World} {B : Nat} {v : Value} {G : List Int} (h : Grw w B v G) : ∃ a k, v = .slice a G.length k := by
  rcases h with ⟨rfl, rfl⟩ | ⟨gb, go, cap, cur, rfl, _⟩
  · exact ⟨none, 0, rfl⟩
  · exact ⟨_, _, rfl⟩
theorem Grw.of {w : World} {B : Nat} {v : Value} {G : List Int} (h : w.ownsRow B 3 1 v G.length (G.map iv)) : Grw w B v G := by
  rcases h.2 with ⟨h0, h1⟩ | ⟨g, cap, cur, h0, hb, hg, hn, _, hs, ht⟩
  · exact .inl ⟨h0, List.eq_nil_of_length_eq_zero h1⟩
  · exact .inr ⟨g, 0, cap, cur, h0, hb, hg, hn, by omega, by simpa using ht⟩
theorem Grw.at {w : World} {B : Nat} {a : Option Addr} {k : Nat} {G : List Int} (h : Grw w B (.slice a G.length k) G) (i : Nat) (hi : i < G.length) : ∃ gb go, a = some ⟨gb, go, none⟩ ∧ w.cell? ⟨gb, go + i, none⟩ = some (iv G[i]) ∧ B ≤ gb := by
  rcases h with ⟨_, rfl⟩ | ⟨gb, go, cap, cur, e, hb, hg, hn, hs, ht⟩
  · simp at hi
  · simp only [Value.slice.injEq] at e
    refine ⟨gb, go, e.1, ?_, hb⟩
    rw [cell_of_row w gb (go + i) cur _ _ hg, ← Array.getElem?_toList]
    have h1 : ((cur.toList.drop go).take G.length)[i]? = (G.map iv)[i]? := by rw [ht]
    rw [List.getElem?_take_of_lt hi, List.getElem?_drop] at h1
    rw [h1]; simp [hi]
/-- without its first item -/
theorem Grw.tail {w : World} {B : Nat} {gb go cap : Nat} {g : Int} {G : List Int} (h : Grw w B (.slice (some ⟨gb, go, none⟩) (G.length + 1) cap) (g :: G)) : Grw w B (.slice (some ⟨gb, go + 1, none⟩) G.length (cap - 1)) G := by
  rcases h with ⟨_, e⟩ | ⟨gb', go', cap', cur, e, hb, hg, hn, hs, ht⟩
  · cases e
  · simp only [Value.slice.injEq, Option.some.injEq, Addr.mk.injEq] at e
    obtain ⟨⟨rfl, rfl, _⟩, _, rfl⟩ := e
    refine .inr ⟨gb, go + 1, cap - 1, cur, rfl, hb, hg, by simp at hn; omega, by simp at hn; omega, ?_⟩
    have h1 : ((cur.toList.drop go).take (G.length + 1)).drop 1 = G.map iv := by
      have : (g :: G).length = G.length + 1 := rfl
      rw [this] at ht; rw [ht]; rfl
    rw [List.drop_take, List.drop_drop] at h1
    simpa using h1
theorem take_mid {α : Type} (L : List α) (o n : Nat) (v : α) (xs : List α) (h : (L.drop o).take n = xs) (hl : xs.length = n) (ho : o + n < L.length) : ((L.take (o + n) ++ [v] ++ L.drop (o + n + 1)).drop o).take (n + 1) = xs ++ [v] := by
  have e1 : (L.take (o + n)).length = o + n := by simp; omega
  have e2 : (L.take (o + n)).drop o = xs := by rw [List.drop_take, show o + n - o = n by omega]; exact h
  rw [List.append_assoc, List.drop_append_of_le_length (by omega), e2]
  simp [List.take_append, hl]
  exact List.take_of_length_le (by omega)
theorem run_app1 {P : Program} (w : World) (t ty : TypeId) (i : TypeInfo) (z : Value) (B : Nat) (v : Value) (G : List Int) (ht : P.underlying t = some (.slice 3)) (hi : P.info? 3 = some i) (hz : i.zero = some z) (hs1 : i.size = 1) (hby : i.bytes = 8) (hzs : z.cells.size = 1) (h : Grw w B v G) (ad : Addr) (c : Nat) (x : Int) (hx : w.cell? ad = some (iv x)) (hn : G.length ≤ 1048576) (hB : B ≤ w.heap.size) :
    ∃ gb go cap w', (Builtin.append_ #[t, t] ty #[v, .slice (some ad) 1 c]).run P w = .ok (.slice (some ⟨gb, go, none⟩) (G.length + 1) cap) w' ∧ Grw w' B (.slice (some ⟨gb, go, none⟩) (G.length + 1) cap) (G ++ [x]) ∧ w.grownBy w' v.ownBlock ∧ (v.ownBlock = some gb ∨ gb = w.heap.size) ∧ gb < w'.heap.size := by
  have hnews : ∀ j u, [iv x][j]? = some u → w.cell? (ad.add j) = some u := fun j u hj => by
    match j, hj with
    | 0, hj =>
      simp at hj; subst hj
      have : ad.add 0 = ad := by unfold Addr.add; simp
      rw [this]; exact hx
  have grown : ∀ (old : Nat), old < G.length + 1 → Grw (w.drew.alloc (.cells ((G.map iv).toArray ++ #[iv x] ++ Builtin.zeroCells z.cells (grownCap w (G.length + 1) old 3 - (G.length + 1))) 3)) B (.slice (some ⟨w.heap.size, 0, none⟩) (G.length + 1) (grownCap w (G.length + 1) old 3)) (G ++ [x]) ∧ ∀ row, w.grownBy (w.drew.alloc (.cells ((G.map iv).toArray ++ #[iv x] ++ Builtin.zeroCells z.cells (grownCap w (G.length + 1) old 3 - (G.length + 1))) 3)) row := by
    intro old ho
    have hge := grownCap_ge w (G.length + 1) old 3
    refine ⟨.inr ⟨w.heap.size, 0, grownCap w (G.length + 1) old 3, _, by simp, hB, heap_alloc_new w.drew _, by simpa using hge, ?_, ?_⟩, fun row => ⟨rfl, rfl, rfl, by simp, fun k hk _ => Below.heap_alloc w.drew _ k hk⟩⟩
    · simp [size_zeroCells, hzs]; omega
    · simp
      have e : G.length + 1 = (G.map iv ++ [iv x]).length := by simp
      rw [List.append_cons, e, List.take_left]
  rcases h with ⟨rfl, rfl⟩ | ⟨gb, go, cap, cur, rfl, hb, hg, hnc, hcs, htake⟩
  · have hr := run_append_nil (P := P) w t ty 3 i z ht hi hz ad 1 c [iv x] (by simp [hs1]) hnews (by omega) (by omega) (by rw [hby]; omega)
    have hgr := grown 0 (by omega)
    simp only [List.length_nil, Nat.zero_add, List.map_nil] at hgr
    refine ⟨_, _, _, _, hr, ?_, hgr.2 _, .inr rfl, by simp⟩
    simpa using hgr.1
  · by_cases hroom : G.length + 1 ≤ cap
    · have hf := run_firstCells_some (P := P) w i.size 1 ad 1 c [iv x] (by simp [hs1]) hnews
      rw [hs1] at hf
      have hst := run_storeCells_at P gb (go + G.length) 3 [iv x] 0 cur w hg (by simp; omega) (by intro v hv; simp at hv; subst hv; rfl)
      simp only [Nat.add_zero, List.length_cons, List.length_nil, Nat.zero_add] at hst
      refine ⟨gb, go, cap, w.setRow gb (cur.toList.take (go + G.length) ++ [iv x] ++ cur.toList.drop (go + G.length + 1)).toArray, ?_, .inr ⟨gb, go, cap, _, by simp, hb, setRow_heap w gb cur _ 3 _ hg, by simpa using hroom, ?_, ?_⟩, ⟨rfl, rfl, rfl, by simp, fun k _ hk => setRow_other w gb k _ (fun e => hk (by simp [Value.ownBlock, e]))⟩, .inl rfl, ?_⟩
      · simp only [List.append_assoc, List.singleton_append] at hst ⊢
        simp [Builtin.append_, run_underlying ht, sizeOf, typeInfo, hi, Builtin.lenOf, hroom, hf, Addr.add_lit, hst, hs1]
      · simp; omega
      · have := take_mid cur.toList go G.length (iv x) (G.map iv) htake (by simp) (by simp; omega)
        simpa using this
      · have := (Array.getElem?_eq_some_iff.1 hg).1
        simpa using this
    · have hr := run_append_grow (P := P) w t ty 3 i z ht hi hz ⟨gb, go, none⟩ G.length cap (G.map iv) (by simp [hs1]) (fun j u hj => by
          have hj' : j < G.length := by have := (List.getElem?_eq_some_iff.1 hj).1; simpa using this
          have : (⟨gb, go, none⟩ : Addr).add j = ⟨gb, go + j, none⟩ := by unfold Addr.add; split <;> simp_all
          rw [this, cell_of_row w gb (go + j) cur _ _ hg, ← Array.getElem?_toList]
          have h1 : ((cur.toList.drop go).take G.length)[j]? = (G.map iv)[j]? := by rw [htake]
          rw [List.getElem?_take_of_lt hj', List.getElem?_drop] at h1
          rw [h1]; exact hj) ad 1 c [iv x] (by simp [hs1]) hnews (by omega) (by omega) (growslice_fits (by omega) (by rw [hby]; omega))
      have hgr := grown cap (by omega)
      exact ⟨_, _, _, _, hr, hgr.1, hgr.2 _, .inr rfl, by simp⟩
/-- at a step of a region that draws -/
theorem step_app1 {P : Program} (w : World) {ops : Array Oper} {o : Oper} {a : Act} {K : Act → World → Prop} {Q : Exit → Act → World → Prop} {E : Prop} (hgd : o.guard = none) (s x : Operand) (t : TypeId)
    (ho : o.op = .call { callee := .builtin .append, args := #[s, x], argTypes := #[t, t] }) (i : TypeInfo) (z : Value) (B : Nat) (v : Value) (G : List Int) (ht : P.underlying t = some (.slice 3)) (hi : P.info? 3 = some i) (hz : i.zero = some z) (hs1 : i.size = 1) (hby : i.bytes = 8) (hzs : z.cells.size = 1) (hs : a.eval s = v) (h : Grw w B v G) (ad : Addr) (c : Nat) (y : Int) (hx : a.eval x = .slice (some ad) 1 c) (hy : w.cell? ad = some (iv y)) (hn : G.length ≤ 1048576) (hB : B ≤ w.heap.size)
    (hK : ∀ gb go cap w', Grw w' B (.slice (some ⟨gb, go, none⟩) (G.length + 1) cap) (G ++ [y]) → w.grownBy w' v.ownBlock → (v.ownBlock = some gb ∨ gb = w.heap.size) → gb < w'.heap.size → K (a.put o.dst (.slice (some ⟨gb, go, none⟩) (G.length + 1) cap)) w') :
    if Region.wanted o (yielded ops a.tmps) = true then Oper.wp P o a w K Q else E := by
  have hw : Region.wanted o (yielded ops a.tmps) = true := by simp [Region.wanted, hgd]
  rw [if_pos hw]
  obtain ⟨gb, go, cap, w', hr, h2, h3, h4, h5⟩ := run_app1 (P := P) w t o.type i z B v G ht hi hz hs1 hby hzs h ad c y hy hn hB
  unfold Oper.wp execOp
  simp only [ho, resolve, invoke, builtin, Sem.run_bind, Sem.run_pure, Result.andThen_ok, List.map_toArray, List.map_cons, List.map_nil, hs, hx, hr]
  exact hK gb go cap w' h2 h3 h4 h5
end Go.Proofs.YtkabcfhemljnbaaGreat

namespace Go.Proofs.YtkabcfhemljnbaaGreat
open Go.RowKit
attribute [local go_sem ↓] Go.wp_at_zero Go.wp_at_succ

/-! spec.l1copy: the model's heap of its own. -/
/-- the cells under way: k of them, in blocks from w6 on; the box lies at g -/
structure CS (x : Hp) (w3 w6 wr : World) (vr vc vg : Value) (k : Nat) (L : List (Cl × Value)) : Prop where
  own : wr.ownsRow w6.heap.size 86 8 vc k (L.flatMap fC)
  eq : L.map (·.1) = x.cells.take k
  prs : ∀ z, z ∈ L → wr.ownsRow w6.heap.size 123 6 z.2 z.1.prs.length (z.1.prs.flatMap fP) ∧ ∀ q, z.2.ownBlock = some q → vc.ownBlock ≠ some q
  dis : ∀ i j (hi : i < L.length) (hj : j < L.length), i ≠ j → ∀ q, L[i].2.ownBlock = some q → L[j].2.ownBlock ≠ some q
  bx : HBox wr w3.heap.size x vr vc vg
  fz : ∀ o, wr.frozen? ⟨w3.heap.size, o, none⟩ = false
  on : Only (fun q => q = w3.heap.size) w6 wr
  ex : Ext w3 wr
  lt : w3.heap.size < w6.heap.size
theorem CS.ext {x : Hp} {w3 w6 wr w' : World} {vr vc vg : Value} {k : Nat} {L : List (Cl × Value)} (h : CS x w3 w6 wr vr vc vg k L) (e : Ext wr w') : CS x w3 w6 w' vr vc vg k L where
  own := ownsRow_of_block h.own (fun q hq => e.block q (h.own.lt q hq).2)
  eq := h.eq
  prs := fun z hz => ⟨ownsRow_of_block (h.prs z hz).1 (fun q hq => e.block q ((h.prs z hz).1.lt q hq).2), (h.prs z hz).2⟩
  dis := h.dis
  bx := h.bx.ext e
  fz := fun o => ((bcell e).2 _ o (Nat.lt_of_lt_of_le h.lt h.on.size)).trans (h.fz o)
  on := h.on.trans ⟨e.os, e.tape, e.output, e.size, fun q hq _ => e.block q hq⟩
  ex := h.ex.trans e
  lt := h.lt
theorem CS.len {x : Hp} {w3 w6 wr : World} {vr vc vg : Value} {k : Nat} {L : List (Cl × Value)} (h : CS x w3 w6 wr vr vc vg k L) (hk : k ≤ x.cells.length) : L.length = k := by
  have := congrArg List.length h.eq
  simpa [Nat.min_eq_left hk] using this
theorem CS.push {x : Hp} {w3 w6 W w5 : World} {vr vc vg v' : Value} {k B7 g : Nat} {L : List (Cl × Value)} {z : Cl × Value} (h : CS x w3 w6 W vr vc vg k L) (hk : k < x.cells.length) (hz : z.1 = x.cells[k]) (hg : W.grownBy w5 vc.ownBlock) (h5 : w5.ownsRow w6.heap.size 86 8 v' (k + 1) (L.flatMap fC ++ fC z))
    (hv' : v'.ownBlock = some g) (hat : vc.ownBlock = some g ∨ g = W.heap.size) (hp : W.ownsRow B7 123 6 z.2 z.1.prs.length (z.1.prs.flatMap fP)) (h7 : w6.heap.size ≤ B7) (hvn : ∀ q, vc.ownBlock = some q → q < B7) (hvp : ∀ y, y ∈ L → ∀ q, y.2.ownBlock = some q → q < B7) :
    CS x w3 w6 (w5.setCell ⟨w3.heap.size, 4, none⟩ v') vr v' vg (k + 1) (L ++ [z]) := by
  have hbW : w3.heap.size < W.heap.size := Nat.lt_of_lt_of_le h.lt h.on.size
  obtain ⟨b1, b2, b3, b4, b5, b6⟩ := box_push (o := 4) (u := v') (bg := w3.heap.size) h.lt h.ex h.own (Nat.le_refl _) hbW hg h5
  have key : ∀ y, y ∈ L ++ [z] → W.ownsRow w6.heap.size 123 6 y.2 y.1.prs.length (y.1.prs.flatMap fP) ∧ ∀ q, y.2.ownBlock = some q → vc.ownBlock ≠ some q := fun y hy => by
    rcases List.mem_append.1 hy with q | q
    · exact h.prs y q
    · rw [List.mem_singleton] at q
      subst q
      exact ⟨own_less hp h7, fun q e e' => by have := (hp.lt q e).1; have := hvn q e'; omega⟩
  have hb : HBox w5 w3.heap.size x vr vc vg := h.bx.block (hg.block w3.heap.size hbW (fun e => by have := (h.own.lt _ e.symm).1; have := h.lt; omega))
  refine ⟨by simpa using b1, ?_, fun y hy => ?_, fun i j hi hj hne q e e' => ?_, hb.set4 v', fun o => (b4 o).trans (h.fz o), ?_, b2, h.lt⟩
  · rw [List.map_append, h.eq, List.take_succ_eq_append_getElem hk]; simp [hz]
  · have kk := key y hy
    refine ⟨ownsRow_of_block kk.1 (fun q hq => b6 q (kk.1.lt q hq).2 (fun e => by have := (kk.1.lt q hq).1; have := h.lt; omega) (kk.2 q hq)), fun q e e' => ?_⟩
    rw [hv'] at e'
    injection e' with e'
    subst e'
    rcases hat with r | r
    · exact kk.2 g e r
    · have := (kk.1.lt g e).2; omega
  · simp only [List.getElem_append] at e e'
    simp at hi hj
    by_cases hi' : i < L.length <;> by_cases hj' : j < L.length
    · simp only [hi', hj', dite_true] at e e'
      exact h.dis i j hi' hj' hne q e e'
    · simp only [hi', hj', dite_true, dite_false, List.getElem_singleton] at e e'
      have := hvp _ (List.getElem_mem hi') q e
      have := (hp.lt q e').1
      omega
    · simp only [hi', hj', dite_true, dite_false, List.getElem_singleton] at e e'
      have := hvp _ (List.getElem_mem hj') q e'
      have := (hp.lt q e).1
      omega
    · omega
  · exact ⟨hg.os.trans h.on.os, hg.tape.trans h.on.tape, hg.output.trans h.on.output, by have := hg.size; have := h.on.size; simp only [World.setCell, Array.size_modify]; omega, fun q hq hne => (b6 q (Nat.lt_of_lt_of_le hq h.on.size) hne (fun e => by have := (h.own.lt q e).1; omega)).trans (h.on.block q hq hne)⟩
/-- a cell and its copy in their boxes -/
structure CB (wr W : World) (c : Cl) (ap : Option Addr) (kp : Nat) (v : Value) : Prop where
  p7 : W.cell? ⟨wr.heap.size, 7, none⟩ = some (.slice ap c.prs.length kp)
  n : S7 W (wr.heap.size + 1) 0 c
  n7 : W.cell? ⟨wr.heap.size + 1, 7, none⟩ = some v
  f : ∀ o, W.frozen? ⟨wr.heap.size + 1, o, none⟩ = false
  ex : Ext wr W
theorem CB.ext {wr W W' : World} {c : Cl} {ap : Option Addr} {kp : Nat} {v : Value} (h : CB wr W c ap kp v) (e : Ext W W') : CB wr W' c ap kp v :=
  ⟨e.keep h.p7, h.n.of fun _ _ => e.cell (p := ⟨wr.heap.size + 1, _, none⟩) (show wr.heap.size + 1 < W.heap.size from cell_lt h.n7), e.keep h.n7, fun o => ((bcell e).2 _ o (cell_lt h.n7)).trans (h.f o), h.ex.trans e⟩
theorem CB.push {wr W w5 : World} {c : Cl} {ap : Option Addr} {kp : Nat} {v v' : Value} {B7 n n' : Nat} {xs ys : List Value} (h : CB wr W c ap kp v) (hW : W.ownsRow B7 123 6 v n xs) (h7 : wr.heap.size + 1 < B7) (hg : W.grownBy w5 v.ownBlock) (h5 : w5.ownsRow B7 123 6 v' n' ys) :
    (w5.setCell ⟨wr.heap.size + 1, 7, none⟩ v').ownsRow B7 123 6 v' n' ys ∧ CB wr (w5.setCell ⟨wr.heap.size + 1, 7, none⟩ v') c ap kp v' := by
  obtain ⟨b1, b2, b3, b4, b5, b6⟩ := box_push (o := 7) (u := v') (bg := wr.heap.size + 1) h7 h.ex hW (Nat.le_succ _) (cell_lt h.n7) hg h5
  refine ⟨b1, ?_, h.n.of fun j hj => b3 _ (by omega), b5 _ h.n7, fun o => (b4 o).trans (h.f o), b2⟩
  exact (World.cell?_of_block (a := ⟨wr.heap.size, 7, none⟩) (b6 wr.heap.size (cell_lt h.p7) (by omega) (fun e => by have := (hW.lt _ e).1; omega))).trans h.p7
theorem CB.start (wr : World) (c : Cl) (ap : Option Addr) (kp : Nat) (t1 t2 : TypeId) : CB wr ((wr.alloc (.cells #[iv c.st, iv c.kind, iv c.weak, iv c.last, iv c.born, iv c.color, iv c.to, .slice ap c.prs.length kp] t1)).alloc (.cells #[iv c.st, iv c.kind, iv c.weak, iv c.last, iv c.born, iv c.color, iv c.to, .slice none 0 0] t2)) c ap kp (.slice none 0 0) :=
  ⟨by simp [go_sem], ⟨by simp [go_sem], by simp [go_sem], by simp [go_sem], by simp [go_sem], by simp [go_sem], by simp [go_sem], by simp [go_sem]⟩, by simp [go_sem], fun o => by simp [go_sem], ((Ext.refl wr).alloc _).alloc _⟩
theorem own_cap {w : World} {B : Nat} {t sz : Nat} {a : Option Addr} {n k : Nat} {xs : List Value} (h : w.ownsRow B t sz (.slice a n k) n xs) : n ≤ k := by
  rcases h.2 with ⟨h0, h1⟩ | ⟨g, cap, cur, h0, _, _, hn, _⟩
  · omega
  · simp only [Value.slice.injEq] at h0
    omega
/-- the blocks of the model's heap have one role each -/
structure GSep (x : Hp) (role : Nat → Nat) (g br bc : Nat) (pb : Nat → Nat) (vg : Value) : Prop where
  g : role g = 0
  r : 0 < x.regs.length → role br = 2
  c : 0 < x.cells.length → role bc = 3
  y : ∀ q, vg.ownBlock = some q → role q = 4
  p : ∀ q, q < x.cells.length → 0 < (x.c q).prs.length → role (pb q) = 6 + q
/-- the model's heap behind a pointer, in memory of its own -/
structure GAt (B : Nat) (w : World) (g : Nat) (x : Hp) (ar : Option Addr) (kr : Nat) (ac : Option Addr) (kc : Nat) (vg : Value) (br bc : Nat) (pb : Nat → Nat) (pa : Nat → Option Addr) (pk : Nat → Nat) (role : Nat → Nat) : Prop where
  bx : HBox w g x (.slice ar x.regs.length kr) (.slice ac x.cells.length kc) vg
  nf : Nf1 g w
  lo : B ≤ g
  ha : 0 < x.regs.length → ar = some ⟨br, 0, none⟩
  hc : 0 < x.cells.length → ac = some ⟨bc, 0, none⟩
  rw : Rws B w x br bc pb pa pk
  gr : Grw w B vg x.gray
  sp : GSep x role g br bc pb vg
  kl : x.cells.length ≤ kc
theorem GAt.ext {B : Nat} {w w' : World} {g : Nat} {x : Hp} {ar : Option Addr} {kr : Nat} {ac : Option Addr} {kc : Nat} {vg : Value} {br bc : Nat} {pb : Nat → Nat} {pa : Nat → Option Addr} {pk : Nat → Nat} {role : Nat → Nat} (h : GAt B w g x ar kr ac kc vg br bc pb pa pk role) (e : Ext w w') : GAt B w' g x ar kr ac kc vg br bc pb pa pk role :=
  ⟨h.bx.ext e, h.nf.ext e, h.lo, h.ha, h.hc, h.rw.ext e, h.gr.block (fun q hq => e.block q (h.gr.lt q hq).2), h.sp, h.kl⟩
/-- the rows are whole; the gray ones under way -/
theorem GAt.start {x : Hp} {w3 w6 wr w7 : World} {B : Nat} {ar : Option Addr} {kr : Nat} {ac : Option Addr} {kc : Nat} {vg0 vg : Value} {L : List (Cl × Value)} (h : CS x w3 w6 wr (.slice ar x.regs.length kr) (.slice ac x.cells.length kc) vg0 x.cells.length L) (hr : wr.ownsRow (w3.heap.size + 1) 90 3 (.slice ar x.regs.length kr) x.regs.length (x.regs.flatMap fW)) (hr6 : ∀ q, (Value.slice ar x.regs.length kr).ownBlock = some q → q < w6.heap.size)
    (h0 : 0 < x.regs.length) (hB : B ≤ w3.heap.size) (o7 : Only (fun q => q = w3.heap.size) wr w7) (hb7 : HBox w7 w3.heap.size x (.slice ar x.regs.length kr) (.slice ac x.cells.length kc) vg) (f7 : Nf1 w3.heap.size w7) (hg : w7.ownsRow wr.heap.size 3 1 vg x.gray.length (x.gray.map iv)) :
    ∃ br bc pb pa pk role, GAt B w7 w3.heap.size x ar kr ac kc vg br bc pb pa pk role := by
  have hll : L.length = x.cells.length := h.len (Nat.le_refl _)
  have eL : L.map (·.1) = x.cells := by rw [h.eq, List.take_length]
  have hlt := h.lt
  have hon := h.on.size
  have l1 : ∀ q (hq : q < x.cells.length), (L.getD q (Cl0, .slice none 0 0)) ∈ L ∧ (L.getD q (Cl0, .slice none 0 0)).1 = x.c q ∧ (L.getD q (Cl0, .slice none 0 0)) = L[q]'(by omega) := fun q hq => by
    have e0 : L.getD q (Cl0, .slice none 0 0) = L[q]'(by omega) := by simp [hll, hq]
    refine ⟨by rw [e0]; exact List.getElem_mem _, ?_, e0⟩
    have e : x.cells[q] = (L.map (·.1))[q]'(by simpa [hll] using hq) := by simp [eL]
    rw [← Hp.c_eq x q hq, e, e0]
    simp
  have own8 : 0 < x.cells.length → Nf1 (vblk (.slice ac x.cells.length kc)) wr ∧ w6.heap.size ≤ vblk (.slice ac x.cells.length kc) := fun hn => own_nf h.own hn
  have cell8 : ∀ q, q < x.cells.length → ∀ j, j < 8 → wr.cell? ⟨vblk (.slice ac x.cells.length kc), q * 8 + j, none⟩ = (fC (L.getD q (Cl0, .slice none 0 0)))[j]? := fun q hq j hj => by
    have := own_at (f := fC) (fun _ => rfl) (L := L) (by rw [hll]; exact h.own) q (by omega) j hj
    rw [this, (l1 q hq).2.2]
  have hbr := own_nf hr h0
  have hbr6 : vblk (.slice ar x.regs.length kr) < w6.heap.size := hr6 _ ((own_form hr).2 h0).2
  have prs : ∀ q, q < x.cells.length → wr.ownsRow w6.heap.size 123 6 (L.getD q (Cl0, .slice none 0 0)).2 (x.c q).prs.length ((x.c q).prs.flatMap fP) ∧ ∀ b, (L.getD q (Cl0, .slice none 0 0)).2.ownBlock = some b → (Value.slice ac x.cells.length kc).ownBlock ≠ some b := fun q hq => by
    have := h.prs _ (l1 q hq).1
    rw [(l1 q hq).2.1] at this
    exact this
  have dis : ∀ q q', q < x.cells.length → q' < x.cells.length → q ≠ q' → ∀ b, (L.getD q (Cl0, .slice none 0 0)).2.ownBlock = some b → (L.getD q' (Cl0, .slice none 0 0)).2.ownBlock ≠ some b := fun q q' hq hq' hne b hb => by
    rw [(l1 q hq).2.2] at hb
    rw [(l1 q' hq').2.2]
    exact h.dis q q' (by omega) (by omega) hne b hb
  have RW := Rws.of (B := w3.heap.size + 1) (w := wr) (x := x) (vr := .slice ar x.regs.length kr) (bc := vblk (.slice ac x.cells.length kc)) (pv := fun q => (L.getD q (Cl0, .slice none 0 0)).2) hr (fun q hq => by
      rw [← (l1 q hq).2.1]
      have := cell8 q hq
      exact ⟨this 0 (by omega), this 1 (by omega), this 2 (by omega), this 3 (by omega), this 4 (by omega), this 5 (by omega), this 6 (by omega)⟩) (fun q hq => cell8 q hq 7 (by omega)) (fun hn => ⟨(own8 hn).1, by have := (own8 hn).2; omega⟩) (fun hn => by have := (own8 hn).2; omega) (fun q hq => ⟨own_less (prs q hq).1 (by omega), fun b hb => ⟨by have := ((prs q hq).1.lt b hb).1; omega, fun e => by
        have hn : 0 < x.cells.length := by omega
        exact (prs q hq).2 b hb (by rw [((own_form h.own).2 hn).2, e])⟩⟩) dis
  have RW7 := RW.only o7 (fun hl e => by have := (RW.nr hl).2; omega) (fun hl e => by have := (RW.nc hl).2; omega) (fun q hq hl e => by have := (RW.pl q hq hl).2.2.2; omega)
  refine ⟨_, _, _, _, _, fun q => if q = w3.heap.size then 0 else if wr.heap.size ≤ q then 4 else if q = vblk (.slice ar x.regs.length kr) then 2 else if 0 < x.cells.length ∧ q = vblk (.slice ac x.cells.length kc) then 3 else
    (open Classical in if h : ∃ i, i < x.cells.length ∧ 0 < (x.c i).prs.length ∧ vblk (L.getD i (Cl0, .slice none 0 0)).2 = q then 6 + Classical.choose h else 5), hb7, f7, hB, fun h => ((own_form hr).2 h).1, fun hn => ((own_form h.own).2 hn).1, RW7.less (by omega), Grw.of (own_less hg (by omega)), ⟨if_pos rfl, fun hl => ?_, fun hl => ?_, fun q hq => ?_, fun q hq hl => ?_⟩, own_cap h.own⟩
  · have := (RW.nr hl).2
    have := (RW.nr hl).1.1
    rw [if_neg (by omega), if_neg (by omega), if_pos rfl]
  · have := (RW.nc hl).2
    have := (RW.nc hl).1.1
    rw [if_neg (by omega), if_neg (by omega), if_neg (fun e => RW.d hl e.symm), if_pos ⟨hl, rfl⟩]
  · have := (hg.lt q hq).1
    rw [if_neg (by omega), if_pos (by omega)]
  · have l2 := RW.pl q hq hl
    have := l2.2.2.2
    have := l2.2.1.1
    have hex : ∃ i, i < x.cells.length ∧ 0 < (x.c i).prs.length ∧ vblk (L.getD i (Cl0, .slice none 0 0)).2 = vblk (L.getD q (Cl0, .slice none 0 0)).2 := ⟨q, hq, hl, rfl⟩
    rw [if_neg (by omega), if_neg (by omega), if_neg l2.2.2.1.1, if_neg (fun e => l2.2.2.1.2 e.2), dif_pos hex]
    have sp := Classical.choose_spec hex
    have : Classical.choose hex = q := by
      rcases Nat.decEq (Classical.choose hex) q with h | h
      · exact absurd sp.2.2 (RW.dp _ q sp.1 hq h sp.2.1 hl)
      · exact h
    rw [this]
end Go.Proofs.YtkabcfhemljnbaaGreat

namespace Go.Proofs.YtkabcfhemljnbaaGreat
open Go.RowKit
attribute [local go_sem ↓] Go.wp_at_zero Go.wp_at_succ

set_option maxRecDepth 100000 in
set_option maxHeartbeats 4000000 in
theorem l1copy_any (x : Hp) (w : World) {ar : Option Addr} {kr : Nat} {ac : Option Addr} {kc : Nat} {ag : Option Addr} {kg : Nat} (hR : SlW w (.slice ar x.regs.length kr) x.regs) (hC : SlC w (.slice ac x.cells.length kc) x.cells) (hG : SlI w (.slice ag x.gray.length kg) x.gray) (h0 : 0 < x.regs.length) (n1 : x.regs.length ≤ 100) (n2 : x.cells.length ≤ 8000) (n3 : ∀ q, q < x.cells.length → (x.c q).prs.length ≤ 200) (n4 : x.gray.length ≤ 8000) :
    Calls Tryz.prog 72 #[x.v (.slice ar x.regs.length kr) (.slice ac x.cells.length kc) (.slice ag x.gray.length kg)] w fun e w' => ∃ g, e = .returned (.pointer (some ⟨g, 0, none⟩)) ∧ Hid (∃ ar kr ac kc vg br bc pb pa pk role, GAt w.heap.size w' g x ar kr ac kc vg br bc pb pa pk role) ∧ Ext w w' := by
  have xa := (Ext.refl w).alloc (.cells #[iv x.room, iv x.used, iv x.born, .slice ar x.regs.length kr, .slice ac x.cells.length kc, iv x.phase, iv x.hand, iv x.sub, .slice ag x.gray.length kg, iv x.per, iv x.start, iv x.rounds, iv x.forced] 33)
  obtain ⟨w3, hw3⟩ : ∃ W, W = w.alloc (.cells #[iv x.room, iv x.used, iv x.born, .slice ar x.regs.length kr, .slice ac x.cells.length kc, iv x.phase, iv x.hand, iv x.sub, .slice ag x.gray.length kg, iv x.per, iv x.start, iv x.rounds, iv x.forced] 33) := ⟨_, rfl⟩
  have hs3 : w3.heap.size = w.heap.size + 1 := by rw [hw3]; simp
  have X3 : Ext w w3 := by rw [hw3]; exact xa
  have SR := hide (SlW.ext X3 hR)
  have SC := hide (SlC.ext X3 hC)
  have SG := hide (SlI.ext X3 hG)
  have BH := hide (show HBox w3 w.heap.size x (.slice ar x.regs.length kr) (.slice ac x.cells.length kc) (.slice ag x.gray.length kg) by rw [hw3]; exact HBox.new w x _ _ _ _)
  have G0 := hide (show HBox (w3.alloc (.cells #[iv x.room, iv x.used, iv x.born, .slice none 0 0, .slice ac x.cells.length kc, iv x.phase, iv x.hand, iv x.sub, .slice ag x.gray.length kg, iv x.per, iv x.start, iv x.rounds, iv x.forced] 33)) w3.heap.size x (.slice none 0 0) (.slice ac x.cells.length kc) (.slice ag x.gray.length kg) ∧ (∀ o, (w3.alloc (.cells #[iv x.room, iv x.used, iv x.born, .slice none 0 0, .slice ac x.cells.length kc, iv x.phase, iv x.hand, iv x.sub, .slice ag x.gray.length kg, iv x.per, iv x.start, iv x.rounds, iv x.forced] 33)).frozen? ⟨w3.heap.size, o, none⟩ = false) from ⟨HBox.new w3 x _ _ _ _, fun o => by simp [go_sem]⟩)
  obtain ⟨iw, hiw, hw0, hw1, hw2⟩ := info_parts infoWords
  obtain ⟨iq, hiq, hq0, hq1, hq2⟩ := info_parts infoPairs
  obtain ⟨ic, hic, hc0, hc1, hc2⟩ := info_parts infoCells
  obtain ⟨ii, hii, hi0, hi1, hi2⟩ := info_parts infoInts
  clear hR hC hG xa
  go_enter Tryz.func72, Tryz.ntmps72
  go_wp2_with fail
  rw [← hw3, ← hs3]
  have HS3 := hide hs3
  have hlt3 : w.heap.size < w3.heap.size := by omega
  clear hw3 hs3
  go_loopw [18] (fun i wr => ∃ (k : Nat) (av : Option Addr) (kv : Nat), k ≤ x.regs.length ∧ i = .int .i64 k ∧ Hid (wr.ownsRow (w3.heap.size + 1) 90 3 (.slice av k kv) k ((x.regs.take k).flatMap fW)) ∧ Hid (HBox wr w3.heap.size x (.slice av k kv) (.slice ac x.cells.length kc) (.slice ag x.gray.length kg) ∧ (∀ o, wr.frozen? ⟨w3.heap.size, o, none⟩ = false)) ∧ Hid (Ext w3 wr)) (fun i _ => x.regs.length - (intOf i).toNat)
  case atStart => exact ⟨0, none, 0, Nat.zero_le _, rfl, World.ownsRow_nil _ _ _ _, unhide G0, (Ext.refl w3).alloc _⟩
  case round =>
    clear G0
    obtain ⟨k, av, kv, hk, rfl, hown, hgc, hex⟩ := hrel
    by_cases hlt : k < x.regs.length
    · obtain ⟨b', o, har, p0, p1, p2⟩ : ∃ b' o, ar = some ⟨b', o, none⟩ ∧ WdAt w3 b' (o + k * 3) x.regs[k] := by
        obtain ⟨ad, cap, e, _, hx⟩ := unhide SR
        simp only [Value.slice.injEq] at e
        rw [e.1]; exact hx k hlt
      subst har
      have p0 := (unhide hex).keep p0
      have p1 := (unhide hex).keep p1
      have p2 := (unhide hex).keep p2
      have hb' : b' < wr.heap.size := cell_lt p0
      have g3 := (unhide hgc).1.2.2.2.1
      have f3 := (unhide hgc).2 3
      have hbg : w3.heap.size < wr.heap.size := cell_lt g3
      have hk0 : (0:Int) ≤ (k:Int) := by omega
      have hk1 : (k:Int) < (x.regs.length:Int) := by omega
      have ETK := hide (show x.regs.take (k + 1) = x.regs.take k ++ [x.regs[k]] by rw [List.take_succ_eq_append_getElem hlt])
      obtain ⟨y, ey⟩ : ∃ y, y = x.regs[k] := ⟨_, rfl⟩
      rw [← ey] at p0 p1 p2 ETK
      clear ey
      go_wp2_with (at_builtin; refine wpList_append_lies _ rfl _ _ 30 rfl (w3.heap.size + 1) 90 iw (.agg #[iv 0, iv 0, iv 0]) 3 24 Tryz.underlying30 hiw hw0 hw1 hw2 rfl (by decide) _ k ((x.regs.take k).flatMap fW) rfl (((unhide hown).alloc _).alloc _) _ 1 1 (fW y) rfl rfl ?c1 ?c2 (by decide) ?c3 ?c4 ?c5 _ rfl ?_)
      case c1 =>
        intro j u hj
        match j, hj with
        | 0, hj => simp [fW] at hj; subst hj; simp [go_sem]
        | 1, hj => simp [fW] at hj; subst hj; simp [go_sem]
        | 2, hj => simp [fW] at hj; subst hj; simp [go_sem]
      case c2 => intro u hu; simp [fW] at hu; rcases hu with e | e | e <;> subst e <;> first | rfl
      case c3 => unfold maxLen; omega
      case c4 => omega
      case c5 => simp; omega
      intro gb cap5 w5 hown5 hgrow hat hglt
      have xb := ((Ext.refl wr).alloc (.cells #[iv y.k, iv y.n, iv y.a] 90)).alloc (.cells #[iv y.k, iv y.n, iv y.a] 90)
      have BP := hide (box_push (o := 3) (u := .slice (some ⟨gb, 0, none⟩) (k + 1) cap5) (bg := w3.heap.size) (Nat.lt_succ_self _) ((unhide hex).trans xb) (((unhide hown).alloc _).alloc _) (Nat.le_refl _) (Nat.lt_of_lt_of_le hbg xb.size) hgrow hown5)
      have eb : w5.heap[w3.heap.size]? = wr.heap[w3.heap.size]? := (hgrow.block w3.heap.size (Nat.lt_of_lt_of_le hbg xb.size) (fun e => by have := ((unhide hown).lt _ e.symm).1; omega)).trans (xb.block _ hbg)
      have g5 := (World.cell?_of_block (a := ⟨w3.heap.size, 3, none⟩) eb).trans g3
      have f5 := (World.frozen?_of_block (a := ⟨w3.heap.size, 3, none⟩) eb).trans f3
      have HB := hide (((unhide hgc).1.block eb).set3 (.slice (some ⟨gb, 0, none⟩) (k + 1) cap5))
      have FZ := hide (show ∀ o, (w5.setCell ⟨w3.heap.size, 3, none⟩ (.slice (some ⟨gb, 0, none⟩) (k + 1) cap5)).frozen? ⟨w3.heap.size, o, none⟩ = false from fun o => by rw [World.frozen?_setCell]; exact (World.frozen?_of_block (a := ⟨w3.heap.size, o, none⟩) eb).trans ((unhide hgc).2 o))
      clear hown5 hgrow hat xb eb
      go_wp2_with fail
      go_roundw
      case rel =>
        refine ⟨k + 1, some ⟨gb, 0, none⟩, cap5, hlt, by go_num, ?_, ⟨unhide HB, unhide FZ⟩, (unhide BP).2.1⟩
        rw [unhide ETK, List.flatMap_append]
        refine hide ?_
        simpa using (unhide BP).1
      case measure => simp [intOf]; omega
    · have hk2 : k = x.regs.length := by omega
      subst hk2
      have OW := hide (show wr.ownsRow (w3.heap.size + 1) 90 3 (.slice av x.regs.length kv) x.regs.length (x.regs.flatMap fW) by have := unhide hown; rw [List.take_length] at this; exact this)
      obtain ⟨w6, hw6⟩ : ∃ W, W = wr := ⟨_, rfl⟩
      subst hw6
      have g4 := (unhide hgc).1.2.2.2.2.1
      have f4 := (unhide hgc).2 4
      have hbg : w3.heap.size < w6.heap.size := cell_lt g4
      have b4 := (unhide hex).keep (unhide BH).2.2.2.2.1
      have hne1 : ¬ w3.heap.size = w.heap.size := by omega
      have hne2 : ¬ w.heap.size = w3.heap.size := by omega
      have C0 := hide (show CS x w3 w6 (w6.setCell ⟨w3.heap.size, 4, none⟩ (.slice none 0 0)) (.slice av x.regs.length kv) (.slice none 0 0) (.slice ag x.gray.length kg) 0 [] from
        ⟨World.ownsRow_nil _ _ _ _, by simp, fun z hz => by simp at hz, fun i j hi => by simp at hi, (unhide hgc).1.set4 _, fun o => by rw [World.frozen?_setCell]; exact (unhide hgc).2 o, Only.setCell (S := fun q => q = w3.heap.size) (Only.refl _ w6) (p := ⟨w3.heap.size, 4, none⟩) rfl _, (unhide hex).setCell (Nat.le_refl _) _, hbg⟩)
      have X6 := hide (unhide hex)
      have V6 := hide (fun q e => ((unhide OW).lt q e).2)
      clear hown hgc hex hlt hk
      go_wp2_with fail
      clear g4 f4 b4
      go_loopw [33] (fun i wr => ∃ (k : Nat) (avc : Option Addr) (kvc : Nat) (L : List (Cl × Value)), k ≤ x.cells.length ∧ i = .int .i64 k ∧ Hid (CS x w3 w6 wr (.slice av x.regs.length kv) (.slice avc k kvc) (.slice ag x.gray.length kg) k L)) (fun i _ => x.cells.length - (intOf i).toNat)
      case atStart => exact ⟨0, none, 0, [], Nat.zero_le _, rfl, unhide C0⟩
      case round =>
        clear C0
        obtain ⟨wn, hwn⟩ : ∃ W, W = wr := ⟨_, rfl⟩
        subst hwn
        obtain ⟨k, avc, kvc, L, hk, rfl, hcs⟩ := hrel
        by_cases hlt : k < x.cells.length
        · obtain ⟨bc, oc, hac, hbc3, vp0, p0, p1, p2, p3, p4, p5, p6, p7, hP⟩ : ∃ bc oc, ac = some ⟨bc, oc, none⟩ ∧ bc < w3.heap.size ∧ ClAt w3 bc (oc + k * 8) (x.c k) := by
            obtain ⟨ad, cap, e, _, hx⟩ := unhide SC
            obtain ⟨b2, o2, e2, q⟩ := hx k hlt
            rw [Hp.c_eq x k hlt] at q
            simp only [Value.slice.injEq] at e
            exact ⟨b2, o2, e.1.trans e2, let ⟨_, p0, _⟩ := q; cell_lt p0, q⟩
          subst hac
          obtain ⟨ap, kp, rfl, _, hPx⟩ := hP
          have CP := hide hPx
          have X := (unhide hcs).ex
          have p0 := X.keep p0
          have p1 := X.keep p1
          have p2 := X.keep p2
          have p3 := X.keep p3
          have p4 := X.keep p4
          have p5 := X.keep p5
          have p6 := X.keep p6
          have p7 := X.keep p7
          have hl200 := n3 k hlt
          have hk0 : (0:Int) ≤ (k:Int) := by omega
          have hk1 : (k:Int) < (x.cells.length:Int) := by omega
          have hbc : bc < wn.heap.size := cell_lt p0
          clear hPx X
          go_wp2_with fail
          have B0 := hide (CB.start wn (x.c k) ap kp 86 86)
          have hsz2 : ((wn.alloc (.cells #[iv (x.c k).st, iv (x.c k).kind, iv (x.c k).weak, iv (x.c k).last, iv (x.c k).born, iv (x.c k).color, iv (x.c k).to, .slice ap (x.c k).prs.length kp] 86)).alloc (.cells #[iv (x.c k).st, iv (x.c k).kind, iv (x.c k).weak, iv (x.c k).last, iv (x.c k).born, iv (x.c k).color, iv (x.c k).to, .slice none 0 0] 86)).heap.size = wn.heap.size + 2 := by simp
          have HZ2 := hide hsz2
          clear p0 p1 p2 p3 p4 p5 p6 p7 hsz2
          go_loopw [42] (fun i wr => ∃ (p : Nat) (avp : Option Addr) (kvp : Nat), p ≤ (x.c k).prs.length ∧ i = .int .i64 p ∧ Hid (wr.ownsRow (wn.heap.size + 2) 123 6 (.slice avp p kvp) p (((x.c k).prs.take p).flatMap fP)) ∧ Hid (CB wn wr (x.c k) ap kp (.slice avp p kvp)) ∧ wn.heap.size + 2 ≤ wr.heap.size) (fun i _ => (x.c k).prs.length - (intOf i).toNat)
          case atStart => exact ⟨0, none, 0, Nat.zero_le _, rfl, World.ownsRow_nil _ _ _ _, unhide B0, by rw [unhide HZ2]; exact Nat.le_refl _⟩
          case round =>
            clear B0
            obtain ⟨p, avp, kvp, hp, rfl, hown, hcb, hsz⟩ := hrel
            by_cases hpt : p < (x.c k).prs.length
            · obtain ⟨bp, op, hap, q0, q1, q2, q3, q4, q5⟩ := unhide CP p hpt
              subst hap
              have XX := (unhide hcs).ex.trans (unhide hcb).ex
              have q0 := XX.keep q0
              have q1 := XX.keep q1
              have q2 := XX.keep q2
              have q3 := XX.keep q3
              have q4 := XX.keep q4
              have q5 := XX.keep q5
              have ETP := hide (show (x.c k).prs.take (p + 1) = (x.c k).prs.take p ++ [(x.c k).prs[p]] by rw [List.take_succ_eq_append_getElem hpt])
              obtain ⟨y, ey⟩ : ∃ y, y = (x.c k).prs[p] := ⟨_, rfl⟩
              rw [← ey] at q0 q1 q2 q3 q4 q5 ETP
              clear ey XX
              have hp0 : (0:Int) ≤ (p:Int) := by omega
              have hp1 : (p:Int) < ((x.c k).prs.length:Int) := by omega
              have hbp : bp < wr.heap.size := cell_lt q0
              have n7 := (unhide hcb).n7
              have f7 := (unhide hcb).f 7
              have hbn : wn.heap.size + 1 < wr.heap.size := cell_lt n7
              go_wp2_with (at_builtin; refine wpList_append_lies _ rfl _ _ 84 rfl (wn.heap.size + 2) 123 iq (.agg #[iv 0, iv 0, iv 0, iv 0, iv 0, iv 0]) 6 48 Tryz.underlying84 hiq hq0 hq1 hq2 rfl (by decide) _ p (((x.c k).prs.take p).flatMap fP) rfl (((unhide hown).alloc _).alloc _) _ 1 1 (fP y) rfl rfl ?c1 ?c2 (by decide) ?c3 ?c4 ?c5 _ rfl ?_)
              case c1 =>
                intro j u hj
                match j, hj with
                | 0, hj => simp [fP] at hj; subst hj; simp [go_sem]
                | 1, hj => simp [fP] at hj; subst hj; simp [go_sem]
                | 2, hj => simp [fP] at hj; subst hj; simp [go_sem]
                | 3, hj => simp [fP] at hj; subst hj; simp [go_sem]
                | 4, hj => simp [fP] at hj; subst hj; simp [go_sem]
                | 5, hj => simp [fP] at hj; subst hj; simp [go_sem]
              case c2 => intro u hu; simp [fP] at hu; rcases hu with e | e | e | e | e | e <;> subst e <;> first | rfl
              case c3 => unfold maxLen; omega
              case c4 => omega
              case c5 => simp; omega
              intro gb cap5 w5 hown5 hgrow hat hglt
              have xb := ((Ext.refl wr).alloc (.cells #[iv y.key.k, iv y.key.n, iv y.key.a, iv y.val.k, iv y.val.n, iv y.val.a] 123)).alloc (.cells #[iv y.key.k, iv y.key.n, iv y.key.a, iv y.val.k, iv y.val.n, iv y.val.a] 123)
              have BP := hide (CB.push ((unhide hcb).ext xb) (((unhide hown).alloc _).alloc _) (by omega) hgrow hown5)
              have eb : w5.heap[wn.heap.size + 1]? = wr.heap[wn.heap.size + 1]? := (hgrow.block (wn.heap.size + 1) (Nat.lt_of_lt_of_le hbn xb.size) (fun e => by have := ((unhide hown).lt _ e.symm).1; omega)).trans (xb.block _ hbn)
              have g5 := (World.cell?_of_block (a := ⟨wn.heap.size + 1, 7, none⟩) eb).trans n7
              have f5 := (World.frozen?_of_block (a := ⟨wn.heap.size + 1, 7, none⟩) eb).trans f7
              have hsz9 : wn.heap.size + 2 ≤ (w5.setCell ⟨wn.heap.size + 1, 7, none⟩ (.slice (some ⟨gb, 0, none⟩) (p + 1) cap5)).heap.size := by have h1 := hgrow.size; simp at h1; simp only [World.setCell, Array.size_modify]; omega
              clear hown5 hgrow hat xb eb
              go_wp2_with fail
              go_roundw
              case rel =>
                refine ⟨p + 1, some ⟨gb, 0, none⟩, cap5, hpt, by go_num, ?_, (unhide BP).2, hsz9⟩
                rw [unhide ETP, List.flatMap_append]
                refine hide ?_
                simpa using (unhide BP).1
              case measure => simp [intOf]; omega
            · have hp2 : p = (x.c k).prs.length := by omega
              subst hp2
              have CS1 := hide ((unhide hcs).ext (unhide hcb).ex)
              have c4 := (unhide CS1).bx.2.2.2.2.1
              have cf := (unhide CS1).fz 4
              obtain ⟨s0, s1, s2, s3, s4, s5, s6⟩ := (unhide hcb).n
              simp only [Nat.zero_add] at s1 s2 s3 s4 s5 s6
              have s7 := (unhide hcb).n7
              have hbn : wn.heap.size + 1 < wr.heap.size := cell_lt s7
              have hbg2 : w3.heap.size < wr.heap.size := cell_lt c4
              have HP := hide (show wr.ownsRow (wn.heap.size + 2) 123 6 (x.c k, Value.slice avp (x.c k).prs.length kvp).2 (x.c k, Value.slice avp (x.c k).prs.length kvp).1.prs.length ((x.c k, Value.slice avp (x.c k).prs.length kvp).1.prs.flatMap fP) by
                have := unhide hown
                rw [List.take_length] at this
                exact this)
              have ZN := hide (show (x.c k, Value.slice avp (x.c k).prs.length kvp).1 = x.cells[k] from (Hp.c_eq x k hlt).symm)
              have h67 : w6.heap.size ≤ wn.heap.size + 2 := by have := (unhide hcs).on.size; omega
              have h6r : w6.heap.size ≤ wr.heap.size := by omega
              have hvn := hide (show ∀ q, (Value.slice avc k kvc).ownBlock = some q → q < wn.heap.size + 2 from fun q e => by have := ((unhide hcs).own.lt q e).2; omega)
              have hvp := hide (show ∀ y, y ∈ L → ∀ q, y.2.ownBlock = some q → q < wn.heap.size + 2 from fun y hy q e => by have := (((unhide hcs).prs y hy).1.lt q e).2; omega)
              have nq : ¬ wn.heap.size + 1 = w3.heap.size := by have := (unhide hcs).on.size; omega
              have nq2 : ¬ w3.heap.size = wn.heap.size + 1 := by have := (unhide hcs).on.size; omega
              clear hpt hp
              go_wp2_with (at_builtin; refine wpList_append_lies _ rfl _ _ 31 rfl w6.heap.size 86 ic (.agg #[iv 0, iv 0, iv 0, iv 0, iv 0, iv 0, iv 0, .slice none 0 0]) 8 80 Tryz.underlying31 hic hc0 hc1 hc2 rfl (by decide) _ k (L.flatMap fC) rfl ((unhide CS1).own.alloc _) _ 1 1 (fC (x.c k, Value.slice avp (x.c k).prs.length kvp)) rfl rfl ?c1 ?c2 (by decide) ?c3 ?c4 ?c5 _ rfl ?_)
              case c1 =>
                intro j u hj
                match j, hj with
                | 0, hj => simp [fC] at hj; subst hj; simp [go_sem]
                | 1, hj => simp [fC] at hj; subst hj; simp [go_sem]
                | 2, hj => simp [fC] at hj; subst hj; simp [go_sem]
                | 3, hj => simp [fC] at hj; subst hj; simp [go_sem]
                | 4, hj => simp [fC] at hj; subst hj; simp [go_sem]
                | 5, hj => simp [fC] at hj; subst hj; simp [go_sem]
                | 6, hj => simp [fC] at hj; subst hj; simp [go_sem]
                | 7, hj => simp [fC] at hj; subst hj; simp [go_sem]
              case c2 => intro u hu; simp [fC] at hu; rcases hu with e | e | e | e | e | e | e | e <;> subst e <;> first | rfl
              case c3 => unfold maxLen; omega
              case c4 => omega
              case c5 => first | exact h6r | omega | (simp; omega)
              intro gb cap5 w5 hown5 hgrow hat hglt
              have xb := (Ext.refl wr).alloc (.cells #[iv (x.c k).st, iv (x.c k).kind, iv (x.c k).weak, iv (x.c k).last, iv (x.c k).born, iv (x.c k).color, iv (x.c k).to, .slice avp (x.c k).prs.length kvp] 86)
              have PU := hide (CS.push (g := gb) ((unhide CS1).ext xb) hlt (unhide ZN) hgrow hown5 rfl (by simpa using hat) (ownsRow_of_block (unhide HP) (fun q hq => xb.block q ((unhide HP).lt q hq).2)) h67 (unhide hvn) (unhide hvp))
              have eb : w5.heap[w3.heap.size]? = wr.heap[w3.heap.size]? := (hgrow.block w3.heap.size (Nat.lt_of_lt_of_le hbg2 xb.size) (fun e => by have := ((unhide CS1).own.lt _ e.symm).1; have := (unhide CS1).lt; omega)).trans (xb.block _ hbg2)
              have d4 := (World.cell?_of_block (a := ⟨w3.heap.size, 4, none⟩) eb).trans c4
              have df := (World.frozen?_of_block (a := ⟨w3.heap.size, 4, none⟩) eb).trans cf
              clear hown5 hgrow hat xb eb
              go_wp2_with fail
              go_roundw
              case rel => exact ⟨k + 1, some ⟨gb, 0, none⟩, cap5, _, hlt, by go_num, unhide PU⟩
              case measure => simp [intOf]; omega
        · have hk2 : k = x.cells.length := by omega
          subst hk2
          have CSE := hide (unhide hcs)
          have OWn := hide (show wn.ownsRow (w3.heap.size + 1) 90 3 (.slice av x.regs.length kv) x.regs.length (x.regs.flatMap fW) from ownsRow_of_block (unhide OW) (fun q hq => (unhide CSE).on.block q ((unhide OW).lt q hq).2 (by have := ((unhide OW).lt q hq).1; omega)))
          have g8 := (unhide CSE).bx.2.2.2.2.2.2.2.2.1
          have f8 := (unhide CSE).fz 8
          have hbgn : w3.heap.size < wn.heap.size := cell_lt g8
          have b8 := (unhide CSE).ex.keep (unhide BH).2.2.2.2.2.2.2.2.1
          have Q0 := hide (show HBox (wn.setCell ⟨w3.heap.size, 8, none⟩ (.slice none 0 0)) w3.heap.size x (.slice av x.regs.length kv) (.slice avc x.cells.length kvc) (.slice none 0 0) ∧ Nf1 w3.heap.size (wn.setCell ⟨w3.heap.size, 8, none⟩ (.slice none 0 0)) ∧ Only (fun q => q = w3.heap.size) wn (wn.setCell ⟨w3.heap.size, 8, none⟩ (.slice none 0 0)) from ⟨(unhide CSE).bx.set8 _, Nf1.set ⟨hbgn, (unhide CSE).fz⟩ _ _, Only.setCell (S := fun q => q = w3.heap.size) (Only.refl _ wn) (p := ⟨w3.heap.size, 8, none⟩) rfl _⟩)
          clear hcs hk hlt
          go_wp2_with fail
          clear g8 f8 b8
          go_loopw [64] (fun i wr => ∃ (k : Nat) (avg : Option Addr) (kvg : Nat), k ≤ x.gray.length ∧ i = .int .i64 k ∧ Hid (wr.ownsRow wn.heap.size 3 1 (.slice avg k kvg) k ((x.gray.take k).map iv)) ∧ Hid (HBox wr w3.heap.size x (.slice av x.regs.length kv) (.slice avc x.cells.length kvc) (.slice avg k kvg) ∧ Nf1 w3.heap.size wr ∧ Only (fun q => q = w3.heap.size) wn wr)) (fun i _ => x.gray.length - (intOf i).toNat)
          case atStart => exact ⟨0, none, 0, Nat.zero_le _, rfl, World.ownsRow_nil _ _ _ _, unhide Q0⟩
          case round =>
            clear Q0
            obtain ⟨k, avg, kvg, hk, rfl, hown, hbx⟩ := hrel
            have XR : Ext w3 wr := (unhide hbx).2.2.ext (unhide CSE).ex (fun q hq e => by omega)
            by_cases hlt : k < x.gray.length
            · obtain ⟨bg, og, hag, p0⟩ : ∃ bg og, ag = some ⟨bg, og, none⟩ ∧ InAt w3 bg (og + k * 1) x.gray[k] := by
                obtain ⟨ad, cap, e, _, hx⟩ := unhide SG
                simp only [Value.slice.injEq] at e
                rw [e.1]; exact hx k hlt
              subst hag
              have p0 := XR.keep p0
              rw [Nat.mul_one] at p0
              have g8 := (unhide hbx).1.2.2.2.2.2.2.2.2.1
              have f8 := (unhide hbx).2.1.2 8
              have hbg2 : w3.heap.size < wr.heap.size := cell_lt g8
              have hwn := (unhide hbx).2.2.size
              have hk0 : (0:Int) ≤ (k:Int) := by omega
              have hk1 : (k:Int) < (x.gray.length:Int) := by omega
              have ETK := hide (show x.gray.take (k + 1) = x.gray.take k ++ [x.gray[k]] by rw [List.take_succ_eq_append_getElem hlt])
              obtain ⟨y, ey⟩ : ∃ y, y = x.gray[k] := ⟨_, rfl⟩
              rw [← ey] at p0 ETK
              clear ey
              go_wp2_with (at_builtin; refine wpList_append_lies _ rfl _ _ 24 rfl wn.heap.size 3 ii (iv 0) 1 8 Tryz.underlying24 hii hi0 hi1 hi2 rfl (by decide) _ k ((x.gray.take k).map iv) rfl ((unhide hown).alloc _) _ 1 1 [iv y] rfl rfl ?c1 ?c2 (by decide) ?c3 ?c4 ?c5 _ rfl ?_)
              case c1 =>
                intro j u hj
                match j, hj with
                | 0, hj => simp at hj; subst hj; simp [go_sem]
              case c2 => intro u hu; simp at hu; subst hu; rfl
              case c3 => unfold maxLen; omega
              case c4 => omega
              case c5 => simp; omega
              intro gb cap5 w5 hown5 hgrow hat hglt
              have xb := (Ext.refl wr).alloc (.cells #[iv y] 3)
              have eb : w5.heap[w3.heap.size]? = wr.heap[w3.heap.size]? := (hgrow.block w3.heap.size (Nat.lt_of_lt_of_le hbg2 xb.size) (fun e => by have := ((unhide hown).lt _ e.symm).1; omega)).trans (xb.block _ hbg2)
              have g5 := (World.cell?_of_block (a := ⟨w3.heap.size, 8, none⟩) eb).trans g8
              have f5 := (World.frozen?_of_block (a := ⟨w3.heap.size, 8, none⟩) eb).trans f8
              have OW5 := hide (ownsRow_of_block (w' := w5.setCell ⟨w3.heap.size, 8, none⟩ (.slice (some ⟨gb, 0, none⟩) (k + 1) cap5)) hown5 (fun q hq => Below.heap_setCell _ _ _ _ (fun e => by have h1 := (hown5.lt q hq).1; have e : q = w3.heap.size := e; omega)))
              have HB := hide (show HBox (w5.setCell ⟨w3.heap.size, 8, none⟩ (.slice (some ⟨gb, 0, none⟩) (k + 1) cap5)) w3.heap.size x (.slice av x.regs.length kv) (.slice avc x.cells.length kvc) (.slice (some ⟨gb, 0, none⟩) (k + 1) cap5) ∧ Nf1 w3.heap.size (w5.setCell ⟨w3.heap.size, 8, none⟩ (.slice (some ⟨gb, 0, none⟩) (k + 1) cap5)) ∧ Only (fun q => q = w3.heap.size) wn (w5.setCell ⟨w3.heap.size, 8, none⟩ (.slice (some ⟨gb, 0, none⟩) (k + 1) cap5)) from
                ⟨((unhide hbx).1.block eb).set8 _, (nf1_block (unhide hbx).2.1 eb (Nat.le_trans xb.size hgrow.size)).set _ _, by
                  have on := (unhide hbx).2.2
                  refine Only.setCell (S := fun q => q = w3.heap.size) ?_ (p := ⟨w3.heap.size, 8, none⟩) rfl _
                  refine ⟨hgrow.os.trans on.os, hgrow.tape.trans on.tape, hgrow.output.trans on.output, Nat.le_trans on.size (Nat.le_trans xb.size hgrow.size), fun q hq hne => ?_⟩
                  have hq2 : q < wr.heap.size := Nat.lt_of_lt_of_le hq on.size
                  exact ((hgrow.block q (Nat.lt_of_lt_of_le hq2 xb.size) (fun e => by have := ((unhide hown).lt q e.symm).1; omega)).trans (xb.block q hq2)).trans (on.block q hq hne)⟩)
              clear hown5 hgrow hat xb eb
              go_wp2_with fail
              go_roundw
              case rel =>
                refine ⟨k + 1, some ⟨gb, 0, none⟩, cap5, hlt, by go_num, ?_, unhide HB⟩
                rw [unhide ETK, List.map_append]
                refine hide ?_
                simpa using unhide OW5
              case measure => simp [intOf]; omega
            · have hk2 : k = x.gray.length := by omega
              subst hk2
              have FIN := hide (show ∃ ar kr ac kc vg br bc pb pa pk role, GAt w.heap.size wr w3.heap.size x ar kr ac kc vg br bc pb pa pk role from by
                obtain ⟨br, bc, pb, pa, pk, role, h⟩ := GAt.start (B := w.heap.size) (unhide CSE) (unhide OWn) (unhide V6) h0 (by omega) (unhide hbx).2.2 (unhide hbx).1 (unhide hbx).2.1 (by have := unhide hown; rw [List.take_length] at this; exact this)
                exact ⟨_, _, _, _, _, br, bc, pb, pa, pk, role, h⟩)
              clear hown hbx
              go_wp2_with fail
              go_ret
              exact ⟨_, rfl, unhide FIN, X3.trans XR⟩
end Go.Proofs.YtkabcfhemljnbaaGreat
