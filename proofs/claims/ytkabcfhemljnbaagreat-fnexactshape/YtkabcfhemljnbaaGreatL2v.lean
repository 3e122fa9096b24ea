import Derived.Test.YtkabcfhemljnbaaGreatNb6
import Derived.Test.YtkabcfhemljnbaaGreatL2h
import Derived.Test.YtkabcfhemljnbaaGreatEq
import Derived.Test.YtkabcfhemljnbaaGreatBo2
import Derived.Deep.RegionLaw
import Derived.Test.YtkabcfhemljnbaaGreatL2e
import Derived.Deep.AppendLies
namespace Go.Proofs.YtkabcfhemljnbaaGreat
open Go.RowKit
attribute [local go_sem ↓] Go.wp_at_zero Go.wp_at_succ

/-- the model's table of places -/
def WhAt (w : World) (B n : Nat) (O : List Nat) : Prop := (∀ i, i < n → ∃ v, w.cell? ⟨B, i, none⟩ = some (iv v) ∧ (i ∈ O → v = ((O.idxOf i : Nat) : Int))) ∧ B < w.heap.size
theorem WhAt.ext {w w' : World} {B n : Nat} {O : List Nat} (h : WhAt w B n O) (e : Ext w w') : WhAt w' B n O := ⟨fun i hi => let ⟨v, a, b⟩ := h.1 i hi; ⟨v, e.keep a, b⟩, Nat.lt_of_lt_of_le h.2 e.size⟩

set_option maxRecDepth 100000 in
set_option maxHeartbeats 2000000 in
theorem l2named_any (x : Hp) (y : Wd) (b B : Nat) (O : List Nat) (w : World) {ar : Option Addr} {kr : Nat} {ac : Option Addr} {kc : Nat} {ag : Option Addr} {kg : Nat} (h : HAt w b x ar kr ac kc ag kg) (hw : WhAt w B x.cells.length O) (hy : MayMark x y) (ho : y.k = 2 → tgt x y ∈ O) :
    Calls Tryz.prog 114 #[.pointer (some ⟨b, 0, none⟩), .slice (some ⟨B, 0, none⟩) x.cells.length x.cells.length, y.v] w fun e w' => e = .returned (nw x O y).v ∧ Ext w w' := by
  obtain ⟨z, ez⟩ : ∃ z, z = nw x O y := ⟨_, rfl⟩
  rw [← ez]
  have EZ := hide ez
  clear ez
  have x1 := ((Ext.refl w).alloc (.cells #[iv y.k, iv y.n, iv y.a] 90)).alloc (.cells #[iv 0, iv 0, iv 0] 90)
  have HH := hide h
  have HW := hide hw
  have MY := hide hy
  clear h hw hy
  go_enter Tryz.func114, Tryz.ntmps114
  go_wp2_with fail
  refine (l1resolve_may x y b _ ((unhide HH).ext x1) (unhide MY)).mono ?_
  rintro e w1 ⟨t, rfl, ht, hq⟩
  have x2 := x1.trans hq
  have r0 := hq.keep (b := w.heap.size + 1) (o := 0) (v := iv 0) (by simp [go_sem])
  have r1 := hq.keep (b := w.heap.size + 1) (o := 1) (v := iv 0) (by simp [go_sem])
  have r2 := hq.keep (b := w.heap.size + 1) (o := 2) (v := iv 0) (by simp [go_sem])
  have hf1 := (bcell hq).2
  have z1 : w.heap.size + 1 < w1.heap.size := cell_lt r0
  have hbB : B < w1.heap.size := Nat.lt_of_lt_of_le (unhide HW).2 x2.size
  clear hq
  rcases unhide ht with ⟨hk, rfl⟩ | ⟨hk, rfl⟩
  · have e2 : z = t := by rw [unhide EZ]; unfold nw; rw [if_neg hk]
    subst e2
    have hkb : (z.k == 2) = false := by simpa using hk
    clear ht
    go_wp2_with fail
    refine bodyPost_ret (v := z.v) (by simp [results, Tryz.results114, go_sem, r0, r1, r2, z1]) rfl ⟨rfl, ?_⟩
    repeat (first | exact x2 | (with_reducible refine Ext.alloc ?_ _) | refine Ext.setCell ?_ (by show w.heap.size ≤ w.heap.size + 1; omega) _)
  · have e2 : z = ⟨2, 0, ((O.idxOf (tgt x y) : Nat) : Int)⟩ := by rw [unhide EZ]; unfold nw; rw [if_pos hk]
    subst e2
    have htl : tgt x y < x.cells.length := ((unhide MY) hk).2.2.2.2.1
    obtain ⟨v, cv, ev⟩ := (unhide HW).1 _ htl
    have cv := x2.keep cv
    obtain ⟨q, hqq⟩ : ∃ q, q = tgt x y := ⟨_, rfl⟩
    rw [← hqq] at cv htl
    rw [← hqq]
    have q0 : (0:Int) ≤ (q:Int) := by omega
    have q1 : (q:Int) < (x.cells.length:Int) := by omega
    have EV := hide (show v = ((O.idxOf q : Nat) : Int) by rw [hqq]; exact ev (ho hk))
    have HQ := hide hqq
    clear ev hqq ht hk
    go_wp2_with fail
    refine bodyPost_ret (v := .agg #[iv 2, iv 0, iv v]) (by simp [results, Tryz.results114, go_sem, r0, r1, r2, z1]) rfl ⟨by rw [unhide EV, unhide HQ], ?_⟩
    repeat (first | exact x2 | (with_reducible refine Ext.alloc ?_ _) | refine Ext.setCell ?_ (by show w.heap.size ≤ w.heap.size + 1; omega) _)
end Go.Proofs.YtkabcfhemljnbaaGreat

namespace Go.Proofs.YtkabcfhemljnbaaGreat
open Go.RowKit
attribute [local go_sem ↓] Go.wp_at_zero Go.wp_at_succ

abbrev Nd.v (x : Nd) (vp : Value) : Value := .agg #[iv x.kind, iv x.weak, iv x.last, iv x.rank, vp]
def NdAt (w : World) (b o : Nat) (x : Nd) : Prop := ∃ vp, w.cell? ⟨b, o, none⟩ = some (iv x.kind) ∧ w.cell? ⟨b, o + 1, none⟩ = some (iv x.weak) ∧ w.cell? ⟨b, o + 2, none⟩ = some (iv x.last) ∧ w.cell? ⟨b, o + 3, none⟩ = some (iv x.rank) ∧ w.cell? ⟨b, o + 4, none⟩ = some vp ∧ SlP w vp x.prs
abbrev SlN (w : World) (v : Value) (xs : List Nd) : Prop := SlOf (NdAt w) 5 v xs
theorem NdAt.ext {w w' : World} (h : Ext w w') {b o : Nat} {x : Nd} (hx : NdAt w b o x) : NdAt w' b o x := by
  obtain ⟨vp, h0, h1, h2, h3, h4, h5⟩ := hx
  exact ⟨vp, h.keep h0, h.keep h1, h.keep h2, h.keep h3, h.keep h4, SlP.ext h h5⟩
theorem SlN.ext {w w' : World} (h : Ext w w') {v : Value} {xs : List Nd} (hx : SlN w v xs) : SlN w' v xs := hx.mono fun _ _ _ k => k.ext h

theorem eqNode_same (x : Nd) (vp vp2 : Value) (w : World) (h : SlP w vp x.prs) (h' : SlP w vp2 x.prs) : Calls Tryz.prog 118 #[x.v vp, x.v vp2] w fun e w' => e = .returned (.bool true) ∧ Ext w w' := by
  go_enter Tryz.func118, Tryz.ntmps118
  go_wp2_with fail
  refine (eqPairS_same x.prs _ _ _ (SlP.ext (((Ext.refl w).alloc _).alloc _) h) (SlP.ext (((Ext.refl w).alloc _).alloc _) h')).mono ?_
  rintro e w1 ⟨rfl, hq1⟩
  go_wp2_with fail
  go_ret
  exact ⟨rfl, Ext.trans (((Ext.refl w).alloc _).alloc _) hq1⟩

set_option maxHeartbeats 1000000 in
theorem eqNodeS_same (xs : List Nd) (v v' : Value) (w : World) (h : SlN w v xs) (h' : SlN w v' xs) :
    Calls Tryz.prog 68 #[v, v'] w fun e w' => e = .returned (.bool true) ∧ Ext w w' := by
  obtain ⟨ad, cap, rfl, hl, hx⟩ := h
  obtain ⟨ad', cap', rfl, _, hx'⟩ := h'
  go_enter Tryz.func68, Tryz.ntmps68
  go_wp2
  go_loopw [5] (fun i wr => ∃ k : Nat, k ≤ xs.length ∧ i = .int .i64 k ∧ Ext w wr) (fun i _ => xs.length - (intOf i).toNat)
  case atStart => exact ⟨0, Nat.zero_le _, rfl, Ext.refl _⟩
  case round =>
    obtain ⟨k, hk, rfl, hbl⟩ := hrel
    by_cases hlt : k < xs.length
    · obtain ⟨b, o, rfl, vp, p0, p1, p2, p3, p4, hP⟩ := hx k hlt
      obtain ⟨b', o', rfl, vp2, q0, q1, q2, q3, q4, hP2⟩ := hx' k hlt
      have e0 := hbl.keep p0
      have e1 := hbl.keep p1
      have e2 := hbl.keep p2
      have e3 := hbl.keep p3
      have e4 := hbl.keep p4
      have f0 := hbl.keep q0
      have f1 := hbl.keep q1
      have f2 := hbl.keep q2
      have f3 := hbl.keep q3
      have f4 := hbl.keep q4
      have hP := SlP.ext hbl hP
      have hP2 := SlP.ext hbl hP2
      have hbr : b < wr.heap.size := cell_lt e0
      have hbr' : b' < wr.heap.size := cell_lt f0
      clear p0 p1 p2 p3 p4 q0 q1 q2 q3 q4
      have hk0 : (0:Int) ≤ (k:Int) := by omega
      have hk1 : (k:Int) < (xs.length:Int) := by omega
      go_wp2
      go_region_held3 (fun w' => w'.cell? ⟨b, o + k * 5, none⟩ = some (iv xs[k].kind) ∧ w'.cell? ⟨b, o + k * 5 + 1, none⟩ = some (iv xs[k].weak) ∧ w'.cell? ⟨b, o + k * 5 + 2, none⟩ = some (iv xs[k].last) ∧ w'.cell? ⟨b, o + k * 5 + 3, none⟩ = some (iv xs[k].rank) ∧ w'.cell? ⟨b, o + k * 5 + 4, none⟩ = some vp ∧ w'.cell? ⟨b', o' + k * 5, none⟩ = some (iv xs[k].kind) ∧ w'.cell? ⟨b', o' + k * 5 + 1, none⟩ = some (iv xs[k].weak) ∧ w'.cell? ⟨b', o' + k * 5 + 2, none⟩ = some (iv xs[k].last) ∧ w'.cell? ⟨b', o' + k * 5 + 3, none⟩ = some (iv xs[k].rank) ∧ w'.cell? ⟨b', o' + k * 5 + 4, none⟩ = some vp2) (go_keep)
        (first | (go_at_call 118; refine (eqNode_same xs[k] vp vp2 _ (by exact SlP.ext (Ext.drew (Ext.refl _)) hP) (by exact SlP.ext (Ext.drew (Ext.refl _)) hP2)).mono ?_; rintro e w1 ⟨rfl, hq1⟩; have hc1 := (bcell hq1).1; simp only [World.size_drew] at hc1))
      go_wp2
      go_roundw
      case rel => exact ⟨k + 1, by omega, by go_num, hbl.trans (Ext.trans (Ext.drew (Ext.refl _)) hq1)⟩
      case measure => simp [intOf]; omega
    · go_wp2
      go_ret
      exact ⟨rfl, hbl⟩
set_option maxRecDepth 100000 in
theorem eqGraph_same (xs : List Wd) (ns : List Nd) (vr vn vr2 vn2 : Value) (w : World) (h1 : SlW w vr xs) (h2 : SlW w vr2 xs) (h3 : SlN w vn ns) (h4 : SlN w vn2 ns) :
    Calls Tryz.prog 29 #[.agg #[vr, vn], .agg #[vr2, vn2]] w fun e w' => e = .returned (.bool true) ∧ Ext w w' := by
  go_enter Tryz.func29, Tryz.ntmps29
  go_wp2_with fail
  refine (eqWordS_same xs _ _ _ (SlW.ext (((Ext.refl w).alloc _).alloc _) h1) (SlW.ext (((Ext.refl w).alloc _).alloc _) h2)).mono ?_
  rintro e w1 ⟨rfl, hq1⟩
  have hc1 := (bcell hq1).1
  have x1 : Ext w w1 := Ext.trans (((Ext.refl w).alloc _).alloc _) hq1
  go_wp2_with fail
  refine (eqNodeS_same ns _ _ _ (SlN.ext x1 h3) (SlN.ext x1 h4)).mono ?_
  rintro e w2 ⟨rfl, hq2⟩
  have hc2 := (bcell (Ext.trans hq1 hq2)).1
  have x2 := Ext.trans x1 hq2
  clear hc1
  go_wp2_with fail
  go_ret
  exact ⟨rfl, x2⟩
end Go.Proofs.YtkabcfhemljnbaaGreat

namespace Go.Proofs.YtkabcfhemljnbaaGreat
open Go.RowKit
attribute [local go_sem ↓] Go.wp_at_zero Go.wp_at_succ

/-! Rows that the model appends to. -/
theorem flat_get {α : Type} (f : α → List Value) (c : Nat) (hc : ∀ a, (f a).length = c) : ∀ (l : List α) (i j : Nat) (hi : i < l.length), j < c → (l.flatMap f)[i * c + j]? = (f l[i])[j]?
  | a :: l, 0, j, _, hj => by simp only [List.flatMap_cons, Nat.zero_mul, Nat.zero_add, List.getElem_cons_zero]; exact List.getElem?_append_left (by rw [hc]; exact hj)
  | a :: l, i + 1, j, hi, hj => by
    simp only [List.flatMap_cons, List.getElem_cons_succ]
    rw [List.getElem?_append_right (by rw [hc, Nat.succ_mul]; omega), hc, show (i + 1) * c + j - c = i * c + j by rw [Nat.succ_mul]; omega]
    exact flat_get f c hc l i j (by simpa using hi) hj
def fW (y : Wd) : List Value := [iv y.k, iv y.n, iv y.a]
def fP (p : Pr) : List Value := [iv p.key.k, iv p.key.n, iv p.key.a, iv p.val.k, iv p.val.n, iv p.val.a]
def fN (z : Nd × Value) : List Value := [iv z.1.kind, iv z.1.weak, iv z.1.last, iv z.1.rank, z.2]
theorem own_cells {w : World} {base : Nat} {t : TypeId} {c : Nat} {v : Value} {α : Type} {f : α → List Value} (hc : ∀ a, (f a).length = c) {L : List α} (h : w.ownsRow base t c v L.length (L.flatMap f)) : ∃ ad cap, v = .slice ad L.length cap ∧ (0 < L.length → ∃ g, ad = some ⟨g, 0, none⟩) ∧ ∀ i (hi : i < L.length), ∃ g, ad = some ⟨g, 0, none⟩ ∧ base ≤ g ∧ g < w.heap.size ∧ ∀ j, j < c → w.cell? ⟨g, 0 + i * c + j, none⟩ = (f L[i])[j]? := by
  rcases h.2 with ⟨h0, h1⟩ | ⟨g, cap, cur, h0, hb, hg, hr⟩
  · exact ⟨none, 0, by rw [h0, h1], fun q => by omega, fun i hi => by omega⟩
  · subst h0
    refine ⟨_, cap, rfl, fun _ => ⟨g, rfl⟩, fun i hi => ⟨g, rfl, (h.lt g rfl).1, (h.lt g rfl).2, fun j hj => ?_⟩⟩
    have hlt : i * c + j < L.length * c := by
      have : (i + 1) * c ≤ L.length * c := Nat.mul_le_mul_right c (by omega)
      rw [Nat.succ_mul] at this; omega
    rw [Nat.zero_add, World.ownsRow.cellAt h (i * c + j) hlt]
    exact flat_get f c hc L i j hi hj
theorem ownW {w : World} {base : Nat} {v : Value} {L : List Wd} (h : w.ownsRow base 90 3 v L.length (L.flatMap fW)) (hl : L.length ≤ 1048576) : SlW w v L := by
  obtain ⟨ad, cap, e, _, hx⟩ := own_cells (f := fW) (fun _ => rfl) h
  refine ⟨ad, cap, e, by omega, fun i hi => ?_⟩
  obtain ⟨g, ea, _, _, hc⟩ := hx i hi
  exact ⟨g, 0, ea, by have := hc 0 (by omega); simpa [fW] using this, by have := hc 1 (by omega); simpa [fW] using this, by have := hc 2 (by omega); simpa [fW] using this⟩
theorem ownP {w : World} {base : Nat} {v : Value} {L : List Pr} (h : w.ownsRow base 123 6 v L.length (L.flatMap fP)) (hl : L.length ≤ 1048576) : SlP w v L := by
  obtain ⟨ad, cap, e, _, hx⟩ := own_cells (f := fP) (fun _ => rfl) h
  refine ⟨ad, cap, e, by omega, fun i hi => ?_⟩
  obtain ⟨g, ea, _, _, hc⟩ := hx i hi
  exact ⟨g, 0, ea, by have := hc 0 (by omega); simpa [fP] using this, by have := hc 1 (by omega); simpa [fP] using this, by have := hc 2 (by omega); simpa [fP] using this, by have := hc 3 (by omega); simpa [fP] using this, by have := hc 4 (by omega); simpa [fP] using this, by have := hc 5 (by omega); simpa [fP] using this⟩
theorem ownN {w : World} {base : Nat} {v : Value} {L : List (Nd × Value)} (h : w.ownsRow base 143 5 v L.length (L.flatMap fN)) (hl : L.length ≤ 1048576) (hp : ∀ z, z ∈ L → SlP w z.2 z.1.prs) : SlN w v (L.map (·.1)) := by
  obtain ⟨ad, cap, e, _, hx⟩ := own_cells (f := fN) (fun _ => rfl) h
  refine ⟨ad, cap, by rw [e, List.length_map], by rw [List.length_map]; omega, fun i hi => ?_⟩
  have hi' : i < L.length := by simpa using hi
  obtain ⟨g, ea, _, _, hc⟩ := hx i hi'
  rw [List.getElem_map]
  exact ⟨g, 0, ea, L[i].2, by have := hc 0 (by omega); simpa [fN] using this, by have := hc 1 (by omega); simpa [fN] using this, by have := hc 2 (by omega); simpa [fN] using this, by have := hc 3 (by omega); simpa [fN] using this, by have := hc 4 (by omega); simpa [fN] using this, hp _ (List.getElem_mem hi')⟩

/-- the table of places, k of them laid -/
def WhP (w : World) (B n k : Nat) (O : List Nat) : Prop := (∀ i, i < n → ∃ v, w.cell? ⟨B, i, none⟩ = some (iv v) ∧ (O.idxOf i < k → v = ((O.idxOf i : Nat) : Int)) ∧ w.frozen? ⟨B, i, none⟩ = false) ∧ B < w.heap.size
theorem WhP.step {w : World} {B n k : Nat} {O : List Nat} (h : WhP w B n k O) (hO : O.Nodup) (hk : k < O.length) : WhP (w.setCell ⟨B, O[k], none⟩ (iv (k : Nat))) B n (k + 1) O := by
  refine ⟨fun i hi => ?_, by have := h.2; simpa [World.setCell] using this⟩
  obtain ⟨v, a, b, c⟩ := h.1 i hi
  by_cases e : i = O[k]
  · subst e
    refine ⟨(k : Nat), World.cell?_setCell_same _ _ _ a, fun _ => by rw [hO.idxOf_getElem k hk], by rw [World.frozen?_setCell]; exact c⟩
  · refine ⟨v, by rw [cell_other _ (.inr (fun z => e z.symm))]; exact a, fun hlt => b ?_, by rw [World.frozen?_setCell]; exact c⟩
    have : O.idxOf i ≠ k := fun z => e (by
      have h1 : O.idxOf i < O.length := by omega
      have h2 : O[O.idxOf i] = i := List.getElem_idxOf h1
      rw [← h2]; congr 1)
    omega
theorem WhP.at {w : World} {B n : Nat} {O : List Nat} (h : WhP w B n O.length O) : WhAt w B n O := ⟨fun i hi => let ⟨v, a, b, _⟩ := h.1 i hi; ⟨v, a, fun hm => b (List.idxOf_lt_length_iff.2 hm)⟩, h.2⟩
theorem mkIntU (n : Nat) (hn : n ≤ 1048576) (w : World) : (Instr.makeSlice 24 (.int .i64 n) (.int .i64 n)).run Tryz.prog w = .ok (.slice (some ⟨w.heap.size, 0, none⟩) n n) (w.alloc (.cells (madeCells #[iv 0] n) 3)) := by
  obtain ⟨i0, hi, hz0, hz1, hz2⟩ := info_parts infoInts
  have h := run_make (P := Tryz.prog) w 24 3 i0 _ Tryz.underlying24 hi hz0 .i64 .i64 n n (by omega) (Int.le_refl _) (by rw [hz2]; omega) (by omega)
  rw [hz1] at h
  simp only [Int.toNat_natCast, Nat.mul_one] at h
  exact h
theorem WhP.start (w : World) (n : Nat) (O : List Nat) (t : TypeId) : WhP (w.alloc (.cells (madeCells #[iv 0] n) t)) w.heap.size n 0 O := by
  have e : (w.alloc (.cells (madeCells #[iv 0] n) t)).heap[w.heap.size]? = some (.cells (madeCells #[iv 0] n) t) := heap_alloc_new w _
  refine ⟨fun i hi => ⟨0, ?_, fun h => by omega, (made_open w _ n t i hi).2⟩, by simp⟩
  rw [cell_of_row _ w.heap.size i _ _ (0, 0) e, ← Array.getElem?_toList, toList_madeCells_one]
  simp [hi]
end Go.Proofs.YtkabcfhemljnbaaGreat

namespace Go.Proofs.YtkabcfhemljnbaaGreat
open Go.RowKit
attribute [local go_sem ↓] Go.wp_at_zero Go.wp_at_succ

theorem zs_len (O : List Nat) : (zs O).length = O.length := by simp [zs]
/-- the graph's box under way: its regs, apart from the place bg -/
theorem grown_ext {a W w5 : World} {v : Value} {base : Nat} {t : TypeId} {c n : Nat} {xs : List Value} (ea : Ext a W) (hown : W.ownsRow base t c v n xs) (hb : a.heap.size ≤ base) (hg : W.grownBy w5 v.ownBlock) : Ext a w5 :=
  Below.trans ea ⟨hg.os, hg.tape, hg.output, hg.size, fun k hk => hg.block k (Nat.lt_of_lt_of_le hk ea.size) (fun e => by have := (hown.lt k e.symm).1; omega)⟩

/-- a row in a box: something was appended to it, and the new slice laid into the box's cell o -/
theorem box_push {w3 W w5 : World} {T : TypeId} {c n n' : Nat} {xs ys : List Value} {v v' u : Value} {base bg o : Nat} (hb : bg < base) (ew : Ext w3 W) (hW : W.ownsRow base T c v n xs) (h3 : w3.heap.size ≤ bg) (hlt : bg < W.heap.size) (hg : W.grownBy w5 v.ownBlock) (h5 : w5.ownsRow base T c v' n' ys) :
    (w5.setCell ⟨bg, o, none⟩ u).ownsRow base T c v' n' ys ∧ Ext w3 (w5.setCell ⟨bg, o, none⟩ u) ∧ (∀ o', o' ≠ o → (w5.setCell ⟨bg, o, none⟩ u).cell? ⟨bg, o', none⟩ = W.cell? ⟨bg, o', none⟩) ∧ (∀ o', (w5.setCell ⟨bg, o, none⟩ u).frozen? ⟨bg, o', none⟩ = W.frozen? ⟨bg, o', none⟩) ∧ (∀ y, W.cell? ⟨bg, o, none⟩ = some y → (w5.setCell ⟨bg, o, none⟩ u).cell? ⟨bg, o, none⟩ = some u) ∧ (∀ q, q < W.heap.size → q ≠ bg → v.ownBlock ≠ some q → (w5.setCell ⟨bg, o, none⟩ u).heap[q]? = W.heap[q]?) := by
  have hblk : w5.heap[bg]? = W.heap[bg]? := hg.block bg hlt (fun e => by have := (hW.lt bg e.symm).1; omega)
  refine ⟨ownsRow_of_block h5 (fun q hq => Below.heap_setCell _ _ _ _ (fun e => by have := (h5.lt q hq).1; simp only at e; omega)), (grown_ext ew hW (by omega) hg).setCell h3 u, fun o' ho => ?_, fun o' => ?_, fun y hy => ?_, fun q hq hne hv => ?_⟩
  · rw [cell_other _ (.inr (fun e => ho e.symm))]; exact World.cell?_of_block (a := ⟨bg, o', none⟩) hblk
  · rw [World.frozen?_setCell]; exact World.frozen?_of_block (a := ⟨bg, o', none⟩) hblk
  · exact World.cell?_setCell_same _ _ _ ((World.cell?_of_block (a := ⟨bg, o, none⟩) hblk).trans hy)
  · exact (Below.heap_setCell _ _ _ _ hne).trans (hg.block q hq (fun e => hv e.symm))


theorem own_less {w : World} {b b' : Nat} {T : TypeId} {c n : Nat} {v : Value} {xs : List Value} (h : w.ownsRow b T c v n xs) (hb : b' ≤ b) : w.ownsRow b' T c v n xs :=
  ⟨h.1, h.2.imp id (fun ⟨g, cap, cur, hv, hg, r⟩ => ⟨g, cap, cur, hv, Nat.le_trans hb hg, r⟩)⟩
/-- the rank that is known behind k wants -/
def rkJ (N : List Nat) (k j : Nat) : Int := if N.idxOf j < k then ((N.idxOf j : Nat) : Int) + 1 else 0
theorem rkJ_zero (N : List Nat) (j : Nat) : rkJ N 0 j = 0 := by simp [rkJ]
theorem rkJ_hit {N : List Nat} (hn : N.Nodup) {k j : Nat} (hk : k < N.length) (e : N[k] = j) : rkJ N (k + 1) j = (k : Int) + 1 := by
  subst e
  unfold rkJ
  rw [hn.idxOf_getElem k hk, if_pos (by omega)]
theorem rkJ_miss {N : List Nat} {k j : Nat} (hk : k < N.length) (e : N[k] ≠ j) : rkJ N (k + 1) j = rkJ N k j := by
  have : N.idxOf j ≠ k := fun z => e (by
    have h1 : N.idxOf j < N.length := by omega
    have h2 : N[N.idxOf j] = j := List.getElem_idxOf h1
    rw [← h2]; congr 1; exact z.symm)
  unfold rkJ
  by_cases h : N.idxOf j < k
  · rw [if_pos h, if_pos (by omega)]
  · rw [if_neg h, if_neg (by omega)]
def nodeOf (x : Hp) (O N : List Nat) (j : Nat) : Nd := ⟨(x.c j).kind, (x.c j).weak, (x.c j).last, rkJ N N.length j, (x.c j).prs.map (np x O)⟩
/-- the nodes under way: k of them -/
structure NS (x : Hp) (O N : List Nat) (w3 w6 wr : World) (vn : Value) (k : Nat) (L : List (Nd × Value)) : Prop where
  own : wr.ownsRow w6.heap.size 143 5 vn k (L.flatMap fN)
  eq : L.map (·.1) = (O.take k).map (nodeOf x O N)
  prs : ∀ z, z ∈ L → wr.ownsRow w6.heap.size 123 6 z.2 z.1.prs.length (z.1.prs.flatMap fP) ∧ ∀ q, z.2.ownBlock = some q → vn.ownBlock ≠ some q
  c0 : wr.cell? ⟨w3.heap.size, 0, none⟩ = w6.cell? ⟨w3.heap.size, 0, none⟩
  c1 : wr.cell? ⟨w3.heap.size, 1, none⟩ = some vn
  fz : ∀ o, wr.frozen? ⟨w3.heap.size, o, none⟩ = false
  on : Only (fun q => q = w3.heap.size) w6 wr
  ex : Ext w3 wr
  lt : w3.heap.size < w6.heap.size
theorem NS.ext {x : Hp} {O N : List Nat} {w3 w6 wr w' : World} {vn : Value} {k : Nat} {L : List (Nd × Value)} (h : NS x O N w3 w6 wr vn k L) (e : Ext wr w') : NS x O N w3 w6 w' vn k L where
  own := ownsRow_of_block h.own (fun q hq => e.block q (h.own.lt q hq).2)
  eq := h.eq
  prs := fun z hz => ⟨ownsRow_of_block (h.prs z hz).1 (fun q hq => e.block q ((h.prs z hz).1.lt q hq).2), (h.prs z hz).2⟩
  c0 := (World.cell?_of_block (a := ⟨w3.heap.size, 0, none⟩) (e.block _ (Nat.lt_of_lt_of_le h.lt h.on.size))).trans h.c0
  c1 := e.keep h.c1
  fz := fun o => ((bcell e).2 _ o (Nat.lt_of_lt_of_le h.lt h.on.size)).trans (h.fz o)
  on := h.on.trans ⟨e.os, e.tape, e.output, e.size, fun q hq _ => e.block q hq⟩
  ex := h.ex.trans e
  lt := h.lt
theorem NS.push {x : Hp} {O N : List Nat} {w3 w6 W w5 : World} {vn v' : Value} {k B7 g : Nat} {L : List (Nd × Value)} {z : Nd × Value} (h : NS x O N w3 w6 W vn k L) (hk : k < O.length) (hz : z.1 = nodeOf x O N O[k]) (hg : W.grownBy w5 vn.ownBlock) (h5 : w5.ownsRow w6.heap.size 143 5 v' (k + 1) (L.flatMap fN ++ fN z))
    (hv' : v'.ownBlock = some g) (hat : vn.ownBlock = some g ∨ g = W.heap.size) (hp : W.ownsRow B7 123 6 z.2 z.1.prs.length (z.1.prs.flatMap fP)) (h7 : w6.heap.size ≤ B7) (hvn : ∀ q, vn.ownBlock = some q → q < B7) :
    NS x O N w3 w6 (w5.setCell ⟨w3.heap.size, 1, none⟩ v') v' (k + 1) (L ++ [z]) := by
  have hbW : w3.heap.size < W.heap.size := Nat.lt_of_lt_of_le h.lt h.on.size
  obtain ⟨b1, b2, b3, b4, b5, b6⟩ := box_push (o := 1) (u := v') (bg := w3.heap.size) h.lt h.ex h.own (Nat.le_refl _) hbW hg h5
  refine ⟨by simpa using b1, ?_, fun y hy => ?_, (b3 0 (by omega)).trans h.c0, b5 _ h.c1, fun o => (b4 o).trans (h.fz o), ?_, b2, h.lt⟩
  · rw [List.map_append, h.eq, List.take_succ_eq_append_getElem hk, List.map_append]; simp [hz]
  · have key : W.ownsRow w6.heap.size 123 6 y.2 y.1.prs.length (y.1.prs.flatMap fP) ∧ ∀ q, y.2.ownBlock = some q → vn.ownBlock ≠ some q := by
      rcases List.mem_append.1 hy with q | q
      · exact h.prs y q
      · rw [List.mem_singleton] at q
        subst q
        exact ⟨own_less hp h7, fun q e e' => by have := (hp.lt q e).1; have := hvn q e'; omega⟩
    refine ⟨ownsRow_of_block key.1 (fun q hq => b6 q (key.1.lt q hq).2 (fun e => by have := (key.1.lt q hq).1; have := h.lt; omega) (key.2 q hq)), fun q e e' => ?_⟩
    rw [hv'] at e'
    injection e' with e'
    subst e'
    rcases hat with r | r
    · exact key.2 g e r
    · have := (key.1.lt g e).2; omega
  · exact ⟨hg.os.trans h.on.os, hg.tape.trans h.on.tape, hg.output.trans h.on.output, by have := hg.size; have := h.on.size; simp only [World.setCell, Array.size_modify]; omega, fun q hq hne => (b6 q (Nat.lt_of_lt_of_le hq h.on.size) hne (fun e => by have := (h.own.lt q e).1; omega)).trans (h.on.block q hq hne)⟩
/-- a cell and its node in their boxes -/
structure NB (wr W : World) (c : Cl) (ap : Option Addr) (kp : Nat) (r : Int) (v : Value) : Prop where
  p7 : W.cell? ⟨wr.heap.size, 7, none⟩ = some (.slice ap c.prs.length kp)
  n0 : W.cell? ⟨wr.heap.size + 1, 0, none⟩ = some (iv c.kind)
  n1 : W.cell? ⟨wr.heap.size + 1, 1, none⟩ = some (iv c.weak)
  n2 : W.cell? ⟨wr.heap.size + 1, 2, none⟩ = some (iv c.last)
  n3 : W.cell? ⟨wr.heap.size + 1, 3, none⟩ = some (iv r)
  n4 : W.cell? ⟨wr.heap.size + 1, 4, none⟩ = some v
  f : ∀ o, W.frozen? ⟨wr.heap.size + 1, o, none⟩ = false
  ex : Ext wr W
theorem NB.ext {wr W W' : World} {c : Cl} {ap : Option Addr} {kp : Nat} {r : Int} {v : Value} (h : NB wr W c ap kp r v) (e : Ext W W') : NB wr W' c ap kp r v :=
  ⟨e.keep h.p7, e.keep h.n0, e.keep h.n1, e.keep h.n2, e.keep h.n3, e.keep h.n4, fun o => ((bcell e).2 _ o (cell_lt h.n0)).trans (h.f o), h.ex.trans e⟩
theorem NB.rank {wr W : World} {c : Cl} {ap : Option Addr} {kp : Nat} {r r' : Int} {v : Value} (h : NB wr W c ap kp r v) : NB wr (W.setCell ⟨wr.heap.size + 1, 3, none⟩ (iv r')) c ap kp r' v :=
  ⟨by rw [cell_other _ (.inl (by omega))]; exact h.p7, by rw [cell_other _ (.inr (by omega))]; exact h.n0, by rw [cell_other _ (.inr (by omega))]; exact h.n1, by rw [cell_other _ (.inr (by omega))]; exact h.n2, World.cell?_setCell_same _ _ _ h.n3, by rw [cell_other _ (.inr (by omega))]; exact h.n4, fun o => by rw [World.frozen?_setCell]; exact h.f o, h.ex.setCell (Nat.le_succ _) _⟩
/-- something was appended to the node's pairs -/
theorem NB.push {wr W w5 : World} {c : Cl} {ap : Option Addr} {kp : Nat} {r : Int} {v v' : Value} {B7 n n' : Nat} {xs ys : List Value} (h : NB wr W c ap kp r v) (hW : W.ownsRow B7 123 6 v n xs) (h7 : wr.heap.size + 1 < B7) (hg : W.grownBy w5 v.ownBlock) (h5 : w5.ownsRow B7 123 6 v' n' ys) :
    (w5.setCell ⟨wr.heap.size + 1, 4, none⟩ v').ownsRow B7 123 6 v' n' ys ∧ NB wr (w5.setCell ⟨wr.heap.size + 1, 4, none⟩ v') c ap kp r v' := by
  obtain ⟨b1, b2, b3, b4, b5, b6⟩ := box_push (o := 4) (u := v') (bg := wr.heap.size + 1) h7 h.ex hW (Nat.le_succ _) (cell_lt h.n0) hg h5
  refine ⟨b1, ?_, (b3 0 (by omega)).trans h.n0, (b3 1 (by omega)).trans h.n1, (b3 2 (by omega)).trans h.n2, (b3 3 (by omega)).trans h.n3, b5 _ h.n4, fun o => (b4 o).trans (h.f o), b2⟩
  exact (World.cell?_of_block (a := ⟨wr.heap.size, 7, none⟩) (b6 wr.heap.size (cell_lt h.p7) (by omega) (fun e => by have := (hW.lt _ e).1; omega))).trans h.p7
theorem NB.start (wr : World) (c : Cl) (ap : Option Addr) (kp : Nat) (t1 t2 : TypeId) : NB wr ((wr.alloc (.cells #[iv c.st, iv c.kind, iv c.weak, iv c.last, iv c.born, iv c.color, iv c.to, .slice ap c.prs.length kp] t1)).alloc (.cells #[iv c.kind, iv c.weak, iv c.last, iv 0, .slice none 0 0] t2)) c ap kp 0 (.slice none 0 0) :=
  ⟨by simp [go_sem], by simp [go_sem], by simp [go_sem], by simp [go_sem], by simp [go_sem], by simp [go_sem], fun o => by simp [go_sem], ((Ext.refl wr).alloc _).alloc _⟩
end Go.Proofs.YtkabcfhemljnbaaGreat
