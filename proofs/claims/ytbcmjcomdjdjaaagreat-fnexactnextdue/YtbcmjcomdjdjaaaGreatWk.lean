import Derived.Test.YtbcmjcomdjdjaaaGreatBase
import Derived.MapKept
import Derived.LaidEql
import Derived.Laws.Pointers
import Derived.Test.YtbcmjcomdjdjaaaGreatImpS
import Derived.WalkSmall
namespace Go.Proofs.YtbcmjcomdjdjaaaGreat
open Go.RowKit

/-! A set of cells as a map from pointers into one block. -/
abbrev ptr (bn p : Nat) : Value := .pointer (some ⟨bn, p, none⟩)

theorem run_sameAddr_block {P : Program} (w : World) (bn p q : Nat) : (sameAddr ⟨bn, p, none⟩ ⟨bn, q, none⟩).run P w = .ok (p == q) w := by
  have : ((⟨bn, p, none⟩ : Addr) == ⟨bn, q, none⟩) = (p == q) := by
    rw [Bool.eq_iff_iff]; simp
  simp [sameAddr, this]
theorem run_equalIn_ptr {P : Program} (w : World) (d : Nat) (t e : TypeId) (i : TypeInfo) (ht : P.underlying t = some (.pointer e)) (hi : P.info? e = some i) (hs : i.size ≠ 0) (bn p q : Nat) :
    (Op.equalIn (d + 1) t (ptr bn p) (ptr bn q)).run P w = .ok (p == q) w := by
  simp [Op.equalIn, run_underlying ht, sizeOf, typeInfo, hi, hs, run_sameAddr_block]
theorem run_equal_ptr {P : Program} (w : World) (t e : TypeId) (i : TypeInfo) (ht : P.underlying t = some (.pointer e)) (hi : P.info? e = some i) (hs : i.size ≠ 0) (bn p q : Nat) :
    (Op.equal t (ptr bn p) (ptr bn q)).run P w = .ok (p == q) w := run_equalIn_ptr w 9999 t e i ht hi hs bn p q

/-- the keys of the map, in their order -/
def KeysAre (bn : Nat) (Q : List Nat) (l : List MapEntry) : Prop := l.map (·.key) = Q.map (ptr bn) ∧ ∀ e, e ∈ l → e.val = .agg #[]
theorem find_ptr {P : Program} (w : World) (t e : TypeId) (i : TypeInfo) (ht : P.underlying t = some (.pointer e)) (hi : P.info? e = some i) (hs : i.size ≠ 0) (bn p : Nat) :
    ∀ (l : List MapEntry) (Q : List Nat) (k : Nat), KeysAre bn Q l → ∃ r, (Instr.findAsking t (ptr bn p) l k).run P w = .ok r w ∧ ((p ∈ Q ∧ ∃ j, r = some (j, .agg #[])) ∨ (¬ p ∈ Q ∧ r = none))
  | [], Q, k, h => by
    have : Q = [] := by simpa using h.1.symm
    subst this
    exact ⟨none, by simp [Instr.findAsking], .inr ⟨by simp, rfl⟩⟩
  | x :: l, Q, k, h => by
    cases Q with
    | nil => have := h.1; simp at this
    | cons q Q =>
      have h1 := h.1
      simp only [List.map_cons, List.cons.injEq] at h1
      have hv := h.2 x List.mem_cons_self
      by_cases e : p = q
      · subst e
        refine ⟨some (k, .agg #[]), ?_, .inl ⟨List.mem_cons_self, k, rfl⟩⟩
        simp [Instr.findAsking, h1.1, run_equal_ptr w t _ i ht hi hs, hv]
      · obtain ⟨r, hr, ho⟩ := find_ptr w t _ i ht hi hs bn p l Q (k + 1) ⟨h1.2, fun y hy => h.2 y (List.mem_cons_of_mem _ hy)⟩
        refine ⟨r, ?_, ?_⟩
        · simp [Instr.findAsking, h1.1, run_equal_ptr w t _ i ht hi hs, e, hr]
        · rcases ho with ⟨m, j⟩ | ⟨m, j⟩
          · exact .inl ⟨List.mem_cons_of_mem _ m, j⟩
          · exact .inr ⟨by simp [e, m], j⟩
theorem findNow_ptr (e : TypeId) (k : Value) (l : List MapEntry) : Instr.findNow (.pointer e) k l 0 = (if l = [] then some none else none) := by
  cases l with
  | nil => rfl
  | cons x l => simp [Instr.findNow, Instr.sameNow]
theorem findKey_ptr {P : Program} (w : World) (t e : TypeId) (i : TypeInfo) (ht : P.underlying t = some (.pointer e)) (hi : P.info? e = some i) (hs : i.size ≠ 0) (bn p : Nat) (l : List MapEntry) (Q : List Nat) (h : KeysAre bn Q l) :
    ∃ r, (Instr.findKey t (ptr bn p) l).run P w = .ok r w ∧ ((p ∈ Q ∧ ∃ j, r = some (j, .agg #[])) ∨ (¬ p ∈ Q ∧ r = none)) := by
  obtain ⟨r, hr, ho⟩ := find_ptr w t e i ht hi hs bn p l Q 0 h
  by_cases hl : l = []
  · subst hl
    have : Q = [] := by simpa using h.1.symm
    subst this
    exact ⟨none, by simp [Instr.findKey, run_underlying ht, findNow_ptr], .inr ⟨by simp, rfl⟩⟩
  · refine ⟨r, ?_, ho⟩
    simp [Instr.findKey, run_underlying ht, findNow_ptr, hl, hr]
theorem checkKeyN_ptr {P : Program} (w : World) (d : Nat) (t e : TypeId) (ht : P.underlying t = some (.pointer e)) (em : Bool) (v : Option Addr) : (Instr.checkKey em (d + 1) t (.pointer v)).run P w = .ok () w := by
  simp [Instr.checkKey, run_underlying ht]
theorem checkKey_ptr {P : Program} (w : World) (t e : TypeId) (ht : P.underlying t = some (.pointer e)) (em : Bool) (v : Option Addr) : (Instr.checkKey em 10000 t (.pointer v)).run P w = .ok () w := checkKeyN_ptr w 9999 t e ht em v

/-- the map in memory -/
structure MapAt (w : World) (r bn : Nat) (Q : List Nat) : Prop where
  mk' ::
  m : ∃ es clock, w.heap[r]? = some (.map es clock) ∧ KeysAre bn Q es.toList
theorem MapAt.block {w w' : World} {r bn : Nat} {Q : List Nat} (h : MapAt w r bn Q) (e : w'.heap[r]? = w.heap[r]?) : MapAt w' r bn Q := by
  obtain ⟨es, c, h1, h2⟩ := h.m
  exact ⟨es, c, e.trans h1, h2⟩

theorem MapAt.lookup {P : Program} {w : World} {r bn : Nat} {Q : List Nat} (h : MapAt w r bn Q) {mt t e et : TypeId} {i : TypeInfo} (hm : P.underlying mt = some (.map t et)) (ht : P.underlying t = some (.pointer e)) (hi : P.info? e = some i) (hs : i.size ≠ 0) (hz : ∀ w, (zeroValue et).run P w = .ok (.agg #[]) w) (p : Nat) :
    (Instr.lookup mt (.map (some r)) (ptr bn p) true).run P w = .ok (.tuple #[.agg #[], .bool (decide (p ∈ Q))]) w := by
  obtain ⟨es, c, h1, h2⟩ := h.m
  obtain ⟨f, hf, ho⟩ := findKey_ptr w t e i ht hi hs bn p es.toList Q h2
  rcases ho with ⟨m, j, rfl⟩ | ⟨m, rfl⟩
  · simp [Instr.lookup, run_underlying hm, MapKept.run_getObj_map h1, checkKey_ptr w t e ht, hf, m]
  · simp [Instr.lookup, run_underlying hm, MapKept.run_getObj_map h1, checkKey_ptr w t e ht, hf, m, hz]

/-- a new key -/
theorem MapAt.update {P : Program} {w : World} {r bn : Nat} {Q : List Nat} (h : MapAt w r bn Q) {mt t e et : TypeId} {i : TypeInfo} (hm : P.underlying mt = some (.map t et)) (ht : P.underlying t = some (.pointer e)) (hi : P.info? e = some i) (hs : i.size ≠ 0) (p : Nat) (hp : ¬ p ∈ Q) :
    ∃ w', (Instr.mapUpdate mt (.map (some r)) (ptr bn p) (.agg #[])).run P w = .ok () w' ∧ MapAt w' r bn (Q ++ [p]) ∧ w'.os = w.os ∧ w'.tape = w.tape ∧ w'.output = w.output ∧ w'.heap.size = w.heap.size ∧ (∀ k : Nat, k ≠ r → w'.heap[k]? = w.heap[k]?) := by
  obtain ⟨es, c, h1, h2⟩ := h.m
  obtain ⟨f, hf, ho⟩ := findKey_ptr w t e i ht hi hs bn p es.toList Q h2
  rcases ho with ⟨m, _⟩ | ⟨_, rfl⟩
  · exact (hp m).elim
  · have hlt : r < w.heap.size := by
      rcases Nat.lt_or_ge r w.heap.size with q | q
      · exact q
      · rw [Array.getElem?_eq_none q] at h1; cases h1
    refine ⟨{ w with heap := w.heap.setIfInBounds r (.map (es.push { key := ptr bn p, val := .agg #[], born := c }) (c + 1)) }, ?_, ⟨es.push { key := ptr bn p, val := .agg #[], born := c }, c + 1, ?_, ?_⟩, rfl, rfl, rfl, by simp, fun k hk => ?_⟩
    · simp [Instr.mapUpdate, run_underlying hm, MapKept.run_getObj_map h1, checkKey_ptr w t e ht, hf, MapKept.run_setObj_map _ h1]
    · show (w.heap.setIfInBounds r _)[r]? = _
      rw [Array.getElem?_setIfInBounds, if_pos rfl, if_pos hlt]
    · refine ⟨?_, fun y hy => ?_⟩
      · simp [h2.1]
      · simp at hy
        rcases hy with hy | hy
        · exact h2.2 y (by simpa using hy)
        · rw [hy]
    · show (w.heap.setIfInBounds r _)[k]? = _
      rw [Array.getElem?_setIfInBounds, if_neg (fun e => hk e.symm)]
end Go.Proofs.YtbcmjcomdjdjaaaGreat

namespace Go.Proofs.YtbcmjcomdjdjaaaGreat
open Go.RowKit
attribute [local go_sem ↓] Go.wp_at_zero Go.wp_at_succ

theorem cellSet_und : ∃ et, Tryz.prog.underlying 55 = some (.map 60 et) ∧ ∀ w, (zeroValue et).run Tryz.prog w = .ok (.agg #[]) w := ⟨_, Tryz.underlying55, fun _ => by kernel_rfl⟩
theorem node_und : Tryz.prog.underlying 60 = some (.pointer 64) := Tryz.underlying60
theorem infoNodeP : (Tryz.prog.info? 60).map (fun i => (i.zero, i.size, i.bytes)) = some (some (.pointer none), 1, 8) := by kernel_rfl

theorem has_any (r bn p : Nat) (Q : List Nat) (w : World) (h : MapAt w r bn Q) :
    Calls Tryz.prog 51 #[.map (some r), ptr bn p] w fun e w' => e = .returned (.bool (decide (p ∈ Q))) ∧ Ext w w' := by
  obtain ⟨et, hu, hz⟩ := cellSet_und
  obtain ⟨i0, hi, _, hz1, _⟩ := info_parts infoNodes
  have hlk := h.lookup hu node_und hi (by rw [hz1]; omega) hz p
  clear hu hz hi hz1 h
  obtain ⟨ans, ha⟩ : ∃ a, decide (p ∈ Q) = a := ⟨_, rfl⟩
  rw [ha] at hlk ⊢
  clear ha
  go_enter Tryz.func51, Tryz.ntmps51
  go_wp2_with fail
  go_ret
  exact ⟨rfl, (Ext.refl w).alloc _⟩

/-- the program's walk: its set of cells that were met, its stack -/
structure WkAt (w : World) (base bw bv r1 bn on n : Nat) (v : Value) (Mt St : List Nat) : Prop where
  c0 : w.cell? ⟨bw, 0, none⟩ = some (.pointer (some ⟨bv, 0, none⟩))
  c1 : w.cell? ⟨bw, 1, none⟩ = some (.map (some r1))
  c2 : w.cell? ⟨bw, 2, none⟩ = some v
  f2 : w.frozen? ⟨bw, 2, none⟩ = false
  m : MapAt w r1 bn (Mt.map (fun i => on + i * 2))
  s : w.ownsRow base 60 1 v St.length (St.map (fun i => ptr bn (on + i * 2)))
  a1 : v.ownBlock ≠ some bw
  a2 : v.ownBlock ≠ some r1
  a3 : bw ≠ r1
  b1 : base ≤ bw
  b2 : base ≤ r1
  sub : ∀ i, i ∈ St → i ∈ Mt
  nd : Mt.Nodup
  nds : St.Nodup
  rg : ∀ i, i ∈ Mt → i < n

/-- what a step of the walk leaves as it was -/
structure KFr (bw r1 : Nat) (v v' : Value) (w w' : World) : Prop where
  os : w'.os = w.os
  tape : w'.tape = w.tape
  output : w'.output = w.output
  size : w.heap.size ≤ w'.heap.size
  block : ∀ k : Nat, k < w.heap.size → k ≠ bw → k ≠ r1 → v.ownBlock ≠ some k → w'.heap[k]? = w.heap[k]?
  own : v'.ownBlock = v.ownBlock ∨ ∃ g, v'.ownBlock = some g ∧ w.heap.size ≤ g
  keep : ∀ o u, o ≠ 2 → w.cell? ⟨bw, o, none⟩ = some u → w'.cell? ⟨bw, o, none⟩ = some u
theorem KFr.of_ext {bw r1 : Nat} {v : Value} {w w' : World} (e : Ext w w') : KFr bw r1 v v w w' := ⟨e.os, e.tape, e.output, e.size, fun k hk _ _ _ => e.block k hk, .inl rfl, fun _ _ _ h => e.keep h⟩
theorem KFr.trans {bw r1 : Nat} {v v1 v2 : Value} {w w1 w2 : World} (h : KFr bw r1 v v1 w w1) (k : KFr bw r1 v1 v2 w1 w2) : KFr bw r1 v v2 w w2 :=
  ⟨k.os.trans h.os, k.tape.trans h.tape, k.output.trans h.output, Nat.le_trans h.size k.size,
    fun i hi h1 h2 hv => (k.block i (Nat.lt_of_lt_of_le hi h.size) h1 h2 (fun e => by
      rcases h.own with q | ⟨g, q, hg⟩
      · rw [q] at e; exact hv e
      · rw [q] at e; cases e; omega)).trans (h.block i hi h1 h2 hv), by
      rcases k.own with q | ⟨g, q, hg⟩
      · rcases h.own with q2 | ⟨g, q2, hg⟩
        · exact .inl (q.trans q2)
        · exact .inr ⟨g, q.trans q2, hg⟩
      · exact .inr ⟨g, q, Nat.le_trans h.size hg⟩, fun o u ho hc => k.keep o u ho (h.keep o u ho hc)⟩
theorem WkAt.rlt {w : World} {base bw bv r1 bn on n : Nat} {v : Value} {Mt St : List Nat} (h : WkAt w base bw bv r1 bn on n v Mt St) : bw < w.heap.size ∧ r1 < w.heap.size := by
  refine ⟨cell_lt h.c0, ?_⟩
  obtain ⟨es, c, h1, _⟩ := h.m.m
  rcases Nat.lt_or_ge r1 w.heap.size with q | q
  · exact q
  · rw [Array.getElem?_eq_none q] at h1; cases h1
theorem WkAt.ext {w w' : World} {base bw bv r1 bn on n : Nat} {v : Value} {Mt St : List Nat} (h : WkAt w base bw bv r1 bn on n v Mt St) (e : Ext w w') : WkAt w' base bw bv r1 bn on n v Mt St :=
  ⟨e.keep h.c0, e.keep h.c1, e.keep h.c2, by rw [e.frozen (p := ⟨bw, 2, none⟩) h.rlt.1]; exact h.f2, h.m.block (e.block r1 h.rlt.2), ownsRow_of_block h.s (fun k hk => e.block k (h.s.lt k hk).2), h.a1, h.a2, h.a3, h.b1, h.b2, h.sub, h.nd, h.nds, h.rg⟩
theorem WkAt.kext {a w w' : World} {bw bv r1 bn on n : Nat} {v v' : Value} {Mt St : List Nat} (h : WkAt w a.heap.size bw bv r1 bn on n v Mt St) (q : KFr bw r1 v v' w w') (e : Ext a w) : Ext a w' :=
  Below.trans e ⟨q.os, q.tape, q.output, q.size, fun k hk => q.block k (Nat.lt_of_lt_of_le hk e.size) (by have := h.b1; omega) (by have := h.b2; omega) (fun f => by have := (h.s.lt k f).1; omega)⟩
theorem WkAt.len {w : World} {base bw bv r1 bn on n : Nat} {v : Value} {Mt St : List Nat} (h : WkAt w base bw bv r1 bn on n v Mt St) : Mt.length ≤ n ∧ St.length ≤ n := by
  have key : ∀ L : List Nat, L.Nodup → (∀ i, i ∈ L → i < n) → L.length ≤ n := fun L hn hr => by
    have := List.Nodup.length_le_of_subset hn (fun z hz => List.mem_range.2 (hr z hz))
    simpa using this
  exact ⟨key _ h.nd h.rg, key _ h.nds (fun i hi => h.rg i (h.sub i hi))⟩
theorem mem_off {on i : Nat} {Mt : List Nat} : on + i * 2 ∈ Mt.map (fun i => on + i * 2) ↔ i ∈ Mt := by
  simp only [List.mem_map]
  constructor
  · rintro ⟨j, hj, e⟩
    have : j = i := by omega
    rw [← this]; exact hj
  · intro h; exact ⟨i, h, rfl⟩
/-- one more is met: the set's store, then the stack's -/
theorem WkAt.add {w w1 w2 : World} {base bw bv r1 bn on n g cap i : Nat} {v : Value} {Mt St : List Nat} {o : Obj} (h : WkAt w base bw bv r1 bn on n v Mt St) (hi : i < n) (hm : ¬ i ∈ Mt)
    (hm1 : MapAt w1 r1 bn (Mt.map (fun i => on + i * 2) ++ [on + i * 2])) (hos : w1.os = w.os) (ht : w1.tape = w.tape) (hou : w1.output = w.output) (hsz : w1.heap.size = w.heap.size) (hbl : ∀ k : Nat, k ≠ r1 → w1.heap[k]? = w.heap[k]?)
    (hown : w2.ownsRow base 60 1 (.slice (some ⟨g, 0, none⟩) (St.length + 1) cap) (St.length + 1) (St.map (fun i => ptr bn (on + i * 2)) ++ [ptr bn (on + i * 2)])) (hg : (w1.alloc o).grownBy w2 v.ownBlock) (hat : v.ownBlock = some g ∨ g = w1.heap.size + 1) :
    WkAt (w2.setCell ⟨bw, 2, none⟩ (.slice (some ⟨g, 0, none⟩) (St.length + 1) cap)) base bw bv r1 bn on n (.slice (some ⟨g, 0, none⟩) (St.length + 1) cap) (Mt ++ [i]) (St ++ [i]) ∧
    KFr bw r1 v (.slice (some ⟨g, 0, none⟩) (St.length + 1) cap) w (w2.setCell ⟨bw, 2, none⟩ (.slice (some ⟨g, 0, none⟩) (St.length + 1) cap)) ∧ w2.cell? ⟨bw, 2, none⟩ = some v ∧ w2.frozen? ⟨bw, 2, none⟩ = false := by
  have hr := h.rlt
  have hs1 : w1.heap.size + 1 ≤ w2.heap.size := by have := hg.size; simpa using this
  have blk : ∀ k : Nat, k < w1.heap.size → v.ownBlock ≠ some k → w2.heap[k]? = w1.heap[k]? := fun k hk hv => (hg.block k (by simp; omega) (fun e => hv e.symm)).trans (Below.heap_alloc w1 o k hk)
  have hbw : w2.heap[bw]? = w.heap[bw]? := (blk bw (by omega) h.a1).trans (hbl bw h.a3)
  have hgb : g ≠ bw ∧ g ≠ r1 := by
    rcases hat with e | e
    · exact ⟨fun q => h.a1 (q ▸ e), fun q => h.a2 (q ▸ e)⟩
    · omega
  have cc : ∀ o' v', w.cell? ⟨bw, o', none⟩ = some v' → w2.cell? ⟨bw, o', none⟩ = some v' := fun o' v' hc => (World.cell?_of_block (a := ⟨bw, o', none⟩) hbw).trans hc
  have hc2 := cc 2 _ h.c2
  have hf2 : w2.frozen? ⟨bw, 2, none⟩ = false := (World.frozen?_of_block (a := ⟨bw, 2, none⟩) hbw).trans h.f2
  refine ⟨⟨?_, ?_, World.cell?_setCell_same _ _ _ hc2, by rw [World.frozen?_setCell]; exact hf2, ?_, ?_, fun e => hgb.1 (by simpa [Value.ownBlock] using e), fun e => hgb.2 (by simpa [Value.ownBlock] using e), h.a3, h.b1, h.b2, ?_, ?_, ?_, ?_⟩, ⟨?_, ?_, ?_, ?_, fun k hk h1 h2 h3 => ?_, ?_, fun o u ho hc => (cell_other _ (.inr (fun e => ho e.symm))).trans (cc o u hc)⟩, hc2, hf2⟩
  · rw [cell_other _ (.inr (by omega))]; exact cc 0 _ h.c0
  · rw [cell_other _ (.inr (by omega))]; exact cc 1 _ h.c1
  · refine MapAt.block (w := w1) (by simpa using hm1) ?_
    rw [Below.heap_setCell _ _ _ _ (show r1 ≠ bw from fun e => h.a3 e.symm)]
    exact blk r1 (by omega) h.a2
  · refine ownsRow_of_block (by simpa using hown) (fun k hk => Below.heap_setCell _ _ _ _ ?_)
    simp [Value.ownBlock] at hk
    show k ≠ bw
    omega
  · intro j hj
    rcases List.mem_append.1 hj with q | q
    · exact List.mem_append_left _ (h.sub j q)
    · exact List.mem_append_right _ q
  · rw [List.nodup_append]; exact ⟨h.nd, by simp, fun a ha b hb => by simp at hb; rw [hb]; intro e; exact hm (e ▸ ha)⟩
  · rw [List.nodup_append]; exact ⟨h.nds, by simp, fun a ha b hb => by simp at hb; rw [hb]; intro e; exact hm (e ▸ h.sub a ha)⟩
  · intro j hj
    rcases List.mem_append.1 hj with q | q
    · exact h.rg j q
    · simp at q; omega
  · exact (hg.os.trans rfl).trans hos
  · exact (hg.tape.trans rfl).trans ht
  · exact (hg.output.trans rfl).trans hou
  · have : (w2.setCell ⟨bw, 2, none⟩ (.slice (some ⟨g, 0, none⟩) (St.length + 1) cap)).heap.size = w2.heap.size := by simp [World.setCell]
    omega
  · rw [Below.heap_setCell _ _ _ _ (show k ≠ bw from h1), blk k (by omega) h3]; exact hbl k h2
  · rcases hat with e | e
    · exact .inl e.symm
    · exact .inr ⟨g, rfl, by omega⟩
end Go.Proofs.YtbcmjcomdjdjaaaGreat

namespace Go.Proofs.YtbcmjcomdjdjaaaGreat
open Go.RowKit
attribute [local go_sem ↓] Go.wp_at_zero Go.wp_at_succ

theorem meet_nil (bw : Nat) (w : World) :
    Calls Tryz.prog 55 #[.pointer (some ⟨bw, 0, none⟩), .pointer none] w fun e w' => e = .returned (.tuple #[]) ∧ w' = w := by
  go_enter Tryz.func55, Tryz.ntmps55
  go_wp2_with fail
  try simp only [Exit.inBlock, Exit.then]
  refine bodyPost_ret (results_none rfl _ _ _) rfl ?_
  exact ⟨rfl, rfl⟩

set_option maxRecDepth 100000 in
set_option maxHeartbeats 2000000 in
theorem meet_any (base bw bv r1 bn on n i : Nat) (v : Value) (Mt St : List Nat) (w : World) (h : WkAt w base bw bv r1 bn on n v Mt St) (hi : i < n) (hb : base ≤ w.heap.size) (hn8 : n ≤ 8000) :
    Calls Tryz.prog 55 #[.pointer (some ⟨bw, 0, none⟩), ptr bn (on + i * 2)] w fun e w' => e = .returned (.tuple #[]) ∧ ∃ v' Mt' St', WkAt w' base bw bv r1 bn on n v' Mt' St' ∧ Hid ((i ∈ Mt ∧ Mt' = Mt ∧ St' = St) ∨ (¬ i ∈ Mt ∧ Mt' = Mt ++ [i] ∧ St' = St ++ [i])) ∧ KFr bw r1 v v' w w' := by
  obtain ⟨et, hu, hz⟩ := cellSet_und
  obtain ⟨i1, hi1, _, hz1, _⟩ := info_parts infoNodes
  obtain ⟨i0, hi0, hy0, hy1, hy2⟩ := info_parts infoNodeP
  have hlen := h.len.2
  have c1 := h.c1
  have c2 := h.c2
  have HW := hide h
  have HU := hide hu
  have HN := hide hi1
  have HZ := hide hz1
  clear h hu hz hi1 hz1
  go_enter Tryz.func55, Tryz.ntmps55
  go_wp2_with fail
  refine (has_any r1 bn (on + i * 2) _ _ (unhide HW).m).mono ?_
  rintro e w1 ⟨rfl, hq⟩
  have W1 := hide ((unhide HW).ext hq)
  have d1 := hq.keep c1
  have d2 := hq.keep c2
  clear c1 c2
  by_cases hm : i ∈ Mt
  · have E : decide (on + i * 2 ∈ Mt.map (fun i => on + i * 2)) = true := decide_eq_true (mem_off.2 hm)
    rw [E]
    clear E
    have K := hide (KFr.of_ext (bw := bw) (r1 := r1) (v := v) hq)
    clear hq
    go_wp2_with fail
    try simp only [Exit.inBlock, Exit.then]
    refine bodyPost_ret (results_none rfl _ _ _) rfl ?_
    exact ⟨rfl, v, Mt, St, unhide W1, .inl ⟨hm, rfl, rfl⟩, unhide K⟩
  · have E : decide (on + i * 2 ∈ Mt.map (fun i => on + i * 2)) = false := decide_eq_false (fun f => hm (mem_off.1 f))
    rw [E]
    clear E
    obtain ⟨wU, hUp, m1, hos, ht, hou, hsz, hbl⟩ := MapAt.update (unhide W1).m (unhide HU) node_und (unhide HN) (by rw [unhide HZ]; omega) (on + i * 2) (fun f => hm (mem_off.1 f))
    have K := hide (KFr.of_ext (bw := bw) (r1 := r1) (v := v) hq)
    have dU : wU.cell? ⟨bw, 2, none⟩ = some v := (World.cell?_of_block (w := w1) (a := ⟨bw, 2, none⟩) (hbl bw (unhide W1).a3)).trans d2
    have OW := hide (show wU.ownsRow base 60 1 v St.length (St.map (fun i => ptr bn (on + i * 2))) from ownsRow_of_block (unhide W1).s (fun k hk => hbl k (fun e => (unhide W1).a2 (e ▸ hk))))
    have AD := hide (And.intro m1 (And.intro hos (And.intro ht (And.intro hou (And.intro hsz hbl)))))
    have hbU : base ≤ wU.heap.size := by have := hq.size; omega
    clear m1 hos ht hou hsz hbl hq
    go_wp2_with (at_builtin; refine wpList_append_lies _ rfl _ _ 102 rfl base 60 i0 (.pointer none) 1 8 Tryz.underlying102 hi0 hy0 hy1 hy2 rfl (by decide) v St.length (St.map (fun i => ptr bn (on + i * 2))) rfl ((unhide OW).alloc _) _ 1 1 [ptr bn (on + i * 2)] rfl rfl ?c1 ?c2 (by decide) ?c3 ?c4 ?c5 _ rfl ?_)
    case c1 =>
      intro j u hj
      match j, hj with
      | 0, hj => simp at hj; subst hj; simp [Addr.add]
    case c2 => intro u hu; simp at hu; subst hu; rfl
    case c3 => unfold maxLen; omega
    case c4 => omega
    case c5 => simp; omega
    intro g cap w2 hown hgrow hat hglt
    obtain ⟨q1, q2, q3, q4⟩ := WkAt.add (unhide W1) hi hm (unhide AD).1 (unhide AD).2.1 (unhide AD).2.2.1 (unhide AD).2.2.2.1 (unhide AD).2.2.2.2.1 (unhide AD).2.2.2.2.2 hown hgrow (by simpa using hat)
    have FIN := hide (And.intro q1 ((unhide K).trans q2))
    clear q1 q2 hown hgrow hat dU
    go_wp2_with fail
    go_end0
    exact ⟨rfl, _, Mt ++ [i], St ++ [i], (unhide FIN).1, .inr ⟨hm, rfl, rfl⟩, (unhide FIN).2⟩

theorem next_none (base bw bv r1 bn on n : Nat) (v : Value) (Mt : List Nat) (w : World) (h : WkAt w base bw bv r1 bn on n v Mt []) :
    Calls Tryz.prog 56 #[.pointer (some ⟨bw, 0, none⟩)] w fun e w' => e = .returned (.pointer none) ∧ w' = w := by
  obtain ⟨ad, cap, rfl⟩ : ∃ ad cap, v = .slice ad 0 cap := by
    rcases h.s.2 with ⟨h1, _⟩ | ⟨g, cap, cur, h1, _⟩
    · exact ⟨none, 0, h1⟩
    · exact ⟨_, _, h1⟩
  have c2 := h.c2
  clear h
  go_enter Tryz.func56, Tryz.ntmps56
  go_wp2_with fail
  go_ret
  exact ⟨rfl, rfl⟩

theorem WkAt.pop {w : World} {base bw bv r1 bn on n g m cap : Nat} {Mt St : List Nat} {j : Nat} (h : WkAt w base bw bv r1 bn on n (.slice (some ⟨g, 0, none⟩) (m + 1) cap) Mt (St ++ [j])) (hm : St.length = m) :
    WkAt (w.setCell ⟨bw, 2, none⟩ (.slice (some ⟨g, 0, none⟩) m cap)) base bw bv r1 bn on n (.slice (some ⟨g, 0, none⟩) m cap) Mt St ∧ KFr bw r1 (.slice (some ⟨g, 0, none⟩) (m + 1) cap) (.slice (some ⟨g, 0, none⟩) m cap) w (w.setCell ⟨bw, 2, none⟩ (.slice (some ⟨g, 0, none⟩) m cap)) := by
  have hgb : g ≠ bw := fun e => h.a1 (by rw [e]; rfl)
  have hs := h.s
  simp only [List.length_append, List.length_singleton, List.map_append, List.map_cons, List.map_nil, hm] at hs
  have how := ownsRow_pop (by simp [hm]) hs
  refine ⟨⟨?_, ?_, World.cell?_setCell_same _ _ _ h.c2, by rw [World.frozen?_setCell]; exact h.f2, ?_, ?_, h.a1, h.a2, h.a3, h.b1, h.b2, fun i hi => h.sub i (List.mem_append_left _ hi), h.nd, ?_, h.rg⟩, ⟨rfl, rfl, rfl, by simp [World.setCell], fun k _ h1 _ _ => Below.heap_setCell _ _ _ _ (show k ≠ bw from h1), .inl rfl, fun o u ho hc => (cell_other _ (.inr (fun e => ho e.symm))).trans hc⟩⟩
  · rw [cell_other _ (.inr (by omega))]; exact h.c0
  · rw [cell_other _ (.inr (by omega))]; exact h.c1
  · exact h.m.block (Below.heap_setCell _ _ _ _ (show r1 ≠ bw from fun e => h.a3 e.symm))
  · rw [hm]
    refine ownsRow_of_block how (fun k hk => Below.heap_setCell _ _ _ _ ?_)
    simp [Value.ownBlock] at hk
    show k ≠ bw
    omega
  · have := h.nds
    rw [List.nodup_append] at this
    exact this.1

set_option maxRecDepth 100000 in
set_option maxHeartbeats 2000000 in
theorem next_some (base bw bv r1 bn on n j : Nat) (v : Value) (Mt St : List Nat) (w : World) (h : WkAt w base bw bv r1 bn on n v Mt (St ++ [j])) (hn8 : n ≤ 8000) :
    Calls Tryz.prog 56 #[.pointer (some ⟨bw, 0, none⟩)] w fun e w' => e = .returned (ptr bn (on + j * 2)) ∧ ∃ v', WkAt w' base bw bv r1 bn on n v' Mt St ∧ KFr bw r1 v v' w w' := by
  have hl := h.len.2
  obtain ⟨m, hm⟩ : ∃ m, St.length = m := ⟨_, rfl⟩
  obtain ⟨g, cap, hv, hc⟩ : ∃ g cap, v = .slice (some ⟨g, 0, none⟩) (m + 1) cap ∧ m + 1 ≤ cap := by
    rcases h.s.2 with ⟨_, h1⟩ | ⟨g, cap, cur, h1, _, _, hcap, _⟩
    · simp at h1
    · simp only [List.length_append, List.length_singleton, hm] at h1 hcap; exact ⟨g, cap, h1, hcap⟩
  subst hv
  have hs := h.s
  simp only [List.length_append, List.length_singleton, List.map_append, List.map_cons, List.map_nil, hm] at hs hl
  have cj : w.cell? ⟨g, m, none⟩ = some (ptr bn (on + j * 2)) := by
    have := World.ownsRow.cellAt hs m (by omega)
    rw [this, List.getElem?_append_right (by simp [hm])]
    simp [hm]
  have c2 := h.c2
  have f2 := h.f2
  have FIN := hide (h.pop hm)
  have i0 : (0 : Int) ≤ (m : Int) := by omega
  have i1 : (m : Int) < (m : Int) + 1 := by omega
  have i2 : (m : Int) ≤ (cap : Int) := by omega
  clear h hs hm
  go_enter Tryz.func56, Tryz.ntmps56
  go_wp2_with fail
  go_ret
  exact ⟨rfl, _, (unhide FIN).1, (unhide FIN).2⟩
end Go.Proofs.YtbcmjcomdjdjaaaGreat
