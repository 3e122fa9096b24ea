import Derived.Test.YtddkhnclmeikfacGreatEq
import Derived.Test.YtddkhnclmeikfacGreatVi
import Derived.Test.YtddkhnclmeikfacGreatTo
import Derived.MapKept
import Derived.LaidEql
import Derived.Laws.Pointers
import Derived.Test.YtddkhnclmeikfacGreatGx
namespace Go.Proofs.YtddkhnclmeikfacGreat
open Go.RowKit
attribute [local go_sem ↓] Go.wp_at_zero Go.wp_at_succ

/-! A heap and a number: compared, marked, held. -/
def SCx (w : World) (B : Nat) (x : Hp) (k d : Nat) (vr vc vg : Value) : Prop := HBox w B x vr vc vg ∧ w.cell? ⟨B, 13, none⟩ = some (iv k) ∧ w.cell? ⟨B, 14, none⟩ = some (iv d)
theorem SCx.ext {w w' : World} {B : Nat} {x : Hp} {k d : Nat} {vr vc vg : Value} (h : SCx w B x k d vr vc vg) (e : Ext w w') : SCx w' B x k d vr vc vg := ⟨h.1.ext e, e.keep h.2.1, e.keep h.2.2⟩
theorem SCx.only {S : Nat → Prop} {w w' : World} {B : Nat} {x : Hp} {k d : Nat} {vr vc vg : Value} (h : SCx w B x k d vr vc vg) (e : Only S w w') (hs : ¬ S B) : SCx w' B x k d vr vc vg := ⟨h.1.only e hs, (World.cell?_of_block (a := ⟨B, 13, none⟩) (e.block B (cell_lt h.2.1) hs)).trans h.2.1, (World.cell?_of_block (a := ⟨B, 14, none⟩) (e.block B (cell_lt h.2.1) hs)).trans h.2.2⟩
abbrev setC (x : Hp) (k d : Nat) (vr vc vg : Value) : Array Value := #[iv x.room, iv x.used, iv x.born, vr, vc, iv x.phase, iv x.hand, iv x.sub, vg, iv x.per, iv x.start, iv x.rounds, iv x.forced, iv k, iv d]
theorem SCx.new (w : World) (x : Hp) (k d : Nat) (vr vc vg : Value) (t : TypeId) : SCx (w.alloc (.cells (setC x k d vr vc vg) t)) w.heap.size x k d vr vc vg := by
  refine ⟨⟨?_, ?_, ?_, ?_, ?_, ?_, ?_, ?_, ?_, ?_, ?_, ?_, ?_⟩, ?_, ?_⟩ <;> simp [go_sem]
set_option maxRecDepth 100000 in
set_option maxHeartbeats 600000 in
theorem eqSettled_same (x : Hp) (k d : Nat) (vr vc vg vr2 vc2 vg2 : Value) (w : World) (h1 : SlW w vr x.regs) (h2 : SlW w vr2 x.regs) (h3 : SlC w vc x.cells) (h4 : SlC w vc2 x.cells) (h5 : SlI w vg x.gray) (h6 : SlI w vg2 x.gray) :
    Calls Tryz.prog 21 #[setV x k d vr vc vg, setV x k d vr2 vc2 vg2] w fun e w' => e = .returned (.bool true) ∧ Ext w w' := by
  have xa := ((Ext.refl w).alloc (.cells (setC x k d vr vc vg) 39)).alloc (.cells (setC x k d vr2 vc2 vg2) 39)
  have Q := hide (eqHeap_same x vr vc vg vr2 vc2 vg2 _ (SlW.ext xa h1) (SlW.ext xa h2) (SlC.ext xa h3) (SlC.ext xa h4) (SlI.ext xa h5) (SlI.ext xa h6))
  have hk : ((k : Int) != (k : Int)) = false := by simp
  have hd : ((d : Int) != (d : Int)) = false := by simp
  have XA := hide xa
  clear h1 h2 h3 h4 h5 h6 xa
  go_enter Tryz.func21, Tryz.ntmps21
  go_wp2_with fail
  refine (unhide Q).mono ?_
  rintro e w1 ⟨rfl, q1⟩
  have u13 : w1.cell? ⟨w.heap.size, 13, none⟩ = some (iv k) := q1.keep (by simp [go_sem])
  have v13 : w1.cell? ⟨w.heap.size + 1, 13, none⟩ = some (iv k) := q1.keep (by simp [go_sem])
  have u14 : w1.cell? ⟨w.heap.size, 14, none⟩ = some (iv d) := q1.keep (by simp [go_sem])
  have v14 : w1.cell? ⟨w.heap.size + 1, 14, none⟩ = some (iv d) := q1.keep (by simp [go_sem])
  clear Q
  go_wp2_with fail
  go_ret
  exact ⟨rfl, (unhide XA).trans q1⟩
set_option maxRecDepth 100000 in
set_option maxHeartbeats 600000 in
theorem markSett {B U : Nat} {w : World} {y : Hp} {k d : Nat} {ar : Option Addr} {kr : Nat} {ac : Option Addr} {kc : Nat} {ag : Option Addr} {kg : Nat} (h : HA B U w y ar kr ac kc ag kg) (hU : U ≤ w.heap.size) :
    Calls Tryz.prog 22 #[setV y k d (.slice ar y.regs.length kr) (.slice ac y.cells.length kc) (.slice ag y.gray.length kg), .int .i64 1] w fun e w' => ∃ m, e = .returned (.int .i64 m) ∧ HAm w' y ar kr ac kc ag kg m ∧ ∃ w1, Ext w w1 ∧ Only (fun q => B ≤ q ∧ q < U) w1 w' := by
  have xa := (Ext.refl w).alloc (.cells (setC y k d (.slice ar y.regs.length kr) (.slice ac y.cells.length kc) (.slice ag y.gray.length kg)) 39)
  have Q := hide (markHA (h.ext xa) (by simp; omega))
  have XA := hide xa
  clear h xa
  go_enter Tryz.func22, Tryz.ntmps22
  go_wp2_with fail
  refine (unhide Q).mono ?_
  rintro e w1 ⟨m, rfl, hm, w0, hx, ho⟩
  have R := hide (And.intro hm (show ∃ w1', Ext w w1' ∧ Only (fun q => B ≤ q ∧ q < U) w1' w1 from ⟨w0, (unhide XA).trans hx, ho⟩))
  clear hm hx ho Q
  go_wp2_with fail
  go_ret
  exact ⟨m, rfl, (unhide R).1, (unhide R).2⟩
set_option maxRecDepth 100000 in
set_option maxHeartbeats 600000 in
theorem heldSett {w : World} {y : Hp} {k d : Nat} {ar : Option Addr} {kr : Nat} {ac : Option Addr} {kc : Nat} {ag : Option Addr} {kg : Nat} {m : Int} (h : HAm w y ar kr ac kc ag kg m) :
    Calls Tryz.prog 23 #[setV y k d (.slice ar y.regs.length kr) (.slice ac y.cells.length kc) (.slice ag y.gray.length kg), .int .i64 1] w fun e w' => e = .returned (.int .i64 m) ∧ Ext w w' := by
  have xa := (Ext.refl w).alloc (.cells (setC y k d (.slice ar y.regs.length kr) (.slice ac y.cells.length kc) (.slice ag y.gray.length kg)) 39)
  have Q := hide (heldHA (h.ext xa))
  have XA := hide xa
  have hm0 : ¬ m < 0 := by have := h.nn; omega
  clear h xa
  go_enter Tryz.func23, Tryz.ntmps23
  go_wp2_with fail
  refine (unhide Q).mono ?_
  rintro e w1 ⟨rfl, q1⟩
  clear Q
  go_wp2_with fail
  go_ret
  exact ⟨rfl, (unhide XA).trans q1⟩
end Go.Proofs.YtddkhnclmeikfacGreat

namespace Go.Proofs.YtddkhnclmeikfacGreat
open Go.RowKit

/-! A set of cells as a map from pointers into one block. -/
abbrev ptr (bn p : Nat) : Value := .pointer (some ⟨bn, p, none⟩)

theorem run_sameAddr_block {P : Program} (w : World) (bn p q : Nat) : (sameAddr ⟨bn, p, none⟩ ⟨bn, q, none⟩).run P w = .ok (p == q) w := by
  have : ((⟨bn, p, none⟩ : Addr) == ⟨bn, q, none⟩) = (p == q) := by
    rw [Bool.eq_iff_iff]; simp
  simp [sameAddr, this]
theorem run_equalIn_ptr {P : Program} (w : World) (d : Nat) (t e : TypeId) (i : TypeInfo) (ht : P.underlying t = some (.pointer e)) (hi : P.info? e = some i) (hs : i.size ≠ 0) (bn p q : Nat) :
    (Op.equalIn (d + 1) t (ptr bn p) (ptr bn q)).run P w = .ok (p == q) w := by
  simp [Op.equalIn, run_underlying ht, sizeOf, typeInfo, hi, hs, run_sameAddr_block]
theorem run_equal_ptr {P : Program} (w : World) (t e : TypeId) (i : TypeInfo) (ht : P.underlying t = some (.pointer e)) (hi : P.info? e = some i) (hs : i.size ≠ 0) (bn p q : Nat) :
    (Op.equal t (ptr bn p) (ptr bn q)).run P w = .ok (p == q) w := run_equalIn_ptr w 9999 t e i ht hi hs bn p q

/-- the keys of the map, in their order -/
def KeysAre (bn : Nat) (Q : List Nat) (l : List MapEntry) : Prop := l.map (·.key) = Q.map (ptr bn) ∧ ∀ e, e ∈ l → e.val = .agg #[]
theorem find_ptr {P : Program} (w : World) (t e : TypeId) (i : TypeInfo) (ht : P.underlying t = some (.pointer e)) (hi : P.info? e = some i) (hs : i.size ≠ 0) (bn p : Nat) :
    ∀ (l : List MapEntry) (Q : List Nat) (k : Nat), KeysAre bn Q l → ∃ r, (Instr.findAsking t (ptr bn p) l k).run P w = .ok r w ∧ ((p ∈ Q ∧ ∃ j, r = some (j, .agg #[])) ∨ (¬ p ∈ Q ∧ r = none))
  | [], Q, k, h => by
    have : Q = [] := by simpa using h.1.symm
    subst this
    exact ⟨none, by simp [Instr.findAsking], .inr ⟨by simp, rfl⟩⟩
  | x :: l, Q, k, h => by
    cases Q with
    | nil => have := h.1; simp at this
    | cons q Q =>
      have h1 := h.1
      simp only [List.map_cons, List.cons.injEq] at h1
      have hv := h.2 x List.mem_cons_self
      by_cases e : p = q
      · subst e
        refine ⟨some (k, .agg #[]), ?_, .inl ⟨List.mem_cons_self, k, rfl⟩⟩
        simp [Instr.findAsking, h1.1, run_equal_ptr w t _ i ht hi hs, hv]
      · obtain ⟨r, hr, ho⟩ := find_ptr w t _ i ht hi hs bn p l Q (k + 1) ⟨h1.2, fun y hy => h.2 y (List.mem_cons_of_mem _ hy)⟩
        refine ⟨r, ?_, ?_⟩
        · simp [Instr.findAsking, h1.1, run_equal_ptr w t _ i ht hi hs, e, hr]
        · rcases ho with ⟨m, j⟩ | ⟨m, j⟩
          · exact .inl ⟨List.mem_cons_of_mem _ m, j⟩
          · exact .inr ⟨by simp [e, m], j⟩
theorem findNow_ptr (e : TypeId) (k : Value) (l : List MapEntry) : Instr.findNow (.pointer e) k l 0 = (if l = [] then some none else none) := by
  cases l with
  | nil => rfl
  | cons x l => simp [Instr.findNow, Instr.sameNow]
theorem findKey_ptr {P : Program} (w : World) (t e : TypeId) (i : TypeInfo) (ht : P.underlying t = some (.pointer e)) (hi : P.info? e = some i) (hs : i.size ≠ 0) (bn p : Nat) (l : List MapEntry) (Q : List Nat) (h : KeysAre bn Q l) :
    ∃ r, (Instr.findKey t (ptr bn p) l).run P w = .ok r w ∧ ((p ∈ Q ∧ ∃ j, r = some (j, .agg #[])) ∨ (¬ p ∈ Q ∧ r = none)) := by
  obtain ⟨r, hr, ho⟩ := find_ptr w t e i ht hi hs bn p l Q 0 h
  by_cases hl : l = []
  · subst hl
    have : Q = [] := by simpa using h.1.symm
    subst this
    exact ⟨none, by simp [Instr.findKey, run_underlying ht, findNow_ptr], .inr ⟨by simp, rfl⟩⟩
  · refine ⟨r, ?_, ho⟩
    simp [Instr.findKey, run_underlying ht, findNow_ptr, hl, hr]
theorem checkKeyN_ptr {P : Program} (w : World) (d : Nat) (t e : TypeId) (ht : P.underlying t = some (.pointer e)) (em : Bool) (v : Option Addr) : (Instr.checkKey em (d + 1) t (.pointer v)).run P w = .ok () w := by
  simp [Instr.checkKey, run_underlying ht]
theorem checkKey_ptr {P : Program} (w : World) (t e : TypeId) (ht : P.underlying t = some (.pointer e)) (em : Bool) (v : Option Addr) : (Instr.checkKey em 10000 t (.pointer v)).run P w = .ok () w := checkKeyN_ptr w 9999 t e ht em v

/-- the map in memory -/
structure MapAt (w : World) (r bn : Nat) (Q : List Nat) : Prop where
  mk' ::
  m : ∃ es clock, w.heap[r]? = some (.map es clock) ∧ KeysAre bn Q es.toList
theorem MapAt.block {w w' : World} {r bn : Nat} {Q : List Nat} (h : MapAt w r bn Q) (e : w'.heap[r]? = w.heap[r]?) : MapAt w' r bn Q := by
  obtain ⟨es, c, h1, h2⟩ := h.m
  exact ⟨es, c, e.trans h1, h2⟩

theorem MapAt.lookup {P : Program} {w : World} {r bn : Nat} {Q : List Nat} (h : MapAt w r bn Q) {mt t e et : TypeId} {i : TypeInfo} (hm : P.underlying mt = some (.map t et)) (ht : P.underlying t = some (.pointer e)) (hi : P.info? e = some i) (hs : i.size ≠ 0) (hz : ∀ w, (zeroValue et).run P w = .ok (.agg #[]) w) (p : Nat) :
    (Instr.lookup mt (.map (some r)) (ptr bn p) true).run P w = .ok (.tuple #[.agg #[], .bool (decide (p ∈ Q))]) w := by
  obtain ⟨es, c, h1, h2⟩ := h.m
  obtain ⟨f, hf, ho⟩ := findKey_ptr w t e i ht hi hs bn p es.toList Q h2
  rcases ho with ⟨m, j, rfl⟩ | ⟨m, rfl⟩
  · simp [Instr.lookup, run_underlying hm, MapKept.run_getObj_map h1, checkKey_ptr w t e ht, hf, m]
  · simp [Instr.lookup, run_underlying hm, MapKept.run_getObj_map h1, checkKey_ptr w t e ht, hf, m, hz]

/-- a new key -/
theorem MapAt.update {P : Program} {w : World} {r bn : Nat} {Q : List Nat} (h : MapAt w r bn Q) {mt t e et : TypeId} {i : TypeInfo} (hm : P.underlying mt = some (.map t et)) (ht : P.underlying t = some (.pointer e)) (hi : P.info? e = some i) (hs : i.size ≠ 0) (p : Nat) (hp : ¬ p ∈ Q) :
    ∃ w', (Instr.mapUpdate mt (.map (some r)) (ptr bn p) (.agg #[])).run P w = .ok () w' ∧ MapAt w' r bn (Q ++ [p]) ∧ w'.os = w.os ∧ w'.tape = w.tape ∧ w'.output = w.output ∧ w'.heap.size = w.heap.size ∧ (∀ k : Nat, k ≠ r → w'.heap[k]? = w.heap[k]?) := by
  obtain ⟨es, c, h1, h2⟩ := h.m
  obtain ⟨f, hf, ho⟩ := findKey_ptr w t e i ht hi hs bn p es.toList Q h2
  rcases ho with ⟨m, _⟩ | ⟨_, rfl⟩
  · exact (hp m).elim
  · have hlt : r < w.heap.size := by
      rcases Nat.lt_or_ge r w.heap.size with q | q
      · exact q
      · rw [Array.getElem?_eq_none q] at h1; cases h1
    refine ⟨{ w with heap := w.heap.setIfInBounds r (.map (es.push { key := ptr bn p, val := .agg #[], born := c }) (c + 1)) }, ?_, ⟨es.push { key := ptr bn p, val := .agg #[], born := c }, c + 1, ?_, ?_⟩, rfl, rfl, rfl, by simp, fun k hk => ?_⟩
    · simp [Instr.mapUpdate, run_underlying hm, MapKept.run_getObj_map h1, checkKey_ptr w t e ht, hf, MapKept.run_setObj_map _ h1]
    · show (w.heap.setIfInBounds r _)[r]? = _
      rw [Array.getElem?_setIfInBounds, if_pos rfl, if_pos hlt]
    · refine ⟨?_, fun y hy => ?_⟩
      · simp [h2.1]
      · simp at hy
        rcases hy with hy | hy
        · exact h2.2 y (by simpa using hy)
        · rw [hy]
    · show (w.heap.setIfInBounds r _)[k]? = _
      rw [Array.getElem?_setIfInBounds, if_neg (fun e => hk e.symm)]
end Go.Proofs.YtddkhnclmeikfacGreat

namespace Go.Proofs.YtddkhnclmeikfacGreat
open Go.RowKit
attribute [local go_sem ↓] Go.wp_at_zero Go.wp_at_succ

theorem cellSet_und : ∃ et, Tryz.prog.underlying 173 = some (.map 95 et) ∧ ∀ w, (zeroValue et).run Tryz.prog w = .ok (.agg #[]) w := ⟨_, Tryz.underlying173, fun _ => by kernel_rfl⟩
theorem node_und : Tryz.prog.underlying 95 = some (.pointer 99) := Tryz.underlying95
theorem infoNodeP : (Tryz.prog.info? 95).map (fun i => (i.zero, i.size, i.bytes)) = some (some (.pointer none), 1, 8) := by kernel_rfl

theorem has_any (r bn p : Nat) (Q : List Nat) (w : World) (h : MapAt w r bn Q) :
    Calls Tryz.prog 121 #[.map (some r), ptr bn p] w fun e w' => e = .returned (.bool (decide (p ∈ Q))) ∧ Ext w w' := by
  obtain ⟨et, hu, hz⟩ := cellSet_und
  obtain ⟨i0, hi, _, hz1, _⟩ := info_parts infoNodes
  have hlk := h.lookup hu node_und hi (by rw [hz1]; omega) hz p
  clear hu hz hi hz1 h
  obtain ⟨ans, ha⟩ : ∃ a, decide (p ∈ Q) = a := ⟨_, rfl⟩
  rw [ha] at hlk ⊢
  clear ha
  go_enter Tryz.func121, Tryz.ntmps121
  go_wp2_with fail
  go_ret
  exact ⟨rfl, (Ext.refl w).alloc _⟩

/-- the program's walk: its set of cells that were met, its stack -/
structure WkAt (w : World) (base bw bv r1 bn on n : Nat) (v : Value) (Mt St : List Nat) : Prop where
  c0 : w.cell? ⟨bw, 0, none⟩ = some (.pointer (some ⟨bv, 0, none⟩))
  c1 : w.cell? ⟨bw, 1, none⟩ = some (.map (some r1))
  c2 : w.cell? ⟨bw, 2, none⟩ = some v
  f2 : w.frozen? ⟨bw, 2, none⟩ = false
  m : MapAt w r1 bn (Mt.map (fun i => on + i * 2))
  s : w.ownsRow base 95 1 v St.length (St.map (fun i => ptr bn (on + i * 2)))
  a1 : v.ownBlock ≠ some bw
  a2 : v.ownBlock ≠ some r1
  a3 : bw ≠ r1
  b1 : base ≤ bw
  b2 : base ≤ r1
  sub : ∀ i, i ∈ St → i ∈ Mt
  nd : Mt.Nodup
  nds : St.Nodup
  rg : ∀ i, i ∈ Mt → i < n

/-- what a step of the walk leaves as it was -/
structure KFr (bw r1 : Nat) (v v' : Value) (w w' : World) : Prop where
  os : w'.os = w.os
  tape : w'.tape = w.tape
  output : w'.output = w.output
  size : w.heap.size ≤ w'.heap.size
  block : ∀ k : Nat, k < w.heap.size → k ≠ bw → k ≠ r1 → v.ownBlock ≠ some k → w'.heap[k]? = w.heap[k]?
  own : v'.ownBlock = v.ownBlock ∨ ∃ g, v'.ownBlock = some g ∧ w.heap.size ≤ g
  keep : ∀ o u, o ≠ 2 → w.cell? ⟨bw, o, none⟩ = some u → w'.cell? ⟨bw, o, none⟩ = some u
theorem KFr.of_ext {bw r1 : Nat} {v : Value} {w w' : World} (e : Ext w w') : KFr bw r1 v v w w' := ⟨e.os, e.tape, e.output, e.size, fun k hk _ _ _ => e.block k hk, .inl rfl, fun _ _ _ h => e.keep h⟩
theorem KFr.trans {bw r1 : Nat} {v v1 v2 : Value} {w w1 w2 : World} (h : KFr bw r1 v v1 w w1) (k : KFr bw r1 v1 v2 w1 w2) : KFr bw r1 v v2 w w2 :=
  ⟨k.os.trans h.os, k.tape.trans h.tape, k.output.trans h.output, Nat.le_trans h.size k.size,
    fun i hi h1 h2 hv => (k.block i (Nat.lt_of_lt_of_le hi h.size) h1 h2 (fun e => by
      rcases h.own with q | ⟨g, q, hg⟩
      · rw [q] at e; exact hv e
      · rw [q] at e; cases e; omega)).trans (h.block i hi h1 h2 hv), by
      rcases k.own with q | ⟨g, q, hg⟩
      · rcases h.own with q2 | ⟨g, q2, hg⟩
        · exact .inl (q.trans q2)
        · exact .inr ⟨g, q.trans q2, hg⟩
      · exact .inr ⟨g, q, Nat.le_trans h.size hg⟩, fun o u ho hc => k.keep o u ho (h.keep o u ho hc)⟩
theorem WkAt.rlt {w : World} {base bw bv r1 bn on n : Nat} {v : Value} {Mt St : List Nat} (h : WkAt w base bw bv r1 bn on n v Mt St) : bw < w.heap.size ∧ r1 < w.heap.size := by
  refine ⟨cell_lt h.c0, ?_⟩
  obtain ⟨es, c, h1, _⟩ := h.m.m
  rcases Nat.lt_or_ge r1 w.heap.size with q | q
  · exact q
  · rw [Array.getElem?_eq_none q] at h1; cases h1
theorem WkAt.ext {w w' : World} {base bw bv r1 bn on n : Nat} {v : Value} {Mt St : List Nat} (h : WkAt w base bw bv r1 bn on n v Mt St) (e : Ext w w') : WkAt w' base bw bv r1 bn on n v Mt St :=
  ⟨e.keep h.c0, e.keep h.c1, e.keep h.c2, by rw [e.frozen (p := ⟨bw, 2, none⟩) h.rlt.1]; exact h.f2, h.m.block (e.block r1 h.rlt.2), ownsRow_of_block h.s (fun k hk => e.block k (h.s.lt k hk).2), h.a1, h.a2, h.a3, h.b1, h.b2, h.sub, h.nd, h.nds, h.rg⟩
theorem WkAt.kext {a w w' : World} {bw bv r1 bn on n : Nat} {v v' : Value} {Mt St : List Nat} (h : WkAt w a.heap.size bw bv r1 bn on n v Mt St) (q : KFr bw r1 v v' w w') (e : Ext a w) : Ext a w' :=
  Below.trans e ⟨q.os, q.tape, q.output, q.size, fun k hk => q.block k (Nat.lt_of_lt_of_le hk e.size) (by have := h.b1; omega) (by have := h.b2; omega) (fun f => by have := (h.s.lt k f).1; omega)⟩
theorem WkAt.len {w : World} {base bw bv r1 bn on n : Nat} {v : Value} {Mt St : List Nat} (h : WkAt w base bw bv r1 bn on n v Mt St) : Mt.length ≤ n ∧ St.length ≤ n := by
  have key : ∀ L : List Nat, L.Nodup → (∀ i, i ∈ L → i < n) → L.length ≤ n := fun L hn hr => by
    have := List.Nodup.length_le_of_subset hn (fun z hz => List.mem_range.2 (hr z hz))
    simpa using this
  exact ⟨key _ h.nd h.rg, key _ h.nds (fun i hi => h.rg i (h.sub i hi))⟩
theorem mem_off {on i : Nat} {Mt : List Nat} : on + i * 2 ∈ Mt.map (fun i => on + i * 2) ↔ i ∈ Mt := by
  simp only [List.mem_map]
  constructor
  · rintro ⟨j, hj, e⟩
    have : j = i := by omega
    rw [← this]; exact hj
  · intro h; exact ⟨i, h, rfl⟩
/-- one more is met: the set's store, then the stack's -/
theorem WkAt.add {w w1 w2 : World} {base bw bv r1 bn on n g cap i : Nat} {v : Value} {Mt St : List Nat} {o : Obj} (h : WkAt w base bw bv r1 bn on n v Mt St) (hi : i < n) (hm : ¬ i ∈ Mt)
    (hm1 : MapAt w1 r1 bn (Mt.map (fun i => on + i * 2) ++ [on + i * 2])) (hos : w1.os = w.os) (ht : w1.tape = w.tape) (hou : w1.output = w.output) (hsz : w1.heap.size = w.heap.size) (hbl : ∀ k : Nat, k ≠ r1 → w1.heap[k]? = w.heap[k]?)
    (hown : w2.ownsRow base 95 1 (.slice (some ⟨g, 0, none⟩) (St.length + 1) cap) (St.length + 1) (St.map (fun i => ptr bn (on + i * 2)) ++ [ptr bn (on + i * 2)])) (hg : (w1.alloc o).grownBy w2 v.ownBlock) (hat : v.ownBlock = some g ∨ g = w1.heap.size + 1) :
    WkAt (w2.setCell ⟨bw, 2, none⟩ (.slice (some ⟨g, 0, none⟩) (St.length + 1) cap)) base bw bv r1 bn on n (.slice (some ⟨g, 0, none⟩) (St.length + 1) cap) (Mt ++ [i]) (St ++ [i]) ∧
    KFr bw r1 v (.slice (some ⟨g, 0, none⟩) (St.length + 1) cap) w (w2.setCell ⟨bw, 2, none⟩ (.slice (some ⟨g, 0, none⟩) (St.length + 1) cap)) ∧ w2.cell? ⟨bw, 2, none⟩ = some v ∧ w2.frozen? ⟨bw, 2, none⟩ = false := by
  have hr := h.rlt
  have hs1 : w1.heap.size + 1 ≤ w2.heap.size := by have := hg.size; simpa using this
  have blk : ∀ k : Nat, k < w1.heap.size → v.ownBlock ≠ some k → w2.heap[k]? = w1.heap[k]? := fun k hk hv => (hg.block k (by simp; omega) (fun e => hv e.symm)).trans (Below.heap_alloc w1 o k hk)
  have hbw : w2.heap[bw]? = w.heap[bw]? := (blk bw (by omega) h.a1).trans (hbl bw h.a3)
  have hgb : g ≠ bw ∧ g ≠ r1 := by
    rcases hat with e | e
    · exact ⟨fun q => h.a1 (q ▸ e), fun q => h.a2 (q ▸ e)⟩
    · omega
  have cc : ∀ o' v', w.cell? ⟨bw, o', none⟩ = some v' → w2.cell? ⟨bw, o', none⟩ = some v' := fun o' v' hc => (World.cell?_of_block (a := ⟨bw, o', none⟩) hbw).trans hc
  have hc2 := cc 2 _ h.c2
  have hf2 : w2.frozen? ⟨bw, 2, none⟩ = false := (World.frozen?_of_block (a := ⟨bw, 2, none⟩) hbw).trans h.f2
  refine ⟨⟨?_, ?_, World.cell?_setCell_same _ _ _ hc2, by rw [World.frozen?_setCell]; exact hf2, ?_, ?_, fun e => hgb.1 (by simpa [Value.ownBlock] using e), fun e => hgb.2 (by simpa [Value.ownBlock] using e), h.a3, h.b1, h.b2, ?_, ?_, ?_, ?_⟩, ⟨?_, ?_, ?_, ?_, fun k hk h1 h2 h3 => ?_, ?_, fun o u ho hc => (cell_other _ (.inr (fun e => ho e.symm))).trans (cc o u hc)⟩, hc2, hf2⟩
  · rw [cell_other _ (.inr (by omega))]; exact cc 0 _ h.c0
  · rw [cell_other _ (.inr (by omega))]; exact cc 1 _ h.c1
  · refine MapAt.block (w := w1) (by simpa using hm1) ?_
    rw [Below.heap_setCell _ _ _ _ (show r1 ≠ bw from fun e => h.a3 e.symm)]
    exact blk r1 (by omega) h.a2
  · refine ownsRow_of_block (by simpa using hown) (fun k hk => Below.heap_setCell _ _ _ _ ?_)
    simp [Value.ownBlock] at hk
    show k ≠ bw
    omega
  · intro j hj
    rcases List.mem_append.1 hj with q | q
    · exact List.mem_append_left _ (h.sub j q)
    · exact List.mem_append_right _ q
  · rw [List.nodup_append]; exact ⟨h.nd, by simp, fun a ha b hb => by simp at hb; rw [hb]; intro e; exact hm (e ▸ ha)⟩
  · rw [List.nodup_append]; exact ⟨h.nds, by simp, fun a ha b hb => by simp at hb; rw [hb]; intro e; exact hm (e ▸ h.sub a ha)⟩
  · intro j hj
    rcases List.mem_append.1 hj with q | q
    · exact h.rg j q
    · simp at q; omega
  · exact (hg.os.trans rfl).trans hos
  · exact (hg.tape.trans rfl).trans ht
  · exact (hg.output.trans rfl).trans hou
  · have : (w2.setCell ⟨bw, 2, none⟩ (.slice (some ⟨g, 0, none⟩) (St.length + 1) cap)).heap.size = w2.heap.size := by simp [World.setCell]
    omega
  · rw [Below.heap_setCell _ _ _ _ (show k ≠ bw from h1), blk k (by omega) h3]; exact hbl k h2
  · rcases hat with e | e
    · exact .inl e.symm
    · exact .inr ⟨g, rfl, by omega⟩
end Go.Proofs.YtddkhnclmeikfacGreat
