import Derived.Test.YtkabcfhemljnbaaGreatWk
import Derived.Test.YtkabcfhemljnbaaGreatLiveI
import Derived.Test.YtkabcfhemljnbaaGreatL2h
import Derived.Deep.RegionLaw
import Derived.Laws.StructEq
import Derived.Deep.RegionWith
import Derived.Deep.DeepCutAuto
namespace Go.Proofs.YtkabcfhemljnbaaGreat
open Go.RowKit

/-! A map from pointers into one block to slices. -/
/-- the entries are those of Q, each with the value that f gives it -/
def EntAre (bn on : Nat) (f : Nat → Value) (Q : List Nat) (l : List MapEntry) : Prop := l.map (fun e => (e.key, e.val)) = Q.map (fun k => (ptr bn (on + k * 2), f k))
theorem findF {P : Program} (w : World) (t e : TypeId) (i : TypeInfo) (ht : P.underlying t = some (.pointer e)) (hi : P.info? e = some i) (hs : i.size ≠ 0) (bn on : Nat) (f : Nat → Value) (k : Nat) :
    ∀ (l : List MapEntry) (Q : List Nat) (m : Nat), EntAre bn on f Q l → ∃ r, (Instr.findAsking t (ptr bn (on + k * 2)) l m).run P w = .ok r w ∧ ((∃ j, r = some (m + j, f k) ∧ Q[j]? = some k) ∨ (¬ k ∈ Q ∧ r = none))
  | [], Q, m, h => by
    have : Q = [] := by simpa [EntAre] using h.symm
    subst this
    exact ⟨none, by simp [Instr.findAsking], .inr ⟨by simp, rfl⟩⟩
  | x :: l, Q, m, h => by
    cases Q with
    | nil => simp [EntAre] at h
    | cons q Q =>
      simp only [EntAre, List.map_cons, List.cons.injEq, Prod.mk.injEq] at h
      obtain ⟨⟨h1, h2⟩, h3⟩ := h
      by_cases e : k = q
      · subst e
        refine ⟨some (m, f k), ?_, .inl ⟨0, rfl, rfl⟩⟩
        simp [Instr.findAsking, h1, run_equal_ptr w t _ i ht hi hs, h2]
      · obtain ⟨r, hr, ho⟩ := findF w t _ i ht hi hs bn on f k l Q (m + 1) h3
        have ne : ¬ (k * 2 = q * 2) := by omega
        refine ⟨r, ?_, ?_⟩
        · simp [Instr.findAsking, h1, run_equal_ptr w t _ i ht hi hs, ne, hr]
        · rcases ho with ⟨j, hj, hq⟩ | ⟨n, hj⟩
          · exact .inl ⟨j + 1, by rw [hj]; congr 2; omega, by simpa using hq⟩
          · exact .inr ⟨by simp [e, n], hj⟩
theorem findKeyF {P : Program} (w : World) (t e : TypeId) (i : TypeInfo) (ht : P.underlying t = some (.pointer e)) (hi : P.info? e = some i) (hs : i.size ≠ 0) (bn on : Nat) (f : Nat → Value) (k : Nat) (l : List MapEntry) (Q : List Nat) (h : EntAre bn on f Q l) :
    ∃ r, (Instr.findKey t (ptr bn (on + k * 2)) l).run P w = .ok r w ∧ ((∃ j, r = some (j, f k) ∧ Q[j]? = some k) ∨ (¬ k ∈ Q ∧ r = none)) := by
  obtain ⟨r, hr, ho⟩ := findF w t e i ht hi hs bn on f k l Q 0 h
  by_cases hl : l = []
  · subst hl
    have : Q = [] := by simpa [EntAre] using h.symm
    subst this
    exact ⟨none, by simp [Instr.findKey, run_underlying ht, findNow_ptr], .inr ⟨by simp, rfl⟩⟩
  · refine ⟨r, ?_, by simpa using ho⟩
    simp [Instr.findKey, run_underlying ht, findNow_ptr, hl, hr]

/-- the map in memory: f says what it holds -/
structure MapF (w : World) (r bn on : Nat) (f : Nat → Value) : Prop where
  mk' ::
  m : ∃ es clock Q, w.heap[r]? = some (.map es clock) ∧ EntAre bn on f Q es.toList ∧ Q.Nodup ∧ ∀ k, ¬ k ∈ Q → f k = .slice none 0 0
theorem MapF.block {w w' : World} {r bn on : Nat} {f : Nat → Value} (h : MapF w r bn on f) (e : w'.heap[r]? = w.heap[r]?) : MapF w' r bn on f := by
  obtain ⟨es, c, Q, h1, h2⟩ := h.m
  exact ⟨es, c, Q, e.trans h1, h2⟩
theorem MapF.lt {w : World} {r bn on : Nat} {f : Nat → Value} (h : MapF w r bn on f) : r < w.heap.size := by
  obtain ⟨es, c, Q, h1, _⟩ := h.m
  rcases Nat.lt_or_ge r w.heap.size with q | q
  · exact q
  · rw [Array.getElem?_eq_none q] at h1; cases h1
theorem MapF.lookup {P : Program} {w : World} {r bn on : Nat} {f : Nat → Value} (h : MapF w r bn on f) {mt t e et : TypeId} {i : TypeInfo} (hm : P.underlying mt = some (.map t et)) (ht : P.underlying t = some (.pointer e)) (hi : P.info? e = some i) (hs : i.size ≠ 0) (hz : ∀ w, (zeroValue et).run P w = .ok (.slice none 0 0) w) (k : Nat) :
    (Instr.lookup mt (.map (some r)) (ptr bn (on + k * 2)) false).run P w = .ok (f k) w := by
  obtain ⟨es, c, Q, h1, h2, h3, h4⟩ := h.m
  obtain ⟨g, hg, ho⟩ := findKeyF w t e i ht hi hs bn on f k es.toList Q h2
  rcases ho with ⟨j, rfl, hj⟩ | ⟨n, rfl⟩
  · simp [Instr.lookup, run_underlying hm, MapKept.run_getObj_map h1, checkKey_ptr w t e ht, hg]
  · simp [Instr.lookup, run_underlying hm, MapKept.run_getObj_map h1, checkKey_ptr w t e ht, hg, hz, h4 k n]

theorem EntAre.at {bn on : Nat} {f : Nat → Value} {Q : List Nat} {l : List MapEntry} (h : EntAre bn on f Q l) (i : Nat) : (l[i]?).map (fun e => (e.key, e.val)) = (Q[i]?).map (fun k => (ptr bn (on + k * 2), f k)) := by
  rw [← List.getElem?_map, ← List.getElem?_map, h]
theorem MapF.update {P : Program} {w : World} {r bn on : Nat} {f : Nat → Value} (h : MapF w r bn on f) {mt t e et : TypeId} {i : TypeInfo} (hm : P.underlying mt = some (.map t et)) (ht : P.underlying t = some (.pointer e)) (hi : P.info? e = some i) (hs : i.size ≠ 0) (k : Nat) (v : Value) :
    ∃ w', (Instr.mapUpdate mt (.map (some r)) (ptr bn (on + k * 2)) v).run P w = .ok () w' ∧ MapF w' r bn on (fun q => if q = k then v else f q) ∧ w'.os = w.os ∧ w'.tape = w.tape ∧ w'.output = w.output ∧ w'.heap.size = w.heap.size ∧ (∀ q : Nat, q ≠ r → w'.heap[q]? = w.heap[q]?) := by
  have hlt := h.lt
  obtain ⟨es, c, Q, h1, h2, h3, h4⟩ := h.m
  obtain ⟨g, hg, ho⟩ := findKeyF w t e i ht hi hs bn on f k es.toList Q h2
  rcases ho with ⟨j, rfl, hj⟩ | ⟨n, rfl⟩
  · have hat := h2.at j
    rw [hj] at hat
    obtain ⟨en, hen⟩ : ∃ en, es.toList[j]? = some en := by
      cases q : es.toList[j]? with
      | none => rw [q] at hat; simp at hat
      | some en => exact ⟨en, rfl⟩
    have hen2 : es[j]? = some en := by simpa using hen
    rw [hen] at hat
    simp only [Option.map_some, Option.some.injEq, Prod.mk.injEq] at hat
    refine ⟨{ w with heap := w.heap.setIfInBounds r (.map (es.modify j fun e => { e with key := ptr bn (on + k * 2), val := v }) c) }, ?_, ⟨es.modify j fun e => { e with key := ptr bn (on + k * 2), val := v }, c, Q, ?_, ?_, h3, fun q hq => ?_⟩, rfl, rfl, rfl, by simp, fun q hq => ?_⟩
    · simp [Instr.mapUpdate, run_underlying hm, MapKept.run_getObj_map h1, checkKey_ptr w t e ht, hg, MapKept.run_setObj_map _ h1, hen2, hat.1, Instr.keyThatStays, Instr.sameBits]
    · show (w.heap.setIfInBounds r _)[r]? = _
      rw [Array.getElem?_setIfInBounds, if_pos rfl, if_pos hlt]
    · unfold EntAre
      apply List.ext_getElem?
      intro m
      rw [List.getElem?_map, List.getElem?_map, Array.toList_modify, List.getElem?_modify]
      have hm2 := h2.at m
      by_cases em : j = m
      · subst em
        rw [hj, hen]
        simp
      · cases qm : Q[m]? with
        | none => rw [qm] at hm2; simp at hm2; simp [em, hm2]
        | some q =>
          rw [qm] at hm2
          have nq : q ≠ k := fun e => by
            subst e
            have := (List.getElem?_inj (i := j) (j := m) (l := Q) (by
              rcases Nat.lt_or_ge j Q.length with z | z
              · exact z
              · rw [List.getElem?_eq_none z] at hj; cases hj) h3).1 (by rw [hj, qm])
            exact em this
          simp only [em, if_false, nq, Option.map_some]
          simpa using hm2
    · rw [if_neg (fun e => by subst e; exact hq (List.mem_of_getElem? hj))]; exact h4 q hq
    · show (w.heap.setIfInBounds r _)[q]? = _
      rw [Array.getElem?_setIfInBounds, if_neg (fun e => hq e.symm)]
  · refine ⟨{ w with heap := w.heap.setIfInBounds r (.map (es.push { key := ptr bn (on + k * 2), val := v, born := c }) (c + 1)) }, ?_, ⟨es.push { key := ptr bn (on + k * 2), val := v, born := c }, c + 1, Q ++ [k], ?_, ?_, ?_, fun q hq => ?_⟩, rfl, rfl, rfl, by simp, fun q hq => ?_⟩
    · simp [Instr.mapUpdate, run_underlying hm, MapKept.run_getObj_map h1, checkKey_ptr w t e ht, hg, MapKept.run_setObj_map _ h1]
    · show (w.heap.setIfInBounds r _)[r]? = _
      rw [Array.getElem?_setIfInBounds, if_pos rfl, if_pos hlt]
    · unfold EntAre
      have e2 : Q.map (fun q => (ptr bn (on + q * 2), if q = k then v else f q)) = Q.map (fun q => (ptr bn (on + q * 2), f q)) := List.map_congr_left (fun q hq => by rw [if_neg (show ¬ q = k from fun z => n (z ▸ hq))])
      have h2' : es.toList.map (fun e => (e.key, e.val)) = Q.map (fun k => (ptr bn (on + k * 2), f k)) := h2
      simp [e2, h2']
    · rw [List.nodup_append]; exact ⟨h3, by simp, fun a ha b hb => by simp at hb; rw [hb]; intro e; exact n (e ▸ ha)⟩
    · simp only [List.mem_append, List.mem_singleton, not_or] at hq
      rw [if_neg hq.2]; exact h4 q hq.1
    · show (w.heap.setIfInBounds r _)[q]? = _
      rw [Array.getElem?_setIfInBounds, if_neg (fun e => hq e.symm)]
end Go.Proofs.YtkabcfhemljnbaaGreat

namespace Go.Proofs.YtkabcfhemljnbaaGreat
open Go.RowKit
attribute [local go_sem ↓] Go.wp_at_zero Go.wp_at_succ

/-- a pointer to a node, or none -/
def pv (bn on : Nat) (o : Option Nat) : Value := match o with | none => .pointer none | some i => ptr bn (on + i * 2)
theorem pv_none {bn on : Nat} : pv bn on none = .pointer none := rfl
theorem pv_some {bn on i : Nat} : pv bn on (some i) = ptr bn (on + i * 2) := rfl
/-- the node that a word leads to -/
def wo (x : Hp) (y : Wd) : Option Nat := if y.k = 2 then some (tgt x y) else none

/-- a step of the walk: Q says what may come -/
structure Grow (Q : Nat → Prop) (Mt Mt' St St' : List Nat) : Prop where
  m : ∀ i, i ∈ Mt → i ∈ Mt'
  s : ∀ i, i ∈ St → i ∈ St'
  n : ∀ i, i ∈ Mt' → i ∈ Mt ∨ (Q i ∧ i ∈ St')
  w : 2 * Mt.length + St'.length ≤ 2 * Mt'.length + St.length
  l : Mt.length ≤ Mt'.length
theorem Grow.refl {Q : Nat → Prop} {Mt St : List Nat} : Grow Q Mt Mt St St := ⟨fun _ h => h, fun _ h => h, fun _ h => .inl h, Nat.le_refl _, Nat.le_refl _⟩
theorem Grow.trans {Q : Nat → Prop} {M1 M2 M3 S1 S2 S3 : List Nat} (h : Grow Q M1 M2 S1 S2) (k : Grow Q M2 M3 S2 S3) : Grow Q M1 M3 S1 S3 :=
  ⟨fun i hi => k.m i (h.m i hi), fun i hi => k.s i (h.s i hi), fun i hi => by
    rcases k.n i hi with q | q
    · rcases h.n i q with r | ⟨r, s⟩
      · exact .inl r
      · exact .inr ⟨r, k.s i s⟩
    · exact .inr q, by have := h.w; have := k.w; omega, Nat.le_trans h.l k.l⟩
theorem Grow.mono {Q Q' : Nat → Prop} {M1 M2 S1 S2 : List Nat} (h : Grow Q M1 M2 S1 S2) (hq : ∀ i, Q i → Q' i) : Grow Q' M1 M2 S1 S2 :=
  ⟨h.m, h.s, fun i hi => by
    rcases h.n i hi with q | ⟨q, r⟩
    · exact .inl q
    · exact .inr ⟨hq i q, r⟩, h.w, h.l⟩
theorem grow_meet {Mt Mt' St St' : List Nat} {i : Nat} (a : (i ∈ Mt ∧ Mt' = Mt ∧ St' = St) ∨ (¬ i ∈ Mt ∧ Mt' = Mt ++ [i] ∧ St' = St ++ [i])) : Grow (fun q => q = i) Mt Mt' St St' ∧ i ∈ Mt' := by
  rcases a with ⟨m, rfl, rfl⟩ | ⟨m, rfl, rfl⟩
  · exact ⟨Grow.refl, m⟩
  · refine ⟨⟨fun j hj => List.mem_append_left _ hj, fun j hj => List.mem_append_left _ hj, fun j hj => ?_, by simp; omega, by simp⟩, by simp⟩
    rcases List.mem_append.1 hj with q | q
    · exact .inl q
    · simp at q; exact .inr ⟨q, by simp [q]⟩

/-- meet, of a pointer or none -/
theorem meet_opt (base bw bv r1 bn on n : Nat) (o : Option Nat) (v : Value) (Mt St : List Nat) (w : World) (h : WkAt w base bw bv r1 bn on n v Mt St) (ho : ∀ i, o = some i → i < n) (hb : base ≤ w.heap.size) (hn8 : n ≤ 8000) :
    Calls Tryz.prog 104 #[.pointer (some ⟨bw, 0, none⟩), pv bn on o] w fun e w' => e = .returned (.tuple #[]) ∧ ∃ v' Mt' St', WkAt w' base bw bv r1 bn on n v' Mt' St' ∧ Hid (Grow (fun i => o = some i) Mt Mt' St St' ∧ ∀ i, o = some i → i ∈ Mt') ∧ KFr bw r1 v v' w w' := by
  cases o with
  | none => exact (meet_nil bw w).mono fun _ _ ⟨he, hw⟩ => by subst hw; exact ⟨he, v, Mt, St, h, ⟨Grow.refl, fun i e => by cases e⟩, KFr.of_ext (Ext.refl _)⟩
  | some i => exact (meet_any base bw bv r1 bn on n i v Mt St w h (ho i rfl) hb hn8).mono fun _ _ ⟨he, v', M', S', hw, ha, hk⟩ => ⟨he, v', M', S', hw, ⟨(grow_meet (unhide ha)).1.mono (fun q e => by rw [e]), fun j e => by cases e; exact (grow_meet (unhide ha)).2⟩, hk⟩

theorem follow_o (x : Hp) (y : Wd) (b : Nat) (w : World) {ar : Option Addr} {kr : Nat} {ac : Option Addr} {kc : Nat} {ag : Option Addr} {kg : Nat} {kn : Nat} (bn on : Nat) (h : VAt w b x ar kr ac kc ag kg (some ⟨bn, on, none⟩) kn) (r2 : R2 x) (hy : MayMark x y) :
    Calls Tryz.prog 106 #[.pointer (some ⟨b, 0, none⟩), y.v] w fun e w' => Hid (e = .returned (pv bn on (wo x y))) ∧ Ext w w' :=
  (follow_any x y b w bn on h r2 hy).mono fun _ _ ⟨t, he, ht, hx⟩ => ⟨by
    rcases ht with ⟨k, e⟩ | ⟨k, e⟩
    · rw [unhide he, e, wo, if_neg k]; rfl
    · rw [unhide he, e, wo, if_pos k]; rfl, hx⟩
theorem wo_lt {x : Hp} {y : Wd} (hy : MayMark x y) (i : Nat) (h : wo x y = some i) : i < x.cells.length ∧ y.k = 2 ∧ i = tgt x y := by
  unfold wo at h
  split at h
  · rename_i k
    cases h
    exact ⟨(hy k).2.2.2.2.1, k, rfl⟩
  · cases h

/-- the values that wait for a key: f the slices, g what they hold -/
structure WtAt (w : World) (base bw r1 r2 bn on : Nat) (v : Value) (f : Nat → Value) (g : Nat → List (Option Nat)) : Prop where
  c3 : w.cell? ⟨bw, 3, none⟩ = some (Value.map (some r2))
  m : MapF w r2 bn on f
  row : ∀ k, w.ownsRow base 103 1 (f k) (g k).length ((g k).map (pv bn on))
  dis : ∀ k k' b, k ≠ k' → (f k).ownBlock = some b → (f k').ownBlock ≠ some b
  av : ∀ k b, (f k).ownBlock = some b → v.ownBlock ≠ some b
  a1 : ∀ k, (f k).ownBlock ≠ some bw
  a2 : ∀ k, (f k).ownBlock ≠ some r1
  a3 : ∀ k, (f k).ownBlock ≠ some r2
  n1 : r2 ≠ bw
  n2 : r2 ≠ r1
  n3 : v.ownBlock ≠ some r2
  b2 : base ≤ r2
theorem WtAt.ext {w w' : World} {base bw r1 r2 bn on : Nat} {v : Value} {f : Nat → Value} {g : Nat → List (Option Nat)} (h : WtAt w base bw r1 r2 bn on v f g) (e : Ext w w') : WtAt w' base bw r1 r2 bn on v f g :=
  ⟨e.keep h.c3, h.m.block (e.block r2 h.m.lt), fun k => ownsRow_of_block (h.row k) (fun b hb => e.block b ((h.row k).lt b hb).2), h.dis, h.av, h.a1, h.a2, h.a3, h.n1, h.n2, h.n3, h.b2⟩
theorem WtAt.step {w w' : World} {base bw r1 r2 bn on : Nat} {v v' : Value} {f : Nat → Value} {g : Nat → List (Option Nat)} (h : WtAt w base bw r1 r2 bn on v f g) (k : KFr bw r1 v v' w w') : WtAt w' base bw r1 r2 bn on v' f g := by
  refine ⟨k.keep 3 _ (by omega) h.c3, h.m.block (k.block r2 h.m.lt h.n1 h.n2 h.n3), fun q => ownsRow_of_block (h.row q) (fun b hb => k.block b ((h.row q).lt b hb).2 (fun e => h.a1 q (e ▸ hb)) (fun e => h.a2 q (e ▸ hb)) (h.av q b hb)), h.dis, fun q b hb e => ?_, h.a1, h.a2, h.a3, h.n1, h.n2, fun e => ?_, h.b2⟩
  · rcases k.own with o | ⟨y, o, hy⟩
    · rw [o] at e; exact h.av q b hb e
    · rw [o] at e; cases e; have := ((h.row q).lt b hb).2; omega
  · rcases k.own with o | ⟨y, o, hy⟩
    · rw [o] at e; exact h.n3 e
    · rw [o] at e; cases e; have := h.m.lt; omega
theorem ownsRow_form {w : World} {base n : Nat} {t : TypeId} {v : Value} {xs : List Value} (h : w.ownsRow base t 1 v n xs) : ∃ ad cap, v = .slice ad n cap ∧ (0 < n → ∃ gb, ad = some ⟨gb, 0, none⟩) := by
  rcases h.2 with ⟨h0, h1⟩ | ⟨g, cap, cur, h0, _⟩
  · subst h1; exact ⟨none, 0, h0, fun q => by omega⟩
  · exact ⟨_, cap, h0, fun _ => ⟨g, rfl⟩⟩
/-- one more waits for k -/
theorem WtAt.wait {w W w2 w3 : World} {base bw bv r1 r2 bn on n gb cap k : Nat} {v : Value} {f : Nat → Value} {g : Nat → List (Option Nat)} {Mt St : List Nat} {o : Option Nat} {ob : Obj} (hk : WkAt w base bw bv r1 bn on n v Mt St) (h : WtAt w base bw r1 r2 bn on v f g) (hWh : W.heap = (w.alloc ob).heap) (hWo : W.os = w.os) (hWt : W.tape = w.tape) (hWu : W.output = w.output)
    (hown : w2.ownsRow base 103 1 (.slice (some ⟨gb, 0, none⟩) ((g k).length + 1) cap) ((g k).length + 1) ((g k).map (pv bn on) ++ [pv bn on o])) (hg : W.grownBy w2 (f k).ownBlock) (hat : (f k).ownBlock = some gb ∨ gb = W.heap.size)
    (hm : MapF w3 r2 bn on (fun q => if q = k then .slice (some ⟨gb, 0, none⟩) ((g k).length + 1) cap else f q)) (hos : w3.os = w2.os) (ht : w3.tape = w2.tape) (hou : w3.output = w2.output) (hsz : w3.heap.size = w2.heap.size) (hbl : ∀ q : Nat, q ≠ r2 → w3.heap[q]? = w2.heap[q]?) :
    WkAt w3 base bw bv r1 bn on n v Mt St ∧ WtAt w3 base bw r1 r2 bn on v (fun q => if q = k then .slice (some ⟨gb, 0, none⟩) ((g k).length + 1) cap else f q) (fun q => if q = k then g k ++ [o] else g q) ∧ (∀ a : World, a.heap.size = base → Ext a w → Ext a w3) := by
  have hr := hk.rlt
  have hWs : W.heap.size = w.heap.size + 1 := by rw [hWh]; simp
  have hs1 : w.heap.size + 1 ≤ w2.heap.size := by have := hg.size; omega
  have blk : ∀ b : Nat, b < w.heap.size → (f k).ownBlock ≠ some b → w2.heap[b]? = w.heap[b]? := fun b hb hv => (hg.block b (by omega) (fun e => hv e.symm)).trans (by rw [hWh]; exact Below.heap_alloc w ob b hb)
  have blk3 : ∀ b : Nat, b < w.heap.size → (f k).ownBlock ≠ some b → b ≠ r2 → w3.heap[b]? = w.heap[b]? := fun b hb hv hn => (hbl b hn).trans (blk b hb hv)
  have hgb : gb ≠ bw ∧ gb ≠ r1 ∧ gb ≠ r2 ∧ v.ownBlock ≠ some gb ∧ (∀ q, q ≠ k → (f q).ownBlock ≠ some gb) := by
    rcases hat with e | e
    · exact ⟨fun q => h.a1 k (q ▸ e), fun q => h.a2 k (q ▸ e), fun q => h.a3 k (q ▸ e), h.av k gb e, fun q hq => h.dis k q gb (fun z => hq z.symm) e⟩
    · have := h.m.lt
      exact ⟨by omega, by omega, by omega, fun q => by have := (hk.s.lt _ q).2; omega, fun q _ z => by have := ((h.row q).lt _ z).2; omega⟩
  have fo : ∀ q b, (if q = k then (.slice (some ⟨gb, 0, none⟩) ((g k).length + 1) cap : Value) else f q).ownBlock = some b → (q = k ∧ b = gb) ∨ (q ≠ k ∧ (f q).ownBlock = some b) := fun q b e => by
    by_cases z : q = k
    · rw [if_pos z] at e; simp [Value.ownBlock] at e; exact .inl ⟨z, e.symm⟩
    · rw [if_neg z] at e; exact .inr ⟨z, e⟩
  have bwb : w3.heap[bw]? = w.heap[bw]? := blk3 bw hr.1 (h.a1 k) (fun e => h.n1 e.symm)
  have cc : ∀ o' v', w.cell? ⟨bw, o', none⟩ = some v' → w3.cell? ⟨bw, o', none⟩ = some v' := fun o' v' hc => (World.cell?_of_block (a := ⟨bw, o', none⟩) bwb).trans hc
  refine ⟨⟨cc 0 _ hk.c0, cc 1 _ hk.c1, cc 2 _ hk.c2, (World.frozen?_of_block (a := ⟨bw, 2, none⟩) bwb).trans hk.f2, hk.m.block (blk3 r1 hr.2 (h.a2 k) (fun e => h.n2 e.symm)), ownsRow_of_block hk.s (fun b hb => blk3 b (hk.s.lt b hb).2 (fun e => h.av k b e hb) (fun e => h.n3 (e ▸ hb))), hk.a1, hk.a2, hk.a3, hk.b1, hk.b2, hk.sub, hk.nd, hk.nds, hk.rg⟩, ⟨cc 3 _ h.c3, hm, fun q => ?_, fun q q' b hq e => ?_, fun q b e => ?_, fun q e => ?_, fun q e => ?_, fun q e => ?_, h.n1, h.n2, h.n3, h.b2⟩, fun a ha ea => ?_⟩
  · by_cases z : q = k
    · subst z
      simp only [if_true, List.length_append, List.length_singleton, List.map_append, List.map_cons, List.map_nil]
      exact ownsRow_of_block hown (fun b hb => hbl b (fun e => by simp [Value.ownBlock] at hb; omega))
    · simp only [z, if_false]
      exact ownsRow_of_block (h.row q) (fun b hb => blk3 b ((h.row q).lt b hb).2 (h.dis q k b z hb) (fun e => h.a3 q (e ▸ hb)))
  · intro e'
    rcases fo q b e with ⟨z, y⟩ | ⟨z, y⟩
    · rcases fo q' b e' with ⟨z', y'⟩ | ⟨z', y'⟩
      · exact hq (z.trans z'.symm)
      · rw [y] at y'; exact hgb.2.2.2.2 q' z' y'
    · rcases fo q' b e' with ⟨z', y'⟩ | ⟨z', y'⟩
      · rw [y'] at y; exact hgb.2.2.2.2 q z y
      · exact h.dis q q' b hq y y'
  · rcases fo q b e with ⟨z, y⟩ | ⟨z, y⟩
    · rw [y]; exact hgb.2.2.2.1
    · exact h.av q b y
  · rcases fo q bw e with ⟨z, y⟩ | ⟨z, y⟩
    · exact hgb.1 y.symm
    · exact h.a1 q y
  · rcases fo q r1 e with ⟨z, y⟩ | ⟨z, y⟩
    · exact hgb.2.1 y.symm
    · exact h.a2 q y
  · rcases fo q r2 e with ⟨z, y⟩ | ⟨z, y⟩
    · exact hgb.2.2.1 y.symm
    · exact h.a3 q y
  · refine Below.trans ea ⟨(hos.trans hg.os).trans hWo, (ht.trans hg.tape).trans hWt, (hou.trans hg.output).trans hWu, by omega, fun b hb => ?_⟩
    have hbw : b < w.heap.size := Nat.lt_of_lt_of_le hb ea.size
    exact blk3 b hbw (fun e => by have := ((h.row k).lt b e).1; omega) (fun e => by have := h.b2; omega)
end Go.Proofs.YtkabcfhemljnbaaGreat

namespace Go.Proofs.YtkabcfhemljnbaaGreat
open Go.RowKit
attribute [local go_sem ↓] Go.wp_at_zero Go.wp_at_succ

/-- the value is met, or waits for the key -/
def Bes (o1 o2 : Option Nat) (Mt Mt' St St' : List Nat) (g g' : Nat → List (Option Nat)) : Prop :=
  ((o1 = none ∨ ∃ k, o1 = some k ∧ k ∈ Mt) ∧ Grow (fun i => o2 = some i) Mt Mt' St St' ∧ (∀ i, o2 = some i → i ∈ Mt') ∧ g' = g) ∨ (∃ k, o1 = some k ∧ ¬ k ∈ Mt ∧ Mt' = Mt ∧ St' = St ∧ g' = fun q => if q = k then g k ++ [o2] else g q)

theorem waits_und : ∃ et, Tryz.prog.underlying 134 = some (.map 103 et) ∧ ∀ w, (zeroValue et).run Tryz.prog w = .ok (.slice none 0 0) w := ⟨_, Tryz.underlying134, fun _ => by kernel_rfl⟩

set_option maxRecDepth 100000 in
set_option maxHeartbeats 2000000 in
theorem beside_none (a : World) (bw bv r1 r2 bn on n : Nat) (o2 : Option Nat) (v : Value) (f : Nat → Value) (g : Nat → List (Option Nat)) (Mt St : List Nat) (w : World) (h : WkAt w a.heap.size bw bv r1 bn on n v Mt St) (ht : WtAt w a.heap.size bw r1 r2 bn on v f g) (ho : ∀ i, o2 = some i → i < n) (hx : Ext a w) (hn8 : n ≤ 8000) :
    Calls Tryz.prog 159 #[.pointer (some ⟨bw, 0, none⟩), .pointer none, pv bn on o2] w fun e w' => e = .returned (.tuple #[]) ∧ ∃ v' Mt' St', WkAt w' a.heap.size bw bv r1 bn on n v' Mt' St' ∧ WtAt w' a.heap.size bw r1 r2 bn on v' f g ∧ Hid (Grow (fun i => o2 = some i) Mt Mt' St St' ∧ (∀ i, o2 = some i → i ∈ Mt')) ∧ Hid (Ext a w') := by
  have HW := hide h
  have HT := hide ht
  have HX := hide hx
  clear h ht
  go_enter Tryz.func159, Tryz.ntmps159
  go_wp2_with fail
  refine (meet_opt a.heap.size bw bv r1 bn on n o2 v Mt St _ (unhide HW) ho hx.size hn8).mono ?_
  rintro e w1 ⟨rfl, v', M', S', hw, hg, hk⟩
  have FIN := hide (And.intro hw (And.intro ((unhide HT).step hk) (And.intro (unhide hg) ((unhide HW).kext hk hx))))
  clear hw hg hk
  go_wp2_with fail
  try simp only [Exit.inBlock, Exit.then]
  refine bodyPost_ret (results_none rfl _ _ _) rfl ?_
  exact ⟨rfl, v', M', S', (unhide FIN).1, (unhide FIN).2.1, (unhide FIN).2.2.1, (unhide FIN).2.2.2⟩

set_option maxRecDepth 100000 in
set_option maxHeartbeats 2000000 in
theorem beside_in (a : World) (bw bv r1 r2 bn on n k : Nat) (o2 : Option Nat) (v : Value) (f : Nat → Value) (g : Nat → List (Option Nat)) (Mt St : List Nat) (w : World) (h : WkAt w a.heap.size bw bv r1 bn on n v Mt St) (ht : WtAt w a.heap.size bw r1 r2 bn on v f g) (ho : ∀ i, o2 = some i → i < n) (hx : Ext a w) (hn8 : n ≤ 8000) (hm : k ∈ Mt) :
    Calls Tryz.prog 159 #[.pointer (some ⟨bw, 0, none⟩), ptr bn (on + k * 2), pv bn on o2] w fun e w' => e = .returned (.tuple #[]) ∧ ∃ v' Mt' St', WkAt w' a.heap.size bw bv r1 bn on n v' Mt' St' ∧ WtAt w' a.heap.size bw r1 r2 bn on v' f g ∧ Hid (Grow (fun i => o2 = some i) Mt Mt' St St' ∧ (∀ i, o2 = some i → i ∈ Mt')) ∧ Hid (Ext a w') := by
  have HW := hide h
  have HT := hide ht
  have c1 := h.c1
  clear h ht
  go_enter Tryz.func159, Tryz.ntmps159
  go_wp2_with fail
  refine (has_any r1 bn (on + k * 2) _ _ (unhide HW).m).mono ?_
  rintro e w1 ⟨rfl, hq⟩
  have E : decide (on + k * 2 ∈ Mt.map (fun i => on + i * 2)) = true := decide_eq_true (mem_off.2 hm)
  rw [E]
  clear E
  have x1 := hx.trans hq
  go_wp2_with fail
  refine (meet_opt a.heap.size bw bv r1 bn on n o2 v Mt St _ ((unhide HW).ext hq) ho x1.size hn8).mono ?_
  rintro e w2 ⟨rfl, v', M', S', hw, hg, hk⟩
  have FIN := hide (And.intro hw (And.intro (((unhide HT).ext hq).step hk) (And.intro (unhide hg) (((unhide HW).ext hq).kext hk x1))))
  clear hw hg hk
  go_wp2_with fail
  try simp only [Exit.inBlock, Exit.then]
  refine bodyPost_ret (results_none rfl _ _ _) rfl ?_
  exact ⟨rfl, v', M', S', (unhide FIN).1, (unhide FIN).2.1, (unhide FIN).2.2.1, (unhide FIN).2.2.2⟩

theorem pv_ptr (bn on : Nat) (o : Option Nat) : ∃ q, pv bn on o = .pointer q := by cases o with | none => exact ⟨_, rfl⟩ | some i => exact ⟨_, rfl⟩
theorem own_drew {w : World} {base n : Nat} {t : TypeId} {v : Value} {xs : List Value} (h : w.ownsRow base t 1 v n xs) : w.drew.ownsRow base t 1 v n xs := ownsRow_of_block h (fun _ _ => rfl)

set_option maxRecDepth 100000 in
set_option maxHeartbeats 2000000 in
theorem beside_out (a : World) (bw bv r1 r2 bn on n k : Nat) (o2 : Option Nat) (v : Value) (f : Nat → Value) (g : Nat → List (Option Nat)) (Mt St : List Nat) (w : World) (h : WkAt w a.heap.size bw bv r1 bn on n v Mt St) (ht : WtAt w a.heap.size bw r1 r2 bn on v f g) (hx : Ext a w) (hg : (g k).length ≤ 10000000) (hm : ¬ k ∈ Mt) :
    Calls Tryz.prog 159 #[.pointer (some ⟨bw, 0, none⟩), ptr bn (on + k * 2), pv bn on o2] w fun e w' => e = .returned (.tuple #[]) ∧ ∃ f', WkAt w' a.heap.size bw bv r1 bn on n v Mt St ∧ WtAt w' a.heap.size bw r1 r2 bn on v f' (fun q => if q = k then g k ++ [o2] else g q) ∧ Hid (Ext a w') := by
  obtain ⟨et, hu, hz⟩ := waits_und
  obtain ⟨i1, hi1, _, hz1, _⟩ := info_parts infoNodes
  obtain ⟨i0, hi0, hy0, hy1, hy2⟩ := info_parts infoNodeP
  have HW := hide h
  have HT := hide ht
  have c1 := h.c1
  have c3 := ht.c3
  have HU := hide hu
  have HN := hide hi1
  have HZ := hide hz1
  have LK := hide (fun w' (e : Ext w w') => (ht.ext e).m.lookup hu node_und hi1 (by rw [hz1]; omega) hz k)
  clear h ht hu hz hi1 hz1
  obtain ⟨fk, hfk⟩ : ∃ u, u = f k := ⟨_, rfl⟩
  obtain ⟨pq, hpq⟩ := pv_ptr bn on o2
  rw [hpq]
  have PQ := hide hpq
  clear hpq
  go_enter Tryz.func159, Tryz.ntmps159
  go_wp2_with fail
  refine (has_any r1 bn (on + k * 2) _ _ (unhide HW).m).mono ?_
  rintro e w1 ⟨rfl, hq⟩
  have E : decide (on + k * 2 ∈ Mt.map (fun i => on + i * 2)) = false := decide_eq_false (fun q => hm (mem_off.1 q))
  rw [E]
  clear E
  have x1 := hx.trans hq
  have d3 := hq.keep c3
  have lk := unhide LK w1.drew hq.drew
  have lk2 := fun ob => unhide LK (w1.alloc ob).drew (hq.alloc ob).drew
  have lk3 := fun ob => unhide LK (w1.drew.alloc ob) (hq.drew.alloc ob)
  rw [← hfk] at lk
  simp only [← hfk] at lk2 lk3
  have W1 := hide ((unhide HW).ext hq)
  have T1 := hide ((unhide HT).ext hq)
  have OW := hide (show w1.ownsRow a.heap.size 103 1 fk (g k).length ((g k).map (pv bn on)) by rw [hfk]; exact (unhide T1).row k)
  have FK := hide hfk
  have hsz1 := x1.size
  have hbw1 : bw < w1.heap.size := (unhide W1).rlt.1
  clear hfk hq LK c3
  go_wp2_with fail
  go_region_law (refine step_append_lies _ rfl _ _ 107 rfl a.heap.size 103 i0 (.pointer none) 1 8 Tryz.underlying107 hi0 hy0 hy1 hy2 rfl (by decide) fk (g k).length ((g k).map (pv bn on)) (by first | rfl | simp [Act.eval, Act.put]) (by first | exact (unhide OW).alloc _ | exact own_drew ((unhide OW).alloc _) | exact (own_drew (unhide OW)).alloc _) _ 1 1 [.pointer pq] (by first | rfl | simp [Act.eval, Act.put]; rfl) rfl (by
      intro j u hj
      match j, hj with
      | 0, hj => simp at hj; subst hj; simp [Addr.add]) (by intro u hu; simp at hu; subst hu; rfl) (by decide) (by unfold maxLen; omega) (by omega) (by simp; omega) _ rfl ?_; intro gb cap w2 hown hgrow hat hglt; have m2 : MapF w2 r2 bn on f := (unhide T1).m.block ((hgrow.block r2 (by have := (unhide T1).m.lt; simp; omega) (fun e => (unhide T1).a3 k (by rw [← unhide FK]; exact e.symm))).trans (Below.heap_alloc w1 _ r2 (unhide T1).m.lt)); have e3 : w2.cell? ⟨bw, 3, none⟩ = some (Value.map (some r2)) := (World.cell?_of_block (w := w1) (a := ⟨bw, 3, none⟩) ((hgrow.block bw (by have := (unhide W1).rlt; simp; omega) (fun e => (unhide T1).a1 k (by rw [← unhide FK]; exact e.symm))).trans (Below.heap_alloc w1 _ bw (unhide W1).rlt.1))).trans d3; obtain ⟨w3, hUp, m3, hos, htp, hou, hsz, hbl⟩ := m2.update (unhide HU) node_und (unhide HN) (by rw [unhide HZ]; omega) k (.slice (some ⟨gb, 0, none⟩) ((g k).length + 1) cap); have FIN := hide (WtAt.wait (o := o2) (W := (w1.alloc (.cells #[.pointer pq] 103)).drew) (ob := .cells #[.pointer pq] 103) (unhide W1) (unhide T1) rfl rfl rfl rfl (by rw [unhide PQ]; exact hown) (by rw [← unhide FK]; exact hgrow) (by rw [← unhide FK]; simpa using hat) m3 hos htp hou hsz hbl); clear hown hgrow hat m2 m3 hos htp hou hsz hbl)
  all_goals
    go_wp2_with fail
    go_end0
    exact ⟨rfl, _, (unhide FIN).1, (unhide FIN).2.1, (unhide FIN).2.2 a rfl x1⟩

theorem beside_any (a : World) (bw bv r1 r2 bn on n : Nat) (o1 o2 : Option Nat) (v : Value) (f : Nat → Value) (g : Nat → List (Option Nat)) (Mt St : List Nat) (w : World) (h : WkAt w a.heap.size bw bv r1 bn on n v Mt St) (ht : WtAt w a.heap.size bw r1 r2 bn on v f g) (ho : ∀ i, o2 = some i → i < n) (hx : Ext a w) (hn8 : n ≤ 8000) (hg : ∀ k, (g k).length ≤ 10000000) :
    Calls Tryz.prog 159 #[.pointer (some ⟨bw, 0, none⟩), pv bn on o1, pv bn on o2] w fun e w' => e = .returned (.tuple #[]) ∧ ∃ v' Mt' St' f' g', WkAt w' a.heap.size bw bv r1 bn on n v' Mt' St' ∧ WtAt w' a.heap.size bw r1 r2 bn on v' f' g' ∧ Hid (Bes o1 o2 Mt Mt' St St' g g') ∧ Hid (Ext a w') := by
  cases o1 with
  | none => exact (beside_none a bw bv r1 r2 bn on n o2 v f g Mt St w h ht ho hx hn8).mono fun _ _ ⟨he, v', M', S', q1, q2, q3, q4⟩ => ⟨he, v', M', S', f, g, q1, q2, .inl ⟨.inl rfl, (unhide q3).1, (unhide q3).2, rfl⟩, q4⟩
  | some k =>
    by_cases hm : k ∈ Mt
    · exact (beside_in a bw bv r1 r2 bn on n k o2 v f g Mt St w h ht ho hx hn8 hm).mono fun _ _ ⟨he, v', M', S', q1, q2, q3, q4⟩ => ⟨he, v', M', S', f, g, q1, q2, .inl ⟨.inr ⟨k, rfl, hm⟩, (unhide q3).1, (unhide q3).2, rfl⟩, q4⟩
    · exact (beside_out a bw bv r1 r2 bn on n k o2 v f g Mt St w h ht hx (hg k) hm).mono fun _ _ ⟨he, f', q1, q2, q3⟩ => ⟨he, v, Mt, St, f', _, q1, q2, .inr ⟨k, rfl, hm, rfl, rfl, rfl⟩, q3⟩

set_option maxRecDepth 100000 in
set_option maxHeartbeats 2000000 in
theorem release_any (a : World) (bw bv r1 r2 bn on n k : Nat) (v : Value) (f : Nat → Value) (g : Nat → List (Option Nat)) (Mt St : List Nat) (w : World) (h : WkAt w a.heap.size bw bv r1 bn on n v Mt St) (ht : WtAt w a.heap.size bw r1 r2 bn on v f g) (ho : ∀ i, some i ∈ g k → i < n) (hx : Ext a w) (hn8 : n ≤ 8000) (hg : (g k).length ≤ 10000000) :
    Calls Tryz.prog 111 #[.pointer (some ⟨bw, 0, none⟩), ptr bn (on + k * 2)] w fun e w' => e = .returned (.tuple #[]) ∧ ∃ v' Mt' St', WkAt w' a.heap.size bw bv r1 bn on n v' Mt' St' ∧ WtAt w' a.heap.size bw r1 r2 bn on v' f g ∧ Hid (Grow (fun i => some i ∈ g k) Mt Mt' St St' ∧ ∀ i, some i ∈ g k → i ∈ Mt') ∧ Hid (Ext a w') := by
  obtain ⟨et, hu, hz⟩ := waits_und
  obtain ⟨i1, hi1, _, hz1, _⟩ := info_parts infoNodes
  have HW := hide h
  have HT := hide ht
  have c3 := ht.c3
  have lk := ht.m.lookup hu node_und hi1 (by rw [hz1]; omega) hz k
  obtain ⟨ad, cap, hf, hgb⟩ := ownsRow_form (ht.row k)
  have FK := hide hf
  rw [hf] at lk
  clear h ht hu hz hi1 hz1 hf
  go_enter Tryz.func111, Tryz.ntmps111
  go_wp2_with fail
  go_loopw [13] (fun i wr => ∃ (l : Nat) (v' : Value) (M S : List Nat), l ≤ (g k).length ∧ i = .int .i64 l ∧ WkAt wr a.heap.size bw bv r1 bn on n v' M S ∧ WtAt wr a.heap.size bw r1 r2 bn on v' f g ∧ Hid (Grow (fun i => some i ∈ g k) Mt M St S ∧ ∀ j i, j < l → (g k)[j]? = some (some i) → i ∈ M) ∧ Ext a wr) (fun i _ => (g k).length - (intOf i).toNat)
  case atStart => exact ⟨0, v, Mt, St, Nat.zero_le _, rfl, unhide HW, unhide HT, ⟨Grow.refl, fun j i hj => by omega⟩, hx⟩
  case round =>
    clear HW HT c3 lk hx
    obtain ⟨l, v', M, S, hl, rfl, hw, htt, hinv, hbl⟩ := hrel
    have HW := hide hw
    have HT := hide htt
    by_cases hlt : l < (g k).length
    · obtain ⟨gb, rfl⟩ := hgb (by omega)
      obtain ⟨o, hoo⟩ : ∃ o, (g k)[l]? = some o := ⟨_, List.getElem?_eq_getElem hlt⟩
      have cl : wr.cell? ⟨gb, l, none⟩ = some (pv bn on o) := by
        have hr := htt.row k
        rw [unhide FK] at hr
        have := World.ownsRow.cellAt hr l (by omega)
        rw [this, List.getElem?_map, hoo]; rfl
      have hk0 : (0:Int) ≤ (l:Int) := by omega
      have hk1 : (l:Int) < ((g k).length:Int) := by omega
      have HO := hide hoo
      clear hw htt hoo
      go_wp2_with fail
      refine (meet_opt a.heap.size bw bv r1 bn on n o v' M S _ (unhide HW) (fun i e => ho i (by subst e; exact List.mem_of_getElem? (unhide HO))) hbl.size hn8).mono ?_
      rintro e w2 ⟨rfl, v2, M2, S2, hw2, hg2, hk2⟩
      have R := hide (show WkAt w2 a.heap.size bw bv r1 bn on n v2 M2 S2 ∧ WtAt w2 a.heap.size bw r1 r2 bn on v2 f g ∧ (Grow (fun i => some i ∈ g k) Mt M2 St S2 ∧ ∀ j i, j < l + 1 → (g k)[j]? = some (some i) → i ∈ M2) ∧ Ext a w2 from
        ⟨hw2, (unhide HT).step hk2, ⟨(unhide hinv).1.trans ((unhide hg2).1.mono (fun i e => by subst e; exact List.mem_of_getElem? (unhide HO))), fun j i hj e => by
          by_cases q : j = l
          · subst q; rw [unhide HO] at e; cases e; exact (unhide hg2).2 i rfl
          · exact (unhide hg2).1.m i ((unhide hinv).2 j i (by omega) e)⟩, (unhide HW).kext hk2 hbl⟩)
      clear hw2 hg2 hk2
      go_wp2_with fail
      go_roundw
      case rel => exact ⟨l + 1, v2, M2, S2, by omega, by go_num, (unhide R).1, (unhide R).2.1, (unhide R).2.2.1, (unhide R).2.2.2⟩
      case measure => simp [intOf]; omega
    · have hl2 : l = (g k).length := by omega
      have R := hide (show Grow (fun i => some i ∈ g k) Mt M St S ∧ ∀ i, some i ∈ g k → i ∈ M from ⟨(unhide hinv).1, fun i hi => by
        obtain ⟨j, hj, e⟩ := List.getElem_of_mem hi
        exact (unhide hinv).2 j i (by omega) (by rw [List.getElem?_eq_getElem hj, e])⟩)
      clear hw htt hinv hl2
      go_wp2_with fail
      go_end0
      exact ⟨rfl, v', M, S, unhide HW, unhide HT, unhide R, hbl⟩
end Go.Proofs.YtkabcfhemljnbaaGreat

namespace Go.Proofs.YtkabcfhemljnbaaGreat
open Go.RowKit
attribute [local go_sem ↓] Go.wp_at_zero Go.wp_at_succ

/-- what waits for k was not let go of yet -/
def Pend (Mt St : List Nat) (pre : Option Nat) (k : Nat) : Prop := ¬ k ∈ Mt ∨ k ∈ St ∨ pre = some k
def ClsTo (x : Hp) (Mt St : List Nat) (g : Nat → List (Option Nat)) (pre : Option Nat) (i l : Nat) : Prop := ∀ p, p < (x.c i).prs.length → p < l → (SK (x.c i) → ((x.c i).p p).key.k = 2 → tgt x ((x.c i).p p).key ∈ Mt) ∧
  (SV (x.c i) → ((x.c i).p p).val.k = 2 → (((x.c i).p p).key.k ≠ 2 → tgt x ((x.c i).p p).val ∈ Mt) ∧ (((x.c i).p p).key.k = 2 → tgt x ((x.c i).p p).val ∈ Mt ∨ (some (tgt x ((x.c i).p p).val) ∈ g (tgt x ((x.c i).p p).key) ∧ Pend Mt St pre (tgt x ((x.c i).p p).key))))
structure InvH (x : Hp) (Mt St : List Nat) (g : Nat → List (Option Nat)) (pre cur : Option Nat) : Prop where
  only : ∀ i, i ∈ Mt → Held x i
  regs : RegsN x x.regs.length Mt
  due : ∀ i, i < x.cells.length → (x.c i).last = 2 → i ∈ Mt
  wh : ∀ k i, some i ∈ g k → Held x k → Held x i
  wl : ∀ k i, some i ∈ g k → i < x.cells.length
  part : ∀ i, i ∈ Mt → i ∈ St ∨ cur = some i ∨ ClsTo x Mt St g pre i (x.c i).prs.length
theorem Pend.grow {Q : Nat → Prop} {Mt Mt' St St' : List Nat} {pre : Option Nat} {k : Nat} (h : Pend Mt St pre k) (G : Grow Q Mt Mt' St St') : Pend Mt' St' pre k := by
  rcases h with q | q | q
  · by_cases e : k ∈ Mt'
    · rcases G.n k e with r | ⟨_, r⟩
      · exact (q r).elim
      · exact .inr (.inl r)
    · exact .inl e
  · exact .inr (.inl (G.s k q))
  · exact .inr (.inr q)
theorem ClsTo.grow {Q : Nat → Prop} {x : Hp} {Mt Mt' St St' : List Nat} {g : Nat → List (Option Nat)} {pre : Option Nat} {i l : Nat} (h : ClsTo x Mt St g pre i l) (G : Grow Q Mt Mt' St St') : ClsTo x Mt' St' g pre i l := fun p h1 h2 =>
  ⟨fun a b => G.m _ ((h p h1 h2).1 a b), fun a b => ⟨fun c => G.m _ (((h p h1 h2).2 a b).1 c), fun c => by
    rcases ((h p h1 h2).2 a b).2 c with q | ⟨q, r⟩
    · exact .inl (G.m _ q)
    · exact .inr ⟨q, r.grow G⟩⟩⟩
theorem ClsTo.more {x : Hp} {Mt St : List Nat} {g g' : Nat → List (Option Nat)} {pre : Option Nat} {i l : Nat} (h : ClsTo x Mt St g pre i l) (hg : ∀ k o, o ∈ g k → o ∈ g' k) : ClsTo x Mt St g' pre i l := fun p h1 h2 =>
  ⟨(h p h1 h2).1, fun a b => ⟨((h p h1 h2).2 a b).1, fun c => by
    rcases ((h p h1 h2).2 a b).2 c with q | ⟨q, r⟩
    · exact .inl q
    · exact .inr ⟨hg _ _ q, r⟩⟩⟩
theorem InvH.grow {Q : Nat → Prop} {x : Hp} {Mt Mt' St St' : List Nat} {g : Nat → List (Option Nat)} {pre cur : Option Nat} (h : InvH x Mt St g pre cur) (G : Grow Q Mt Mt' St St') (hq : ∀ i, Q i → Held x i) : InvH x Mt' St' g pre cur :=
  ⟨fun i hi => by
    rcases G.n i hi with q | ⟨q, _⟩
    · exact h.only i q
    · exact hq i q, fun j hj hjk e => G.m _ (h.regs j hj hjk e), fun i hi e => G.m _ (h.due i hi e), h.wh, h.wl, fun i hi => by
    rcases G.n i hi with q | ⟨_, q⟩
    · rcases h.part i q with r | r | r
      · exact .inl (G.s i r)
      · exact .inr (.inl r)
      · exact .inr (.inr (r.grow G))
    · exact .inl q⟩
theorem add_mem {g : Nat → List (Option Nat)} {k : Nat} {o : Option Nat} {q : Nat} {z : Option Nat} (h : z ∈ (fun q => if q = k then g k ++ [o] else g q) q) : z ∈ g q ∨ (q = k ∧ z = o) := by
  by_cases e : q = k
  · subst e
    simp only [if_true, List.mem_append, List.mem_singleton] at h
    rcases h with r | r
    · exact .inl r
    · exact .inr ⟨rfl, r⟩
  · simp only [e, if_false] at h; exact .inl h
theorem add_more {g : Nat → List (Option Nat)} {k : Nat} {o : Option Nat} (q : Nat) (z : Option Nat) (h : z ∈ g q) : z ∈ (fun q => if q = k then g k ++ [o] else g q) q := by
  by_cases e : q = k
  · subst e; simp only [if_true]; exact List.mem_append_left _ h
  · simp only [e, if_false]; exact h
theorem InvH.wait {x : Hp} {Mt St : List Nat} {g : Nat → List (Option Nat)} {pre cur : Option Nat} (h : InvH x Mt St g pre cur) (k : Nat) (o : Option Nat) (h1 : ∀ i, o = some i → Held x k → Held x i) (h2 : ∀ i, o = some i → i < x.cells.length) : InvH x Mt St (fun q => if q = k then g k ++ [o] else g q) pre cur :=
  ⟨h.only, h.regs, h.due, fun q i hi hk => by
    rcases add_mem hi with r | ⟨rfl, r⟩
    · exact h.wh q i r hk
    · exact h1 i r.symm hk, fun q i hi => by
    rcases add_mem hi with r | ⟨rfl, r⟩
    · exact h.wl q i r
    · exact h2 i r.symm, fun i hi => by
    rcases h.part i hi with r | r | r
    · exact .inl r
    · exact .inr (.inl r)
    · exact .inr (.inr (r.more add_more))⟩
theorem InvH.shut {x : Hp} {Mt St : List Nat} {g : Nat → List (Option Nat)} {j : Nat} (h : InvH x Mt St g none (some j)) (c : ClsTo x Mt St g none j (x.c j).prs.length) : InvH x Mt St g none none :=
  ⟨h.only, h.regs, h.due, h.wh, h.wl, fun i hi => by
    rcases h.part i hi with r | r | r
    · exact .inl r
    · cases r; exact .inr (.inr c)
    · exact .inr (.inr r)⟩
theorem InvH.take {x : Hp} {Mt St : List Nat} {g : Nat → List (Option Nat)} {j : Nat} (h : InvH x Mt (St ++ [j]) g none none) : InvH x Mt St g (some j) (some j) :=
  ⟨h.only, h.regs, h.due, h.wh, h.wl, fun i hi => by
    rcases h.part i hi with r | r | r
    · rcases List.mem_append.1 r with q | q
      · exact .inl q
      · simp at q; exact .inr (.inl (by rw [q]))
    · cases r
    · refine .inr (.inr fun p h1 h2 => ⟨(r p h1 h2).1, fun a b => ⟨((r p h1 h2).2 a b).1, fun c => ?_⟩⟩)
      rcases ((r p h1 h2).2 a b).2 c with q | ⟨q, s⟩
      · exact .inl q
      · refine .inr ⟨q, ?_⟩
        rcases s with s | s | s
        · exact .inl s
        · rcases List.mem_append.1 s with t | t
          · exact .inr (.inl t)
          · simp at t; exact .inr (.inr (by rw [t]))
        · cases s⟩
/-- behind release -/
theorem InvH.freed {x : Hp} {Mt St : List Nat} {g : Nat → List (Option Nat)} {j : Nat} (h : InvH x Mt St g (some j) (some j)) (f : ∀ i, some i ∈ g j → i ∈ Mt) : InvH x Mt St g none (some j) :=
  ⟨h.only, h.regs, h.due, h.wh, h.wl, fun i hi => by
    rcases h.part i hi with r | r | r
    · exact .inl r
    · exact .inr (.inl r)
    · refine .inr (.inr fun p h1 h2 => ⟨(r p h1 h2).1, fun a b => ⟨((r p h1 h2).2 a b).1, fun c => ?_⟩⟩)
      rcases ((r p h1 h2).2 a b).2 c with q | ⟨q, s⟩
      · exact .inl q
      · rcases s with s | s | s
        · exact .inr ⟨q, .inl s⟩
        · exact .inr ⟨q, .inr (.inl s)⟩
        · cases s; exact .inl (f _ q)⟩
theorem InvH.done {x : Hp} {Mt : List Nat} {g : Nat → List (Option Nat)} (h : InvH x Mt [] g none none) (i : Nat) : i ∈ Mt ↔ Held x i := by
  constructor
  · exact h.only i
  · intro r
    have cl : ∀ j, j ∈ Mt → ClsTo x Mt [] g none j (x.c j).prs.length := fun j hj => by
      rcases h.part j hj with q | q | q
      · cases q
      · cases q
      · exact q
    refine r (fun i => i ∈ Mt) (fun k hk hk2 => h.regs k hk hk hk2) h.due (fun j p ih hp hs hk => (cl j ih p hp hp).1 hs hk) (fun j p ih hp hs hh hk => ?_)
    have c := (cl j ih p hp hp).2 hs hk
    by_cases e : ((x.c j).p p).key.k = 2
    · rcases c.2 e with q | ⟨_, s⟩
      · exact q
      · rcases s with s | s | s
        · exact (s (hh e)).elim
        · cases s
        · cases s
    · exact c.1 e

theorem pair_done {x : Hp} {j l : Nat} {M S M2 S2 M3 S3 : List Nat} {g g' : Nat → List (Option Nat)} {Q Q2 : Nat → Prop} (C : ClsTo x M S g none j l) (G1 : Grow Q M M2 S S2) (kM : SK (x.c j) → ((x.c j).p l).key.k = 2 → tgt x ((x.c j).p l).key ∈ M2)
    (V : (¬ SV (x.c j) ∧ M3 = M2 ∧ S3 = S2 ∧ g' = g) ∨ Bes (wo x ((x.c j).p l).key) (wo x ((x.c j).p l).val) M2 M3 S2 S3 g g') (G2 : Grow Q2 M2 M3 S2 S3) : ClsTo x M3 S3 g' none j (l + 1) := by
  have hg : ∀ k o, o ∈ g k → o ∈ g' k := by
    rcases V with ⟨_, _, _, e⟩ | ⟨_, _, _, e⟩ | ⟨k, _, _, _, _, e⟩
    · subst e; exact fun _ _ h => h
    · subst e; exact fun _ _ h => h
    · subst e; exact add_more
  intro p h1 h2
  by_cases e : p = l
  · subst e
    refine ⟨fun a b => G2.m _ (kM a b), fun a b => ?_⟩
    have wv : wo x ((x.c j).p p).val = some (tgt x ((x.c j).p p).val) := by unfold wo; rw [if_pos b]
    rcases V with ⟨n, _⟩ | ⟨_, _, m, _⟩ | ⟨k, ek, nk, em, _, eg⟩
    · exact (n a).elim
    · exact ⟨fun _ => m _ wv, fun _ => .inl (m _ wv)⟩
    · unfold wo at ek
      split at ek
      · rename_i k2
        cases ek
        refine ⟨fun n => (n k2).elim, fun _ => .inr ⟨?_, .inl (by rw [em]; exact nk)⟩⟩
        rw [eg, wv]; simp
      · cases ek
  · exact (((C.grow G1).grow G2).more hg) p h1 (by omega)

theorem Bes.grow {o1 o2 : Option Nat} {M M' S S' : List Nat} {g g' : Nat → List (Option Nat)} (h : Bes o1 o2 M M' S S' g g') : Grow (fun i => o2 = some i ∧ (o1 = none ∨ ∃ k, o1 = some k ∧ k ∈ M)) M M' S S' := by
  rcases h with ⟨a, b, _, _⟩ | ⟨k, _, _, rfl, rfl, _⟩
  · exact b.mono (fun i e => ⟨e, a⟩)
  · exact Grow.refl
theorem Bes.len {o1 o2 : Option Nat} {M M' S S' : List Nat} {g g' : Nat → List (Option Nat)} (h : Bes o1 o2 M M' S S' g g') (k : Nat) : (g' k).length ≤ (g k).length + 1 := by
  rcases h with ⟨_, _, _, e⟩ | ⟨q, _, _, _, _, e⟩
  · rw [e]; omega
  · rw [e]
    by_cases z : k = q
    · subst z; simp
    · simp [z]
/-- the walk behind one more pair -/
theorem InvH.beside {x : Hp} {j l : Nat} {M2 S2 M3 S3 : List Nat} {g g' : Nat → List (Option Nat)} (h : InvH x M2 S2 g none (some j)) (hj : Held x j) (hl : l < (x.c j).prs.length) (hs : SV (x.c j)) (my : MayMark x ((x.c j).p l).val)
    (B : Bes (wo x ((x.c j).p l).key) (wo x ((x.c j).p l).val) M2 M3 S2 S3 g g') : InvH x M3 S3 g' none (some j) := by
  have hv : ∀ i, wo x ((x.c j).p l).val = some i → (((x.c j).p l).key.k = 2 → Held x (tgt x ((x.c j).p l).key)) → Held x i := fun i e hh => by
    obtain ⟨_, k, rfl⟩ := wo_lt my i e
    exact Held.val j l hj hl hs hh k
  rcases B with ⟨a, b, _, e⟩ | ⟨k, ek, _, rfl, rfl, e⟩
  · rw [e]
    refine h.grow b (fun i ei => hv i ei (fun k2 => ?_))
    have wk : wo x ((x.c j).p l).key = some (tgt x ((x.c j).p l).key) := by unfold wo; rw [if_pos k2]
    rcases a with a | ⟨k, a, m⟩
    · rw [wk] at a; cases a
    · rw [wk] at a; cases a; exact h.only _ m
  · rw [e]
    refine h.wait k _ (fun i ei hk => hv i ei (fun k2 => ?_)) (fun i ei => (wo_lt my i ei).1)
    unfold wo at ek
    rw [if_pos k2] at ek
    cases ek; exact hk
end Go.Proofs.YtkabcfhemljnbaaGreat

namespace Go.Proofs.YtkabcfhemljnbaaGreat
open Go.RowKit
attribute [local go_sem ↓] Go.wp_at_zero Go.wp_at_succ

theorem weakKeys_any (bn on bc oc : Nat) (wk : Int) (w : World) (m1 : w.cell? ⟨bn, on + 1, none⟩ = some (.pointer (some ⟨bc, oc, none⟩))) (p2 : w.cell? ⟨bc, oc + 2, none⟩ = some (iv wk)) :
    Calls Tryz.prog 157 #[.pointer (some ⟨bn, on, none⟩)] w fun e w' => e = .returned (.bool (wk == 1 || wk == 3)) ∧ Ext w w' := by
  cases t1 : (wk == 1)
  · cases t3 : (wk == 3)
    · go_enter Tryz.func157, Tryz.ntmps157
      go_wp2_with fail
      go_ret
      exact ⟨rfl, Ext.refl _⟩
    · go_enter Tryz.func157, Tryz.ntmps157
      go_wp2_with fail
      go_ret
      exact ⟨rfl, Ext.refl _⟩
  · go_enter Tryz.func157, Tryz.ntmps157
    go_wp2_with fail
    go_ret
    exact ⟨rfl, Ext.refl _⟩
theorem weakVals_any (bn on bc oc : Nat) (wk : Int) (w : World) (m1 : w.cell? ⟨bn, on + 1, none⟩ = some (.pointer (some ⟨bc, oc, none⟩))) (p2 : w.cell? ⟨bc, oc + 2, none⟩ = some (iv wk)) :
    Calls Tryz.prog 158 #[.pointer (some ⟨bn, on, none⟩)] w fun e w' => e = .returned (.bool (wk == 2 || wk == 3)) ∧ Ext w w' := by
  cases t1 : (wk == 2)
  · cases t3 : (wk == 3)
    · go_enter Tryz.func158, Tryz.ntmps158
      go_wp2_with fail
      go_ret
      exact ⟨rfl, Ext.refl _⟩
    · go_enter Tryz.func158, Tryz.ntmps158
      go_wp2_with fail
      go_ret
      exact ⟨rfl, Ext.refl _⟩
  · go_enter Tryz.func158, Tryz.ntmps158
    go_wp2_with fail
    go_ret
    exact ⟨rfl, Ext.refl _⟩

/-- a pair of nothing -/
def zp (p : Pr) : Bool := p.key.k == 0 && p.key.n == 0 && p.key.a == 0 && p.val.k == 0 && p.val.n == 0 && p.val.a == 0
theorem pair_eq (p : Pr) (w : World) : (Op.equalIn 10000 123 (.agg #[iv p.key.k, iv p.key.n, iv p.key.a, iv p.val.k, iv p.val.n, iv p.val.a]) (.agg #[iv 0, iv 0, iv 0, iv 0, iv 0, iv 0])).run Tryz.prog w = .ok (zp p) w := by
  rw [run_equalIn_struct w 9999 _ _ _ (by kernel_rfl) (by kernel_rfl)]
  simp [go_sem, zp]
  repeat' split
  all_goals simp_all
theorem pair_eq2 (p : Pr) (w : World) : (binOp .eql 123 (.agg #[iv p.key.k, iv p.key.n, iv p.key.a, iv p.val.k, iv p.val.n, iv p.val.a]) (.agg #[iv 0, iv 0, iv 0, iv 0, iv 0, iv 0])).run Tryz.prog w = .ok (.bool (zp p)) w := by
  rw [run_eql_struct, pair_eq]; rfl
theorem sk_of {c : Cl} (h : (c.weak == 1 || c.weak == 3) = false) : SK c := by simp at h; exact h
theorem sk_not {c : Cl} (h : (c.weak == 1 || c.weak == 3) = true) : ¬ SK c := fun k => by simp at h; unfold SK at k; omega
theorem sv_of {c : Cl} (h : (c.weak == 2 || c.weak == 3) = false) : SV c := by simp at h; exact h
theorem sv_not {c : Cl} (h : (c.weak == 2 || c.weak == 3) = true) : ¬ SV c := fun k => by simp at h; unfold SV at k; omega
theorem zp_cls {x : Hp} {M S : List Nat} {g : Nat → List (Option Nat)} {j l : Nat} (h : zp ((x.c j).p l) = true) (C : ClsTo x M S g none j l) : ClsTo x M S g none j (l + 1) := fun p h1 h2 => by
  by_cases e : p = l
  · subst e
    simp [zp] at h
    refine ⟨fun _ k => by omega, fun _ k => by omega⟩
  · exact C p h1 (by omega)

set_option maxRecDepth 100000 in
set_option maxHeartbeats 4000000 in
theorem hold_any (x : Hp) (a : World) (b bw r1 r2 bn on j : Nat) (v : Value) (f : Nat → Value) (g : Nat → List (Option Nat)) (Mt St : List Nat) (w : World) {ar : Option Addr} {kr : Nat} {ac : Option Addr} {kc : Nat} {ag : Option Addr} {kg : Nat} {kn : Nat} (hv : VAt a b x ar kr ac kc ag kg (some ⟨bn, on, none⟩) kn) (q2 : R2 x) (q4 : R4 x) (h200 : (x.c j).prs.length ≤ 200) (h : WkAt w a.heap.size bw b r1 bn on x.cells.length v Mt St) (ht : WtAt w a.heap.size bw r1 r2 bn on v f g) (hI : InvH x Mt St g none (some j)) (hj : j ∈ Mt) (hx : Ext a w) (hn8 : x.cells.length ≤ 8000) (hg : ∀ k, (g k).length ≤ 9000000) :
    Calls Tryz.prog 112 #[.pointer (some ⟨bw, 0, none⟩), ptr bn (on + j * 2)] w fun e w' => e = .returned (.tuple #[]) ∧ ∃ v' Mt' St' f' g', WkAt w' a.heap.size bw b r1 bn on x.cells.length v' Mt' St' ∧ WtAt w' a.heap.size bw r1 r2 bn on v' f' g' ∧ Hid (InvH x Mt' St' g' none none ∧ Grow (fun _ => True) Mt Mt' St St' ∧ ∀ k, (g' k).length ≤ (g k).length + 200) ∧ Hid (Ext a w') := by
  have hjn : j < x.cells.length := h.rg j hj
  have HJ := hide (hI.only j hj)
  have GD := hide ((hI.only j hj).good q2 q4)
  obtain ⟨bc, oc, ap, kp, e1, C⟩ := hv.H.cell j hjn
  obtain ⟨bn', on', bc', oc', e2, e3, m0, m1'⟩ := hv.N j hjn
  rw [e1] at e3
  cases e2; cases e3
  have p7 := hx.keep C.p7
  have m1 := hx.keep m1'
  have M1 := hide m1'
  have P2 := hide C.p2
  have lp := C.lp
  have HP := hide C.P
  have HV := hide hv
  have HW := hide h
  have HT := hide ht
  have HI := hide hI
  have Q2 := hide q2
  have Q4 := hide q4
  clear C m0 m1' h ht hI e1 hv q2 q4
  go_enter Tryz.func112, Tryz.ntmps112
  go_wp2_with fail
  go_loopw [15] (fun i wr => ∃ (l : Nat) (u : Value) (M S : List Nat) (f' : Nat → Value) (g' : Nat → List (Option Nat)), l ≤ (x.c j).prs.length ∧ i = .int .i64 l ∧ WkAt wr a.heap.size bw b r1 bn on x.cells.length u M S ∧ WtAt wr a.heap.size bw r1 r2 bn on u f' g' ∧ Hid (InvH x M S g' none (some j) ∧ ClsTo x M S g' none j l ∧ Grow (fun _ => True) Mt M St S ∧ ∀ k, (g' k).length ≤ (g k).length + l) ∧ Ext a wr) (fun i _ => (x.c j).prs.length - (intOf i).toNat)
  case atStart => exact ⟨0, v, Mt, St, f, g, Nat.zero_le _, rfl, unhide HW, unhide HT, ⟨unhide HI, (fun p _ h => by omega), Grow.refl, fun k => by omega⟩, hx⟩
  case round =>
    clear HW HT HI p7 m1 hx
    clear f v
    obtain ⟨l, u, M, S, f, g', hl, rfl, hw, htt, hinv, hbl⟩ := hrel
    have HW := hide hw
    have HT := hide htt
    have c0 := hw.c0
    have hbw : bw < wr.heap.size := hw.rlt.1
    by_cases hl2 : l < (x.c j).prs.length
    · obtain ⟨b2, o2, rfl, q0, q1, q2, q3, q4, q5⟩ := unhide HP l hl2
      have e0 := hbl.keep q0
      have e1 := hbl.keep q1
      have e2 := hbl.keep q2
      have e3 := hbl.keep q3
      have e4 := hbl.keep q4
      have e5 := hbl.keep q5
      have hb2 : b2 < wr.heap.size := cell_lt e0
      clear q0 q1 q2 q3 q4 q5 hw htt
      have hl0 : (0:Int) ≤ (l:Int) := by omega
      have hl1 : (l:Int) < ((x.c j).prs.length:Int) := by omega
      have xa := (Ext.refl wr).alloc (.cells #[.int .i64 ((x.c j).p l).key.k, .int .i64 ((x.c j).p l).key.n, .int .i64 ((x.c j).p l).key.a, .int .i64 ((x.c j).p l).val.k, .int .i64 ((x.c j).p l).val.n, .int .i64 ((x.c j).p l).val.a] 123)
      have MK := hide (may_pair (unhide Q2) (unhide Q4) j l (unhide GD) hl2)
      have PE := fun w => pair_eq ((x.c j).p l) w
      have PE2 := fun w => pair_eq2 ((x.c j).p l) w
      cases tz : zp ((x.c j).p l)
      rotate_left
      · simp only [tz] at PE PE2
        have R := hide (And.intro ((unhide HW).ext xa) (And.intro ((unhide HT).ext xa) (And.intro (zp_cls tz (unhide hinv).2.1) (hbl.trans xa))))
        clear tz
        go_wp2_with fail
        go_roundw
        case rel => exact ⟨l + 1, u, M, S, f, g', by omega, by go_num, (unhide R).1, (unhide R).2.1, ⟨(unhide hinv).1, (unhide R).2.2.1, (unhide hinv).2.2.1, fun k => by have := (unhide hinv).2.2.2 k; omega⟩, (unhide R).2.2.2⟩
        case measure => simp [intOf]; omega
      · simp only [tz] at PE PE2
        clear tz
        go_wp2_with fail
        go_cut [6] (fun s6 wx => ∃ o1, s6 = pv bn on o1 ∧ Hid (o1 = wo x ((x.c j).p l).key) ∧ Ext (wr.alloc (.cells #[.int .i64 ((x.c j).p l).key.k, .int .i64 ((x.c j).p l).key.n, .int .i64 ((x.c j).p l).key.a, .int .i64 ((x.c j).p l).val.k, .int .i64 ((x.c j).p l).val.n, .int .i64 ((x.c j).p l).val.a] 123)) wx)
        case first =>
          go_region_with (go_at_call 106; refine (follow_o x ((x.c j).p l).key b _ bn on ((unhide HV).ext (hbl.trans xa).drew) (unhide Q2) (unhide MK).1).mono ?_; rintro e w2 ⟨rfl, hq2⟩)
          all_goals
            go_wp2_with fail
            go_meet
            exact ⟨_, rfl, rfl, Ext.trans ((Ext.refl _).drew) hq2⟩
        case rest =>
        obtain ⟨o1, rfl, O1, hq2⟩ := hcut
        obtain ⟨w2, hw2⟩ : ∃ W, W = wc := ⟨_, rfl⟩
        subst hw2
        have x2 := xa.trans hq2
        have X2 := hbl.trans x2
        have v3 : w2.cell? ⟨wr.heap.size, 3, none⟩ = some (.int .i64 ((x.c j).p l).val.k) := hq2.keep (by simp [go_sem])
        have v4 : w2.cell? ⟨wr.heap.size, 4, none⟩ = some (.int .i64 ((x.c j).p l).val.n) := hq2.keep (by simp [go_sem])
        have v5 : w2.cell? ⟨wr.heap.size, 5, none⟩ = some (.int .i64 ((x.c j).p l).val.a) := hq2.keep (by simp [go_sem])
        have W2 := hide ((unhide HW).ext x2)
        have T2 := hide ((unhide HT).ext x2)
        have c0 := (unhide W2).c0
        clear PE PE2 e0 e1 e2 e3 e4 e5 hq2
        go_wp2_with fail
        refine (weakKeys_any bn (on + j * 2) bc (oc + j * 8) (x.c j).weak _ (X2.keep (unhide M1)) (X2.keep (unhide P2))).mono ?_
        rintro e w3 ⟨rfl, hq3⟩
        cases tk : ((x.c j).weak == 1 || (x.c j).weak == 3)
        · have hsep : wr.heap.size < w3.heap.size := Nat.lt_of_lt_of_le (cell_lt v3) hq3.size
          have X3 := X2.trans hq3
          go_wp2_with fail
          refine (meet_opt a.heap.size bw b r1 bn on x.cells.length o1 u M S _ ((unhide W2).ext hq3) (fun i e => (wo_lt (unhide MK).1 i (by rw [← unhide O1]; exact e)).1) X3.size hn8).mono ?_
          rintro e w4 ⟨rfl, u4, M4, S4, hw4, hg4, hk4⟩
          have kb := hk4.block wr.heap.size hsep (by have := (unhide HW).rlt; omega) (by have := (unhide HW).rlt; omega) (fun e => by have := ((unhide HW).s.lt _ e).2; omega)
          have y3 := (World.cell?_of_block (a := ⟨wr.heap.size, 3, none⟩) kb).trans (hq3.keep v3)
          have y4 := (World.cell?_of_block (a := ⟨wr.heap.size, 4, none⟩) kb).trans (hq3.keep v4)
          have y5 := (World.cell?_of_block (a := ⟨wr.heap.size, 5, none⟩) kb).trans (hq3.keep v5)
          have X4 := ((unhide W2).ext hq3).kext hk4 X3
          have W4 := hide hw4
          have T4 := hide (((unhide T2).ext hq3).step hk4)
          have G4 := hide (unhide hg4).1
          have I4 := hide ((unhide hinv).1.grow (unhide hg4).1 (fun i e => by
            obtain ⟨_, k, rfl⟩ := wo_lt (unhide MK).1 i (by rw [← unhide O1]; exact e)
            exact Held.key j l (unhide HJ) hl2 (sk_of tk) k))
          have K4 := hide (show SK (x.c j) → ((x.c j).p l).key.k = 2 → tgt x ((x.c j).p l).key ∈ M4 from fun _ k => (unhide hg4).2 _ (by rw [unhide O1]; unfold wo; rw [if_pos k]))
          clear hw4 hg4 hk4 kb v3 v4 v5 hsep
          go_wp2_with fail
          refine (weakVals_any bn (on + j * 2) bc (oc + j * 8) (x.c j).weak _ (X4.keep (unhide M1)) (X4.keep (unhide P2))).mono ?_
          rintro e w5 ⟨rfl, hq5⟩
          have X5 := X4.trans hq5
          cases tv : ((x.c j).weak == 2 || (x.c j).weak == 3)
          · have z3 := hq5.keep y3
            have z4 := hq5.keep y4
            have z5 := hq5.keep y5
            have d0 := hq5.keep (unhide W4).c0
            clear y3 y4 y5
            go_wp2_with fail
            go_region_with (first
              | (go_at_call 106; refine (follow_o x ((x.c j).p l).val b _ bn on ((unhide HV).ext X5.drew) (unhide Q2) (unhide MK).2).mono ?_; rintro e w6 ⟨rfl, hq6⟩; have X6 := X5.drew.trans hq6; have Y6 := Ext.trans ((Ext.refl w5).drew) hq6; obtain ⟨o2, ho2⟩ : ∃ o, o = wo x ((x.c j).p l).val := ⟨_, rfl⟩; rw [← ho2]; have O2 := hide ho2; clear ho2 hq6)
              | (go_at_call 159; refine (beside_any a bw b r1 r2 bn on x.cells.length o1 o2 u4 f g' M4 S4 _ (((unhide W4).ext hq5).ext Y6) (((unhide T4).ext hq5).ext Y6) (fun i e => (wo_lt (unhide MK).2 i (by rw [← unhide O2]; exact e)).1) X6 hn8 (fun k => by have := (unhide hinv).2.2.2 k; have := hg k; omega)).mono ?_; rintro e w7 ⟨rfl, u7, M7, S7, f7, g7, hw7, ht7, hb7, hx7⟩; have B7 := hide (show Bes (wo x ((x.c j).p l).key) (wo x ((x.c j).p l).val) M4 M7 S4 S7 g' g7 by rw [← unhide O1, ← unhide O2]; exact unhide hb7); have R := hide (show WkAt w7 a.heap.size bw b r1 bn on x.cells.length u7 M7 S7 ∧ WtAt w7 a.heap.size bw r1 r2 bn on u7 f7 g7 ∧ (InvH x M7 S7 g7 none (some j) ∧ ClsTo x M7 S7 g7 none j (l + 1) ∧ Grow (fun _ => True) Mt M7 St S7 ∧ ∀ k, (g7 k).length ≤ (g k).length + (l + 1)) ∧ Ext a w7 from ⟨hw7, ht7, ⟨(unhide I4).beside (unhide HJ) hl2 (sv_of tv) (unhide MK).2 (unhide B7), pair_done (unhide hinv).2.1 (unhide G4) (unhide K4) (.inr (unhide B7)) (unhide B7).grow, ((unhide hinv).2.2.1.trans ((unhide G4).mono (fun _ _ => trivial))).trans ((unhide B7).grow.mono (fun _ _ => trivial)), fun k => by have := (unhide B7).len k; have := (unhide hinv).2.2.2 k; omega⟩, unhide hx7⟩); clear hw7 ht7 hb7 hx7 B7))
            all_goals
              go_wp2_with fail
              go_roundw
              case rel => exact ⟨l + 1, u7, M7, S7, f7, g7, by omega, by go_num, (unhide R).1, (unhide R).2.1, (unhide R).2.2.1, (unhide R).2.2.2⟩
              case measure => simp [intOf]; omega
          · have R := hide (show WkAt w5 a.heap.size bw b r1 bn on x.cells.length u4 M4 S4 ∧ WtAt w5 a.heap.size bw r1 r2 bn on u4 f g' ∧ (InvH x M4 S4 g' none (some j) ∧ ClsTo x M4 S4 g' none j (l + 1) ∧ Grow (fun _ => True) Mt M4 St S4 ∧ ∀ k, (g' k).length ≤ (g k).length + (l + 1)) ∧ Ext a w5 from
              ⟨(unhide W4).ext hq5, (unhide T4).ext hq5, ⟨unhide I4, pair_done (unhide hinv).2.1 (unhide G4) (unhide K4) (.inl ⟨sv_not tv, rfl, rfl, rfl⟩) (Grow.refl (Q := fun _ => True)), (unhide hinv).2.2.1.trans ((unhide G4).mono (fun _ _ => trivial)), fun k => by have := (unhide hinv).2.2.2 k; omega⟩, X5⟩)
            clear y3 y4 y5
            go_wp2_with fail
            go_roundw
            case rel => exact ⟨l + 1, u4, M4, S4, f, g', by omega, by go_num, (unhide R).1, (unhide R).2.1, (unhide R).2.2.1, (unhide R).2.2.2⟩
            case measure => simp [intOf]; omega
        · have X4 := X2.trans hq3
          have y3 := hq3.keep v3
          have y4 := hq3.keep v4
          have y5 := hq3.keep v5
          have W4 := hide ((unhide W2).ext hq3)
          have T4 := hide ((unhide T2).ext hq3)
          have G4 := hide (show Grow (fun i => o1 = some i) M M S S from Grow.refl)
          have I4 := hide (unhide hinv).1
          have K4 := hide (show SK (x.c j) → ((x.c j).p l).key.k = 2 → tgt x ((x.c j).p l).key ∈ M from fun s _ => (sk_not tk s).elim)
          clear v3 v4 v5
          go_wp2_with fail
          refine (weakVals_any bn (on + j * 2) bc (oc + j * 8) (x.c j).weak _ (X4.keep (unhide M1)) (X4.keep (unhide P2))).mono ?_
          rintro e w5 ⟨rfl, hq5⟩
          have X5 := X4.trans hq5
          cases tv : ((x.c j).weak == 2 || (x.c j).weak == 3)
          · have z3 := hq5.keep y3
            have z4 := hq5.keep y4
            have z5 := hq5.keep y5
            have d0 := hq5.keep (unhide W4).c0
            clear y3 y4 y5
            go_wp2_with fail
            go_region_with (first
              | (go_at_call 106; refine (follow_o x ((x.c j).p l).val b _ bn on ((unhide HV).ext X5.drew) (unhide Q2) (unhide MK).2).mono ?_; rintro e w6 ⟨rfl, hq6⟩; have X6 := X5.drew.trans hq6; have Y6 := Ext.trans ((Ext.refl w5).drew) hq6; obtain ⟨o2, ho2⟩ : ∃ o, o = wo x ((x.c j).p l).val := ⟨_, rfl⟩; rw [← ho2]; have O2 := hide ho2; clear ho2 hq6)
              | (go_at_call 159; refine (beside_any a bw b r1 r2 bn on x.cells.length o1 o2 u f g' M S _ (((unhide W4).ext hq5).ext Y6) (((unhide T4).ext hq5).ext Y6) (fun i e => (wo_lt (unhide MK).2 i (by rw [← unhide O2]; exact e)).1) X6 hn8 (fun k => by have := (unhide hinv).2.2.2 k; have := hg k; omega)).mono ?_; rintro e w7 ⟨rfl, u7, M7, S7, f7, g7, hw7, ht7, hb7, hx7⟩; have B7 := hide (show Bes (wo x ((x.c j).p l).key) (wo x ((x.c j).p l).val) M M7 S S7 g' g7 by rw [← unhide O1, ← unhide O2]; exact unhide hb7); have R := hide (show WkAt w7 a.heap.size bw b r1 bn on x.cells.length u7 M7 S7 ∧ WtAt w7 a.heap.size bw r1 r2 bn on u7 f7 g7 ∧ (InvH x M7 S7 g7 none (some j) ∧ ClsTo x M7 S7 g7 none j (l + 1) ∧ Grow (fun _ => True) Mt M7 St S7 ∧ ∀ k, (g7 k).length ≤ (g k).length + (l + 1)) ∧ Ext a w7 from ⟨hw7, ht7, ⟨(unhide I4).beside (unhide HJ) hl2 (sv_of tv) (unhide MK).2 (unhide B7), pair_done (unhide hinv).2.1 (unhide G4) (unhide K4) (.inr (unhide B7)) (unhide B7).grow, ((unhide hinv).2.2.1.trans ((unhide G4).mono (fun _ _ => trivial))).trans ((unhide B7).grow.mono (fun _ _ => trivial)), fun k => by have := (unhide B7).len k; have := (unhide hinv).2.2.2 k; omega⟩, unhide hx7⟩); clear hw7 ht7 hb7 hx7 B7))
            all_goals
              go_wp2_with fail
              go_roundw
              case rel => exact ⟨l + 1, u7, M7, S7, f7, g7, by omega, by go_num, (unhide R).1, (unhide R).2.1, (unhide R).2.2.1, (unhide R).2.2.2⟩
              case measure => simp [intOf]; omega
          · have R := hide (show WkAt w5 a.heap.size bw b r1 bn on x.cells.length u M S ∧ WtAt w5 a.heap.size bw r1 r2 bn on u f g' ∧ (InvH x M S g' none (some j) ∧ ClsTo x M S g' none j (l + 1) ∧ Grow (fun _ => True) Mt M St S ∧ ∀ k, (g' k).length ≤ (g k).length + (l + 1)) ∧ Ext a w5 from
              ⟨(unhide W4).ext hq5, (unhide T4).ext hq5, ⟨unhide I4, pair_done (unhide hinv).2.1 (unhide G4) (unhide K4) (.inl ⟨sv_not tv, rfl, rfl, rfl⟩) (Grow.refl (Q := fun _ => True)), (unhide hinv).2.2.1.trans ((unhide G4).mono (fun _ _ => trivial)), fun k => by have := (unhide hinv).2.2.2 k; omega⟩, X5⟩)
            clear y3 y4 y5
            go_wp2_with fail
            go_roundw
            case rel => exact ⟨l + 1, u, M, S, f, g', by omega, by go_num, (unhide R).1, (unhide R).2.1, (unhide R).2.2.1, (unhide R).2.2.2⟩
            case measure => simp [intOf]; omega
    · have hl3 : l = (x.c j).prs.length := by omega
      have R := hide (And.intro ((unhide hinv).1.shut (by have := (unhide hinv).2.1; rw [hl3] at this; exact this)) (And.intro (unhide hinv).2.2.1 (show ∀ k, (g' k).length ≤ (g k).length + 200 from fun k => by have := (unhide hinv).2.2.2 k; omega)))
      clear hw htt hl3 hinv
      go_wp2_with fail
      go_end0
      exact ⟨rfl, u, M, S, f, g', unhide HW, unhide HT, unhide R, hbl⟩
end Go.Proofs.YtkabcfhemljnbaaGreat

namespace Go.Proofs.YtkabcfhemljnbaaGreat
open Go.RowKit
attribute [local go_sem ↓] Go.wp_at_zero Go.wp_at_succ

def OnlyHN (x : Hp) (Mt : List Nat) : Prop := ∀ i, i ∈ Mt → Held x i
theorem OnlyHN.add {x : Hp} {y : Wd} {Mt Mt' St St' : List Nat} (h : OnlyHN x Mt) (a : AddN x y Mt Mt' St St') (hy : y.k = 2 → Held x (tgt x y)) : OnlyHN x Mt' := fun i hi => by
  rcases a.new hi with q | ⟨k, e, _⟩
  · exact h i q
  · rw [e]; exact hy k
theorem WtAt.start (w : World) (bv bn on : Nat) (t : TypeId) : WtAt (((w.alloc (.map #[] 0)).alloc (.map #[] 0)).alloc (.cells #[.pointer (some ⟨bv, 0, none⟩), .map (some w.heap.size), .slice none 0 0, .map (some (w.heap.size + 1))] t)) w.heap.size (w.heap.size + 2) w.heap.size (w.heap.size + 1) bn on (.slice none 0 0) (fun _ => .slice none 0 0) (fun _ => []) := by
  have hm : (((w.alloc (.map #[] 0)).alloc (.map #[] 0)).alloc (.cells #[.pointer (some ⟨bv, 0, none⟩), .map (some w.heap.size), .slice none 0 0, .map (some (w.heap.size + 1))] t)).heap[w.heap.size + 1]? = some (.map #[] 0) := by
    rw [Below.heap_alloc _ _ _ (by simp)]
    have := heap_alloc_new (w.alloc (.map #[] 0)) (.map #[] 0)
    simpa using this
  exact ⟨by simp [go_sem], ⟨#[], 0, [], hm, by simp [EntAre], List.nodup_nil, fun _ _ => rfl⟩, fun _ => World.ownsRow_nil _ _ _ _, fun _ _ _ _ h => by simp [Value.ownBlock] at h, fun _ _ h => by simp [Value.ownBlock] at h, fun _ h => by simp [Value.ownBlock] at h, fun _ h => by simp [Value.ownBlock] at h, fun _ h => by simp [Value.ownBlock] at h, by omega, by omega, by simp [Value.ownBlock], by omega⟩

set_option maxRecDepth 100000 in
set_option maxHeartbeats 2000000 in
theorem walkH_any (x : Hp) (b : Nat) (w : World) {ar : Option Addr} {kr : Nat} {ac : Option Addr} {kc : Nat} {ag : Option Addr} {kg : Nat} {kn : Nat} (bn on : Nat) (h : VAt w b x ar kr ac kc ag kg (some ⟨bn, on, none⟩) kn) (r2 : R2 x) (r4 : R4 x) (hn8 : x.cells.length ≤ 8000) :
    Calls Tryz.prog 102 #[.pointer (some ⟨b, 0, none⟩)] w fun e w' => e = .returned (.pointer (some ⟨w.heap.size + 2, 0, none⟩)) ∧ ∃ v Mt St, WkAt w' w.heap.size (w.heap.size + 2) b w.heap.size bn on x.cells.length v Mt St ∧ WtAt w' w.heap.size (w.heap.size + 2) w.heap.size (w.heap.size + 1) bn on v (fun _ => .slice none 0 0) (fun _ => []) ∧ Hid (OnlyHN x Mt ∧ RegsN x x.regs.length Mt ∧ ∀ i, i ∈ Mt → i ∈ St) ∧ Ext w w' := by
  have c3 := h.H.c3
  have lr := h.H.lr
  have hb : b < w.heap.size := cell_lt c3
  have HV := hide h
  have Q2 := hide r2
  have Q4 := hide r4
  have hmm : ∀ (t : TypeId) (w : World), (Instr.makeMap t none).run Tryz.prog w = .ok (.map (some w.heap.size)) (w.alloc (.map #[] 0)) := fun _ _ => rfl
  clear h r2 r4
  have c4 := ((((Ext.refl w).alloc (.map #[] 0)).alloc (.map #[] 0)).alloc (.cells #[.pointer (some ⟨b, 0, none⟩), .map (some w.heap.size), .slice none 0 0, .map (some (w.heap.size + 1))] 136)).keep c3
  have S0 := hide (WkAt.start w b bn on x.cells.length 136)
  have T0 := hide (WtAt.start w b bn on 136)
  go_enter Tryz.func102, Tryz.ntmps102
  go_wp2_with fail
  go_loopw [17] (fun i wr => ∃ (k : Nat) (v : Value) (Mt St : List Nat), k ≤ x.regs.length ∧ i = .int .i64 k ∧ WkAt wr w.heap.size (w.heap.size + 2) b w.heap.size bn on x.cells.length v Mt St ∧ WtAt wr w.heap.size (w.heap.size + 2) w.heap.size (w.heap.size + 1) bn on v (fun _ => .slice none 0 0) (fun _ => []) ∧ Hid (OnlyHN x Mt ∧ RegsN x k Mt ∧ ∀ i, i ∈ Mt → i ∈ St) ∧ Ext w wr) (fun i _ => x.regs.length - (intOf i).toNat)
  case atStart => exact ⟨0, _, [], [], Nat.zero_le _, rfl, unhide S0, unhide T0, ⟨(fun i hi => by cases hi), (fun j _ hj => by omega), fun i hi => hi⟩, (((Ext.refl w).alloc _).alloc _).alloc _⟩
  case round =>
    clear S0 T0 c3 c4 hmm
    obtain ⟨k, v, Mt, St, hk, rfl, hw, hwt, hinv, hbl⟩ := hrel
    have HW := hide hw
    have HT := hide hwt
    clear hw hwt
    by_cases hlt : k < x.regs.length
    · have hh := (unhide HV).ext hbl
      obtain ⟨b', o, rfl, p0, p1, p2⟩ := hh.H.R k hlt
      have hb' : b' < wr.heap.size := cell_lt p0
      have hk0 : (0:Int) ≤ (k:Int) := by omega
      have hk1 : (k:Int) < (x.regs.length:Int) := by omega
      have xa := (Ext.refl wr).alloc (.cells #[iv x.regs[k].k, iv x.regs[k].n, iv x.regs[k].a] 90)
      have MY := hide (may_reg (unhide Q2) (unhide Q4) k hlt)
      clear hh
      go_wp2_with fail
      refine (follow_any x x.regs[k] b _ bn on ((unhide HV).ext (hbl.trans xa)) (unhide Q2) (unhide MY)).mono ?_
      rintro e w2 ⟨t, rfl, ht, hq⟩
      have x2 := xa.trans hq
      have HQ := hide ht
      clear ht
      go_wp2_with fail
      refine (meet_word x x.regs[k] w.heap.size (w.heap.size + 2) b w.heap.size bn on t v Mt St _ ((unhide HW).ext x2) (unhide MY) (unhide HQ) (hbl.trans x2).size hn8).mono ?_
      rintro e w3 ⟨rfl, v', M', S', hw3, ha, hkf⟩
      have R := hide (show WkAt w3 w.heap.size (w.heap.size + 2) b w.heap.size bn on x.cells.length v' M' S' ∧ WtAt w3 w.heap.size (w.heap.size + 2) w.heap.size (w.heap.size + 1) bn on v' (fun _ => .slice none 0 0) (fun _ => []) ∧ (OnlyHN x M' ∧ RegsN x (k + 1) M' ∧ ∀ i, i ∈ M' → i ∈ S') ∧ Ext w w3 from
        ⟨hw3, ((unhide HT).ext x2).step hkf, ⟨(unhide hinv).1.add (unhide ha) (fun e => Held.reg k hlt e), fun j hj hjk e => by
          by_cases q : j = k
          · subst q; exact (unhide ha).has e
          · exact (unhide ha).sub.1 _ ((unhide hinv).2.1 j hj (by omega) e), fun i hi => by
          rcases (unhide ha).new hi with q | ⟨_, _, q⟩
          · exact (unhide ha).sub.2 i ((unhide hinv).2.2 i q)
          · exact q⟩, ((unhide HW).ext x2).kext hkf (hbl.trans x2)⟩)
      clear hw3 ha hkf
      go_wp2_with fail
      go_roundw
      case rel => exact ⟨k + 1, v', M', S', by omega, by go_num, (unhide R).1, (unhide R).2.1, (unhide R).2.2.1, (unhide R).2.2.2⟩
      case measure => simp [intOf]; omega
    · have hk2 : k = x.regs.length := by omega
      subst hk2
      go_wp2_with fail
      go_ret
      exact ⟨rfl, v, Mt, St, unhide HW, unhide HT, unhide hinv, hbl⟩
end Go.Proofs.YtkabcfhemljnbaaGreat

namespace Go.Proofs.YtkabcfhemljnbaaGreat
open Go.RowKit
attribute [local go_sem ↓] Go.wp_at_zero Go.wp_at_succ

/-- the program's walk stands at cur, ahead of release, before so many steps -/
def CurH (x : Hp) (t : Value) (bn on G0 gk : Nat) (Mt St : List Nat) (g : Nat → List (Option Nat)) : Prop := gk ≤ G0 ∧ (∀ k, (g k).length + 200 * gk ≤ 200 * G0) ∧ ((t = .pointer none ∧ St = [] ∧ InvH x Mt [] g none none) ∨ ∃ j, t = ptr bn (on + j * 2) ∧ j ∈ Mt ∧ InvH x Mt St g (some j) (some j) ∧ 2 * (x.cells.length - Mt.length) + St.length + 1 ≤ gk)

set_option maxRecDepth 100000 in
set_option maxHeartbeats 4000000 in
theorem held_any (x : Hp) (b : Nat) (w : World) {ar : Option Addr} {kr : Nat} {ac : Option Addr} {kc : Nat} {ag : Option Addr} {kg : Nat} {kn : Nat} (bn on : Nat) (h : VAt w b x ar kr ac kc ag kg (some ⟨bn, on, none⟩) kn) (r2 : R2 x) (r4 : R4 x) (hn8 : x.cells.length ≤ 8000) (h200 : ∀ i, i < x.cells.length → (x.c i).prs.length ≤ 200)
    (hsp : ∀ w1, VAt w1 b x ar kr ac kc ag kg (some ⟨bn, on, none⟩) kn → Calls Tryz.prog 103 #[.pointer (some ⟨b, 0, none⟩)] w1 fun e w' => ∃ (g : Option Addr) (cap : Nat) (Ls : List Nat), Hid (e = .returned (.slice g Ls.length cap)) ∧ Hid (SpAns x w1 w' g bn on Ls) ∧ Ext w1 w') :
    Calls Tryz.prog 62 #[.pointer (some ⟨b, 0, none⟩)] w fun e w' => e = .returned (Value.map (some w.heap.size)) ∧ ∃ Mt : List Nat, MapAt w' w.heap.size bn (Mt.map (fun i => on + i * 2)) ∧ w.heap.size < w'.heap.size ∧ Hid (∀ i, i ∈ Mt ↔ Held x i) ∧ Ext w w' := by
  have HV := hide h
  have Q2 := hide r2
  have Q4 := hide r4
  have SP := hide hsp
  clear h r2 r4 hsp
  go_enter Tryz.func62, Tryz.ntmps62
  go_wp2_with fail
  refine (walkH_any x b _ bn on (unhide HV) (unhide Q2) (unhide Q4) hn8).mono ?_
  rintro e w1 ⟨rfl, v1, M1, S1, hw1, ht1, i1, x1⟩
  have W1 := hide hw1
  have T1 := hide ht1
  clear hw1 ht1
  go_wp2_with fail
  refine ((unhide SP) _ ((unhide HV).ext x1)).mono ?_
  rintro e w2 ⟨g, cap, Ls, rfl, hans, x12⟩
  have x2 := x1.trans x12
  have A0 := hide (And.intro ((unhide W1).ext x12) (And.intro ((unhide hans).at (unhide W1)) ((unhide T1).ext x12)))
  have hLs : Ls.length ≤ 8000 := (unhide hans).2.1
  have LI := hide (unhide hans).2.2
  clear W1 T1 hans x12
  go_wp2_with fail
  go_loopw [12] (fun i wr => ∃ (k : Nat) (v : Value) (Mt St : List Nat), k ≤ Ls.length ∧ i = .int .i64 k ∧ WkAt wr w.heap.size (w.heap.size + 2) b w.heap.size bn on x.cells.length v Mt St ∧ WtAt wr w.heap.size (w.heap.size + 2) w.heap.size (w.heap.size + 1) bn on v (fun _ => .slice none 0 0) (fun _ => []) ∧ Hid (OnlyHN x Mt ∧ RegsN x x.regs.length Mt ∧ (∀ i, i ∈ Mt → i ∈ St) ∧ ∀ j (h : j < Ls.length), j < k → (x.c Ls[j]).last = 2 → Ls[j] ∈ Mt) ∧ Hid (SpAt wr g (w.heap.size + 2) w.heap.size v bn on Ls) ∧ Ext w wr) (fun i _ => Ls.length - (intOf i).toNat)
  case atStart => exact ⟨0, v1, M1, S1, Nat.zero_le _, rfl, (unhide A0).1, (unhide A0).2.2, ⟨(unhide i1).1, (unhide i1).2.1, (unhide i1).2.2, fun j _ hj => by omega⟩, (unhide A0).2.1, x2⟩
  case round =>
    clear A0 i1 x1 x2
    obtain ⟨k, v, Mt, St, hk, rfl, hw, htt, hinv, hsa, hbl⟩ := hrel
    have HW := hide hw
    have HT := hide htt
    clear hw htt
    by_cases hlt : k < Ls.length
    · obtain ⟨gb, go, hg, gc, g1, g2, g3⟩ := unhide hsa k hlt
      subst hg
      have hk0 : (0:Int) ≤ (k:Int) := by omega
      have hk1 : (k:Int) < (Ls.length:Int) := by omega
      have HI := hide ((unhide LI Ls[k]).1 (List.getElem_mem hlt))
      clear g1 g2 g3
      obtain ⟨j, ej⟩ : ∃ j, j = Ls[k] := ⟨_, rfl⟩
      rw [← ej] at gc HI
      have hjn := (unhide HI).1
      obtain ⟨bc, oc, ap, kp, e1, C⟩ := (unhide HV).H.cell j hjn
      obtain ⟨bn', on', bc', oc', e2, e3, m0, m1'⟩ := (unhide HV).N j hjn
      rw [e1] at e3
      cases e2; cases e3
      have p3 := hbl.keep C.p3
      have m1 := hbl.keep m1'
      have EJ := hide ej
      clear C m0 m1' e1 ej
      cases tl : ((x.c j).last == 2)
      · have R := hide (show ∀ q (h : q < Ls.length), q < k + 1 → (x.c Ls[q]).last = 2 → Ls[q] ∈ Mt from fun q hq hqk e => by
          by_cases z : q = k
          · subst z; rw [← unhide EJ] at e; simp at tl; exact (tl e).elim
          · exact (unhide hinv).2.2.2 q hq (by omega) e)
        go_wp2_with fail
        go_roundw
        case rel => exact ⟨k + 1, v, Mt, St, by omega, by go_num, unhide HW, unhide HT, ⟨(unhide hinv).1, (unhide hinv).2.1, (unhide hinv).2.2.1, unhide R⟩, unhide hsa, hbl⟩
        case measure => simp [intOf]; omega
      · have hl2 : (x.c j).last = 2 := by simpa using tl
        have HL := hide hl2
        clear hl2
        go_wp2_with fail
        refine (meet_any w.heap.size (w.heap.size + 2) b w.heap.size bn on x.cells.length j v Mt St _ (unhide HW) hjn hbl.size hn8).mono ?_
        rintro e w3 ⟨rfl, v', M', S', hw3, ha, hkf⟩
        have R := hide (show WkAt w3 w.heap.size (w.heap.size + 2) b w.heap.size bn on x.cells.length v' M' S' ∧ WtAt w3 w.heap.size (w.heap.size + 2) w.heap.size (w.heap.size + 1) bn on v' (fun _ => .slice none 0 0) (fun _ => []) ∧ (OnlyHN x M' ∧ RegsN x x.regs.length M' ∧ (∀ i, i ∈ M' → i ∈ S') ∧ ∀ j (h : j < Ls.length), j < k + 1 → (x.c Ls[j]).last = 2 → Ls[j] ∈ M') ∧ SpAt w3 (some ⟨gb, go, none⟩) (w.heap.size + 2) w.heap.size v' bn on Ls ∧ Ext w w3 from by
          have G := grow_meet (unhide ha)
          refine ⟨hw3, (unhide HT).step hkf, ⟨fun i hi => ?_, fun j hj hjk e => G.1.m _ ((unhide hinv).2.1 j hj hjk e), fun i hi => ?_, fun q hq hqk e => ?_⟩, (unhide hsa).step hkf, (unhide HW).kext hkf hbl⟩
          · rcases G.1.n i hi with q | ⟨q, _⟩
            · exact (unhide hinv).1 i q
            · rw [q]; exact Held.due j hjn (unhide HL)
          · rcases G.1.n i hi with q | ⟨_, q⟩
            · exact G.1.s i ((unhide hinv).2.2.1 i q)
            · exact q
          · by_cases z : q = k
            · subst z; rw [← unhide EJ]; exact G.2
            · exact G.1.m _ ((unhide hinv).2.2.2 q hq (by omega) e))
        clear hw3 ha hkf gc p3 m1
        go_wp2_with fail
        go_roundw
        case rel => exact ⟨k + 1, v', M', S', by omega, by go_num, (unhide R).1, (unhide R).2.1, (unhide R).2.2.1, (unhide R).2.2.2.1, (unhide R).2.2.2.2⟩
        case measure => simp [intOf]; omega
    · have hk2 : k = Ls.length := by omega
      have I0 := hide (show InvH x Mt St (fun _ => []) none none from ⟨(unhide hinv).1, (unhide hinv).2.1, fun i hi hs => by
        obtain ⟨j, hj, e⟩ := List.getElem_of_mem ((unhide LI i).2 ⟨hi, .inr hs⟩)
        have := (unhide hinv).2.2.2 j hj (by omega) (by rw [e]; exact hs)
        rw [e] at this; exact this, (fun _ _ h => by cases h), (fun _ _ h => by cases h), fun i hi => .inl ((unhide hinv).2.2.1 i hi)⟩)
      clear hinv hsa LI hk2
      go_wp2_with fail
      refine (next_any w.heap.size (w.heap.size + 2) b w.heap.size bn on x.cells.length v Mt St _ (unhide HW) hn8).mono ?_
      rintro e w3 ⟨t, v3, S3, rfl, hw3, ht, hkf⟩
      have hle := (unhide HW).len
      have R := hide (show WkAt w3 w.heap.size (w.heap.size + 2) b w.heap.size bn on x.cells.length v3 Mt S3 ∧ WtAt w3 w.heap.size (w.heap.size + 2) w.heap.size (w.heap.size + 1) bn on v3 (fun _ => .slice none 0 0) (fun _ => []) ∧ CurH x t bn on (3 * x.cells.length + 1) (3 * x.cells.length + 1) Mt S3 (fun _ => []) ∧ Ext w w3 from by
        refine ⟨hw3, (unhide HT).step hkf, ⟨Nat.le_refl _, fun k => by simp, ?_⟩, (unhide HW).kext hkf hbl⟩
        rcases unhide ht with ⟨e, e1, e2⟩ | ⟨j, e, e1⟩
        · have := unhide I0
          rw [e1] at this
          exact .inl ⟨e, e2, this⟩
        · have hI := unhide I0
          rw [e1] at hI
          have hl := hw3.len
          exact .inr ⟨j, e, (unhide HW).sub j (by rw [e1]; simp), hI.take, by omega⟩)
      clear hw3 ht hkf HW HT I0 hle hbl
      go_wp2_with fail
      go_loopg [6] (3 * x.cells.length + 1) (fun gk t wr => ∃ (v : Value) (Mt St : List Nat) (f : Nat → Value) (g : Nat → List (Option Nat)), WkAt wr w.heap.size (w.heap.size + 2) b w.heap.size bn on x.cells.length v Mt St ∧ WtAt wr w.heap.size (w.heap.size + 2) w.heap.size (w.heap.size + 1) bn on v f g ∧ Hid (CurH x t bn on (3 * x.cells.length + 1) gk Mt St g) ∧ Ext w wr)
      case atStart => exact ⟨v3, Mt, S3, _, _, (unhide R).1, (unhide R).2.1, (unhide R).2.2.1, (unhide R).2.2.2⟩
      case round =>
        clear R
        obtain ⟨v, Mt, St, f, g, hw, htt, hcur, hbl⟩ := hrel
        have HW := hide hw
        have HT := hide htt
        obtain ⟨hgk, hlen, hcr⟩ := unhide hcur
        rcases hcr with ⟨rfl, rfl, hI⟩ | ⟨j, rfl, hj, hI, hgj⟩
        · have c1 := hw.c1
          have F := hide (And.intro hw.m (And.intro hw.rlt.2 hI.done))
          clear hw htt hcur hI hlen
          go_wp2_with fail
          go_ret
          exact ⟨rfl, Mt, (unhide F).1, (unhide F).2.1, (unhide F).2.2, hbl⟩
        · have hjn : j < x.cells.length := hw.rg j hj
          have LEN := hide hlen
          have HI := hide hI
          have HJ := hide hj
          have hp := h200 j hjn
          clear hw htt hcur hI hlen hj
          go_wp2_with fail
          refine (release_any w (w.heap.size + 2) b w.heap.size (w.heap.size + 1) bn on x.cells.length j v f g Mt St _ (unhide HW) (unhide HT) (fun i hi => (unhide HI).wl j i hi) hbl hn8 (by have := unhide LEN j; omega)).mono ?_
          rintro e w3 ⟨rfl, v3, M3, S3, hw3, ht3, hg3, hx3⟩
          have W3 := hide hw3
          have T3 := hide ht3
          have I3 := hide (((unhide HI).grow (unhide hg3).1 (fun i hi => (unhide HI).wh j i hi ((unhide HI).only j (unhide HJ)))).freed (unhide hg3).2)
          have J3 := hide ((unhide hg3).1.m j (unhide HJ))
          have G3 := hide (unhide hg3).1
          have X3 := hide (unhide hx3)
          clear hw3 ht3 hg3 hx3
          go_wp2_with fail
          refine (hold_any x w b (w.heap.size + 2) w.heap.size (w.heap.size + 1) bn on j v3 f g M3 S3 _ (unhide HV) (unhide Q2) (unhide Q4) hp (unhide W3) (unhide T3) (unhide I3) (unhide J3) (unhide X3) hn8 (fun k => by have := unhide LEN k; omega)).mono ?_
          rintro e w4 ⟨rfl, v4, M4, S4, f4, g4, hw4, ht4, hi4, hx4⟩
          have W4 := hide hw4
          have T4 := hide ht4
          have I4 := hide (unhide hi4)
          have X4 := unhide hx4
          clear hw4 ht4 hi4 hx4
          go_wp2_with fail
          refine (next_any w.heap.size (w.heap.size + 2) b w.heap.size bn on x.cells.length v4 M4 S4 _ (unhide W4) hn8).mono ?_
          rintro e w5 ⟨t, v5, S5, rfl, hw5, ht5, hkf⟩
          obtain ⟨gk', hgk'⟩ : ∃ g, gk = g + 1 := ⟨gk - 1, by omega⟩
          have R := hide (show WkAt w5 w.heap.size (w.heap.size + 2) b w.heap.size bn on x.cells.length v5 M4 S5 ∧ WtAt w5 w.heap.size (w.heap.size + 2) w.heap.size (w.heap.size + 1) bn on v5 f4 g4 ∧ CurH x t bn on (3 * x.cells.length + 1) gk' M4 S5 g4 ∧ Ext w w5 from by
            refine ⟨hw5, (unhide T4).step hkf, ⟨by omega, fun k => ?_, ?_⟩, (unhide W4).kext hkf X4⟩
            · have := (unhide I4).2.2 k
              have := unhide LEN k
              omega
            · have hI := (unhide I4).1
              have wg : 2 * (x.cells.length - M4.length) + S4.length ≤ 2 * (x.cells.length - Mt.length) + St.length := by
                have a1 := (unhide G3).w
                have a2 := (unhide I4).2.1.w
                have a3 := (unhide W4).len
                have a4 := (unhide W3).len
                have a5 := (unhide G3).l
                have a6 := (unhide I4).2.1.l
                omega
              rcases unhide ht5 with ⟨e, e1, e2⟩ | ⟨i, e, e1⟩
              · rw [e1] at hI
                exact .inl ⟨e, e2, hI⟩
              · have hm : i ∈ M4 := (unhide W4).sub i (by rw [e1]; simp)
                rw [e1] at hI wg
                simp only [List.length_append, List.length_singleton] at wg
                exact .inr ⟨i, e, hm, hI.take, by omega⟩)
          have G := hide hgk'
          clear hw5 ht5 hkf W4 T4 I4 X4 hgk'
          go_wp2_with fail
          go_roundg gk'
          case measure => have := unhide G; omega
          case rel => exact ⟨v5, M4, S5, f4, g4, (unhide R).1, (unhide R).2.1, (unhide R).2.2.1, (unhide R).2.2.2⟩
end Go.Proofs.YtkabcfhemljnbaaGreat
