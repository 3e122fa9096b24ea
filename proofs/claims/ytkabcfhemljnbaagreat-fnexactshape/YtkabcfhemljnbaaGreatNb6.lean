import Derived.Test.YtkabcfhemljnbaaGreatWk
import Derived.Test.YtkabcfhemljnbaaGreatLiveI
import Derived.Test.YtkabcfhemljnbaaGreatL2h
import Derived.Test.YtkabcfhemljnbaaGreatL2p
import Derived.Deep.RegionWith
import Derived.Test.YtkabcfhemljnbaaGreatTo2
import Derived.Deep.DeepCutAuto
import Derived.Test.YtkabcfhemljnbaaGreatL2e
namespace Go.Proofs.YtkabcfhemljnbaaGreat
open Go.RowKit

/-! A map from pointers into one block to slices. -/
/-- the entries are those of Q, each with the value that f gives it -/
def EntAre (bn on : Nat) (f : Nat → Value) (Q : List Nat) (l : List MapEntry) : Prop := l.map (fun e => (e.key, e.val)) = Q.map (fun k => (ptr bn (on + k * 2), f k))
theorem findF {P : Program} (w : World) (t e : TypeId) (i : TypeInfo) (ht : P.underlying t = some (.pointer e)) (hi : P.info? e = some i) (hs : i.size ≠ 0) (bn on : Nat) (f : Nat → Value) (k : Nat) :
    ∀ (l : List MapEntry) (Q : List Nat) (m : Nat), EntAre bn on f Q l → ∃ r, (Instr.findAsking t (ptr bn (on + k * 2)) l m).run P w = .ok r w ∧ ((∃ j, r = some (m + j, f k) ∧ Q[j]? = some k) ∨ (¬ k ∈ Q ∧ r = none))
  | [], Q, m, h => by
    have : Q = [] := by simpa [EntAre] using h.symm
    subst this
    exact ⟨none, by simp [Instr.findAsking], .inr ⟨by simp, rfl⟩⟩
  | x :: l, Q, m, h => by
    cases Q with
    | nil => simp [EntAre] at h
    | cons q Q =>
      simp only [EntAre, List.map_cons, List.cons.injEq, Prod.mk.injEq] at h
      obtain ⟨⟨h1, h2⟩, h3⟩ := h
      by_cases e : k = q
      · subst e
        refine ⟨some (m, f k), ?_, .inl ⟨0, rfl, rfl⟩⟩
        simp [Instr.findAsking, h1, run_equal_ptr w t _ i ht hi hs, h2]
      · obtain ⟨r, hr, ho⟩ := findF w t _ i ht hi hs bn on f k l Q (m + 1) h3
        have ne : ¬ (k * 2 = q * 2) := by omega
        refine ⟨r, ?_, ?_⟩
        · simp [Instr.findAsking, h1, run_equal_ptr w t _ i ht hi hs, ne, hr]
        · rcases ho with ⟨j, hj, hq⟩ | ⟨n, hj⟩
          · exact .inl ⟨j + 1, by rw [hj]; congr 2; omega, by simpa using hq⟩
          · exact .inr ⟨by simp [e, n], hj⟩
theorem findKeyF {P : Program} (w : World) (t e : TypeId) (i : TypeInfo) (ht : P.underlying t = some (.pointer e)) (hi : P.info? e = some i) (hs : i.size ≠ 0) (bn on : Nat) (f : Nat → Value) (k : Nat) (l : List MapEntry) (Q : List Nat) (h : EntAre bn on f Q l) :
    ∃ r, (Instr.findKey t (ptr bn (on + k * 2)) l).run P w = .ok r w ∧ ((∃ j, r = some (j, f k) ∧ Q[j]? = some k) ∨ (¬ k ∈ Q ∧ r = none)) := by
  obtain ⟨r, hr, ho⟩ := findF w t e i ht hi hs bn on f k l Q 0 h
  by_cases hl : l = []
  · subst hl
    have : Q = [] := by simpa [EntAre] using h.symm
    subst this
    exact ⟨none, by simp [Instr.findKey, run_underlying ht, findNow_ptr], .inr ⟨by simp, rfl⟩⟩
  · refine ⟨r, ?_, by simpa using ho⟩
    simp [Instr.findKey, run_underlying ht, findNow_ptr, hl, hr]

/-- the map in memory: f says what it holds -/
structure MapF (w : World) (r bn on : Nat) (f : Nat → Value) : Prop where
  mk' ::
  m : ∃ es clock Q, w.heap[r]? = some (.map es clock) ∧ EntAre bn on f Q es.toList ∧ Q.Nodup ∧ ∀ k, ¬ k ∈ Q → f k = .slice none 0 0
theorem MapF.block {w w' : World} {r bn on : Nat} {f : Nat → Value} (h : MapF w r bn on f) (e : w'.heap[r]? = w.heap[r]?) : MapF w' r bn on f := by
  obtain ⟨es, c, Q, h1, h2⟩ := h.m
  exact ⟨es, c, Q, e.trans h1, h2⟩
theorem MapF.lt {w : World} {r bn on : Nat} {f : Nat → Value} (h : MapF w r bn on f) : r < w.heap.size := by
  obtain ⟨es, c, Q, h1, _⟩ := h.m
  rcases Nat.lt_or_ge r w.heap.size with q | q
  · exact q
  · rw [Array.getElem?_eq_none q] at h1; cases h1
theorem MapF.lookup {P : Program} {w : World} {r bn on : Nat} {f : Nat → Value} (h : MapF w r bn on f) {mt t e et : TypeId} {i : TypeInfo} (hm : P.underlying mt = some (.map t et)) (ht : P.underlying t = some (.pointer e)) (hi : P.info? e = some i) (hs : i.size ≠ 0) (hz : ∀ w, (zeroValue et).run P w = .ok (.slice none 0 0) w) (k : Nat) :
    (Instr.lookup mt (.map (some r)) (ptr bn (on + k * 2)) false).run P w = .ok (f k) w := by
  obtain ⟨es, c, Q, h1, h2, h3, h4⟩ := h.m
  obtain ⟨g, hg, ho⟩ := findKeyF w t e i ht hi hs bn on f k es.toList Q h2
  rcases ho with ⟨j, rfl, hj⟩ | ⟨n, rfl⟩
  · simp [Instr.lookup, run_underlying hm, MapKept.run_getObj_map h1, checkKey_ptr w t e ht, hg]
  · simp [Instr.lookup, run_underlying hm, MapKept.run_getObj_map h1, checkKey_ptr w t e ht, hg, hz, h4 k n]

theorem EntAre.at {bn on : Nat} {f : Nat → Value} {Q : List Nat} {l : List MapEntry} (h : EntAre bn on f Q l) (i : Nat) : (l[i]?).map (fun e => (e.key, e.val)) = (Q[i]?).map (fun k => (ptr bn (on + k * 2), f k)) := by
  rw [← List.getElem?_map, ← List.getElem?_map, h]
theorem MapF.update {P : Program} {w : World} {r bn on : Nat} {f : Nat → Value} (h : MapF w r bn on f) {mt t e et : TypeId} {i : TypeInfo} (hm : P.underlying mt = some (.map t et)) (ht : P.underlying t = some (.pointer e)) (hi : P.info? e = some i) (hs : i.size ≠ 0) (k : Nat) (v : Value) :
    ∃ w', (Instr.mapUpdate mt (.map (some r)) (ptr bn (on + k * 2)) v).run P w = .ok () w' ∧ MapF w' r bn on (fun q => if q = k then v else f q) ∧ w'.os = w.os ∧ w'.tape = w.tape ∧ w'.output = w.output ∧ w'.heap.size = w.heap.size ∧ (∀ q : Nat, q ≠ r → w'.heap[q]? = w.heap[q]?) := by
  have hlt := h.lt
  obtain ⟨es, c, Q, h1, h2, h3, h4⟩ := h.m
  obtain ⟨g, hg, ho⟩ := findKeyF w t e i ht hi hs bn on f k es.toList Q h2
  rcases ho with ⟨j, rfl, hj⟩ | ⟨n, rfl⟩
  · have hat := h2.at j
    rw [hj] at hat
    obtain ⟨en, hen⟩ : ∃ en, es.toList[j]? = some en := by
      cases q : es.toList[j]? with
      | none => rw [q] at hat; simp at hat
      | some en => exact ⟨en, rfl⟩
    have hen2 : es[j]? = some en := by simpa using hen
    rw [hen] at hat
    simp only [Option.map_some, Option.some.injEq, Prod.mk.injEq] at hat
    refine ⟨{ w with heap := w.heap.setIfInBounds r (.map (es.modify j fun e => { e with key := ptr bn (on + k * 2), val := v }) c) }, ?_, ⟨es.modify j fun e => { e with key := ptr bn (on + k * 2), val := v }, c, Q, ?_, ?_, h3, fun q hq => ?_⟩, rfl, rfl, rfl, by simp, fun q hq => ?_⟩
    · simp [Instr.mapUpdate, run_underlying hm, MapKept.run_getObj_map h1, checkKey_ptr w t e ht, hg, MapKept.run_setObj_map _ h1, hen2, hat.1, Instr.keyThatStays, Instr.sameBits]
    · show (w.heap.setIfInBounds r _)[r]? = _
      rw [Array.getElem?_setIfInBounds, if_pos rfl, if_pos hlt]
    · unfold EntAre
      apply List.ext_getElem?
      intro m
      rw [List.getElem?_map, List.getElem?_map, Array.toList_modify, List.getElem?_modify]
      have hm2 := h2.at m
      by_cases em : j = m
      · subst em
        rw [hj, hen]
        simp
      · cases qm : Q[m]? with
        | none => rw [qm] at hm2; simp at hm2; simp [em, hm2]
        | some q =>
          rw [qm] at hm2
          have nq : q ≠ k := fun e => by
            subst e
            have := (List.getElem?_inj (i := j) (j := m) (l := Q) (by
              rcases Nat.lt_or_ge j Q.length with z | z
              · exact z
              · rw [List.getElem?_eq_none z] at hj; cases hj) h3).1 (by rw [hj, qm])
            exact em this
          simp only [em, if_false, nq, Option.map_some]
          simpa using hm2
    · rw [if_neg (fun e => by subst e; exact hq (List.mem_of_getElem? hj))]; exact h4 q hq
    · show (w.heap.setIfInBounds r _)[q]? = _
      rw [Array.getElem?_setIfInBounds, if_neg (fun e => hq e.symm)]
  · refine ⟨{ w with heap := w.heap.setIfInBounds r (.map (es.push { key := ptr bn (on + k * 2), val := v, born := c }) (c + 1)) }, ?_, ⟨es.push { key := ptr bn (on + k * 2), val := v, born := c }, c + 1, Q ++ [k], ?_, ?_, ?_, fun q hq => ?_⟩, rfl, rfl, rfl, by simp, fun q hq => ?_⟩
    · simp [Instr.mapUpdate, run_underlying hm, MapKept.run_getObj_map h1, checkKey_ptr w t e ht, hg, MapKept.run_setObj_map _ h1]
    · show (w.heap.setIfInBounds r _)[r]? = _
      rw [Array.getElem?_setIfInBounds, if_pos rfl, if_pos hlt]
    · unfold EntAre
      have e2 : Q.map (fun q => (ptr bn (on + q * 2), if q = k then v else f q)) = Q.map (fun q => (ptr bn (on + q * 2), f q)) := List.map_congr_left (fun q hq => by rw [if_neg (show ¬ q = k from fun z => n (z ▸ hq))])
      have h2' : es.toList.map (fun e => (e.key, e.val)) = Q.map (fun k => (ptr bn (on + k * 2), f k)) := h2
      simp [e2, h2']
    · rw [List.nodup_append]; exact ⟨h3, by simp, fun a ha b hb => by simp at hb; rw [hb]; intro e; exact n (e ▸ ha)⟩
    · simp only [List.mem_append, List.mem_singleton, not_or] at hq
      rw [if_neg hq.2]; exact h4 q hq.1
    · show (w.heap.setIfInBounds r _)[q]? = _
      rw [Array.getElem?_setIfInBounds, if_neg (fun e => hq e.symm)]
end Go.Proofs.YtkabcfhemljnbaaGreat

namespace Go.Proofs.YtkabcfhemljnbaaGreat
open Go.RowKit
attribute [local go_sem ↓] Go.wp_at_zero Go.wp_at_succ

/-- a pointer to a node, or none -/
def pv (bn on : Nat) (o : Option Nat) : Value := match o with | none => .pointer none | some i => ptr bn (on + i * 2)
theorem pv_none {bn on : Nat} : pv bn on none = .pointer none := rfl
theorem pv_some {bn on i : Nat} : pv bn on (some i) = ptr bn (on + i * 2) := rfl
/-- the node that a word leads to -/
def wo (x : Hp) (y : Wd) : Option Nat := if y.k = 2 then some (tgt x y) else none

/-- a step of the walk: Q says what may come -/
structure Grow (Q : Nat → Prop) (Mt Mt' St St' : List Nat) : Prop where
  m : ∀ i, i ∈ Mt → i ∈ Mt'
  s : ∀ i, i ∈ St → i ∈ St'
  n : ∀ i, i ∈ Mt' → i ∈ Mt ∨ (Q i ∧ i ∈ St')
  w : 2 * Mt.length + St'.length ≤ 2 * Mt'.length + St.length
  l : Mt.length ≤ Mt'.length
theorem Grow.refl {Q : Nat → Prop} {Mt St : List Nat} : Grow Q Mt Mt St St := ⟨fun _ h => h, fun _ h => h, fun _ h => .inl h, Nat.le_refl _, Nat.le_refl _⟩
theorem Grow.trans {Q : Nat → Prop} {M1 M2 M3 S1 S2 S3 : List Nat} (h : Grow Q M1 M2 S1 S2) (k : Grow Q M2 M3 S2 S3) : Grow Q M1 M3 S1 S3 :=
  ⟨fun i hi => k.m i (h.m i hi), fun i hi => k.s i (h.s i hi), fun i hi => by
    rcases k.n i hi with q | q
    · rcases h.n i q with r | ⟨r, s⟩
      · exact .inl r
      · exact .inr ⟨r, k.s i s⟩
    · exact .inr q, by have := h.w; have := k.w; omega, Nat.le_trans h.l k.l⟩
theorem Grow.mono {Q Q' : Nat → Prop} {M1 M2 S1 S2 : List Nat} (h : Grow Q M1 M2 S1 S2) (hq : ∀ i, Q i → Q' i) : Grow Q' M1 M2 S1 S2 :=
  ⟨h.m, h.s, fun i hi => by
    rcases h.n i hi with q | ⟨q, r⟩
    · exact .inl q
    · exact .inr ⟨hq i q, r⟩, h.w, h.l⟩
theorem grow_meet {Mt Mt' St St' : List Nat} {i : Nat} (a : (i ∈ Mt ∧ Mt' = Mt ∧ St' = St) ∨ (¬ i ∈ Mt ∧ Mt' = Mt ++ [i] ∧ St' = St ++ [i])) : Grow (fun q => q = i) Mt Mt' St St' ∧ i ∈ Mt' := by
  rcases a with ⟨m, rfl, rfl⟩ | ⟨m, rfl, rfl⟩
  · exact ⟨Grow.refl, m⟩
  · refine ⟨⟨fun j hj => List.mem_append_left _ hj, fun j hj => List.mem_append_left _ hj, fun j hj => ?_, by simp; omega, by simp⟩, by simp⟩
    rcases List.mem_append.1 hj with q | q
    · exact .inl q
    · simp at q; exact .inr ⟨q, by simp [q]⟩

/-- meet, of a pointer or none -/
theorem meet_opt (base bw bv r1 bn on n : Nat) (o : Option Nat) (v : Value) (Mt St : List Nat) (w : World) (h : WkAt w base bw bv r1 bn on n v Mt St) (ho : ∀ i, o = some i → i < n) (hb : base ≤ w.heap.size) (hn8 : n ≤ 8000) :
    Calls Tryz.prog 104 #[.pointer (some ⟨bw, 0, none⟩), pv bn on o] w fun e w' => e = .returned (.tuple #[]) ∧ ∃ v' Mt' St', WkAt w' base bw bv r1 bn on n v' Mt' St' ∧ Hid (Grow (fun i => o = some i) Mt Mt' St St' ∧ ∀ i, o = some i → i ∈ Mt') ∧ KFr bw r1 v v' w w' := by
  cases o with
  | none => exact (meet_nil bw w).mono fun _ _ ⟨he, hw⟩ => by subst hw; exact ⟨he, v, Mt, St, h, ⟨Grow.refl, fun i e => by cases e⟩, KFr.of_ext (Ext.refl _)⟩
  | some i => exact (meet_any base bw bv r1 bn on n i v Mt St w h (ho i rfl) hb hn8).mono fun _ _ ⟨he, v', M', S', hw, ha, hk⟩ => ⟨he, v', M', S', hw, ⟨(grow_meet (unhide ha)).1.mono (fun q e => by rw [e]), fun j e => by cases e; exact (grow_meet (unhide ha)).2⟩, hk⟩

theorem follow_o (x : Hp) (y : Wd) (b : Nat) (w : World) {ar : Option Addr} {kr : Nat} {ac : Option Addr} {kc : Nat} {ag : Option Addr} {kg : Nat} {kn : Nat} (bn on : Nat) (h : VAt w b x ar kr ac kc ag kg (some ⟨bn, on, none⟩) kn) (r2 : R2 x) (hy : MayMark x y) :
    Calls Tryz.prog 106 #[.pointer (some ⟨b, 0, none⟩), y.v] w fun e w' => Hid (e = .returned (pv bn on (wo x y))) ∧ Ext w w' :=
  (follow_any x y b w bn on h r2 hy).mono fun _ _ ⟨t, he, ht, hx⟩ => ⟨by
    rcases ht with ⟨k, e⟩ | ⟨k, e⟩
    · rw [unhide he, e, wo, if_neg k]; rfl
    · rw [unhide he, e, wo, if_pos k]; rfl, hx⟩
theorem wo_lt {x : Hp} {y : Wd} (hy : MayMark x y) (i : Nat) (h : wo x y = some i) : i < x.cells.length ∧ y.k = 2 ∧ i = tgt x y := by
  unfold wo at h
  split at h
  · rename_i k
    cases h
    exact ⟨(hy k).2.2.2.2.1, k, rfl⟩
  · cases h

/-- the values that wait for a key: f the slices, g what they hold -/
structure WtAt (w : World) (base bw r1 r2 bn on : Nat) (v : Value) (f : Nat → Value) (g : Nat → List (Option Nat)) : Prop where
  c3 : w.cell? ⟨bw, 3, none⟩ = some (Value.map (some r2))
  m : MapF w r2 bn on f
  row : ∀ k, w.ownsRow base 103 1 (f k) (g k).length ((g k).map (pv bn on))
  dis : ∀ k k' b, k ≠ k' → (f k).ownBlock = some b → (f k').ownBlock ≠ some b
  av : ∀ k b, (f k).ownBlock = some b → v.ownBlock ≠ some b
  a1 : ∀ k, (f k).ownBlock ≠ some bw
  a2 : ∀ k, (f k).ownBlock ≠ some r1
  a3 : ∀ k, (f k).ownBlock ≠ some r2
  n1 : r2 ≠ bw
  n2 : r2 ≠ r1
  n3 : v.ownBlock ≠ some r2
  b2 : base ≤ r2
theorem WtAt.ext {w w' : World} {base bw r1 r2 bn on : Nat} {v : Value} {f : Nat → Value} {g : Nat → List (Option Nat)} (h : WtAt w base bw r1 r2 bn on v f g) (e : Ext w w') : WtAt w' base bw r1 r2 bn on v f g :=
  ⟨e.keep h.c3, h.m.block (e.block r2 h.m.lt), fun k => ownsRow_of_block (h.row k) (fun b hb => e.block b ((h.row k).lt b hb).2), h.dis, h.av, h.a1, h.a2, h.a3, h.n1, h.n2, h.n3, h.b2⟩
theorem WtAt.step {w w' : World} {base bw r1 r2 bn on : Nat} {v v' : Value} {f : Nat → Value} {g : Nat → List (Option Nat)} (h : WtAt w base bw r1 r2 bn on v f g) (k : KFr bw r1 v v' w w') : WtAt w' base bw r1 r2 bn on v' f g := by
  refine ⟨k.keep 3 _ (by omega) h.c3, h.m.block (k.block r2 h.m.lt h.n1 h.n2 h.n3), fun q => ownsRow_of_block (h.row q) (fun b hb => k.block b ((h.row q).lt b hb).2 (fun e => h.a1 q (e ▸ hb)) (fun e => h.a2 q (e ▸ hb)) (h.av q b hb)), h.dis, fun q b hb e => ?_, h.a1, h.a2, h.a3, h.n1, h.n2, fun e => ?_, h.b2⟩
  · rcases k.own with o | ⟨y, o, hy⟩
    · rw [o] at e; exact h.av q b hb e
    · rw [o] at e; cases e; have := ((h.row q).lt b hb).2; omega
  · rcases k.own with o | ⟨y, o, hy⟩
    · rw [o] at e; exact h.n3 e
    · rw [o] at e; cases e; have := h.m.lt; omega
theorem ownsRow_form {w : World} {base n : Nat} {t : TypeId} {v : Value} {xs : List Value} (h : w.ownsRow base t 1 v n xs) : ∃ ad cap, v = .slice ad n cap ∧ (0 < n → ∃ gb, ad = some ⟨gb, 0, none⟩) := by
  rcases h.2 with ⟨h0, h1⟩ | ⟨g, cap, cur, h0, _⟩
  · subst h1; exact ⟨none, 0, h0, fun q => by omega⟩
  · exact ⟨_, cap, h0, fun _ => ⟨g, rfl⟩⟩
/-- one more waits for k -/
theorem WtAt.wait {w W w2 w3 : World} {base bw bv r1 r2 bn on n gb cap k : Nat} {v : Value} {f : Nat → Value} {g : Nat → List (Option Nat)} {Mt St : List Nat} {o : Option Nat} {ob : Obj} (hk : WkAt w base bw bv r1 bn on n v Mt St) (h : WtAt w base bw r1 r2 bn on v f g) (hWh : W.heap = (w.alloc ob).heap) (hWo : W.os = w.os) (hWt : W.tape = w.tape) (hWu : W.output = w.output)
    (hown : w2.ownsRow base 103 1 (.slice (some ⟨gb, 0, none⟩) ((g k).length + 1) cap) ((g k).length + 1) ((g k).map (pv bn on) ++ [pv bn on o])) (hg : W.grownBy w2 (f k).ownBlock) (hat : (f k).ownBlock = some gb ∨ gb = W.heap.size)
    (hm : MapF w3 r2 bn on (fun q => if q = k then .slice (some ⟨gb, 0, none⟩) ((g k).length + 1) cap else f q)) (hos : w3.os = w2.os) (ht : w3.tape = w2.tape) (hou : w3.output = w2.output) (hsz : w3.heap.size = w2.heap.size) (hbl : ∀ q : Nat, q ≠ r2 → w3.heap[q]? = w2.heap[q]?) :
    WkAt w3 base bw bv r1 bn on n v Mt St ∧ WtAt w3 base bw r1 r2 bn on v (fun q => if q = k then .slice (some ⟨gb, 0, none⟩) ((g k).length + 1) cap else f q) (fun q => if q = k then g k ++ [o] else g q) ∧ (∀ a : World, a.heap.size = base → Ext a w → Ext a w3) := by
  have hr := hk.rlt
  have hWs : W.heap.size = w.heap.size + 1 := by rw [hWh]; simp
  have hs1 : w.heap.size + 1 ≤ w2.heap.size := by have := hg.size; omega
  have blk : ∀ b : Nat, b < w.heap.size → (f k).ownBlock ≠ some b → w2.heap[b]? = w.heap[b]? := fun b hb hv => (hg.block b (by omega) (fun e => hv e.symm)).trans (by rw [hWh]; exact Below.heap_alloc w ob b hb)
  have blk3 : ∀ b : Nat, b < w.heap.size → (f k).ownBlock ≠ some b → b ≠ r2 → w3.heap[b]? = w.heap[b]? := fun b hb hv hn => (hbl b hn).trans (blk b hb hv)
  have hgb : gb ≠ bw ∧ gb ≠ r1 ∧ gb ≠ r2 ∧ v.ownBlock ≠ some gb ∧ (∀ q, q ≠ k → (f q).ownBlock ≠ some gb) := by
    rcases hat with e | e
    · exact ⟨fun q => h.a1 k (q ▸ e), fun q => h.a2 k (q ▸ e), fun q => h.a3 k (q ▸ e), h.av k gb e, fun q hq => h.dis k q gb (fun z => hq z.symm) e⟩
    · have := h.m.lt
      exact ⟨by omega, by omega, by omega, fun q => by have := (hk.s.lt _ q).2; omega, fun q _ z => by have := ((h.row q).lt _ z).2; omega⟩
  have fo : ∀ q b, (if q = k then (.slice (some ⟨gb, 0, none⟩) ((g k).length + 1) cap : Value) else f q).ownBlock = some b → (q = k ∧ b = gb) ∨ (q ≠ k ∧ (f q).ownBlock = some b) := fun q b e => by
    by_cases z : q = k
    · rw [if_pos z] at e; simp [Value.ownBlock] at e; exact .inl ⟨z, e.symm⟩
    · rw [if_neg z] at e; exact .inr ⟨z, e⟩
  have bwb : w3.heap[bw]? = w.heap[bw]? := blk3 bw hr.1 (h.a1 k) (fun e => h.n1 e.symm)
  have cc : ∀ o' v', w.cell? ⟨bw, o', none⟩ = some v' → w3.cell? ⟨bw, o', none⟩ = some v' := fun o' v' hc => (World.cell?_of_block (a := ⟨bw, o', none⟩) bwb).trans hc
  refine ⟨⟨cc 0 _ hk.c0, cc 1 _ hk.c1, cc 2 _ hk.c2, (World.frozen?_of_block (a := ⟨bw, 2, none⟩) bwb).trans hk.f2, hk.m.block (blk3 r1 hr.2 (h.a2 k) (fun e => h.n2 e.symm)), ownsRow_of_block hk.s (fun b hb => blk3 b (hk.s.lt b hb).2 (fun e => h.av k b e hb) (fun e => h.n3 (e ▸ hb))), hk.a1, hk.a2, hk.a3, hk.b1, hk.b2, hk.sub, hk.nd, hk.nds, hk.rg⟩, ⟨cc 3 _ h.c3, hm, fun q => ?_, fun q q' b hq e => ?_, fun q b e => ?_, fun q e => ?_, fun q e => ?_, fun q e => ?_, h.n1, h.n2, h.n3, h.b2⟩, fun a ha ea => ?_⟩
  · by_cases z : q = k
    · subst z
      simp only [if_true, List.length_append, List.length_singleton, List.map_append, List.map_cons, List.map_nil]
      exact ownsRow_of_block hown (fun b hb => hbl b (fun e => by simp [Value.ownBlock] at hb; omega))
    · simp only [z, if_false]
      exact ownsRow_of_block (h.row q) (fun b hb => blk3 b ((h.row q).lt b hb).2 (h.dis q k b z hb) (fun e => h.a3 q (e ▸ hb)))
  · intro e'
    rcases fo q b e with ⟨z, y⟩ | ⟨z, y⟩
    · rcases fo q' b e' with ⟨z', y'⟩ | ⟨z', y'⟩
      · exact hq (z.trans z'.symm)
      · rw [y] at y'; exact hgb.2.2.2.2 q' z' y'
    · rcases fo q' b e' with ⟨z', y'⟩ | ⟨z', y'⟩
      · rw [y'] at y; exact hgb.2.2.2.2 q z y
      · exact h.dis q q' b hq y y'
  · rcases fo q b e with ⟨z, y⟩ | ⟨z, y⟩
    · rw [y]; exact hgb.2.2.2.1
    · exact h.av q b y
  · rcases fo q bw e with ⟨z, y⟩ | ⟨z, y⟩
    · exact hgb.1 y.symm
    · exact h.a1 q y
  · rcases fo q r1 e with ⟨z, y⟩ | ⟨z, y⟩
    · exact hgb.2.1 y.symm
    · exact h.a2 q y
  · rcases fo q r2 e with ⟨z, y⟩ | ⟨z, y⟩
    · exact hgb.2.2.1 y.symm
    · exact h.a3 q y
  · refine Below.trans ea ⟨(hos.trans hg.os).trans hWo, (ht.trans hg.tape).trans hWt, (hou.trans hg.output).trans hWu, by omega, fun b hb => ?_⟩
    have hbw : b < w.heap.size := Nat.lt_of_lt_of_le hb ea.size
    exact blk3 b hbw (fun e => by have := ((h.row k).lt b e).1; omega) (fun e => by have := h.b2; omega)
end Go.Proofs.YtkabcfhemljnbaaGreat

namespace Go.Proofs.YtkabcfhemljnbaaGreat
open Go.RowKit
attribute [local go_sem ↓] Go.wp_at_zero Go.wp_at_succ

theorem wo_wq (x : Hp) (y : Wd) : wo x y = wq x y := rfl
/-- the numbers in memory: each cell's place in the order -/
structure NumAt (w : World) (r bn on : Nat) (O : List Nat) : Prop where
  mk' ::
  m : ∃ es clock, w.heap[r]? = some (.map es clock) ∧ EntAre bn on (fun k => iv (O.idxOf k : Nat)) O es.toList
theorem NumAt.block {w w' : World} {r bn on : Nat} {O : List Nat} (h : NumAt w r bn on O) (e : w'.heap[r]? = w.heap[r]?) : NumAt w' r bn on O := by
  obtain ⟨es, c, h1, h2⟩ := h.m
  exact ⟨es, c, e.trans h1, h2⟩
theorem NumAt.lt {w : World} {r bn on : Nat} {O : List Nat} (h : NumAt w r bn on O) : r < w.heap.size := by
  obtain ⟨es, c, h1, _⟩ := h.m
  rcases Nat.lt_or_ge r w.heap.size with q | q
  · exact q
  · rw [Array.getElem?_eq_none q] at h1; cases h1
theorem NumAt.lookup {P : Program} {w : World} {r bn on : Nat} {O : List Nat} (h : NumAt w r bn on O) {mt t e et : TypeId} {i : TypeInfo} (hm : P.underlying mt = some (.map t et)) (ht : P.underlying t = some (.pointer e)) (hi : P.info? e = some i) (hs : i.size ≠ 0) (hz : ∀ w, (zeroValue et).run P w = .ok (iv 0) w) (k : Nat) :
    ∃ u, (Instr.lookup mt (.map (some r)) (ptr bn (on + k * 2)) true).run P w = .ok (.tuple #[u, .bool (decide (k ∈ O))]) w := by
  obtain ⟨es, c, h1, h2⟩ := h.m
  obtain ⟨g, hg, ho⟩ := findKeyF w t e i ht hi hs bn on _ k es.toList O h2
  rcases ho with ⟨j, rfl, hj⟩ | ⟨n, rfl⟩
  · exact ⟨iv (O.idxOf k : Nat), by simp [Instr.lookup, run_underlying hm, MapKept.run_getObj_map h1, checkKey_ptr w t e ht, hg, List.mem_of_getElem? hj]⟩
  · exact ⟨iv 0, by simp [Instr.lookup, run_underlying hm, MapKept.run_getObj_map h1, checkKey_ptr w t e ht, hg, hz, n]⟩
theorem NumAt.get {P : Program} {w : World} {r bn on : Nat} {O : List Nat} (h : NumAt w r bn on O) {mt t e et : TypeId} {i : TypeInfo} (hm : P.underlying mt = some (.map t et)) (ht : P.underlying t = some (.pointer e)) (hi : P.info? e = some i) (hs : i.size ≠ 0) (k : Nat) (hk : k ∈ O) :
    (Instr.lookup mt (.map (some r)) (ptr bn (on + k * 2)) false).run P w = .ok (iv (O.idxOf k : Nat)) w := by
  obtain ⟨es, c, h1, h2⟩ := h.m
  obtain ⟨g, hg, ho⟩ := findKeyF w t e i ht hi hs bn on _ k es.toList O h2
  rcases ho with ⟨j, rfl, hj⟩ | ⟨n, rfl⟩
  · simp [Instr.lookup, run_underlying hm, MapKept.run_getObj_map h1, checkKey_ptr w t e ht, hg]
  · exact (n hk).elim
theorem NumAt.push {P : Program} {w : World} {r bn on : Nat} {O : List Nat} (h : NumAt w r bn on O) {mt t e et : TypeId} {i : TypeInfo} (hm : P.underlying mt = some (.map t et)) (ht : P.underlying t = some (.pointer e)) (hi : P.info? e = some i) (hs : i.size ≠ 0) (k : Nat) (hk : ¬ k ∈ O) :
    ∃ w', (Instr.mapUpdate mt (.map (some r)) (ptr bn (on + k * 2)) (iv (O.length : Nat))).run P w = .ok () w' ∧ NumAt w' r bn on (O ++ [k]) ∧ w'.os = w.os ∧ w'.tape = w.tape ∧ w'.output = w.output ∧ w'.heap.size = w.heap.size ∧ (∀ q : Nat, q ≠ r → w'.heap[q]? = w.heap[q]?) := by
  have hlt := h.lt
  obtain ⟨es, c, h1, h2⟩ := h.m
  obtain ⟨g, hg, ho⟩ := findKeyF w t e i ht hi hs bn on _ k es.toList O h2
  rcases ho with ⟨j, rfl, hj⟩ | ⟨n, rfl⟩
  · exact (hk (List.mem_of_getElem? hj)).elim
  · refine ⟨{ w with heap := w.heap.setIfInBounds r (.map (es.push { key := ptr bn (on + k * 2), val := iv (O.length : Nat), born := c }) (c + 1)) }, ?_, ⟨es.push { key := ptr bn (on + k * 2), val := iv (O.length : Nat), born := c }, c + 1, ?_, ?_⟩, rfl, rfl, rfl, by simp, fun q hq => ?_⟩
    · simp [Instr.mapUpdate, run_underlying hm, MapKept.run_getObj_map h1, checkKey_ptr w t e ht, hg, MapKept.run_setObj_map _ h1]
    · show (w.heap.setIfInBounds r _)[r]? = _
      rw [Array.getElem?_setIfInBounds, if_pos rfl, if_pos hlt]
    · unfold EntAre
      have e2 : O.map (fun q => (ptr bn (on + q * 2), (iv ((O ++ [k]).idxOf q : Nat) : Value))) = O.map (fun q => (ptr bn (on + q * 2), iv (O.idxOf q : Nat))) := List.map_congr_left (fun q hq => by rw [List.idxOf_append, if_pos hq])
      have h2' : es.toList.map (fun e => (e.key, e.val)) = O.map (fun k => (ptr bn (on + k * 2), iv (O.idxOf k : Nat))) := h2
      have e3 : (O ++ [k]).idxOf k = O.length := by rw [List.idxOf_append, if_neg hk]; simp
      rw [Array.toList_push, List.map_append, List.map_append, e2, h2']
      simp [e3]
    · show (w.heap.setIfInBounds r _)[q]? = _
      rw [Array.getElem?_setIfInBounds, if_neg (fun e => hq e.symm)]

/-- the program's numbering: the numbers and the order -/
structure NbAt (w : World) (base bm bv r bn on n : Nat) (v : Value) (O : List Nat) : Prop where
  c0 : w.cell? ⟨bm, 0, none⟩ = some (.pointer (some ⟨bv, 0, none⟩))
  c1 : w.cell? ⟨bm, 1, none⟩ = some (Value.map (some r))
  c2 : w.cell? ⟨bm, 2, none⟩ = some v
  f2 : w.frozen? ⟨bm, 2, none⟩ = false
  m : NumAt w r bn on O
  s : w.ownsRow base 103 1 v O.length (O.map (fun i => ptr bn (on + i * 2)))
  a1 : v.ownBlock ≠ some bm
  a2 : v.ownBlock ≠ some r
  a3 : bm ≠ r
  b1 : base ≤ bm
  b2 : base ≤ r
  nd : O.Nodup
  rg : ∀ i, i ∈ O → i < n
theorem NbAt.rlt {w : World} {base bm bv r bn on n : Nat} {v : Value} {O : List Nat} (h : NbAt w base bm bv r bn on n v O) : bm < w.heap.size ∧ r < w.heap.size := ⟨cell_lt h.c0, h.m.lt⟩
theorem NbAt.ext {w w' : World} {base bm bv r bn on n : Nat} {v : Value} {O : List Nat} (h : NbAt w base bm bv r bn on n v O) (e : Ext w w') : NbAt w' base bm bv r bn on n v O :=
  ⟨e.keep h.c0, e.keep h.c1, e.keep h.c2, by rw [e.frozen (p := ⟨bm, 2, none⟩) h.rlt.1]; exact h.f2, h.m.block (e.block r h.rlt.2), ownsRow_of_block h.s (fun k hk => e.block k (h.s.lt k hk).2), h.a1, h.a2, h.a3, h.b1, h.b2, h.nd, h.rg⟩
theorem NbAt.kext {a w w' : World} {bm bv r bn on n : Nat} {v v' : Value} {O : List Nat} (h : NbAt w a.heap.size bm bv r bn on n v O) (q : KFr bm r v v' w w') (e : Ext a w) : Ext a w' :=
  Below.trans e ⟨q.os, q.tape, q.output, q.size, fun k hk => q.block k (Nat.lt_of_lt_of_le hk e.size) (by have := h.b1; omega) (by have := h.b2; omega) (fun f => by have := (h.s.lt k f).1; omega)⟩
theorem NbAt.len {w : World} {base bm bv r bn on n : Nat} {v : Value} {O : List Nat} (h : NbAt w base bm bv r bn on n v O) : O.length ≤ n := len_le h.nd h.rg
theorem NbAt.form {w : World} {base bm bv r bn on n : Nat} {v : Value} {O : List Nat} (h : NbAt w base bm bv r bn on n v O) : ∃ ad cap, v = .slice ad O.length cap ∧ (0 < O.length → ∃ gb, ad = some ⟨gb, 0, none⟩) := ownsRow_form h.s
theorem NbAt.cell {w : World} {base bm bv r bn on n gb cap l : Nat} {O : List Nat} (h : NbAt w base bm bv r bn on n (.slice (some ⟨gb, 0, none⟩) l cap) O) (i : Nat) (hi : i < O.length) : w.cell? ⟨gb, i, none⟩ = some (ptr bn (on + O[i] * 2)) := by
  have hl : l = O.length := by
    rcases h.s.2 with ⟨e, _⟩ | ⟨g, cap, cur, e, _⟩
    · cases e
    · cases e; rfl
  subst hl
  have := World.ownsRow.cellAt h.s i (by omega)
  rw [this, List.getElem?_map, List.getElem?_eq_getElem hi]; rfl
/-- one more is numbered -/
theorem NbAt.add {w w1 w2 : World} {base bm bv r bn on n g cap i : Nat} {v : Value} {O : List Nat} {ob : Obj} (h : NbAt w base bm bv r bn on n v O) (hi : i < n) (hm : ¬ i ∈ O)
    (hm1 : NumAt w1 r bn on (O ++ [i])) (hos : w1.os = w.os) (ht : w1.tape = w.tape) (hou : w1.output = w.output) (hsz : w1.heap.size = w.heap.size) (hbl : ∀ k : Nat, k ≠ r → w1.heap[k]? = w.heap[k]?)
    (hown : w2.ownsRow base 103 1 (.slice (some ⟨g, 0, none⟩) (O.length + 1) cap) (O.length + 1) (O.map (fun i => ptr bn (on + i * 2)) ++ [ptr bn (on + i * 2)])) (hg : (w1.alloc ob).grownBy w2 v.ownBlock) (hat : v.ownBlock = some g ∨ g = w1.heap.size + 1) :
    NbAt (w2.setCell ⟨bm, 2, none⟩ (.slice (some ⟨g, 0, none⟩) (O.length + 1) cap)) base bm bv r bn on n (.slice (some ⟨g, 0, none⟩) (O.length + 1) cap) (O ++ [i]) ∧
    KFr bm r v (.slice (some ⟨g, 0, none⟩) (O.length + 1) cap) w (w2.setCell ⟨bm, 2, none⟩ (.slice (some ⟨g, 0, none⟩) (O.length + 1) cap)) ∧ w2.cell? ⟨bm, 2, none⟩ = some v ∧ w2.frozen? ⟨bm, 2, none⟩ = false := by
  have hr := h.rlt
  have hs1 : w1.heap.size + 1 ≤ w2.heap.size := by have := hg.size; simpa using this
  have blk : ∀ k : Nat, k < w1.heap.size → v.ownBlock ≠ some k → w2.heap[k]? = w1.heap[k]? := fun k hk hv => (hg.block k (by simp; omega) (fun e => hv e.symm)).trans (Below.heap_alloc w1 ob k hk)
  have hbw : w2.heap[bm]? = w.heap[bm]? := (blk bm (by omega) h.a1).trans (hbl bm h.a3)
  have hgb : g ≠ bm ∧ g ≠ r := by
    rcases hat with e | e
    · exact ⟨fun q => h.a1 (q ▸ e), fun q => h.a2 (q ▸ e)⟩
    · omega
  have cc : ∀ o' v', w.cell? ⟨bm, o', none⟩ = some v' → w2.cell? ⟨bm, o', none⟩ = some v' := fun o' v' hc => (World.cell?_of_block (a := ⟨bm, o', none⟩) hbw).trans hc
  have hc2 := cc 2 _ h.c2
  have hf2 : w2.frozen? ⟨bm, 2, none⟩ = false := (World.frozen?_of_block (a := ⟨bm, 2, none⟩) hbw).trans h.f2
  refine ⟨⟨?_, ?_, World.cell?_setCell_same _ _ _ hc2, by rw [World.frozen?_setCell]; exact hf2, ?_, ?_, fun e => hgb.1 (by simpa [Value.ownBlock] using e), fun e => hgb.2 (by simpa [Value.ownBlock] using e), h.a3, h.b1, h.b2, ?_, ?_⟩, ⟨?_, ?_, ?_, ?_, fun k hk h1 h2 h3 => ?_, ?_, fun o u ho hc => (cell_other _ (.inr (fun e => ho e.symm))).trans (cc o u hc)⟩, hc2, hf2⟩
  · rw [cell_other _ (.inr (by omega))]; exact cc 0 _ h.c0
  · rw [cell_other _ (.inr (by omega))]; exact cc 1 _ h.c1
  · refine NumAt.block (w := w1) hm1 ?_
    rw [Below.heap_setCell _ _ _ _ (show r ≠ bm from fun e => h.a3 e.symm)]
    exact blk r (by omega) h.a2
  · refine ownsRow_of_block (by simpa using hown) (fun k hk => Below.heap_setCell _ _ _ _ ?_)
    simp [Value.ownBlock] at hk
    show k ≠ bm
    omega
  · rw [List.nodup_append]; exact ⟨h.nd, by simp, fun a ha b hb => by simp at hb; rw [hb]; intro e; exact hm (e ▸ ha)⟩
  · intro j hj
    rcases List.mem_append.1 hj with q | q
    · exact h.rg j q
    · simp at q; omega
  · exact (hg.os.trans rfl).trans hos
  · exact (hg.tape.trans rfl).trans ht
  · exact (hg.output.trans rfl).trans hou
  · have : (w2.setCell ⟨bm, 2, none⟩ (.slice (some ⟨g, 0, none⟩) (O.length + 1) cap)).heap.size = w2.heap.size := by simp [World.setCell]
    omega
  · rw [Below.heap_setCell _ _ _ _ (show k ≠ bm from h1), blk k (by omega) h3]; exact hbl k h2
  · rcases hat with e | e
    · exact .inl e.symm
    · exact .inr ⟨g, rfl, by omega⟩

theorem nums_und : ∃ et, Tryz.prog.underlying 146 = some (.map 103 et) ∧ ∀ w, (zeroValue et).run Tryz.prog w = .ok (iv 0) w := ⟨_, Tryz.underlying146, fun _ => by kernel_rfl⟩
theorem nmeet_nil (bm : Nat) (w : World) :
    Calls Tryz.prog 160 #[.pointer (some ⟨bm, 0, none⟩), .pointer none] w fun e w' => e = .returned (.tuple #[]) ∧ w' = w := by
  go_enter Tryz.func160, Tryz.ntmps160
  go_wp2_with fail
  try simp only [Exit.inBlock, Exit.then]
  refine bodyPost_ret (results_none rfl _ _ _) rfl ?_
  exact ⟨rfl, rfl⟩

set_option maxRecDepth 100000 in
set_option maxHeartbeats 2000000 in
theorem nmeet_some (base bm bv r bn on n i : Nat) (v : Value) (O : List Nat) (w : World) (h : NbAt w base bm bv r bn on n v O) (hi : i < n) (hb : base ≤ w.heap.size) (hn8 : n ≤ 8000) :
    Calls Tryz.prog 160 #[.pointer (some ⟨bm, 0, none⟩), ptr bn (on + i * 2)] w fun e w' => e = .returned (.tuple #[]) ∧ ∃ v', NbAt w' base bm bv r bn on n v' (ad O (some i)) ∧ KFr bm r v v' w w' := by
  obtain ⟨et, hu, hz⟩ := nums_und
  obtain ⟨i1, hi1, _, hz1, _⟩ := info_parts infoNodes
  obtain ⟨i0, hi0, hy0, hy1, hy2⟩ := info_parts infoNodeP
  have hlen := h.len
  have c1 := h.c1
  have c2 := h.c2
  obtain ⟨uu, lk⟩ := h.m.lookup hu node_und hi1 (by rw [hz1]; omega) hz i
  have HW := hide h
  have HU := hide hu
  have HN := hide hi1
  have HZ := hide hz1
  obtain ⟨av, cv, hv, _⟩ := h.form
  subst hv
  clear h hu hz hi1 hz1
  by_cases hm : i ∈ O
  · have E : decide (i ∈ O) = true := decide_eq_true hm
    rw [E] at lk
    have ea : ad O (some i) = O := by unfold ad; simp only [if_pos hm]
    rw [ea]
    clear E ea
    go_enter Tryz.func160, Tryz.ntmps160
    go_wp2_with fail
    try simp only [Exit.inBlock, Exit.then]
    refine bodyPost_ret (results_none rfl _ _ _) rfl ?_
    exact ⟨rfl, _, unhide HW, KFr.of_ext (Ext.refl _)⟩
  · have E : decide (i ∈ O) = false := decide_eq_false hm
    rw [E] at lk
    have ea : ad O (some i) = O ++ [i] := by unfold ad; simp only [if_neg hm]
    rw [ea]
    clear E ea
    obtain ⟨wU, hUp, m1, hos, ht, hou, hsz, hbl⟩ := NumAt.push (w := w.drew) ((unhide HW).m.block rfl) (unhide HU) node_und (unhide HN) (by rw [unhide HZ]; omega) i hm
    have dU : wU.cell? ⟨bm, 2, none⟩ = some (.slice av O.length cv) := (World.cell?_of_block (w := w) (a := ⟨bm, 2, none⟩) (hbl bm (unhide HW).a3)).trans c2
    have OW := hide (show wU.ownsRow base 103 1 (.slice av O.length cv) O.length (O.map (fun i => ptr bn (on + i * 2))) from ownsRow_of_block (unhide HW).s (fun k hk => hbl k (fun e => (unhide HW).a2 (e ▸ hk))))
    have AD := hide (And.intro m1 (And.intro hos (And.intro ht (And.intro hou (And.intro hsz hbl)))))
    have hbU : base ≤ wU.heap.size := by rw [hsz]; exact hb
    clear m1 hos ht hou hsz hbl
    go_enter Tryz.func160, Tryz.ntmps160
    go_wp2_with fail
    go_region
    go_wp2_with (at_builtin; refine wpList_append_lies _ rfl _ _ 107 rfl base 103 i0 (.pointer none) 1 8 Tryz.underlying107 hi0 hy0 hy1 hy2 rfl (by decide) _ O.length (O.map (fun i => ptr bn (on + i * 2))) rfl ((unhide OW).alloc _) _ 1 1 [ptr bn (on + i * 2)] rfl rfl ?c1 ?c2 (by decide) ?c3 ?c4 ?c5 _ rfl ?_)
    case c1 =>
      intro j u hj
      match j, hj with
      | 0, hj => simp at hj; subst hj; simp [Addr.add]
    case c2 => intro u hu; simp at hu; subst hu; rfl
    case c3 => unfold maxLen; omega
    case c4 => omega
    case c5 => simp; omega
    intro g cap w2 hown hgrow hat hglt
    obtain ⟨q1, q2, q3, q4⟩ := NbAt.add (unhide HW) hi hm (unhide AD).1 (unhide AD).2.1 (unhide AD).2.2.1 (unhide AD).2.2.2.1 (unhide AD).2.2.2.2.1 (unhide AD).2.2.2.2.2 hown hgrow (by simpa using hat)
    have FIN := hide (And.intro q1 q2)
    clear q1 q2 hown hgrow hat dU
    go_wp2_with fail
    go_end0
    exact ⟨rfl, _, (unhide FIN).1, (unhide FIN).2⟩
theorem nmeet_any (base bm bv r bn on n : Nat) (o : Option Nat) (v : Value) (O : List Nat) (w : World) (h : NbAt w base bm bv r bn on n v O) (hi : ∀ i, o = some i → i < n) (hb : base ≤ w.heap.size) (hn8 : n ≤ 8000) :
    Calls Tryz.prog 160 #[.pointer (some ⟨bm, 0, none⟩), pv bn on o] w fun e w' => e = .returned (.tuple #[]) ∧ ∃ v', NbAt w' base bm bv r bn on n v' (ad O o) ∧ KFr bm r v v' w w' := by
  cases o with
  | none => exact (nmeet_nil bm w).mono fun _ _ ⟨he, hw⟩ => by subst hw; exact ⟨he, v, h, KFr.of_ext (Ext.refl _)⟩
  | some i => exact nmeet_some base bm bv r bn on n i v O w h (hi i rfl) hb hn8
end Go.Proofs.YtkabcfhemljnbaaGreat

namespace Go.Proofs.YtkabcfhemljnbaaGreat
open Go.RowKit
attribute [local go_sem ↓] Go.wp_at_zero Go.wp_at_succ

theorem NbAt.start (w : World) (bv bn on n : Nat) (t : TypeId) : NbAt ((w.alloc (.map #[] 0)).alloc (.cells #[.pointer (some ⟨bv, 0, none⟩), .map (some w.heap.size), .slice none 0 0] t)) w.heap.size (w.heap.size + 1) bv w.heap.size bn on n (.slice none 0 0) [] := by
  have hm : ((w.alloc (.map #[] 0)).alloc (.cells #[.pointer (some ⟨bv, 0, none⟩), .map (some w.heap.size), .slice none 0 0] t)).heap[w.heap.size]? = some (.map #[] 0) := by
    rw [Below.heap_alloc _ _ _ (by simp)]
    exact heap_alloc_new w _
  exact ⟨by simp [go_sem], by simp [go_sem], by simp [go_sem], by simp [go_sem], ⟨#[], 0, hm, by simp [EntAre]⟩, World.ownsRow_nil _ _ _ _, by simp [Value.ownBlock], by simp [Value.ownBlock], by omega, by omega, Nat.le_refl _, List.nodup_nil, fun i hi => by cases hi⟩

theorem fold_pre {α : Type} (f : List Nat → α → List Nat) (hf : ∀ O a, ∃ R, f O a = O ++ R) : ∀ (l : List α) (O : List Nat), ∃ R, l.foldl f O = O ++ R
  | [], O => ⟨[], by simp⟩
  | a :: l, O => by
    obtain ⟨R, e⟩ := hf O a
    obtain ⟨R', e'⟩ := fold_pre f hf l (f O a)
    exact ⟨R ++ R', by rw [List.foldl_cons, e', e, List.append_assoc]⟩
theorem prO_pre (x : Hp) (j p : Nat) (O : List Nat) : ∃ R, prO x j p O = O ++ R := fold_pre _ (fun O q => by
  obtain ⟨R, e⟩ := ad_pre O (wq x q.key)
  obtain ⟨R', e'⟩ := ad_pre (ad O (wq x q.key)) (wq x q.val)
  exact ⟨R ++ R', by rw [e', e, List.append_assoc]⟩) _ O

set_option maxRecDepth 100000 in
set_option maxHeartbeats 4000000 in
theorem numbered_any (x : Hp) (b : Nat) (w : World) {ar : Option Addr} {kr : Nat} {ac : Option Addr} {kc : Nat} {ag : Option Addr} {kg : Nat} {kn : Nat} (bn on : Nat) (h : VAt w b x ar kr ac kc ag kg (some ⟨bn, on, none⟩) kn) (r2 : R2 x) (r4 : R4 x) (hn8 : x.cells.length ≤ 8000) (N : List Nat) (hN : IsW x N) (g : Option Addr) (cap : Nat) (hg : ∀ k (h : k < N.length), ∃ gb go, g = some ⟨gb, go, none⟩ ∧ w.cell? ⟨gb, go + k, none⟩ = some (ptr bn (on + N[k] * 2))) :
    Calls Tryz.prog 115 #[.pointer (some ⟨b, 0, none⟩), .slice g N.length cap] w fun e w' => e = .returned (.pointer (some ⟨w.heap.size + 1, 0, none⟩)) ∧ ∃ v, NbAt w' w.heap.size (w.heap.size + 1) b w.heap.size bn on x.cells.length v (ordO x N) ∧ Ext w w' := by
  have c3 := h.H.c3
  have lr := h.H.lr
  have hb : b < w.heap.size := cell_lt c3
  have HV := hide h
  have Q2 := hide r2
  have Q4 := hide r4
  have HG := hide hg
  have WN := hide hN
  have hNl : N.length ≤ 8000 := by have := len_le hN.nd (fun i hi => ((hN.m i).1 hi).1); omega
  have hmm : ∀ (t : TypeId) (w : World), (Instr.makeMap t none).run Tryz.prog w = .ok (.map (some w.heap.size)) (w.alloc (.map #[] 0)) := fun _ _ => rfl
  have c4 := (((Ext.refl w).alloc (.map #[] 0)).alloc (.cells #[.pointer (some ⟨b, 0, none⟩), .map (some w.heap.size), .slice none 0 0] 148)).keep c3
  have S0 := hide (NbAt.start w b bn on x.cells.length 148)
  clear h r2 r4 hg hN
  go_enter Tryz.func115, Tryz.ntmps115
  go_wp2_with fail
  go_loopw [23] (fun i wr => ∃ (k : Nat) (v : Value), k ≤ x.regs.length ∧ i = .int .i64 k ∧ NbAt wr w.heap.size (w.heap.size + 1) b w.heap.size bn on x.cells.length v (regO x k) ∧ Ext w wr) (fun i _ => x.regs.length - (intOf i).toNat)
  case atStart => exact ⟨0, _, Nat.zero_le _, rfl, unhide S0, ((Ext.refl w).alloc _).alloc _⟩
  case round =>
    clear S0 c3 c4 hmm
    obtain ⟨k, v, hk, rfl, hw, hbl⟩ := hrel
    have HW := hide hw
    clear hw
    by_cases hlt : k < x.regs.length
    · have hh := (unhide HV).ext hbl
      obtain ⟨b', o, rfl, p0, p1, p2⟩ := hh.H.R k hlt
      have hb' : b' < wr.heap.size := cell_lt p0
      have hk0 : (0:Int) ≤ (k:Int) := by omega
      have hk1 : (k:Int) < (x.regs.length:Int) := by omega
      have xa := (Ext.refl wr).alloc (.cells #[iv x.regs[k].k, iv x.regs[k].n, iv x.regs[k].a] 90)
      have MY := hide (may_reg (unhide Q2) (unhide Q4) k hlt)
      clear hh
      go_wp2_with fail
      refine (follow_o x x.regs[k] b _ bn on ((unhide HV).ext (hbl.trans xa)) (unhide Q2) (unhide MY)).mono ?_
      rintro e w2 ⟨rfl, hq⟩
      have x2 := xa.trans hq
      go_wp2_with fail
      refine (nmeet_any w.heap.size (w.heap.size + 1) b w.heap.size bn on x.cells.length (wo x x.regs[k]) v (regO x k) _ ((unhide HW).ext x2) (fun i e => (wo_lt (unhide MY) i e).1) (hbl.trans x2).size hn8).mono ?_
      rintro e w3 ⟨rfl, v', hw3, hkf⟩
      have R := hide (show NbAt w3 w.heap.size (w.heap.size + 1) b w.heap.size bn on x.cells.length v' (regO x (k + 1)) ∧ Ext w w3 from ⟨by rw [regO_step k hlt]; exact hw3, ((unhide HW).ext x2).kext hkf (hbl.trans x2)⟩)
      clear hw3 hkf
      go_wp2_with fail
      go_roundw
      case rel => exact ⟨k + 1, v', by omega, by go_num, (unhide R).1, (unhide R).2⟩
      case measure => simp [intOf]; omega
    · have hk2 : k = x.regs.length := by omega
      subst hk2
      have B0 := hide hbl
      have SP := hide (show SpAt wr g (w.heap.size + 1) w.heap.size v bn on N from fun i hi => by
        obtain ⟨gb, go, e, c⟩ := unhide HG i hi
        have hl := cell_lt c
        refine ⟨gb, go, e, hbl.keep c, fun z => ?_, fun z => ?_, fun z => ?_⟩
        · have hl' : gb < w.heap.size := hl
          omega
        · have hl' : gb < w.heap.size := hl
          omega
        · have hl' : gb < w.heap.size := hl
          have := ((unhide HW).s.lt gb z).1
          omega)
      clear hlt hk hbl
      go_wp2_with fail
      go_loopw [35] (fun i wr => ∃ (k : Nat) (v : Value), k ≤ N.length ∧ i = .int .i64 k ∧ NbAt wr w.heap.size (w.heap.size + 1) b w.heap.size bn on x.cells.length v (wantO x N k) ∧ Hid (SpAt wr g (w.heap.size + 1) w.heap.size v bn on N) ∧ Ext w wr) (fun i _ => N.length - (intOf i).toNat)
      case atStart => exact ⟨0, v, Nat.zero_le _, rfl, unhide HW, unhide SP, unhide B0⟩
      case round =>
        clear HW SP B0 v
        obtain ⟨k, v, hk, rfl, hw, hsa, hbl⟩ := hrel
        have HW := hide hw
        clear hw
        by_cases hlt : k < N.length
        · obtain ⟨gb, go, hg, gc, g1, g2, g3⟩ := unhide hsa k hlt
          subst hg
          have hk0 : (0:Int) ≤ (k:Int) := by omega
          have hk1 : (k:Int) < (N.length:Int) := by omega
          have HI := hide (((unhide WN).m N[k]).1 (List.getElem_mem hlt))
          clear g1 g2 g3
          go_wp2_with fail
          refine (nmeet_some w.heap.size (w.heap.size + 1) b w.heap.size bn on x.cells.length N[k] v (wantO x N k) _ (unhide HW) (unhide HI).1 hbl.size hn8).mono ?_
          rintro e w3 ⟨rfl, v', hw3, hkf⟩
          have R := hide (show NbAt w3 w.heap.size (w.heap.size + 1) b w.heap.size bn on x.cells.length v' (wantO x N (k + 1)) ∧ SpAt w3 (some ⟨gb, go, none⟩) (w.heap.size + 1) w.heap.size v' bn on N ∧ Ext w w3 from ⟨by rw [wantO_step k hlt]; exact hw3, (unhide hsa).step hkf, (unhide HW).kext hkf hbl⟩)
          clear hw3 hkf gc
          go_wp2_with fail
          go_roundw
          case rel => exact ⟨k + 1, v', by omega, by go_num, (unhide R).1, (unhide R).2.1, (unhide R).2.2⟩
          case measure => simp [intOf]; omega
        · have hk2 : k = N.length := by omega
          subst hk2
          have B0 := hide hbl
          have I0 := hide (show ∀ i, i ∈ wantO x N N.length → Reached x i from (wantO_is (unhide Q2) (unhide WN) N.length (Nat.le_refl _)).1)
          clear hlt hk hbl hsa
          go_wp2_with fail
          go_loopw [10] (fun i wr => ∃ (c : Nat) (v : Value) (O : List Nat), c ≤ O.length ∧ i = .int .i64 c ∧ NbAt wr w.heap.size (w.heap.size + 1) b w.heap.size bn on x.cells.length v O ∧ Hid ((∀ i, i ∈ O → Reached x i) ∧ clO x (x.cells.length + 1 - c) c O = ordO x N) ∧ Ext w wr) (fun i _ => x.cells.length - (intOf i).toNat)
          case atStart => exact ⟨0, v, _, Nat.zero_le _, rfl, unhide HW, ⟨unhide I0, rfl⟩, unhide B0⟩
          case round =>
            clear HW I0 B0 v
            obtain ⟨c, v, O, hc, rfl, hw, hinv, hbl⟩ := hrel
            have HW := hide hw
            have hOn := hw.len
            have c2 := hw.c2
            obtain ⟨av, cv, rfl, hgl⟩ := hw.form
            by_cases hlt : c < O.length
            · obtain ⟨gq, rfl⟩ := hgl (by omega)
              obtain ⟨j, ej⟩ : ∃ j, j = O[c] := ⟨_, rfl⟩
              have cj := hw.cell c hlt
              rw [← ej] at cj
              have RJ := hide (show Reached x j by rw [ej]; exact (unhide hinv).1 _ (List.getElem_mem hlt))
              have EJ := hide ej
              have GD := hide ((unhide RJ).good (unhide Q2) (unhide Q4))
              have hjn := (unhide GD).1
              obtain ⟨bc, oc, ap, kp, e1, C⟩ := (unhide HV).H.cell j hjn
              obtain ⟨bn', on', bc', oc', e2, e3, m0, m1'⟩ := (unhide HV).N j hjn
              rw [e1] at e3
              cases e2; cases e3
              have p7 := hbl.keep C.p7
              have m1 := hbl.keep m1'
              have lp := C.lp
              have HP := hide C.P
              have c0 : (0:Int) ≤ (c:Int) := by omega
              have c1 : (c:Int) < (O.length:Int) := by omega
              have B0 := hide hbl
              clear hw C m0 m1' e1 ej hbl
              go_wp2_with fail
              go_loopw [66] (fun i wz => ∃ (p : Nat) (v : Value), p ≤ (x.c j).prs.length ∧ i = .int .i64 p ∧ NbAt wz w.heap.size (w.heap.size + 1) b w.heap.size bn on x.cells.length v (prO x j p O) ∧ Ext w wz) (fun i _ => (x.c j).prs.length - (intOf i).toNat)
              case atStart => exact ⟨0, _, Nat.zero_le _, rfl, unhide HW, unhide B0⟩
              case round =>
                clear HW B0 c2 cj p7 m1
                obtain ⟨p, v, hp, rfl, hw, hbl⟩ := hrel
                have HW := hide hw
                clear hw
                by_cases hpl : p < (x.c j).prs.length
                · obtain ⟨b2, o2, rfl, q0, q1, q2, q3, q4, q5⟩ := unhide HP p hpl
                  have e0 := hbl.keep q0
                  have e1 := hbl.keep q1
                  have e2 := hbl.keep q2
                  have e3 := hbl.keep q3
                  have e4 := hbl.keep q4
                  have e5 := hbl.keep q5
                  have hb2 : b2 < wr.heap.size := cell_lt e0
                  clear q0 q1 q2 q3 q4 q5
                  have hp0 : (0:Int) ≤ (p:Int) := by omega
                  have hp1 : (p:Int) < ((x.c j).prs.length:Int) := by omega
                  have xa := (Ext.refl wr).alloc (.cells #[.int .i64 ((x.c j).p p).key.k, .int .i64 ((x.c j).p p).key.n, .int .i64 ((x.c j).p p).key.a, .int .i64 ((x.c j).p p).val.k, .int .i64 ((x.c j).p p).val.n, .int .i64 ((x.c j).p p).val.a] 123)
                  have MK := hide (may_pair (unhide Q2) (unhide Q4) j p (unhide GD) hpl)
                  go_wp2_with fail
                  refine (follow_o x ((x.c j).p p).key b _ bn on ((unhide HV).ext (hbl.trans xa)) (unhide Q2) (unhide MK).1).mono ?_
                  rintro e w2 ⟨rfl, hq2⟩
                  have x2 := xa.trans hq2
                  have v3 : w2.cell? ⟨wr.heap.size, 3, none⟩ = some (.int .i64 ((x.c j).p p).val.k) := hq2.keep (by simp [go_sem])
                  have v4 : w2.cell? ⟨wr.heap.size, 4, none⟩ = some (.int .i64 ((x.c j).p p).val.n) := hq2.keep (by simp [go_sem])
                  have v5 : w2.cell? ⟨wr.heap.size, 5, none⟩ = some (.int .i64 ((x.c j).p p).val.a) := hq2.keep (by simp [go_sem])
                  clear e0 e1 e2 e3 e4 e5 hq2
                  go_wp2_with fail
                  refine (nmeet_any w.heap.size (w.heap.size + 1) b w.heap.size bn on x.cells.length (wo x ((x.c j).p p).key) v (prO x j p O) _ ((unhide HW).ext x2) (fun i e => (wo_lt (unhide MK).1 i e).1) (hbl.trans x2).size hn8).mono ?_
                  rintro e w3 ⟨rfl, v', hw3, hk3⟩
                  have hlt2 : wr.heap.size < w2.heap.size := cell_lt v3
                  have kb := hk3.block wr.heap.size hlt2 (by have := (unhide HW).rlt; omega) (by have := (unhide HW).rlt; omega) (fun e => by have := ((unhide HW).s.lt _ e).2; omega)
                  have y3 := (World.cell?_of_block (a := ⟨wr.heap.size, 3, none⟩) kb).trans v3
                  have y4 := (World.cell?_of_block (a := ⟨wr.heap.size, 4, none⟩) kb).trans v4
                  have y5 := (World.cell?_of_block (a := ⟨wr.heap.size, 5, none⟩) kb).trans v5
                  have B3 := ((unhide HW).ext x2).kext hk3 (hbl.trans x2)
                  have W3 := hide hw3
                  clear hw3 hk3 v3 v4 v5 kb hlt2 HW x2 xa
                  go_wp2_with fail
                  refine (follow_o x ((x.c j).p p).val b _ bn on ((unhide HV).ext B3) (unhide Q2) (unhide MK).2).mono ?_
                  rintro e w4 ⟨rfl, hq4⟩
                  go_wp2_with fail
                  refine (nmeet_any w.heap.size (w.heap.size + 1) b w.heap.size bn on x.cells.length (wo x ((x.c j).p p).val) v' _ _ ((unhide W3).ext hq4) (fun i e => (wo_lt (unhide MK).2 i e).1) (B3.trans hq4).size hn8).mono ?_
                  rintro e w5 ⟨rfl, v5, hw5, hk5⟩
                  have R := hide (show NbAt w5 w.heap.size (w.heap.size + 1) b w.heap.size bn on x.cells.length v5 (prO x j (p + 1) O) ∧ Ext w w5 from ⟨by rw [prO_step p hpl]; exact hw5, ((unhide W3).ext hq4).kext hk5 (B3.trans hq4)⟩)
                  clear hw5 hk5 y3 y4 y5 W3 hq4 B3
                  go_wp2_with fail
                  go_roundw
                  case rel => exact ⟨p + 1, v5, by omega, by go_num, (unhide R).1, (unhide R).2⟩
                  case measure => simp [intOf]; omega
                · have hpe : p = (x.c j).prs.length := by omega
                  have R := hide (show (∀ i, i ∈ prO x j p O → Reached x i) ∧ clO x (x.cells.length + 1 - (c + 1)) (c + 1) (prO x j p O) = ordO x N by
                    rw [hpe]
                    refine ⟨(prO_is (unhide RJ) (unhide hinv).1 (by
                      have := (unhide HW).nd
                      rw [hpe] at this
                      obtain ⟨R, e⟩ := prO_pre x j (x.c j).prs.length O
                      rw [e, List.nodup_append] at this
                      exact this.1) _ (Nat.le_refl _)).1, ?_⟩
                    rw [← (unhide hinv).2, clO_step (x := x) (f := x.cells.length + 1 - (c + 1)) hlt (unhide EJ).symm, show x.cells.length + 1 - (c + 1) + 1 = x.cells.length + 1 - c by omega])
                  have hl := prO_len x j p O
                  clear hpe
                  go_wp2_with fail
                  go_roundw
                  case rel => exact ⟨c + 1, v, _, by omega, by go_num, unhide HW, ⟨(unhide R).1, (unhide R).2⟩, hbl⟩
                  case measure => simp [intOf]; omega
            · have hce : c = O.length := by omega
              have D := hide (show O = ordO x N from by rw [← (unhide hinv).2]; exact (clO_end hce).symm)
              clear hw hce
              go_wp2_with fail
              go_ret
              exact ⟨rfl, _, unhide D ▸ unhide HW, hbl⟩
end Go.Proofs.YtkabcfhemljnbaaGreat

namespace Go.Proofs.YtkabcfhemljnbaaGreat
open Go.RowKit
attribute [local go_sem ↓] Go.wp_at_zero Go.wp_at_succ

/-- a word with a number in place of a place -/
def nw (x : Hp) (O : List Nat) (y : Wd) : Wd := if y.k = 2 then ⟨2, 0, ((O.idxOf (tgt x y) : Nat) : Int)⟩ else y
def np (x : Hp) (O : List Nat) (p : Pr) : Pr := ⟨nw x O p.key, nw x O p.val⟩

set_option maxRecDepth 100000 in
set_option maxHeartbeats 2000000 in
theorem nword_any (x : Hp) (y : Wd) (b base bm r bn on : Nat) (v : Value) (O : List Nat) (w : World) {ar : Option Addr} {kr : Nat} {ac : Option Addr} {kc : Nat} {ag : Option Addr} {kg : Nat} {kn : Nat} (hv : VAt w b x ar kr ac kc ag kg (some ⟨bn, on, none⟩) kn) (r2 : R2 x) (h : NbAt w base bm b r bn on x.cells.length v O) (hy : MayMark x y) (ho : y.k = 2 → tgt x y ∈ O) :
    Calls Tryz.prog 116 #[.pointer (some ⟨bm, 0, none⟩), y.v] w fun e w' => e = .returned (nw x O y).v ∧ Ext w w' := by
  obtain ⟨z, ez⟩ : ∃ z, z = nw x O y := ⟨_, rfl⟩
  rw [← ez]
  have EZ := hide ez
  clear ez
  obtain ⟨et, hu, hz⟩ := nums_und
  obtain ⟨i1, hi1, _, hz1, _⟩ := info_parts infoNodes
  have x1 := ((Ext.refl w).alloc (.cells #[iv y.k, iv y.n, iv y.a] 90)).alloc (.cells #[iv 0, iv 0, iv 0] 90)
  have c0 := h.c0
  have hbm : bm < w.heap.size := cell_lt c0
  have HV := hide hv
  have HW := hide h
  have Q2 := hide r2
  have MY := hide hy
  clear hv h r2 hy
  go_enter Tryz.func116, Tryz.ntmps116
  go_wp2_with fail
  go_cut [5] (fun s5 wx => s5 = pv bn on (wo x y) ∧ Hid (Ext ((w.alloc (.cells #[iv y.k, iv y.n, iv y.a] 90)).alloc (.cells #[iv 0, iv 0, iv 0] 90)) wx))
  case first =>
    go_region_with (go_at_call 106; refine (follow_o x y b _ bn on ((unhide HV).ext x1.drew) (unhide Q2) (unhide MY)).mono ?_; rintro e w2 ⟨rfl, hq2⟩)
    all_goals
      go_wp2_with fail
      go_meet
      exact ⟨rfl, Ext.trans ((Ext.refl _).drew) hq2⟩
  case rest =>
    obtain ⟨rfl, hq⟩ := hcut
    have hq := unhide hq
    have x2 := x1.trans hq
    have z1 : w.heap.size + 1 < wc.heap.size := by have := hq.size; simp at this; omega
    have z0 : w.heap.size < wc.heap.size := by omega
    have hc1 := (bcell hq).1
    have hf1 := (bcell hq).2
    have r0 := hq.keep (b := w.heap.size + 1) (o := 0) (v := iv 0) (by simp [go_sem])
    have r1 := hq.keep (b := w.heap.size + 1) (o := 1) (v := iv 0) (by simp [go_sem])
    have r2 := hq.keep (b := w.heap.size + 1) (o := 2) (v := iv 0) (by simp [go_sem])
    have v0 := hq.keep (b := w.heap.size) (o := 0) (v := iv y.k) (by simp [go_sem])
    have v1 := hq.keep (b := w.heap.size) (o := 1) (v := iv y.n) (by simp [go_sem])
    have v2 := hq.keep (b := w.heap.size) (o := 2) (v := iv y.a) (by simp [go_sem])
    clear hq
    by_cases k2 : y.k = 2
    · have e1 : wo x y = some (tgt x y) := by unfold wo; rw [if_pos k2]
      have e2 : z = ⟨2, 0, ((O.idxOf (tgt x y) : Nat) : Int)⟩ := by rw [unhide EZ]; unfold nw; rw [if_pos k2]
      subst e2
      rw [e1, pv_some]
      have W2 := (unhide HW).ext x2
      have c1 := W2.c1
      have lk := W2.m.get hu node_und hi1 (by rw [hz1]; omega) (tgt x y) (ho k2)
      obtain ⟨q, hq⟩ : ∃ q, q = tgt x y := ⟨_, rfl⟩
      rw [← hq] at lk
      rw [← hq]
      obtain ⟨m, hm⟩ : ∃ m, m = O.idxOf q := ⟨_, rfl⟩
      rw [← hm] at lk
      have HM := hide hm
      have HQ := hide hq
      clear e1 W2 hq hm hu hz hi1 hz1 k2
      go_wp2_with fail
      refine bodyPost_ret (v := .agg #[iv 2, iv 0, iv (m : Nat)]) (by simp [results, Tryz.results116, go_sem, r0, r1, r2]) rfl ⟨by rw [unhide HM, unhide HQ], ?_⟩
      repeat (first | refine Ext.setCell ?_ (by show w.heap.size ≤ w.heap.size + 1; omega) _ | exact x2)
    · have e1 : wo x y = none := by unfold wo; rw [if_neg k2]
      have e2 : z = y := by rw [unhide EZ]; unfold nw; rw [if_neg k2]
      subst e2
      rw [e1, pv_none]
      clear e1 hu hz hi1 hz1 k2
      go_wp2_with fail
      refine bodyPost_ret (v := z.v) (by simp [results, Tryz.results116, go_sem, r0, r1, r2]) rfl ⟨rfl, ?_⟩
      repeat (first | refine Ext.setCell ?_ (by show w.heap.size ≤ w.heap.size + 1; omega) _ | exact x2)

end Go.Proofs.YtkabcfhemljnbaaGreat

namespace Go.Proofs.YtkabcfhemljnbaaGreat
open Go.RowKit
attribute [local go_sem ↓] Go.wp_at_zero Go.wp_at_succ

set_option maxRecDepth 100000 in
set_option maxHeartbeats 4000000 in
theorem npairs_any (x : Hp) (b base bm r bn on j : Nat) (v : Value) (O : List Nat) (w : World) {ar : Option Addr} {kr : Nat} {ac : Option Addr} {kc : Nat} {ag : Option Addr} {kg : Nat} {kn : Nat} (hv : VAt w b x ar kr ac kc ag kg (some ⟨bn, on, none⟩) kn) (r2 : R2 x) (r4 : R4 x) (h : NbAt w base bm b r bn on x.cells.length v O) (hO : OrdIs x O) (hj : j ∈ O) (h200 : (x.c j).prs.length ≤ 200) :
    Calls Tryz.prog 117 #[.pointer (some ⟨bm, 0, none⟩), ptr bn (on + j * 2)] w fun e w' => e = .returned (.slice (some ⟨w.heap.size, 0, none⟩) (x.c j).prs.length (x.c j).prs.length) ∧ Hid (SlP w' (.slice (some ⟨w.heap.size, 0, none⟩) (x.c j).prs.length (x.c j).prs.length) ((x.c j).prs.map (np x O)) ∧ Nf1 w.heap.size w') ∧ Ext w w' := by
  have RJ := hide (hO.r j hj)
  have GD := hide ((hO.r j hj).good r2 r4)
  have PJ := hide (hO.p j hj)
  have hjn := (unhide GD).1
  obtain ⟨z, hmk⟩ := mkPairs (x.c j).prs.length (by omega) w
  obtain ⟨bc, oc, ap, kp, e1, C⟩ := hv.H.cell j hjn
  obtain ⟨bn', on', bc', oc', e2, e3, m0, m1⟩ := hv.N j hjn
  rw [e1] at e3
  cases e2; cases e3
  have p7 := C.p7
  have hb7 : bc < w.heap.size := cell_lt p7
  have hb1 : bn < w.heap.size := cell_lt m1
  have lp := C.lp
  have HP := hide C.P
  have HV := hide hv
  have HW := hide h
  have Q2 := hide r2
  have Q4 := hide r4
  clear C m0 e1 hv h r2 r4
  go_enter Tryz.func117, Tryz.ntmps117
  go_wp2_with fail
  go_loopw [25] (fun i wr => ∃ (p : Nat), p ≤ (x.c j).prs.length ∧ i = .int .i64 p ∧ Hid ((∀ q (hq : q < ((x.c j).prs.map (np x O)).length), q < p → PrAt wr w.heap.size (0 + q * 6) ((x.c j).prs.map (np x O))[q]) ∧ (∀ q, q < ((x.c j).prs.map (np x O)).length * 6 → Open wr w.heap.size q) ∧ Nf1 w.heap.size wr) ∧ Ext w wr) (fun i _ => (x.c j).prs.length - (intOf i).toNat)
  case atStart => exact ⟨0, Nat.zero_le _, rfl, ⟨(fun q _ h => by omega), (fun q hq => made_open _ _ _ _ _ (by simpa using hq)), Nf1.made _ _ _ _⟩, (Ext.refl w).alloc _⟩
  case round =>
    clear p7 m1 hmk
    obtain ⟨p, hp, rfl, hinv, hbl⟩ := hrel
    by_cases hpl : p < (x.c j).prs.length
    · obtain ⟨b2, o2, rfl, q0, q1, q2, q3, q4, q5⟩ := unhide HP p hpl
      have e0 := hbl.keep q0
      have e1 := hbl.keep q1
      have e2 := hbl.keep q2
      have e3 := hbl.keep q3
      have e4 := hbl.keep q4
      have e5 := hbl.keep q5
      have hb2 : b2 < wr.heap.size := cell_lt e0
      clear q0 q1 q2 q3 q4 q5
      have hp0 : (0:Int) ≤ (p:Int) := by omega
      have hp1 : (p:Int) < ((x.c j).prs.length:Int) := by omega
      have xa := (Ext.refl wr).alloc (.cells #[.int .i64 ((x.c j).p p).key.k, .int .i64 ((x.c j).p p).key.n, .int .i64 ((x.c j).p p).key.a, .int .i64 ((x.c j).p p).val.k, .int .i64 ((x.c j).p p).val.n, .int .i64 ((x.c j).p p).val.a] 123)
      have MK := hide (may_pair (unhide Q2) (unhide Q4) j p (unhide GD) hpl)
      have PK := hide (unhide PJ p hpl hpl)
      have EL := hide (show ((x.c j).prs.map (np x O))[p]'(by simpa using hpl) = np x O ((x.c j).p p) by rw [List.getElem_map]; congr 1; simp [Cl.p, hpl])
      have XA := hbl.trans xa
      go_wp2_with fail
      have hne : ¬ wr.heap.size = w.heap.size := by have := (unhide hinv).2.2.1; omega
      have hne2 : ¬ w.heap.size = wr.heap.size := fun e => hne e.symm
      go_region_held3 (fun W => W.cell? ⟨wr.heap.size, 0, none⟩ = some (.int .i64 ((x.c j).p p).key.k) ∧ W.cell? ⟨wr.heap.size, 1, none⟩ = some (.int .i64 ((x.c j).p p).key.n) ∧ W.cell? ⟨wr.heap.size, 2, none⟩ = some (.int .i64 ((x.c j).p p).key.a) ∧ W.cell? ⟨wr.heap.size, 3, none⟩ = some (.int .i64 ((x.c j).p p).val.k) ∧ W.cell? ⟨wr.heap.size, 4, none⟩ = some (.int .i64 ((x.c j).p p).val.n) ∧ W.cell? ⟨wr.heap.size, 5, none⟩ = some (.int .i64 ((x.c j).p p).val.a)) (go_keep) (first
        | (go_at_call 116; refine (nword_any x ((x.c j).p p).val b base bm r bn on v O _ ((unhide HV).ext X2) (unhide Q2) ((unhide HW).ext X2) (unhide MK).2 (unhide PK).2).mono ?_; rintro e w3 ⟨rfl, hq3⟩; have y3 := y2.trans hq3; have b0w3 : w3.cell? ⟨wr.heap.size, 0, none⟩ = some (.int .i64 ((x.c j).p p).key.k) := y3.keep (by simp [go_sem]); have b1w3 : w3.cell? ⟨wr.heap.size, 1, none⟩ = some (.int .i64 ((x.c j).p p).key.n) := y3.keep (by simp [go_sem]); have b2w3 : w3.cell? ⟨wr.heap.size, 2, none⟩ = some (.int .i64 ((x.c j).p p).key.a) := y3.keep (by simp [go_sem]); have b3w3 : w3.cell? ⟨wr.heap.size, 3, none⟩ = some (.int .i64 ((x.c j).p p).val.k) := y3.keep (by simp [go_sem]); have b4w3 : w3.cell? ⟨wr.heap.size, 4, none⟩ = some (.int .i64 ((x.c j).p p).val.n) := y3.keep (by simp [go_sem]); have b5w3 : w3.cell? ⟨wr.heap.size, 5, none⟩ = some (.int .i64 ((x.c j).p p).val.a) := y3.keep (by simp [go_sem]); have z3 := xa.trans y3; have R := hide (pairs_step (w := w) (wr := wr) (w1 := w3) (xs := (x.c j).prs.map (np x O)) (k := p) (by simpa using hpl) (unhide hinv).1 (unhide hinv).2.1 hbl z3 (unhide hinv).2.2); rw [unhide EL] at R; obtain ⟨⟨s0, c0⟩, f0⟩ := ((unhide hinv).2.1 (p * 6) (by simp; omega)).ext z3; obtain ⟨⟨s1, c1⟩, f1⟩ := ((unhide hinv).2.1 (p * 6 + 1) (by simp; omega)).ext z3; obtain ⟨⟨s2, c2⟩, f2⟩ := ((unhide hinv).2.1 (p * 6 + 2) (by simp; omega)).ext z3; obtain ⟨⟨s3, c3⟩, f3⟩ := ((unhide hinv).2.1 (p * 6 + 3) (by simp; omega)).ext z3; obtain ⟨⟨s4, c4⟩, f4⟩ := ((unhide hinv).2.1 (p * 6 + 4) (by simp; omega)).ext z3; obtain ⟨⟨s5, c5⟩, f5⟩ := ((unhide hinv).2.1 (p * 6 + 5) (by simp; omega)).ext z3; clear hq3)
        | (go_at_call 116; refine (nword_any x ((x.c j).p p).key b base bm r bn on v O _ ((unhide HV).ext XA.drew) (unhide Q2) ((unhide HW).ext XA.drew) (unhide MK).1 (unhide PK).1).mono ?_; rintro e w2 ⟨rfl, hq2⟩; have y2 := Ext.trans ((Ext.refl _).drew) hq2; have X2 := XA.trans y2; have b0w2 : w2.cell? ⟨wr.heap.size, 0, none⟩ = some (.int .i64 ((x.c j).p p).key.k) := y2.keep (by simp [go_sem]); have b1w2 : w2.cell? ⟨wr.heap.size, 1, none⟩ = some (.int .i64 ((x.c j).p p).key.n) := y2.keep (by simp [go_sem]); have b2w2 : w2.cell? ⟨wr.heap.size, 2, none⟩ = some (.int .i64 ((x.c j).p p).key.a) := y2.keep (by simp [go_sem]); have b3w2 : w2.cell? ⟨wr.heap.size, 3, none⟩ = some (.int .i64 ((x.c j).p p).val.k) := y2.keep (by simp [go_sem]); have b4w2 : w2.cell? ⟨wr.heap.size, 4, none⟩ = some (.int .i64 ((x.c j).p p).val.n) := y2.keep (by simp [go_sem]); have b5w2 : w2.cell? ⟨wr.heap.size, 5, none⟩ = some (.int .i64 ((x.c j).p p).val.a) := y2.keep (by simp [go_sem]); clear hq2))
      all_goals
        go_wp2_with fail
        go_roundw
        case rel => exact ⟨p + 1, by omega, by go_num, ⟨(unhide R).1, (unhide R).2.1, (unhide R).2.2.2⟩, (unhide R).2.2.1⟩
        case measure => simp [intOf]; omega
    · have hpe : p = (x.c j).prs.length := by omega
      have R := hide (show SlP wr (.slice (some ⟨w.heap.size, 0, none⟩) (x.c j).prs.length (x.c j).prs.length) ((x.c j).prs.map (np x O)) ∧ Nf1 w.heap.size wr from ⟨⟨some ⟨w.heap.size, 0, none⟩, (x.c j).prs.length, by rw [List.length_map], by rw [List.length_map]; omega, fun i hi => ⟨_, _, rfl, (unhide hinv).1 i hi (by rw [List.length_map] at hi; omega)⟩⟩, (unhide hinv).2.2⟩)
      clear hpe hinv
      go_wp2_with fail
      go_ret
      exact ⟨rfl, unhide R, hbl⟩
end Go.Proofs.YtkabcfhemljnbaaGreat

namespace Go.Proofs.YtkabcfhemljnbaaGreat
open Go.RowKit
attribute [local go_sem ↓] Go.wp_at_zero Go.wp_at_succ

/-! The graph, and how it lies in memory. -/
structure Nd where
  kind : Int
  weak : Int
  last : Int
  rank : Int
  prs : List Pr
/-- a row of words that is being filled: k are there -/
structure WRow (w : World) (B n k : Nat) (f : Nat → Wd) : Prop where
  s : ∀ q, q < k → WdAt w B (0 + q * 3) (f q)
  o : ∀ q, q < n * 3 → Open w B q
  n : Nf1 B w
theorem WRow.ext {w w' : World} {B n k : Nat} {f : Nat → Wd} (h : WRow w B n k f) (e : Ext w w') : WRow w' B n k f := ⟨fun q hq => (h.s q hq).ext e, fun q hq => (h.o q hq).ext e, h.n.ext e⟩
theorem Open.only {S : Nat → Prop} {w w' : World} {b o : Nat} (h : Open w b o) (k : Only S w w') (hs : ¬ S b) : Open w' b o := by
  obtain ⟨⟨v, hv⟩, hf⟩ := h
  exact ⟨⟨v, k.keep hs hv⟩, by rw [k.frozen (cell_lt hv) hs]; exact hf⟩
theorem Nf1.only {S : Nat → Prop} {w w' : World} {B : Nat} (h : Nf1 B w) (k : Only S w w') (hs : ¬ S B) : Nf1 B w' := ⟨Nat.lt_of_lt_of_le h.1 k.size, fun j => by rw [k.frozen h.1 hs]; exact h.2 j⟩
theorem WRow.only {S : Nat → Prop} {w w' : World} {B n k : Nat} {f : Nat → Wd} (h : WRow w B n k f) (e : Only S w w') (hs : ¬ S B) : WRow w' B n k f :=
  ⟨fun q hq => ⟨e.keep hs (h.s q hq).1, e.keep hs (h.s q hq).2.1, e.keep hs (h.s q hq).2.2⟩, fun q hq => (h.o q hq).only e hs, h.n.only e hs⟩
theorem WRow.step {w : World} {B n k : Nat} {f : Nat → Wd} (h : WRow w B n k f) (hk : k < n) : WRow (w.setCells B (k * 3) [iv (f k).k, iv (f k).n, iv (f k).a]) B n (k + 1) f ∧ Only (fun q => q = B) w (w.setCells B (k * 3) [iv (f k).k, iv (f k).n, iv (f k).a]) := by
  have ho1 : ∀ j, j < [iv (f k).k, iv (f k).n, iv (f k).a].length → Open w B (k * 3 + j) := fun j hj => h.o (k * 3 + j) (by simp at hj; omega)
  refine ⟨⟨fun q hq => ?_, fun q hq => put_open (h.o q hq), h.n.put⟩, put_only (S := fun q => q = B) rfl (Only.refl _ w)⟩
  by_cases e : q = k
  · subst e
    refine ⟨?_, ?_, ?_⟩
    · have := put_in ho1 0 (by simp)
      simpa using this
    · have := put_in ho1 1 (by simp)
      simpa using this
    · have := put_in ho1 2 (by simp)
      simpa using this
  · have hx := h.s q (by omega)
    refine ⟨?_, ?_, ?_⟩
    · rw [put_out _ _ (Or.inr (by simp; omega))]; exact hx.1
    · rw [put_out _ _ (Or.inr (by simp; omega))]; exact hx.2.1
    · rw [put_out _ _ (Or.inr (by simp; omega))]; exact hx.2.2

theorem infoNodesS : (Tryz.prog.info? 143).map (fun i => (i.zero, i.size, i.bytes)) = some (some (.agg #[iv 0, iv 0, iv 0, iv 0, .slice none 0 0]), 5, 56) := by kernel_rfl
theorem mkNdU (n : Nat) (hn : n ≤ 1048576) : ∃ z, ∀ w, (Instr.makeSlice 41 (.int .i64 n) (.int .i64 n)).run Tryz.prog w = .ok (.slice (some ⟨w.heap.size, 0, none⟩) n n) (w.alloc (.cells (madeCells z (n * 5)) 143)) := by
  obtain ⟨i0, hi, hz0, hz1, hz2⟩ := info_parts infoNodesS
  refine ⟨#[iv 0, iv 0, iv 0, iv 0, .slice none 0 0], fun w => ?_⟩
  have h := run_make (P := Tryz.prog) w 41 143 i0 _ Tryz.underlying41 hi hz0 .i64 .i64 n n (by omega) (Int.le_refl _) (by rw [hz2]; omega) (by omega)
  rw [hz1] at h
  simp only [Int.toNat_natCast] at h
  exact h
theorem mkWdU (n : Nat) (hn : n ≤ 1048576) : ∃ z, ∀ w, (Instr.makeSlice 30 (.int .i64 n) (.int .i64 n)).run Tryz.prog w = .ok (.slice (some ⟨w.heap.size, 0, none⟩) n n) (w.alloc (.cells (madeCells z (n * 3)) 90)) := by
  obtain ⟨i0, hi, hz0, hz1, hz2⟩ := info_parts infoWords
  refine ⟨#[iv 0, iv 0, iv 0], fun w => ?_⟩
  have h := run_make (P := Tryz.prog) w 30 90 i0 _ Tryz.underlying30 hi hz0 .i64 .i64 n n (by omega) (Int.le_refl _) (by rw [hz2]; omega) (by omega)
  rw [hz1] at h
  simp only [Int.toNat_natCast] at h
  exact h
/-- n cells that may be written, in a block of which none is frozen -/
def OpAll (w : World) (B n : Nat) : Prop := (∀ q, q < n → Open w B q) ∧ Nf1 B w
theorem OpAll.made (w : World) (z : Array Value) (n : Nat) (t : TypeId) : OpAll (w.alloc (.cells (madeCells z n) t)) w.heap.size n := ⟨fun q hq => made_open w z n t q hq, Nf1.made w z n t⟩
theorem OpAll.made2 {w : World} {z : Array Value} {n B : Nat} {t : TypeId} (h : B = w.heap.size) : OpAll (w.alloc (.cells (madeCells z n) t)) B n := h ▸ OpAll.made w z n t
theorem OpAll.ext {w w' : World} {B n : Nat} (h : OpAll w B n) (e : Ext w w') : OpAll w' B n := ⟨fun q hq => (h.1 q hq).ext e, h.2.ext e⟩
theorem OpAll.alloc {w : World} {B n : Nat} (h : OpAll w B n) (o : Obj) : OpAll (w.alloc o) B n := h.ext ((Ext.refl w).alloc o)
theorem OpAll.drew {w : World} {B n : Nat} (h : OpAll w B n) : OpAll w.drew B n := h.ext (Ext.refl w).drew
theorem OpAll.only {S : Nat → Prop} {w w' : World} {B n : Nat} (h : OpAll w B n) (k : Only S w w') (hs : ¬ S B) : OpAll w' B n := ⟨fun q hq => (h.1 q hq).only k hs, h.2.only k hs⟩

/-- a row of nodes that is being filled: k are there, each with its pairs in a block of its own -/
structure NRow (w : World) (B n k B0 : Nat) (c : Nat → Cl) (m : Pr → Pr) (rk : Nat → Int) (pb : Nat → Nat) : Prop where
  s : ∀ q, q < k → w.cell? ⟨B, q * 5, none⟩ = some (iv (c q).kind) ∧ w.cell? ⟨B, q * 5 + 1, none⟩ = some (iv (c q).weak) ∧ w.cell? ⟨B, q * 5 + 2, none⟩ = some (iv (c q).last) ∧ w.cell? ⟨B, q * 5 + 3, none⟩ = some (iv (rk q)) ∧ w.cell? ⟨B, q * 5 + 4, none⟩ = some (.slice (some ⟨pb q, 0, none⟩) (c q).prs.length (c q).prs.length)
  p : ∀ q, q < k → SlP w (.slice (some ⟨pb q, 0, none⟩) (c q).prs.length (c q).prs.length) ((c q).prs.map m) ∧ Nf1 (pb q) w ∧ B0 ≤ pb q ∧ pb q ≠ B
  d : ∀ q q', q < k → q' < k → q ≠ q' → pb q ≠ pb q'
  o : OpAll w B (n * 5)
theorem NRow.ext {w w' : World} {B n k B0 : Nat} {c : Nat → Cl} {m : Pr → Pr} {rk : Nat → Int} {pb : Nat → Nat} (h : NRow w B n k B0 c m rk pb) (e : Ext w w') : NRow w' B n k B0 c m rk pb :=
  ⟨fun q hq => ⟨e.keep (h.s q hq).1, e.keep (h.s q hq).2.1, e.keep (h.s q hq).2.2.1, e.keep (h.s q hq).2.2.2.1, e.keep (h.s q hq).2.2.2.2⟩, fun q hq => ⟨SlP.ext e (h.p q hq).1, (h.p q hq).2.1.ext e, (h.p q hq).2.2⟩, h.d, h.o.ext e⟩
theorem NRow.only {S : Nat → Prop} {w w' : World} {B n k B0 : Nat} {c : Nat → Cl} {m : Pr → Pr} {rk : Nat → Int} {pb : Nat → Nat} (h : NRow w B n k B0 c m rk pb) (e : Only S w w') (hB : ¬ S B) (hp : ∀ q, q < k → ¬ S (pb q)) : NRow w' B n k B0 c m rk pb :=
  ⟨fun q hq => ⟨e.keep hB (h.s q hq).1, e.keep hB (h.s q hq).2.1, e.keep hB (h.s q hq).2.2.1, e.keep hB (h.s q hq).2.2.2.1, e.keep hB (h.s q hq).2.2.2.2⟩, fun q hq => ⟨slP_only e (fun b o n c z => by simp at z; rw [← z.1.1]; exact hp q hq) (h.p q hq).1, (h.p q hq).2.1.only e (hp q hq), (h.p q hq).2.2⟩, h.d, h.o.only e hB⟩
theorem NRow.less {w : World} {B n k B0 B1 : Nat} {c : Nat → Cl} {m : Pr → Pr} {rk : Nat → Int} {pb : Nat → Nat} (h : NRow w B n k B0 c m rk pb) (hb : B1 ≤ B0) : NRow w B n k B1 c m rk pb := ⟨h.s, fun q hq => ⟨(h.p q hq).1, (h.p q hq).2.1, Nat.le_trans hb (h.p q hq).2.2.1, (h.p q hq).2.2.2⟩, h.d, h.o⟩
theorem NRow.step {w : World} {B n k B0 P : Nat} {c : Nat → Cl} {m : Pr → Pr} {rk : Nat → Int} {pb : Nat → Nat} (h : NRow w B n k B0 c m rk pb) (hk : k < n) (hP : SlP w (.slice (some ⟨P, 0, none⟩) (c k).prs.length (c k).prs.length) ((c k).prs.map m)) (hn : Nf1 P w) (h0 : B0 ≤ P) (hB : P ≠ B) (hd : ∀ q, q < k → pb q ≠ P) (hr : rk k = 0) :
    NRow (w.setCells B (k * 5) [iv (c k).kind, iv (c k).weak, iv (c k).last, iv 0, .slice (some ⟨P, 0, none⟩) (c k).prs.length (c k).prs.length]) B n (k + 1) B0 c m rk (fun q => if q = k then P else pb q) ∧ Only (fun q => q = B) w (w.setCells B (k * 5) [iv (c k).kind, iv (c k).weak, iv (c k).last, iv 0, .slice (some ⟨P, 0, none⟩) (c k).prs.length (c k).prs.length]) := by
  have ho1 : ∀ j, j < [iv (c k).kind, iv (c k).weak, iv (c k).last, iv 0, (.slice (some ⟨P, 0, none⟩) (c k).prs.length (c k).prs.length : Value)].length → Open w B (k * 5 + j) := fun j hj => h.o.1 (k * 5 + j) (by simp at hj; omega)
  have hon : Only (fun q => q = B) w (w.setCells B (k * 5) [iv (c k).kind, iv (c k).weak, iv (c k).last, iv 0, .slice (some ⟨P, 0, none⟩) (c k).prs.length (c k).prs.length]) := put_only (S := fun q => q = B) rfl (Only.refl _ w)
  refine ⟨⟨fun q hq => ?_, fun q hq => ?_, fun q q' hq hq' hne => ?_, ⟨fun q hq => put_open (h.o.1 q hq), h.o.2.put⟩⟩, hon⟩
  · by_cases e : q = k
    · subst e
      simp only [if_true]
      refine ⟨?_, ?_, ?_, ?_, ?_⟩
      · have := put_in ho1 0 (by simp)
        simpa using this
      · have := put_in ho1 1 (by simp)
        simpa using this
      · have := put_in ho1 2 (by simp)
        simpa using this
      · have := put_in ho1 3 (by simp)
        rw [hr]; simpa using this
      · have := put_in ho1 4 (by simp)
        simpa using this
    · simp only [e, if_false]
      have hx := h.s q (by omega)
      refine ⟨?_, ?_, ?_, ?_, ?_⟩
      · rw [put_out _ _ (Or.inr (by simp; omega))]; exact hx.1
      · rw [put_out _ _ (Or.inr (by simp; omega))]; exact hx.2.1
      · rw [put_out _ _ (Or.inr (by simp; omega))]; exact hx.2.2.1
      · rw [put_out _ _ (Or.inr (by simp; omega))]; exact hx.2.2.2.1
      · rw [put_out _ _ (Or.inr (by simp; omega))]; exact hx.2.2.2.2
  · by_cases e : q = k
    · subst e
      simp only [if_true]
      exact ⟨slP_only hon (fun b o n c z y => by injection z with z1 _ _; injection z1 with z2; injection z2 with z3; exact hB (z3.trans y)) hP, hn.only hon hB, h0, hB⟩
    · simp only [e, if_false]
      have hx := h.p q (by omega)
      exact ⟨slP_only hon (fun b o n c z y => by injection z with z1 _ _; injection z1 with z2; injection z2 with z3; exact hx.2.2.2 (z3.trans y)) hx.1, hx.2.1.only hon hx.2.2.2, hx.2.2⟩
  · by_cases e : q = k
    · subst e
      have e' : ¬ q' = q := fun z => hne z.symm
      simp only [if_true, e', if_false]
      exact fun z => hd q' (by omega) z.symm
    · by_cases e' : q' = k
      · subst e'
        simp only [if_true, e, if_false]
        exact hd q (by omega)
      · simp only [e, e', if_false]
        exact h.d q q' (by omega) (by omega) hne

theorem NRow.rank {w : World} {B n B0 : Nat} {c : Nat → Cl} {m : Pr → Pr} {rk rk' : Nat → Int} {pb : Nat → Nat} (h : NRow w B n n B0 c m rk pb) (q : Nat) (hq : q < n) (v : Int) (h1 : rk' q = v) (h2 : ∀ p, p < n → p ≠ q → rk' p = rk p) :
    NRow (w.setCell ⟨B, q * 5 + 3, none⟩ (iv v)) B n n B0 c m rk' pb ∧ Only (fun z => z = B) w (w.setCell ⟨B, q * 5 + 3, none⟩ (iv v)) := by
  have hon : Only (fun z => z = B) w (w.setCell ⟨B, q * 5 + 3, none⟩ (iv v)) := Only.setCell (S := fun z => z = B) (p := ⟨B, q * 5 + 3, none⟩) (Only.refl _ w) rfl (iv v)
  refine ⟨⟨fun p hp => ?_, fun p hp => ?_, h.d, ⟨fun p hp => (h.o.1 p hp).set _ _, h.o.2.set _ _⟩⟩, hon⟩
  · have hx := h.s p hp
    refine ⟨?_, ?_, ?_, ?_, ?_⟩
    · rw [cell_other _ (.inr (by omega))]; exact hx.1
    · rw [cell_other _ (.inr (by omega))]; exact hx.2.1
    · rw [cell_other _ (.inr (by omega))]; exact hx.2.2.1
    · by_cases e : p = q
      · subst e; rw [h1]; exact (h.o.1 (p * 5 + 3) (by omega)).same _
      · rw [cell_other _ (.inr (by omega)), h2 p hp e]; exact hx.2.2.2.1
    · rw [cell_other _ (.inr (by omega))]; exact hx.2.2.2.2
  · have hx := h.p p hp
    exact ⟨slP_only hon (fun b o n c z y => by injection z with z1 _ _; injection z1 with z2; injection z2 with z3; exact hx.2.2.2 (z3.trans y)) hx.1, hx.2.1.only hon hx.2.2.2, hx.2.2⟩
/-- the ranks, k of them given -/
def rkN (N : List Nat) (oj : Nat → Nat) (k : Nat) (q : Nat) : Int := if N.idxOf (oj q) < k then ((N.idxOf (oj q) : Nat) : Int) + 1 else 0
theorem rkN_step {N O : List Nat} {oj : Nat → Nat} (nN : N.Nodup) (nO : O.Nodup) (ho : ∀ q (h : q < O.length), oj q = O[q]) {k : Nat} (hk : k < N.length) (hm : N[k] ∈ O) : rkN N oj (k + 1) (O.idxOf N[k]) = (k : Int) + 1 ∧ ∀ p, p < O.length → p ≠ O.idxOf N[k] → rkN N oj (k + 1) p = rkN N oj k p := by
  have hlt : O.idxOf N[k] < O.length := List.idxOf_lt_length_iff.2 hm
  refine ⟨?_, fun p hp hne => ?_⟩
  · unfold rkN
    rw [ho _ hlt, List.getElem_idxOf hlt, nN.idxOf_getElem k hk, if_pos (by omega)]
  · unfold rkN
    have : N.idxOf (oj p) ≠ k := fun e => by
      have h1 : N.idxOf (oj p) < N.length := by omega
      have h2 : N[N.idxOf (oj p)] = oj p := List.getElem_idxOf h1
      have h3 : N[k] = oj p := by rw [← h2]; congr 1; exact e.symm
      apply hne
      rw [h3, ho p hp, nO.idxOf_getElem p hp]
    by_cases z : N.idxOf (oj p) < k
    · rw [if_pos z, if_pos (by omega)]
    · rw [if_neg z, if_neg (by omega)]
/-- what Shape answers, in memory of its own -/
def GAns (x : Hp) (B : Nat) (w : World) (vr vn : Value) : Prop := ∃ (N O : List Nat) (br bq : Nat) (pb : Nat → Nat) (f : Nat → Wd) (oj : Nat → Nat), IsW x N ∧ O = ordO x N ∧ vr = .slice (some ⟨br, 0, none⟩) x.regs.length x.regs.length ∧ vn = .slice (some ⟨bq, 0, none⟩) O.length O.length ∧ WRow w br x.regs.length x.regs.length f ∧ (∀ q (h : q < x.regs.length), f q = nw x O x.regs[q]) ∧ (∀ q (h : q < O.length), oj q = O[q]) ∧ NRow w bq O.length O.length B (fun q => x.c (oj q)) (np x O) (rkN N oj N.length) pb ∧ br ≠ bq ∧ (∀ q, q < O.length → pb q ≠ br) ∧ B ≤ br ∧ B ≤ bq

/-- the graph's box and its two rows, new -/
def GBox (x : Hp) (n : Nat) (w2 wx : World) (br bq bg : Nat) : Prop := OpAll wx br (x.regs.length * 3) ∧ OpAll wx bq (n * 5) ∧ wx.cell? ⟨bg, 0, none⟩ = some (.slice (some ⟨br, 0, none⟩) x.regs.length x.regs.length) ∧ wx.cell? ⟨bg, 1, none⟩ = some (.slice (some ⟨bq, 0, none⟩) n n) ∧ (br ≠ bq ∧ br ≠ bg ∧ bq ≠ bg ∧ w2.heap.size ≤ br ∧ w2.heap.size ≤ bq ∧ w2.heap.size ≤ bg) ∧ Ext w2 wx

theorem gb_ABG (x : Hp) (n : Nat) (w2 : World) (zr zn : Array Value) : GBox x n w2 (((w2.alloc (.cells (madeCells zr (x.regs.length * 3)) 90)).alloc (.cells (madeCells zn (n * 5)) 143)).alloc (.cells #[.slice (some ⟨w2.heap.size, 0, none⟩) x.regs.length x.regs.length, .slice (some ⟨w2.heap.size + 1, 0, none⟩) n n] 43)).drew (w2.heap.size) (w2.heap.size + 1) (w2.heap.size + 1 + 1) :=
  ⟨(((OpAll.made2 rfl).alloc _).alloc _).drew, ((OpAll.made2 (by simp)).alloc _).drew, by simp [go_sem], by simp [go_sem], ⟨by omega, by omega, by omega, by omega, by omega, by omega⟩, ((((Ext.refl w2).alloc _).alloc _).alloc _).drew⟩
theorem gb_AGB (x : Hp) (n : Nat) (w2 : World) (zr zn : Array Value) : GBox x n w2 (((w2.alloc (.cells (madeCells zr (x.regs.length * 3)) 90)).alloc (.cells #[.slice (some ⟨w2.heap.size, 0, none⟩) x.regs.length x.regs.length, .slice (some ⟨w2.heap.size + 1 + 1, 0, none⟩) n n] 43)).alloc (.cells (madeCells zn (n * 5)) 143)).drew (w2.heap.size) (w2.heap.size + 1 + 1) (w2.heap.size + 1) :=
  ⟨(((OpAll.made2 rfl).alloc _).alloc _).drew, (OpAll.made2 (by simp)).drew, by simp [go_sem], by simp [go_sem], ⟨by omega, by omega, by omega, by omega, by omega, by omega⟩, ((((Ext.refl w2).alloc _).alloc _).alloc _).drew⟩
theorem gb_BAG (x : Hp) (n : Nat) (w2 : World) (zr zn : Array Value) : GBox x n w2 (((w2.alloc (.cells (madeCells zn (n * 5)) 143)).alloc (.cells (madeCells zr (x.regs.length * 3)) 90)).alloc (.cells #[.slice (some ⟨w2.heap.size + 1, 0, none⟩) x.regs.length x.regs.length, .slice (some ⟨w2.heap.size, 0, none⟩) n n] 43)).drew (w2.heap.size + 1) (w2.heap.size) (w2.heap.size + 1 + 1) :=
  ⟨((OpAll.made2 (by simp)).alloc _).drew, (((OpAll.made2 rfl).alloc _).alloc _).drew, by simp [go_sem], by simp [go_sem], ⟨by omega, by omega, by omega, by omega, by omega, by omega⟩, ((((Ext.refl w2).alloc _).alloc _).alloc _).drew⟩
theorem gb_BGA (x : Hp) (n : Nat) (w2 : World) (zr zn : Array Value) : GBox x n w2 (((w2.alloc (.cells (madeCells zn (n * 5)) 143)).alloc (.cells #[.slice (some ⟨w2.heap.size + 1 + 1, 0, none⟩) x.regs.length x.regs.length, .slice (some ⟨w2.heap.size, 0, none⟩) n n] 43)).alloc (.cells (madeCells zr (x.regs.length * 3)) 90)).drew (w2.heap.size + 1 + 1) (w2.heap.size) (w2.heap.size + 1) :=
  ⟨(OpAll.made2 (by simp)).drew, (((OpAll.made2 rfl).alloc _).alloc _).drew, by simp [go_sem], by simp [go_sem], ⟨by omega, by omega, by omega, by omega, by omega, by omega⟩, ((((Ext.refl w2).alloc _).alloc _).alloc _).drew⟩
theorem gb_GAB (x : Hp) (n : Nat) (w2 : World) (zr zn : Array Value) : GBox x n w2 (((w2.alloc (.cells #[.slice (some ⟨w2.heap.size + 1, 0, none⟩) x.regs.length x.regs.length, .slice (some ⟨w2.heap.size + 1 + 1, 0, none⟩) n n] 43)).alloc (.cells (madeCells zr (x.regs.length * 3)) 90)).alloc (.cells (madeCells zn (n * 5)) 143)).drew (w2.heap.size + 1) (w2.heap.size + 1 + 1) (w2.heap.size) :=
  ⟨((OpAll.made2 (by simp)).alloc _).drew, (OpAll.made2 (by simp)).drew, by simp [go_sem], by simp [go_sem], ⟨by omega, by omega, by omega, by omega, by omega, by omega⟩, ((((Ext.refl w2).alloc _).alloc _).alloc _).drew⟩
theorem gb_GBA (x : Hp) (n : Nat) (w2 : World) (zr zn : Array Value) : GBox x n w2 (((w2.alloc (.cells #[.slice (some ⟨w2.heap.size + 1 + 1, 0, none⟩) x.regs.length x.regs.length, .slice (some ⟨w2.heap.size + 1, 0, none⟩) n n] 43)).alloc (.cells (madeCells zn (n * 5)) 143)).alloc (.cells (madeCells zr (x.regs.length * 3)) 90)).drew (w2.heap.size + 1 + 1) (w2.heap.size + 1) (w2.heap.size) :=
  ⟨(OpAll.made2 (by simp)).drew, ((OpAll.made2 (by simp)).alloc _).drew, by simp [go_sem], by simp [go_sem], ⟨by omega, by omega, by omega, by omega, by omega, by omega⟩, ((((Ext.refl w2).alloc _).alloc _).alloc _).drew⟩

end Go.Proofs.YtkabcfhemljnbaaGreat

namespace Go.Proofs.YtkabcfhemljnbaaGreat
open Go.RowKit
attribute [local go_sem ↓] Go.wp_at_zero Go.wp_at_succ

set_option maxRecDepth 100000 in
set_option maxHeartbeats 4000000 in
theorem shape_any (x : Hp) (b : Nat) (w : World) {ar : Option Addr} {kr : Nat} {ac : Option Addr} {kc : Nat} {ag : Option Addr} {kg : Nat} {kn : Nat} (bn on : Nat) (h : VAt w b x ar kr ac kc ag kg (some ⟨bn, on, none⟩) kn) (ok : OkIs x 0) :
    Calls Tryz.prog 67 #[.pointer (some ⟨b, 0, none⟩)] w fun e w' => ∃ vr vn, Hid (e = .returned (.agg #[vr, vn])) ∧ Hid (GAns x w.heap.size w' vr vn) ∧ Ext w w' := by
  have r2 := ok.all.2.1
  have r4 := ok.all.2.2.2
  have hn8 := ok.n8
  have h200 := ok.p200
  have lr := h.H.lr
  have hR16 : x.regs.length ≤ 1048576 := by have := ok.all.1.regs; omega
  have xg := (Ext.refl w).alloc (.cells #[.slice none 0 0, .slice none 0 0] 43)
  have HV := hide h
  have Q2 := hide r2
  have Q4 := hide r4
  clear h r2 r4 ok
  go_enter Tryz.func67, Tryz.ntmps67
  go_wp2_with fail
  refine (speakers_ord x b _ bn on ((unhide HV).ext xg) hn8).mono ?_
  rintro e w1 ⟨g, cap, N, rfl, hans, hord, x1⟩
  have X1 := xg.trans x1
  have WN := hide (show IsW x N from ⟨(unhide hans).2.2, (unhide hord).2.nodup_iff.2 (List.Pairwise.filter _ List.nodup_range), (unhide hord).1⟩)
  have SPA := hide (unhide hans).1
  go_wp2_with fail
  refine (numbered_any x b _ bn on ((unhide HV).ext X1) (unhide Q2) (unhide Q4) hn8 N (unhide WN) g cap (fun k hk => by obtain ⟨gb, go, a, c, _⟩ := unhide SPA k hk; exact ⟨gb, go, a, c⟩)).mono ?_
  rintro e w2 ⟨rfl, v, hnb, x2⟩
  have X2 := X1.trans x2
  have OI := hide (ord_is (unhide Q2) (unhide Q4) (unhide WN))
  obtain ⟨O, hO⟩ : ∃ O, O = ordO x N := ⟨_, rfl⟩
  rw [← hO] at hnb OI
  have EO := hide hO
  have NB := hide hnb
  have hOn := hnb.len
  have c2 := hnb.c2
  obtain ⟨av, cv, hv, hgv⟩ := hnb.form
  subst hv
  have n3 := ((unhide HV).ext X2).H.c3
  have hbm : w1.heap.size + 1 < w2.heap.size := (unhide NB).rlt.1
  have hbb : b < w2.heap.size := cell_lt n3
  have hbb1 : b < w2.heap.size + 1 := by omega
  have hbb2 : b < w2.heap.size + 1 + 1 := by omega
  have hbm1 : w1.heap.size + 1 < w2.heap.size + 1 := by omega
  have hbm2 : w1.heap.size + 1 < w2.heap.size + 1 + 1 := by omega
  obtain ⟨zr, mr⟩ := mkWdU x.regs.length hR16
  obtain ⟨zn, mn⟩ := mkNdU O.length (by omega)
  clear hnb hans hord hO
  go_wp2_with fail
  go_cut [5] (fun s5 wx => ∃ br bq bg, s5 = .pointer (some ⟨bg, 0, none⟩) ∧ Hid (GBox x O.length w2 wx br bq bg))
  case first =>
    go_region_held3 (fun W => W.cell? ⟨b, 3, none⟩ = some (.slice ar x.regs.length kr) ∧ W.cell? ⟨w1.heap.size + 1, 2, none⟩ = some (.slice av O.length cv)) (first | (refine And.intro (Ext.keep (w := w2) (by repeat (first | exact Ext.refl _ | refine Ext.drew ?_ | refine Ext.alloc ?_ _)) n3) (Ext.keep (w := w2) (by repeat (first | exact Ext.refl _ | refine Ext.drew ?_ | refine Ext.alloc ?_ _)) c2)) | go_keep) (fail)
    all_goals
      go_wp2_with fail
      go_meet
      first
        | (with_reducible exact ⟨_, _, _, rfl, hide (gb_ABG x O.length w2 zr zn)⟩)
        | (with_reducible exact ⟨_, _, _, rfl, hide (gb_AGB x O.length w2 zr zn)⟩)
        | (with_reducible exact ⟨_, _, _, rfl, hide (gb_BAG x O.length w2 zr zn)⟩)
        | (with_reducible exact ⟨_, _, _, rfl, hide (gb_BGA x O.length w2 zr zn)⟩)
        | (with_reducible exact ⟨_, _, _, rfl, hide (gb_GAB x O.length w2 zr zn)⟩)
        | (with_reducible exact ⟨_, _, _, rfl, hide (gb_GBA x O.length w2 zr zn)⟩)
  case rest =>
    obtain ⟨br, bq, bg, rfl, hgb⟩ := hcut
    obtain ⟨go1, go2, gc0, gc1, gd, gx⟩ := unhide hgb
    obtain ⟨f, hf⟩ : ∃ f : Nat → Wd, ∀ q (h : q < x.regs.length), f q = nw x O x.regs[q] := ⟨fun q => nw x O (x.regs.getD q ⟨0, 0, 0⟩), fun q h => by simp [h]⟩
    have X3 := X2.trans gx
    have c3 := ((unhide HV).ext X3).H.c3
    have W0 := hide (show WRow wc br x.regs.length 0 f ∧ OpAll wc bq (O.length * 5) ∧ (wc.cell? ⟨bg, 0, none⟩ = some (.slice (some ⟨br, 0, none⟩) x.regs.length x.regs.length) ∧ wc.cell? ⟨bg, 1, none⟩ = some (.slice (some ⟨bq, 0, none⟩) O.length O.length)) ∧ Ext w2 wc from ⟨⟨fun q h => by omega, go1.1, go1.2⟩, go2, ⟨gc0, gc1⟩, gx⟩)
    have GD := hide gd
    have HF := hide hf
    clear hgb go1 go2 gc0 gc1 gd gx hf mr mn n3 c2 X3
    go_wp2_with fail
    go_loopw [37] (fun i wr => ∃ k : Nat, k ≤ x.regs.length ∧ i = .int .i64 k ∧ Hid (WRow wr br x.regs.length k f ∧ OpAll wr bq (O.length * 5) ∧ (wr.cell? ⟨bg, 0, none⟩ = some (.slice (some ⟨br, 0, none⟩) x.regs.length x.regs.length) ∧ wr.cell? ⟨bg, 1, none⟩ = some (.slice (some ⟨bq, 0, none⟩) O.length O.length)) ∧ Ext w2 wr)) (fun i _ => x.regs.length - (intOf i).toNat)
    case atStart => exact ⟨0, Nat.zero_le _, rfl, unhide W0⟩
    case round =>
      clear W0 c3
      obtain ⟨k, hk, rfl, hinv⟩ := hrel
      have X3 := X2.trans (unhide hinv).2.2.2
      by_cases hlt : k < x.regs.length
      · obtain ⟨b', o, rfl, p0, p1, p2⟩ := ((unhide HV).ext X3).H.R k hlt
        have hb' : b' < wr.heap.size := cell_lt p0
        have g0 := (unhide hinv).2.2.1.1
        have hbg : bg < wr.heap.size := cell_lt g0
        have hbr : br < wr.heap.size := (unhide hinv).1.n.1
        have ne1 : ¬ bg = br := fun e => (unhide GD).2.1 e.symm
        have ne2 : ¬ br = bg := (unhide GD).2.1
        have ne3 : ¬ wr.heap.size = br := by omega
        have ne4 : ¬ br = wr.heap.size := by omega
        have hk0 : (0:Int) ≤ (k:Int) := by omega
        have hk1 : (k:Int) < (x.regs.length:Int) := by omega
        have xa := (Ext.refl wr).alloc (.cells #[iv x.regs[k].k, iv x.regs[k].n, iv x.regs[k].a] 90)
        have MY := hide (may_reg (unhide Q2) (unhide Q4) k hlt)
        have XA := X3.trans xa
        have YA := (unhide hinv).2.2.2.trans xa
        go_wp2_with fail
        go_region_held3 (fun W => W.cell? ⟨bg, 0, none⟩ = some (.slice (some ⟨br, 0, none⟩) x.regs.length x.regs.length) ∧ W.cell? ⟨wr.heap.size, 0, none⟩ = some (iv x.regs[k].k) ∧ W.cell? ⟨wr.heap.size, 1, none⟩ = some (iv x.regs[k].n) ∧ W.cell? ⟨wr.heap.size, 2, none⟩ = some (iv x.regs[k].a)) (go_keep) (first | (go_at_call 116; refine (nword_any x x.regs[k] b w1.heap.size (w1.heap.size + 1) w1.heap.size bn on _ O _ ((unhide HV).ext XA.drew) (unhide Q2) ((unhide NB).ext YA.drew) (unhide MY) ((unhide OI).g k hlt)).mono ?_; rintro e w3 ⟨rfl, hq3⟩; have y3 := Ext.trans ((Ext.refl _).drew) hq3; have s0 : w3.cell? ⟨wr.heap.size, 0, none⟩ = some (iv x.regs[k].k) := y3.keep (by simp [go_sem]); have s1 : w3.cell? ⟨wr.heap.size, 1, none⟩ = some (iv x.regs[k].n) := y3.keep (by simp [go_sem]); have s2 : w3.cell? ⟨wr.heap.size, 2, none⟩ = some (iv x.regs[k].a) := y3.keep (by simp [go_sem]); have z3 := xa.trans y3; have sb := z3.keep g0; have R1 := hide (WRow.step ((unhide hinv).1.ext z3) hlt); rw [unhide HF k hlt] at R1; obtain ⟨⟨t0, d0⟩, f0⟩ := ((unhide hinv).1.o (k * 3) (by omega)).ext z3; obtain ⟨⟨t1, d1⟩, f1⟩ := ((unhide hinv).1.o (k * 3 + 1) (by omega)).ext z3; obtain ⟨⟨t2, d2⟩, f2⟩ := ((unhide hinv).1.o (k * 3 + 2) (by omega)).ext z3; clear hq3))
        all_goals
          have FIN := hide (show WRow _ br x.regs.length (k + 1) f ∧ OpAll _ bq (O.length * 5) ∧ (World.cell? _ ⟨bg, 0, none⟩ = some (.slice (some ⟨br, 0, none⟩) x.regs.length x.regs.length) ∧ World.cell? _ ⟨bg, 1, none⟩ = some (.slice (some ⟨bq, 0, none⟩) O.length O.length)) ∧ Ext w2 _ from ⟨(unhide R1).1, ((unhide hinv).2.1.ext z3).only (unhide R1).2 (fun e => (unhide GD).1 e.symm), ⟨(unhide R1).2.keep ne1 sb, (unhide R1).2.keep ne1 (z3.keep (unhide hinv).2.2.1.2)⟩, (unhide R1).2.ext ((unhide hinv).2.2.2.trans z3) (fun q hq e => by have := (unhide GD).2.2.2.1; omega)⟩)
          go_wp2_with fail
          go_roundw
          case rel => exact ⟨k + 1, by omega, by go_num, unhide FIN⟩
          case measure => simp [intOf]; omega
      · have hk2 : k = x.regs.length := by omega
        subst hk2
        obtain ⟨oj, hoj⟩ : ∃ oj : Nat → Nat, ∀ q (h : q < O.length), oj q = O[q] := ⟨fun q => O.getD q 0, fun q h => by simp [h]⟩
        have NB3 := (unhide NB).ext (unhide hinv).2.2.2
        have c2 := NB3.c2
        have J0 := hide (show ∃ pb, NRow wr bq O.length 0 w2.heap.size (fun q => x.c (oj q)) (np x O) (fun _ => 0) pb ∧ (∀ q, q < 0 → pb q ≠ br ∧ pb q ≠ bg) from ⟨fun _ => 0, ⟨fun q h => by omega, fun q h => by omega, fun q q' h => by omega, (unhide hinv).2.1⟩, fun q h => by omega⟩)
        have HI := hide (show WRow wr br x.regs.length x.regs.length f ∧ (wr.cell? ⟨bg, 0, none⟩ = some (.slice (some ⟨br, 0, none⟩) x.regs.length x.regs.length) ∧ wr.cell? ⟨bg, 1, none⟩ = some (.slice (some ⟨bq, 0, none⟩) O.length O.length)) ∧ Ext w2 wr from ⟨(unhide hinv).1, (unhide hinv).2.2.1, (unhide hinv).2.2.2⟩)
        have HO := hide hoj
        clear hinv NB3 X3 hlt hk hoj
        go_wp2_with fail
        go_loopw [55] (fun i wr => ∃ k : Nat, k ≤ O.length ∧ i = .int .i64 k ∧ Hid (∃ pb, NRow wr bq O.length k w2.heap.size (fun q => x.c (oj q)) (np x O) (fun _ => 0) pb ∧ (∀ q, q < k → pb q ≠ br ∧ pb q ≠ bg)) ∧ Hid (WRow wr br x.regs.length x.regs.length f ∧ (wr.cell? ⟨bg, 0, none⟩ = some (.slice (some ⟨br, 0, none⟩) x.regs.length x.regs.length) ∧ wr.cell? ⟨bg, 1, none⟩ = some (.slice (some ⟨bq, 0, none⟩) O.length O.length)) ∧ Ext w2 wr)) (fun i _ => O.length - (intOf i).toNat)
        case atStart => exact ⟨0, Nat.zero_le _, rfl, unhide J0, unhide HI⟩
        case round =>
          clear J0 HI c2
          obtain ⟨k, hk, rfl, hnr, hinv⟩ := hrel
          have X3 := X2.trans (unhide hinv).2.2
          by_cases hlt : k < O.length
          · obtain ⟨gq, rfl⟩ := hgv (by omega)
            have NB3 := (unhide NB).ext (unhide hinv).2.2
            obtain ⟨j, ej⟩ : ∃ j, j = O[k] := ⟨_, rfl⟩
            have cj := NB3.cell k hlt
            rw [← ej] at cj
            have EJ := hide (show oj k = j by rw [unhide HO k hlt, ej])
            have JO := hide (show j ∈ O by rw [ej]; exact List.getElem_mem hlt)
            have hjn := NB3.rg j (unhide JO)
            obtain ⟨bc, oc, ap, kp, e1, C⟩ := (unhide HV).H.cell j hjn
            obtain ⟨bn', on', bc', oc', e2, e3, m0, m1'⟩ := (unhide HV).N j hjn
            rw [e1] at e3
            cases e2; cases e3
            have p1 := X3.keep C.p1
            have p2 := X3.keep C.p2
            have p3 := X3.keep C.p3
            have m1 := X3.keep m1'
            have hbnw : bn < w.heap.size := cell_lt m1'
            have hbcw : bc < w.heap.size := cell_lt C.p1
            have hww : w.heap.size ≤ w2.heap.size := X2.size
            have g1 := (unhide hinv).2.1.2
            obtain ⟨pb, NR, hpb⟩ := unhide hnr
            have hbq : bq < wr.heap.size := NR.o.2.1
            have hP := h200 j hjn
            have ne1 : ¬ bg = bq := fun e => (unhide GD).2.2.1 e.symm
            have ne2 : ¬ bq = bg := (unhide GD).2.2.1
            have ne3 : ¬ bn = bq := fun e => by have := (unhide GD).2.2.2.2.1; omega
            have ne4 : ¬ bq = bn := fun e => ne3 e.symm
            have ne5 : ¬ bc = bq := fun e => by have := (unhide GD).2.2.2.2.1; omega
            have ne6 : ¬ bq = bc := fun e => ne5 e.symm
            have k0 : (0:Int) ≤ (k:Int) := by omega
            have k1 : (k:Int) < (O.length:Int) := by omega
            have HNR := hide NR
            have HPB := hide hpb
            clear NR hpb hnr C m0 m1' e1 ej NB3
            have Y3 := (unhide hinv).2.2
            go_wp2_with fail
            go_region_held3 (fun W => W.cell? ⟨bg, 1, none⟩ = some (.slice (some ⟨bq, 0, none⟩) O.length O.length) ∧ W.cell? ⟨bn, on + j * 2 + 1, none⟩ = some (ptr bc (oc + j * 8)) ∧ W.cell? ⟨bc, oc + j * 8 + 1, none⟩ = some (iv (x.c j).kind) ∧ W.cell? ⟨bc, oc + j * 8 + 2, none⟩ = some (iv (x.c j).weak) ∧ W.cell? ⟨bc, oc + j * 8 + 3, none⟩ = some (iv (x.c j).last)) (go_keep) (first | (go_at_call 117; refine (npairs_any x b w1.heap.size (w1.heap.size + 1) w1.heap.size bn on j _ O _ ((unhide HV).ext X3.drew) (unhide Q2) (unhide Q4) ((unhide NB).ext Y3.drew) (unhide OI) (unhide JO) hP).mono ?_; rintro e w3 ⟨rfl, hsl, hq3⟩; have z3 := Ext.trans ((Ext.refl wr).drew) hq3; have sb := z3.keep g1; have sm := z3.keep m1; have s1 := z3.keep p1; have s2 := z3.keep p2; have s3 := z3.keep p3; have R1 := hide (NRow.step (P := wr.heap.size) ((unhide HNR).ext z3) hlt (by rw [show x.c (oj k) = x.c j by rw [unhide EJ]]; exact (unhide hsl).1) (unhide hsl).2 (by have := Y3.size; omega) (by omega) (fun q hq e => by have := ((unhide HNR).p q hq).2.1.1; omega) rfl); simp only [unhide EJ] at R1; obtain ⟨⟨t0, d0⟩, f0⟩ := ((unhide HNR).o.1 (k * 5) (by omega)).ext z3; obtain ⟨⟨t1, d1⟩, f1⟩ := ((unhide HNR).o.1 (k * 5 + 1) (by omega)).ext z3; obtain ⟨⟨t2, d2⟩, f2⟩ := ((unhide HNR).o.1 (k * 5 + 2) (by omega)).ext z3; obtain ⟨⟨t3, d3⟩, f3⟩ := ((unhide HNR).o.1 (k * 5 + 3) (by omega)).ext z3; obtain ⟨⟨t4, d4⟩, f4⟩ := ((unhide HNR).o.1 (k * 5 + 4) (by omega)).ext z3; clear hq3))
            all_goals
              have FIN := hide (show (∃ pb, NRow _ bq O.length (k + 1) w2.heap.size (fun q => x.c (oj q)) (np x O) (fun _ => 0) pb ∧ (∀ q, q < k + 1 → pb q ≠ br ∧ pb q ≠ bg)) ∧ (WRow _ br x.regs.length x.regs.length f ∧ (World.cell? _ ⟨bg, 0, none⟩ = some (.slice (some ⟨br, 0, none⟩) x.regs.length x.regs.length) ∧ World.cell? _ ⟨bg, 1, none⟩ = some (.slice (some ⟨bq, 0, none⟩) O.length O.length)) ∧ Ext w2 _) from ⟨⟨_, (unhide R1).1, fun q hq => by
                  by_cases e : q = k
                  · subst e
                    simp only [if_true]
                    have := (unhide hinv).1.n.1
                    have := cell_lt (unhide hinv).2.1.1
                    exact ⟨by omega, fun z => by simp at *; omega⟩
                  · simp only [e, if_false]
                    exact unhide HPB q (by omega)⟩, ((unhide hinv).1.ext z3).only (unhide R1).2 (fun e => (unhide GD).1 e), ⟨(unhide R1).2.keep ne1 (z3.keep (unhide hinv).2.1.1), (unhide R1).2.keep ne1 sb⟩, (unhide R1).2.ext (Y3.trans z3) (fun q hq e => by have := (unhide GD).2.2.2.2.1; omega)⟩)
              go_wp2_with fail
              go_roundw
              case rel => exact ⟨k + 1, by omega, by go_num, (unhide FIN).1, (unhide FIN).2⟩
              case measure => simp [intOf]; omega
          · have hk2 : k = O.length := by omega
            subst hk2
            obtain ⟨pb, NR, hpb⟩ := unhide hnr
            have J0 := hide (show NRow wr bq O.length O.length w2.heap.size (fun q => x.c (oj q)) (np x O) (rkN N oj 0) pb from ⟨NR.s, NR.p, NR.d, NR.o⟩)
            have HPB := hide hpb
            have HI := hide (unhide hinv)
            clear NR hpb hnr hinv X3 hlt hk
            go_wp2_with fail
            go_loopw [92] (fun i wr => ∃ k : Nat, k ≤ N.length ∧ i = .int .i64 k ∧ Hid (NRow wr bq O.length O.length w2.heap.size (fun q => x.c (oj q)) (np x O) (rkN N oj k) pb) ∧ Hid (WRow wr br x.regs.length x.regs.length f ∧ (wr.cell? ⟨bg, 0, none⟩ = some (.slice (some ⟨br, 0, none⟩) x.regs.length x.regs.length) ∧ wr.cell? ⟨bg, 1, none⟩ = some (.slice (some ⟨bq, 0, none⟩) O.length O.length)) ∧ Ext w2 wr)) (fun i _ => N.length - (intOf i).toNat)
            case atStart => exact ⟨0, Nat.zero_le _, rfl, unhide J0, unhide HI⟩
            case round =>
              clear J0 HI
              obtain ⟨k, hk, rfl, hnr, hinv⟩ := hrel
              have Y3 := (unhide hinv).2.2
              by_cases hlt : k < N.length
              · obtain ⟨gb, go, hg, gc0, _⟩ := unhide SPA k hlt
                subst hg
                have gc := (x2.trans Y3).keep gc0
                have HM := hide (show N[k] ∈ O from (unhide OI).s _ (((unhide WN).m N[k]).1 (List.getElem_mem hlt)).1 (((unhide WN).m N[k]).1 (List.getElem_mem hlt)).2)
                have NB3 := (unhide NB).ext Y3.drew
                obtain ⟨et, hu, hz⟩ := nums_und
                obtain ⟨i1, hi1, _, hz1, _⟩ := info_parts infoNodes
                have lk := NB3.m.get hu node_und hi1 (by rw [hz1]; omega) N[k] (unhide HM)
                have c1 := ((unhide NB).ext Y3).c1
                have g1 := (unhide hinv).2.1.2
                have ST := hide (rkN_step (unhide WN).nd (unhide OI).nd (unhide HO) hlt (unhide HM))
                have hml : O.idxOf N[k] < O.length := List.idxOf_lt_length_iff.2 (unhide HM)
                obtain ⟨m, em⟩ : ∃ m, m = O.idxOf N[k] := ⟨_, rfl⟩
                rw [← em] at lk ST hml
                have R1 := hide (NRow.rank (unhide hnr) m hml ((k : Int) + 1) (unhide ST).1 (unhide ST).2)
                obtain ⟨⟨t3, d3⟩, f3⟩ := (unhide hnr).o.1 (m * 5 + 3) (by omega)
                have ne1 : ¬ bg = bq := fun e => (unhide GD).2.2.1 e.symm
                have ne2 : ¬ bq = bg := (unhide GD).2.2.1
                have ne3 : ¬ w1.heap.size + 1 = bq := fun e => by have := (unhide GD).2.2.2.2.1; omega
                have ne4 : ¬ bq = w1.heap.size + 1 := fun e => ne3 e.symm
                have k0 : (0:Int) ≤ (k:Int) := by omega
                have k1 : (k:Int) < (N.length:Int) := by omega
                have m0 : (0:Int) ≤ (m:Int) := by omega
                have m1 : (m:Int) < (O.length:Int) := by omega
                have hNk : N.length ≤ 8000 := by have := len_le (unhide WN).nd (fun i hi => (((unhide WN).m i).1 hi).1); omega
                have FIN := hide (show NRow _ bq O.length O.length w2.heap.size (fun q => x.c (oj q)) (np x O) (rkN N oj (k + 1)) pb ∧ (WRow _ br x.regs.length x.regs.length f ∧ (World.cell? _ ⟨bg, 0, none⟩ = some (.slice (some ⟨br, 0, none⟩) x.regs.length x.regs.length) ∧ World.cell? _ ⟨bg, 1, none⟩ = some (.slice (some ⟨bq, 0, none⟩) O.length O.length)) ∧ Ext w2 _) from ⟨(unhide R1).1, (unhide hinv).1.only (unhide R1).2 (fun e => (unhide GD).1 e), ⟨(unhide R1).2.keep ne1 (unhide hinv).2.1.1, (unhide R1).2.keep ne1 g1⟩, (unhide R1).2.ext Y3 (fun q hq e => by have := (unhide GD).2.2.2.2.1; omega)⟩)
                clear em hu hz hi1 hz1 NB3 gc0
                go_wp2_with fail
                go_region_held3 (fun W => W.cell? ⟨bg, 1, none⟩ = some (.slice (some ⟨bq, 0, none⟩) O.length O.length) ∧ W.cell? ⟨w1.heap.size + 1, 1, none⟩ = some (Value.map (some w1.heap.size))) (go_keep) (fail)
                all_goals
                  go_wp2_with fail
                  go_roundw
                  case rel => exact ⟨k + 1, by omega, by go_num, (unhide FIN).1.ext ((Ext.refl _).drew), ⟨(unhide FIN).2.1.ext ((Ext.refl _).drew), ⟨(unhide FIN).2.2.1.1, (unhide FIN).2.2.1.2⟩, (unhide FIN).2.2.2.drew⟩⟩
                  case measure => simp [intOf]; omega
              · have hk2 : k = N.length := by omega
                subst hk2
                have E1 := x1.trans (x2.trans Y3)
                have r0 := E1.keep (b := w.heap.size) (o := 0) (v := .slice none 0 0) (by simp [go_sem])
                have r1 := E1.keep (b := w.heap.size) (o := 1) (v := .slice none 0 0) (by simp [go_sem])
                have hfz := (bcell E1).2
                have hsz : w.heap.size < wr.heap.size := cell_lt r0
                have y0 := (unhide hinv).2.1.1
                have y1 := (unhide hinv).2.1.2
                have hww : w.heap.size < w2.heap.size := by have := (x1.trans x2).size; simp at this; omega
                have hbgn : ¬ bg = w.heap.size := fun e => by have := (unhide GD).2.2.2.2.2; omega
                have hbgn2 : ¬ w.heap.size = bg := fun e => hbgn e.symm
                have FIN := hide (show ∀ W, Only (fun q => q = w.heap.size) wr W → GAns x w.heap.size W (.slice (some ⟨br, 0, none⟩) x.regs.length x.regs.length) (.slice (some ⟨bq, 0, none⟩) O.length O.length) ∧ Ext w W from fun W hW => by
                  have g4 := (unhide GD).2.2.2.1
                  have g5 := (unhide GD).2.2.2.2.1
                  refine ⟨⟨N, O, br, bq, pb, f, oj, unhide WN, unhide EO, rfl, rfl, (unhide hinv).1.only hW (fun e => by omega), unhide HF, unhide HO, ((unhide hnr).only hW (fun e => by omega) (fun q hq e => by have := ((unhide hnr).p q hq).2.2.1; omega)).less (by omega), (unhide GD).1, fun q hq => (unhide HPB q hq).1, by omega, by omega⟩, hW.ext (X2.trans Y3) (fun q hq e => by omega)⟩)
                clear hnr hinv
                go_wp2_with fail
                refine bodyPost_ret (v := .agg #[.slice (some ⟨br, 0, none⟩) x.regs.length x.regs.length, .slice (some ⟨bq, 0, none⟩) O.length O.length]) (by simp [results, Tryz.results67, go_sem, r0, r1]) rfl ⟨_, _, rfl, unhide FIN _ ?_⟩
                repeat (first | refine Only.setCell ?_ (by simp) _ | exact Only.refl _ _)
end Go.Proofs.YtkabcfhemljnbaaGreat
