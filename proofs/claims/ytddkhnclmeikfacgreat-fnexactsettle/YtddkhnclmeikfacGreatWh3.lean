import Derived.Test.YtddkhnclmeikfacGreatWh1
import Derived.Deep.RegionLaw
namespace Go.Proofs.YtddkhnclmeikfacGreat
open Go.RowKit
attribute [local go_sem ↓] Go.wp_at_zero Go.wp_at_succ

/-- the value is met, or waits for the key -/
def Bes (o1 o2 : Option Nat) (Mt Mt' St St' : List Nat) (g g' : Nat → List (Option Nat)) : Prop :=
  ((o1 = none ∨ ∃ k, o1 = some k ∧ k ∈ Mt) ∧ Grow (fun i => o2 = some i) Mt Mt' St St' ∧ (∀ i, o2 = some i → i ∈ Mt') ∧ g' = g) ∨ (∃ k, o1 = some k ∧ ¬ k ∈ Mt ∧ Mt' = Mt ∧ St' = St ∧ g' = fun q => if q = k then g k ++ [o2] else g q)

theorem waits_und : ∃ et, Tryz.prog.underlying 219 = some (.map 95 et) ∧ ∀ w, (zeroValue et).run Tryz.prog w = .ok (.slice none 0 0) w := ⟨_, Tryz.underlying219, fun _ => by kernel_rfl⟩

set_option maxRecDepth 100000 in
set_option maxHeartbeats 2000000 in
theorem beside_none (a : World) (bw bv r1 r2 bn on n : Nat) (o2 : Option Nat) (v : Value) (f : Nat → Value) (g : Nat → List (Option Nat)) (Mt St : List Nat) (w : World) (h : WkAt w a.heap.size bw bv r1 bn on n v Mt St) (ht : WtAt w a.heap.size bw r1 r2 bn on v f g) (ho : ∀ i, o2 = some i → i < n) (hx : Ext a w) (hn8 : n ≤ 8000) :
    Calls Tryz.prog 268 #[.pointer (some ⟨bw, 0, none⟩), .pointer none, pv bn on o2] w fun e w' => e = .returned (.tuple #[]) ∧ ∃ v' Mt' St', WkAt w' a.heap.size bw bv r1 bn on n v' Mt' St' ∧ WtAt w' a.heap.size bw r1 r2 bn on v' f g ∧ Hid (Grow (fun i => o2 = some i) Mt Mt' St St' ∧ (∀ i, o2 = some i → i ∈ Mt')) ∧ Hid (Ext a w') := by
  have HW := hide h
  have HT := hide ht
  have HX := hide hx
  clear h ht
  go_enter Tryz.func268, Tryz.ntmps268
  go_wp2_with fail
  refine (meet_opt a.heap.size bw bv r1 bn on n o2 v Mt St _ (unhide HW) ho hx.size hn8).mono ?_
  rintro e w1 ⟨rfl, v', M', S', hw, hg, hk⟩
  have FIN := hide (And.intro hw (And.intro ((unhide HT).step hk) (And.intro (unhide hg) ((unhide HW).kext hk hx))))
  clear hw hg hk
  go_wp2_with fail
  try simp only [Exit.inBlock, Exit.then]
  refine bodyPost_ret (results_none rfl _ _ _) rfl ?_
  exact ⟨rfl, v', M', S', (unhide FIN).1, (unhide FIN).2.1, (unhide FIN).2.2.1, (unhide FIN).2.2.2⟩

set_option maxRecDepth 100000 in
set_option maxHeartbeats 2000000 in
theorem beside_in (a : World) (bw bv r1 r2 bn on n k : Nat) (o2 : Option Nat) (v : Value) (f : Nat → Value) (g : Nat → List (Option Nat)) (Mt St : List Nat) (w : World) (h : WkAt w a.heap.size bw bv r1 bn on n v Mt St) (ht : WtAt w a.heap.size bw r1 r2 bn on v f g) (ho : ∀ i, o2 = some i → i < n) (hx : Ext a w) (hn8 : n ≤ 8000) (hm : k ∈ Mt) :
    Calls Tryz.prog 268 #[.pointer (some ⟨bw, 0, none⟩), ptr bn (on + k * 2), pv bn on o2] w fun e w' => e = .returned (.tuple #[]) ∧ ∃ v' Mt' St', WkAt w' a.heap.size bw bv r1 bn on n v' Mt' St' ∧ WtAt w' a.heap.size bw r1 r2 bn on v' f g ∧ Hid (Grow (fun i => o2 = some i) Mt Mt' St St' ∧ (∀ i, o2 = some i → i ∈ Mt')) ∧ Hid (Ext a w') := by
  have HW := hide h
  have HT := hide ht
  have c1 := h.c1
  clear h ht
  go_enter Tryz.func268, Tryz.ntmps268
  go_wp2_with fail
  refine (has_any r1 bn (on + k * 2) _ _ (unhide HW).m).mono ?_
  rintro e w1 ⟨rfl, hq⟩
  have E : decide (on + k * 2 ∈ Mt.map (fun i => on + i * 2)) = true := decide_eq_true (mem_off.2 hm)
  rw [E]
  clear E
  have x1 := hx.trans hq
  go_wp2_with fail
  refine (meet_opt a.heap.size bw bv r1 bn on n o2 v Mt St _ ((unhide HW).ext hq) ho x1.size hn8).mono ?_
  rintro e w2 ⟨rfl, v', M', S', hw, hg, hk⟩
  have FIN := hide (And.intro hw (And.intro (((unhide HT).ext hq).step hk) (And.intro (unhide hg) (((unhide HW).ext hq).kext hk x1))))
  clear hw hg hk
  go_wp2_with fail
  try simp only [Exit.inBlock, Exit.then]
  refine bodyPost_ret (results_none rfl _ _ _) rfl ?_
  exact ⟨rfl, v', M', S', (unhide FIN).1, (unhide FIN).2.1, (unhide FIN).2.2.1, (unhide FIN).2.2.2⟩

theorem pv_ptr (bn on : Nat) (o : Option Nat) : ∃ q, pv bn on o = .pointer q := by cases o with | none => exact ⟨_, rfl⟩ | some i => exact ⟨_, rfl⟩
theorem own_drew {w : World} {base n : Nat} {t : TypeId} {v : Value} {xs : List Value} (h : w.ownsRow base t 1 v n xs) : w.drew.ownsRow base t 1 v n xs := ownsRow_of_block h (fun _ _ => rfl)

set_option maxRecDepth 100000 in
set_option maxHeartbeats 2000000 in
theorem beside_out (a : World) (bw bv r1 r2 bn on n k : Nat) (o2 : Option Nat) (v : Value) (f : Nat → Value) (g : Nat → List (Option Nat)) (Mt St : List Nat) (w : World) (h : WkAt w a.heap.size bw bv r1 bn on n v Mt St) (ht : WtAt w a.heap.size bw r1 r2 bn on v f g) (hx : Ext a w) (hg : (g k).length ≤ 10000000) (hm : ¬ k ∈ Mt) :
    Calls Tryz.prog 268 #[.pointer (some ⟨bw, 0, none⟩), ptr bn (on + k * 2), pv bn on o2] w fun e w' => e = .returned (.tuple #[]) ∧ ∃ f', WkAt w' a.heap.size bw bv r1 bn on n v Mt St ∧ WtAt w' a.heap.size bw r1 r2 bn on v f' (fun q => if q = k then g k ++ [o2] else g q) ∧ Hid (Ext a w') := by
  obtain ⟨et, hu, hz⟩ := waits_und
  obtain ⟨i1, hi1, _, hz1, _⟩ := info_parts infoNodes
  obtain ⟨i0, hi0, hy0, hy1, hy2⟩ := info_parts infoNodeP
  have HW := hide h
  have HT := hide ht
  have c1 := h.c1
  have c3 := ht.c3
  have HU := hide hu
  have HN := hide hi1
  have HZ := hide hz1
  have LK := hide (fun w' (e : Ext w w') => (ht.ext e).m.lookup hu node_und hi1 (by rw [hz1]; omega) hz k)
  clear h ht hu hz hi1 hz1
  obtain ⟨fk, hfk⟩ : ∃ u, u = f k := ⟨_, rfl⟩
  obtain ⟨pq, hpq⟩ := pv_ptr bn on o2
  rw [hpq]
  have PQ := hide hpq
  clear hpq
  go_enter Tryz.func268, Tryz.ntmps268
  go_wp2_with fail
  refine (has_any r1 bn (on + k * 2) _ _ (unhide HW).m).mono ?_
  rintro e w1 ⟨rfl, hq⟩
  have E : decide (on + k * 2 ∈ Mt.map (fun i => on + i * 2)) = false := decide_eq_false (fun q => hm (mem_off.1 q))
  rw [E]
  clear E
  have x1 := hx.trans hq
  have d3 := hq.keep c3
  have lk := unhide LK w1.drew hq.drew
  have lk2 := fun ob => unhide LK (w1.alloc ob).drew (hq.alloc ob).drew
  have lk3 := fun ob => unhide LK (w1.drew.alloc ob) (hq.drew.alloc ob)
  rw [← hfk] at lk
  simp only [← hfk] at lk2 lk3
  have W1 := hide ((unhide HW).ext hq)
  have T1 := hide ((unhide HT).ext hq)
  have OW := hide (show w1.ownsRow a.heap.size 95 1 fk (g k).length ((g k).map (pv bn on)) by rw [hfk]; exact (unhide T1).row k)
  have FK := hide hfk
  have hsz1 := x1.size
  have hbw1 : bw < w1.heap.size := (unhide W1).rlt.1
  clear hfk hq LK c3
  go_wp2_with fail
  go_region_law (refine step_append_lies _ rfl _ _ 136 rfl a.heap.size 95 i0 (.pointer none) 1 8 Tryz.underlying136 hi0 hy0 hy1 hy2 rfl (by decide) fk (g k).length ((g k).map (pv bn on)) (by first | rfl | simp [Act.eval, Act.put]) (by first | exact (unhide OW).alloc _ | exact own_drew ((unhide OW).alloc _) | exact (own_drew (unhide OW)).alloc _) _ 1 1 [.pointer pq] (by first | rfl | simp [Act.eval, Act.put]; rfl) rfl (by
      intro j u hj
      match j, hj with
      | 0, hj => simp at hj; subst hj; simp [Addr.add]) (by intro u hu; simp at hu; subst hu; rfl) (by decide) (by unfold maxLen; omega) (by omega) (by simp; omega) _ rfl ?_; intro gb cap w2 hown hgrow hat hglt; have m2 : MapF w2 r2 bn on f := (unhide T1).m.block ((hgrow.block r2 (by have := (unhide T1).m.lt; simp; omega) (fun e => (unhide T1).a3 k (by rw [← unhide FK]; exact e.symm))).trans (Below.heap_alloc w1 _ r2 (unhide T1).m.lt)); have e3 : w2.cell? ⟨bw, 3, none⟩ = some (Value.map (some r2)) := (World.cell?_of_block (w := w1) (a := ⟨bw, 3, none⟩) ((hgrow.block bw (by have := (unhide W1).rlt; simp; omega) (fun e => (unhide T1).a1 k (by rw [← unhide FK]; exact e.symm))).trans (Below.heap_alloc w1 _ bw (unhide W1).rlt.1))).trans d3; obtain ⟨w3, hUp, m3, hos, htp, hou, hsz, hbl⟩ := m2.update (unhide HU) node_und (unhide HN) (by rw [unhide HZ]; omega) k (.slice (some ⟨gb, 0, none⟩) ((g k).length + 1) cap); have FIN := hide (WtAt.wait (o := o2) (W := (w1.alloc (.cells #[.pointer pq] 95)).drew) (ob := .cells #[.pointer pq] 95) (unhide W1) (unhide T1) rfl rfl rfl rfl (by rw [unhide PQ]; exact hown) (by rw [← unhide FK]; exact hgrow) (by rw [← unhide FK]; simpa using hat) m3 hos htp hou hsz hbl); clear hown hgrow hat m2 m3 hos htp hou hsz hbl)
  all_goals
    go_wp2_with fail
    go_end0
    exact ⟨rfl, _, (unhide FIN).1, (unhide FIN).2.1, (unhide FIN).2.2 a rfl x1⟩

theorem beside_any (a : World) (bw bv r1 r2 bn on n : Nat) (o1 o2 : Option Nat) (v : Value) (f : Nat → Value) (g : Nat → List (Option Nat)) (Mt St : List Nat) (w : World) (h : WkAt w a.heap.size bw bv r1 bn on n v Mt St) (ht : WtAt w a.heap.size bw r1 r2 bn on v f g) (ho : ∀ i, o2 = some i → i < n) (hx : Ext a w) (hn8 : n ≤ 8000) (hg : ∀ k, (g k).length ≤ 10000000) :
    Calls Tryz.prog 268 #[.pointer (some ⟨bw, 0, none⟩), pv bn on o1, pv bn on o2] w fun e w' => e = .returned (.tuple #[]) ∧ ∃ v' Mt' St' f' g', WkAt w' a.heap.size bw bv r1 bn on n v' Mt' St' ∧ WtAt w' a.heap.size bw r1 r2 bn on v' f' g' ∧ Hid (Bes o1 o2 Mt Mt' St St' g g') ∧ Hid (Ext a w') := by
  cases o1 with
  | none => exact (beside_none a bw bv r1 r2 bn on n o2 v f g Mt St w h ht ho hx hn8).mono fun _ _ ⟨he, v', M', S', q1, q2, q3, q4⟩ => ⟨he, v', M', S', f, g, q1, q2, .inl ⟨.inl rfl, (unhide q3).1, (unhide q3).2, rfl⟩, q4⟩
  | some k =>
    by_cases hm : k ∈ Mt
    · exact (beside_in a bw bv r1 r2 bn on n k o2 v f g Mt St w h ht ho hx hn8 hm).mono fun _ _ ⟨he, v', M', S', q1, q2, q3, q4⟩ => ⟨he, v', M', S', f, g, q1, q2, .inl ⟨.inr ⟨k, rfl, hm⟩, (unhide q3).1, (unhide q3).2, rfl⟩, q4⟩
    · exact (beside_out a bw bv r1 r2 bn on n k o2 v f g Mt St w h ht hx (hg k) hm).mono fun _ _ ⟨he, f', q1, q2, q3⟩ => ⟨he, v, Mt, St, f', _, q1, q2, .inr ⟨k, rfl, hm, rfl, rfl, rfl⟩, q3⟩

set_option maxRecDepth 100000 in
set_option maxHeartbeats 2000000 in
theorem release_any (a : World) (bw bv r1 r2 bn on n k : Nat) (v : Value) (f : Nat → Value) (g : Nat → List (Option Nat)) (Mt St : List Nat) (w : World) (h : WkAt w a.heap.size bw bv r1 bn on n v Mt St) (ht : WtAt w a.heap.size bw r1 r2 bn on v f g) (ho : ∀ i, some i ∈ g k → i < n) (hx : Ext a w) (hn8 : n ≤ 8000) (hg : (g k).length ≤ 10000000) :
    Calls Tryz.prog 203 #[.pointer (some ⟨bw, 0, none⟩), ptr bn (on + k * 2)] w fun e w' => e = .returned (.tuple #[]) ∧ ∃ v' Mt' St', WkAt w' a.heap.size bw bv r1 bn on n v' Mt' St' ∧ WtAt w' a.heap.size bw r1 r2 bn on v' f g ∧ Hid (Grow (fun i => some i ∈ g k) Mt Mt' St St' ∧ ∀ i, some i ∈ g k → i ∈ Mt') ∧ Hid (Ext a w') := by
  obtain ⟨et, hu, hz⟩ := waits_und
  obtain ⟨i1, hi1, _, hz1, _⟩ := info_parts infoNodes
  have HW := hide h
  have HT := hide ht
  have c3 := ht.c3
  have lk := ht.m.lookup hu node_und hi1 (by rw [hz1]; omega) hz k
  obtain ⟨ad, cap, hf, hgb⟩ := ownsRow_form (ht.row k)
  have FK := hide hf
  rw [hf] at lk
  clear h ht hu hz hi1 hz1 hf
  go_enter Tryz.func203, Tryz.ntmps203
  go_wp2_with fail
  go_loopw [13] (fun i wr => ∃ (l : Nat) (v' : Value) (M S : List Nat), l ≤ (g k).length ∧ i = .int .i64 l ∧ WkAt wr a.heap.size bw bv r1 bn on n v' M S ∧ WtAt wr a.heap.size bw r1 r2 bn on v' f g ∧ Hid (Grow (fun i => some i ∈ g k) Mt M St S ∧ ∀ j i, j < l → (g k)[j]? = some (some i) → i ∈ M) ∧ Ext a wr) (fun i _ => (g k).length - (intOf i).toNat)
  case atStart => exact ⟨0, v, Mt, St, Nat.zero_le _, rfl, unhide HW, unhide HT, ⟨Grow.refl, fun j i hj => by omega⟩, hx⟩
  case round =>
    clear HW HT c3 lk hx
    obtain ⟨l, v', M, S, hl, rfl, hw, htt, hinv, hbl⟩ := hrel
    have HW := hide hw
    have HT := hide htt
    by_cases hlt : l < (g k).length
    · obtain ⟨gb, rfl⟩ := hgb (by omega)
      obtain ⟨o, hoo⟩ : ∃ o, (g k)[l]? = some o := ⟨_, List.getElem?_eq_getElem hlt⟩
      have cl : wr.cell? ⟨gb, l, none⟩ = some (pv bn on o) := by
        have hr := htt.row k
        rw [unhide FK] at hr
        have := World.ownsRow.cellAt hr l (by omega)
        rw [this, List.getElem?_map, hoo]; rfl
      have hk0 : (0:Int) ≤ (l:Int) := by omega
      have hk1 : (l:Int) < ((g k).length:Int) := by omega
      have HO := hide hoo
      clear hw htt hoo
      go_wp2_with fail
      refine (meet_opt a.heap.size bw bv r1 bn on n o v' M S _ (unhide HW) (fun i e => ho i (by subst e; exact List.mem_of_getElem? (unhide HO))) hbl.size hn8).mono ?_
      rintro e w2 ⟨rfl, v2, M2, S2, hw2, hg2, hk2⟩
      have R := hide (show WkAt w2 a.heap.size bw bv r1 bn on n v2 M2 S2 ∧ WtAt w2 a.heap.size bw r1 r2 bn on v2 f g ∧ (Grow (fun i => some i ∈ g k) Mt M2 St S2 ∧ ∀ j i, j < l + 1 → (g k)[j]? = some (some i) → i ∈ M2) ∧ Ext a w2 from
        ⟨hw2, (unhide HT).step hk2, ⟨(unhide hinv).1.trans ((unhide hg2).1.mono (fun i e => by subst e; exact List.mem_of_getElem? (unhide HO))), fun j i hj e => by
          by_cases q : j = l
          · subst q; rw [unhide HO] at e; cases e; exact (unhide hg2).2 i rfl
          · exact (unhide hg2).1.m i ((unhide hinv).2 j i (by omega) e)⟩, (unhide HW).kext hk2 hbl⟩)
      clear hw2 hg2 hk2
      go_wp2_with fail
      go_roundw
      case rel => exact ⟨l + 1, v2, M2, S2, by omega, by go_num, (unhide R).1, (unhide R).2.1, (unhide R).2.2.1, (unhide R).2.2.2⟩
      case measure => simp [intOf]; omega
    · have hl2 : l = (g k).length := by omega
      have R := hide (show Grow (fun i => some i ∈ g k) Mt M St S ∧ ∀ i, some i ∈ g k → i ∈ M from ⟨(unhide hinv).1, fun i hi => by
        obtain ⟨j, hj, e⟩ := List.getElem_of_mem hi
        exact (unhide hinv).2 j i (by omega) (by rw [List.getElem?_eq_getElem hj, e])⟩)
      clear hw htt hinv hl2
      go_wp2_with fail
      go_end0
      exact ⟨rfl, v', M, S, unhide HW, unhide HT, unhide R, hbl⟩
end Go.Proofs.YtddkhnclmeikfacGreat

namespace Go.Proofs.YtddkhnclmeikfacGreat
open Go.RowKit
attribute [local go_sem ↓] Go.wp_at_zero Go.wp_at_succ

/-- what waits for k was not let go of yet -/
def Pend (Mt St : List Nat) (pre : Option Nat) (k : Nat) : Prop := ¬ k ∈ Mt ∨ k ∈ St ∨ pre = some k
def ClsTo (x : Hp) (Mt St : List Nat) (g : Nat → List (Option Nat)) (pre : Option Nat) (i l : Nat) : Prop := ∀ p, p < (x.c i).prs.length → p < l → (SK (x.c i) → ((x.c i).p p).key.k = 2 → tgt x ((x.c i).p p).key ∈ Mt) ∧
  (SV (x.c i) → ((x.c i).p p).val.k = 2 → (((x.c i).p p).key.k ≠ 2 → tgt x ((x.c i).p p).val ∈ Mt) ∧ (((x.c i).p p).key.k = 2 → tgt x ((x.c i).p p).val ∈ Mt ∨ (some (tgt x ((x.c i).p p).val) ∈ g (tgt x ((x.c i).p p).key) ∧ Pend Mt St pre (tgt x ((x.c i).p p).key))))
structure InvH (x : Hp) (Mt St : List Nat) (g : Nat → List (Option Nat)) (pre cur : Option Nat) : Prop where
  only : ∀ i, i ∈ Mt → Held x i
  regs : RegsN x x.regs.length Mt
  due : ∀ i, i < x.cells.length → (x.c i).last = 2 → i ∈ Mt
  wh : ∀ k i, some i ∈ g k → Held x k → Held x i
  wl : ∀ k i, some i ∈ g k → i < x.cells.length
  part : ∀ i, i ∈ Mt → i ∈ St ∨ cur = some i ∨ ClsTo x Mt St g pre i (x.c i).prs.length
theorem Pend.grow {Q : Nat → Prop} {Mt Mt' St St' : List Nat} {pre : Option Nat} {k : Nat} (h : Pend Mt St pre k) (G : Grow Q Mt Mt' St St') : Pend Mt' St' pre k := by
  rcases h with q | q | q
  · by_cases e : k ∈ Mt'
    · rcases G.n k e with r | ⟨_, r⟩
      · exact (q r).elim
      · exact .inr (.inl r)
    · exact .inl e
  · exact .inr (.inl (G.s k q))
  · exact .inr (.inr q)
theorem ClsTo.grow {Q : Nat → Prop} {x : Hp} {Mt Mt' St St' : List Nat} {g : Nat → List (Option Nat)} {pre : Option Nat} {i l : Nat} (h : ClsTo x Mt St g pre i l) (G : Grow Q Mt Mt' St St') : ClsTo x Mt' St' g pre i l := fun p h1 h2 =>
  ⟨fun a b => G.m _ ((h p h1 h2).1 a b), fun a b => ⟨fun c => G.m _ (((h p h1 h2).2 a b).1 c), fun c => by
    rcases ((h p h1 h2).2 a b).2 c with q | ⟨q, r⟩
    · exact .inl (G.m _ q)
    · exact .inr ⟨q, r.grow G⟩⟩⟩
theorem ClsTo.more {x : Hp} {Mt St : List Nat} {g g' : Nat → List (Option Nat)} {pre : Option Nat} {i l : Nat} (h : ClsTo x Mt St g pre i l) (hg : ∀ k o, o ∈ g k → o ∈ g' k) : ClsTo x Mt St g' pre i l := fun p h1 h2 =>
  ⟨(h p h1 h2).1, fun a b => ⟨((h p h1 h2).2 a b).1, fun c => by
    rcases ((h p h1 h2).2 a b).2 c with q | ⟨q, r⟩
    · exact .inl q
    · exact .inr ⟨hg _ _ q, r⟩⟩⟩
theorem InvH.grow {Q : Nat → Prop} {x : Hp} {Mt Mt' St St' : List Nat} {g : Nat → List (Option Nat)} {pre cur : Option Nat} (h : InvH x Mt St g pre cur) (G : Grow Q Mt Mt' St St') (hq : ∀ i, Q i → Held x i) : InvH x Mt' St' g pre cur :=
  ⟨fun i hi => by
    rcases G.n i hi with q | ⟨q, _⟩
    · exact h.only i q
    · exact hq i q, fun j hj hjk e => G.m _ (h.regs j hj hjk e), fun i hi e => G.m _ (h.due i hi e), h.wh, h.wl, fun i hi => by
    rcases G.n i hi with q | ⟨_, q⟩
    · rcases h.part i q with r | r | r
      · exact .inl (G.s i r)
      · exact .inr (.inl r)
      · exact .inr (.inr (r.grow G))
    · exact .inl q⟩
theorem add_mem {g : Nat → List (Option Nat)} {k : Nat} {o : Option Nat} {q : Nat} {z : Option Nat} (h : z ∈ (fun q => if q = k then g k ++ [o] else g q) q) : z ∈ g q ∨ (q = k ∧ z = o) := by
  by_cases e : q = k
  · subst e
    simp only [if_true, List.mem_append, List.mem_singleton] at h
    rcases h with r | r
    · exact .inl r
    · exact .inr ⟨rfl, r⟩
  · simp only [e, if_false] at h; exact .inl h
theorem add_more {g : Nat → List (Option Nat)} {k : Nat} {o : Option Nat} (q : Nat) (z : Option Nat) (h : z ∈ g q) : z ∈ (fun q => if q = k then g k ++ [o] else g q) q := by
  by_cases e : q = k
  · subst e; simp only [if_true]; exact List.mem_append_left _ h
  · simp only [e, if_false]; exact h
theorem InvH.wait {x : Hp} {Mt St : List Nat} {g : Nat → List (Option Nat)} {pre cur : Option Nat} (h : InvH x Mt St g pre cur) (k : Nat) (o : Option Nat) (h1 : ∀ i, o = some i → Held x k → Held x i) (h2 : ∀ i, o = some i → i < x.cells.length) : InvH x Mt St (fun q => if q = k then g k ++ [o] else g q) pre cur :=
  ⟨h.only, h.regs, h.due, fun q i hi hk => by
    rcases add_mem hi with r | ⟨rfl, r⟩
    · exact h.wh q i r hk
    · exact h1 i r.symm hk, fun q i hi => by
    rcases add_mem hi with r | ⟨rfl, r⟩
    · exact h.wl q i r
    · exact h2 i r.symm, fun i hi => by
    rcases h.part i hi with r | r | r
    · exact .inl r
    · exact .inr (.inl r)
    · exact .inr (.inr (r.more add_more))⟩
theorem InvH.shut {x : Hp} {Mt St : List Nat} {g : Nat → List (Option Nat)} {j : Nat} (h : InvH x Mt St g none (some j)) (c : ClsTo x Mt St g none j (x.c j).prs.length) : InvH x Mt St g none none :=
  ⟨h.only, h.regs, h.due, h.wh, h.wl, fun i hi => by
    rcases h.part i hi with r | r | r
    · exact .inl r
    · cases r; exact .inr (.inr c)
    · exact .inr (.inr r)⟩
theorem InvH.take {x : Hp} {Mt St : List Nat} {g : Nat → List (Option Nat)} {j : Nat} (h : InvH x Mt (St ++ [j]) g none none) : InvH x Mt St g (some j) (some j) :=
  ⟨h.only, h.regs, h.due, h.wh, h.wl, fun i hi => by
    rcases h.part i hi with r | r | r
    · rcases List.mem_append.1 r with q | q
      · exact .inl q
      · simp at q; exact .inr (.inl (by rw [q]))
    · cases r
    · refine .inr (.inr fun p h1 h2 => ⟨(r p h1 h2).1, fun a b => ⟨((r p h1 h2).2 a b).1, fun c => ?_⟩⟩)
      rcases ((r p h1 h2).2 a b).2 c with q | ⟨q, s⟩
      · exact .inl q
      · refine .inr ⟨q, ?_⟩
        rcases s with s | s | s
        · exact .inl s
        · rcases List.mem_append.1 s with t | t
          · exact .inr (.inl t)
          · simp at t; exact .inr (.inr (by rw [t]))
        · cases s⟩
/-- behind release -/
theorem InvH.freed {x : Hp} {Mt St : List Nat} {g : Nat → List (Option Nat)} {j : Nat} (h : InvH x Mt St g (some j) (some j)) (f : ∀ i, some i ∈ g j → i ∈ Mt) : InvH x Mt St g none (some j) :=
  ⟨h.only, h.regs, h.due, h.wh, h.wl, fun i hi => by
    rcases h.part i hi with r | r | r
    · exact .inl r
    · exact .inr (.inl r)
    · refine .inr (.inr fun p h1 h2 => ⟨(r p h1 h2).1, fun a b => ⟨((r p h1 h2).2 a b).1, fun c => ?_⟩⟩)
      rcases ((r p h1 h2).2 a b).2 c with q | ⟨q, s⟩
      · exact .inl q
      · rcases s with s | s | s
        · exact .inr ⟨q, .inl s⟩
        · exact .inr ⟨q, .inr (.inl s)⟩
        · cases s; exact .inl (f _ q)⟩
theorem InvH.done {x : Hp} {Mt : List Nat} {g : Nat → List (Option Nat)} (h : InvH x Mt [] g none none) (i : Nat) : i ∈ Mt ↔ Held x i := by
  constructor
  · exact h.only i
  · intro r
    have cl : ∀ j, j ∈ Mt → ClsTo x Mt [] g none j (x.c j).prs.length := fun j hj => by
      rcases h.part j hj with q | q | q
      · cases q
      · cases q
      · exact q
    refine r (fun i => i ∈ Mt) (fun k hk hk2 => h.regs k hk hk hk2) h.due (fun j p ih hp hs hk => (cl j ih p hp hp).1 hs hk) (fun j p ih hp hs hh hk => ?_)
    have c := (cl j ih p hp hp).2 hs hk
    by_cases e : ((x.c j).p p).key.k = 2
    · rcases c.2 e with q | ⟨_, s⟩
      · exact q
      · rcases s with s | s | s
        · exact (s (hh e)).elim
        · cases s
        · cases s
    · exact c.1 e

theorem pair_done {x : Hp} {j l : Nat} {M S M2 S2 M3 S3 : List Nat} {g g' : Nat → List (Option Nat)} {Q Q2 : Nat → Prop} (C : ClsTo x M S g none j l) (G1 : Grow Q M M2 S S2) (kM : SK (x.c j) → ((x.c j).p l).key.k = 2 → tgt x ((x.c j).p l).key ∈ M2)
    (V : (¬ SV (x.c j) ∧ M3 = M2 ∧ S3 = S2 ∧ g' = g) ∨ Bes (wo x ((x.c j).p l).key) (wo x ((x.c j).p l).val) M2 M3 S2 S3 g g') (G2 : Grow Q2 M2 M3 S2 S3) : ClsTo x M3 S3 g' none j (l + 1) := by
  have hg : ∀ k o, o ∈ g k → o ∈ g' k := by
    rcases V with ⟨_, _, _, e⟩ | ⟨_, _, _, e⟩ | ⟨k, _, _, _, _, e⟩
    · subst e; exact fun _ _ h => h
    · subst e; exact fun _ _ h => h
    · subst e; exact add_more
  intro p h1 h2
  by_cases e : p = l
  · subst e
    refine ⟨fun a b => G2.m _ (kM a b), fun a b => ?_⟩
    have wv : wo x ((x.c j).p p).val = some (tgt x ((x.c j).p p).val) := by unfold wo; rw [if_pos b]
    rcases V with ⟨n, _⟩ | ⟨_, _, m, _⟩ | ⟨k, ek, nk, em, _, eg⟩
    · exact (n a).elim
    · exact ⟨fun _ => m _ wv, fun _ => .inl (m _ wv)⟩
    · unfold wo at ek
      split at ek
      · rename_i k2
        cases ek
        refine ⟨fun n => (n k2).elim, fun _ => .inr ⟨?_, .inl (by rw [em]; exact nk)⟩⟩
        rw [eg, wv]; simp
      · cases ek
  · exact (((C.grow G1).grow G2).more hg) p h1 (by omega)

theorem Bes.grow {o1 o2 : Option Nat} {M M' S S' : List Nat} {g g' : Nat → List (Option Nat)} (h : Bes o1 o2 M M' S S' g g') : Grow (fun i => o2 = some i ∧ (o1 = none ∨ ∃ k, o1 = some k ∧ k ∈ M)) M M' S S' := by
  rcases h with ⟨a, b, _, _⟩ | ⟨k, _, _, rfl, rfl, _⟩
  · exact b.mono (fun i e => ⟨e, a⟩)
  · exact Grow.refl
theorem Bes.len {o1 o2 : Option Nat} {M M' S S' : List Nat} {g g' : Nat → List (Option Nat)} (h : Bes o1 o2 M M' S S' g g') (k : Nat) : (g' k).length ≤ (g k).length + 1 := by
  rcases h with ⟨_, _, _, e⟩ | ⟨q, _, _, _, _, e⟩
  · rw [e]; omega
  · rw [e]
    by_cases z : k = q
    · subst z; simp
    · simp [z]
/-- the walk behind one more pair -/
theorem InvH.beside {x : Hp} {j l : Nat} {M2 S2 M3 S3 : List Nat} {g g' : Nat → List (Option Nat)} (h : InvH x M2 S2 g none (some j)) (hj : Held x j) (hl : l < (x.c j).prs.length) (hs : SV (x.c j)) (my : MayMark x ((x.c j).p l).val)
    (B : Bes (wo x ((x.c j).p l).key) (wo x ((x.c j).p l).val) M2 M3 S2 S3 g g') : InvH x M3 S3 g' none (some j) := by
  have hv : ∀ i, wo x ((x.c j).p l).val = some i → (((x.c j).p l).key.k = 2 → Held x (tgt x ((x.c j).p l).key)) → Held x i := fun i e hh => by
    obtain ⟨_, k, rfl⟩ := wo_lt my i e
    exact Held.val j l hj hl hs hh k
  rcases B with ⟨a, b, _, e⟩ | ⟨k, ek, _, rfl, rfl, e⟩
  · rw [e]
    refine h.grow b (fun i ei => hv i ei (fun k2 => ?_))
    have wk : wo x ((x.c j).p l).key = some (tgt x ((x.c j).p l).key) := by unfold wo; rw [if_pos k2]
    rcases a with a | ⟨k, a, m⟩
    · rw [wk] at a; cases a
    · rw [wk] at a; cases a; exact h.only _ m
  · rw [e]
    refine h.wait k _ (fun i ei hk => hv i ei (fun k2 => ?_)) (fun i ei => (wo_lt my i ei).1)
    unfold wo at ek
    rw [if_pos k2] at ek
    cases ek; exact hk
end Go.Proofs.YtddkhnclmeikfacGreat
