import Derived.Test.YtddkhnclmeikfacGreatWk
import Derived.WalkSmall
import Derived.Test.YtddkhnclmeikfacGreatRes
import Derived.Test.YtddkhnclmeikfacGreatL2d
import Derived.Deep.LoopGhost
import Derived.Test.YtddkhnclmeikfacGreatVd
namespace Go.Proofs.YtddkhnclmeikfacGreat
open Go.RowKit
attribute [local go_sem ↓] Go.wp_at_zero Go.wp_at_succ

theorem meet_nil (bw : Nat) (w : World) :
    Calls Tryz.prog 201 #[.pointer (some ⟨bw, 0, none⟩), .pointer none] w fun e w' => e = .returned (.tuple #[]) ∧ w' = w := by
  go_enter Tryz.func201, Tryz.ntmps201
  go_wp2_with fail
  try simp only [Exit.inBlock, Exit.then]
  refine bodyPost_ret (results_none rfl _ _ _) rfl ?_
  exact ⟨rfl, rfl⟩

set_option maxRecDepth 100000 in
set_option maxHeartbeats 2000000 in
theorem meet_any (base bw bv r1 bn on n i : Nat) (v : Value) (Mt St : List Nat) (w : World) (h : WkAt w base bw bv r1 bn on n v Mt St) (hi : i < n) (hb : base ≤ w.heap.size) (hn8 : n ≤ 8000) :
    Calls Tryz.prog 201 #[.pointer (some ⟨bw, 0, none⟩), ptr bn (on + i * 2)] w fun e w' => e = .returned (.tuple #[]) ∧ ∃ v' Mt' St', WkAt w' base bw bv r1 bn on n v' Mt' St' ∧ Hid ((i ∈ Mt ∧ Mt' = Mt ∧ St' = St) ∨ (¬ i ∈ Mt ∧ Mt' = Mt ++ [i] ∧ St' = St ++ [i])) ∧ KFr bw r1 v v' w w' := by
  obtain ⟨et, hu, hz⟩ := cellSet_und
  obtain ⟨i1, hi1, _, hz1, _⟩ := info_parts infoNodes
  obtain ⟨i0, hi0, hy0, hy1, hy2⟩ := info_parts infoNodeP
  have hlen := h.len.2
  have c1 := h.c1
  have c2 := h.c2
  have HW := hide h
  have HU := hide hu
  have HN := hide hi1
  have HZ := hide hz1
  clear h hu hz hi1 hz1
  go_enter Tryz.func201, Tryz.ntmps201
  go_wp2_with fail
  refine (has_any r1 bn (on + i * 2) _ _ (unhide HW).m).mono ?_
  rintro e w1 ⟨rfl, hq⟩
  have W1 := hide ((unhide HW).ext hq)
  have d1 := hq.keep c1
  have d2 := hq.keep c2
  clear c1 c2
  by_cases hm : i ∈ Mt
  · have E : decide (on + i * 2 ∈ Mt.map (fun i => on + i * 2)) = true := decide_eq_true (mem_off.2 hm)
    rw [E]
    clear E
    have K := hide (KFr.of_ext (bw := bw) (r1 := r1) (v := v) hq)
    clear hq
    go_wp2_with fail
    try simp only [Exit.inBlock, Exit.then]
    refine bodyPost_ret (results_none rfl _ _ _) rfl ?_
    exact ⟨rfl, v, Mt, St, unhide W1, .inl ⟨hm, rfl, rfl⟩, unhide K⟩
  · have E : decide (on + i * 2 ∈ Mt.map (fun i => on + i * 2)) = false := decide_eq_false (fun f => hm (mem_off.1 f))
    rw [E]
    clear E
    obtain ⟨wU, hUp, m1, hos, ht, hou, hsz, hbl⟩ := MapAt.update (unhide W1).m (unhide HU) node_und (unhide HN) (by rw [unhide HZ]; omega) (on + i * 2) (fun f => hm (mem_off.1 f))
    have K := hide (KFr.of_ext (bw := bw) (r1 := r1) (v := v) hq)
    have dU : wU.cell? ⟨bw, 2, none⟩ = some v := (World.cell?_of_block (w := w1) (a := ⟨bw, 2, none⟩) (hbl bw (unhide W1).a3)).trans d2
    have OW := hide (show wU.ownsRow base 95 1 v St.length (St.map (fun i => ptr bn (on + i * 2))) from ownsRow_of_block (unhide W1).s (fun k hk => hbl k (fun e => (unhide W1).a2 (e ▸ hk))))
    have AD := hide (And.intro m1 (And.intro hos (And.intro ht (And.intro hou (And.intro hsz hbl)))))
    have hbU : base ≤ wU.heap.size := by have := hq.size; omega
    clear m1 hos ht hou hsz hbl hq
    go_wp2_with (at_builtin; refine wpList_append_lies _ rfl _ _ 136 rfl base 95 i0 (.pointer none) 1 8 Tryz.underlying136 hi0 hy0 hy1 hy2 rfl (by decide) v St.length (St.map (fun i => ptr bn (on + i * 2))) rfl ((unhide OW).alloc _) _ 1 1 [ptr bn (on + i * 2)] rfl rfl ?c1 ?c2 (by decide) ?c3 ?c4 ?c5 _ rfl ?_)
    case c1 =>
      intro j u hj
      match j, hj with
      | 0, hj => simp at hj; subst hj; simp [Addr.add]
    case c2 => intro u hu; simp at hu; subst hu; rfl
    case c3 => unfold maxLen; omega
    case c4 => omega
    case c5 => simp; omega
    intro g cap w2 hown hgrow hat hglt
    obtain ⟨q1, q2, q3, q4⟩ := WkAt.add (unhide W1) hi hm (unhide AD).1 (unhide AD).2.1 (unhide AD).2.2.1 (unhide AD).2.2.2.1 (unhide AD).2.2.2.2.1 (unhide AD).2.2.2.2.2 hown hgrow (by simpa using hat)
    have FIN := hide (And.intro q1 ((unhide K).trans q2))
    clear q1 q2 hown hgrow hat dU
    go_wp2_with fail
    go_end0
    exact ⟨rfl, _, Mt ++ [i], St ++ [i], (unhide FIN).1, .inr ⟨hm, rfl, rfl⟩, (unhide FIN).2⟩

theorem next_none (base bw bv r1 bn on n : Nat) (v : Value) (Mt : List Nat) (w : World) (h : WkAt w base bw bv r1 bn on n v Mt []) :
    Calls Tryz.prog 202 #[.pointer (some ⟨bw, 0, none⟩)] w fun e w' => e = .returned (.pointer none) ∧ w' = w := by
  obtain ⟨ad, cap, rfl⟩ : ∃ ad cap, v = .slice ad 0 cap := by
    rcases h.s.2 with ⟨h1, _⟩ | ⟨g, cap, cur, h1, _⟩
    · exact ⟨none, 0, h1⟩
    · exact ⟨_, _, h1⟩
  have c2 := h.c2
  clear h
  go_enter Tryz.func202, Tryz.ntmps202
  go_wp2_with fail
  go_ret
  exact ⟨rfl, rfl⟩

theorem WkAt.pop {w : World} {base bw bv r1 bn on n g m cap : Nat} {Mt St : List Nat} {j : Nat} (h : WkAt w base bw bv r1 bn on n (.slice (some ⟨g, 0, none⟩) (m + 1) cap) Mt (St ++ [j])) (hm : St.length = m) :
    WkAt (w.setCell ⟨bw, 2, none⟩ (.slice (some ⟨g, 0, none⟩) m cap)) base bw bv r1 bn on n (.slice (some ⟨g, 0, none⟩) m cap) Mt St ∧ KFr bw r1 (.slice (some ⟨g, 0, none⟩) (m + 1) cap) (.slice (some ⟨g, 0, none⟩) m cap) w (w.setCell ⟨bw, 2, none⟩ (.slice (some ⟨g, 0, none⟩) m cap)) := by
  have hgb : g ≠ bw := fun e => h.a1 (by rw [e]; rfl)
  have hs := h.s
  simp only [List.length_append, List.length_singleton, List.map_append, List.map_cons, List.map_nil, hm] at hs
  have how := ownsRow_pop (by simp [hm]) hs
  refine ⟨⟨?_, ?_, World.cell?_setCell_same _ _ _ h.c2, by rw [World.frozen?_setCell]; exact h.f2, ?_, ?_, h.a1, h.a2, h.a3, h.b1, h.b2, fun i hi => h.sub i (List.mem_append_left _ hi), h.nd, ?_, h.rg⟩, ⟨rfl, rfl, rfl, by simp [World.setCell], fun k _ h1 _ _ => Below.heap_setCell _ _ _ _ (show k ≠ bw from h1), .inl rfl, fun o u ho hc => (cell_other _ (.inr (fun e => ho e.symm))).trans hc⟩⟩
  · rw [cell_other _ (.inr (by omega))]; exact h.c0
  · rw [cell_other _ (.inr (by omega))]; exact h.c1
  · exact h.m.block (Below.heap_setCell _ _ _ _ (show r1 ≠ bw from fun e => h.a3 e.symm))
  · rw [hm]
    refine ownsRow_of_block how (fun k hk => Below.heap_setCell _ _ _ _ ?_)
    simp [Value.ownBlock] at hk
    show k ≠ bw
    omega
  · have := h.nds
    rw [List.nodup_append] at this
    exact this.1

set_option maxRecDepth 100000 in
set_option maxHeartbeats 2000000 in
theorem next_some (base bw bv r1 bn on n j : Nat) (v : Value) (Mt St : List Nat) (w : World) (h : WkAt w base bw bv r1 bn on n v Mt (St ++ [j])) (hn8 : n ≤ 8000) :
    Calls Tryz.prog 202 #[.pointer (some ⟨bw, 0, none⟩)] w fun e w' => e = .returned (ptr bn (on + j * 2)) ∧ ∃ v', WkAt w' base bw bv r1 bn on n v' Mt St ∧ KFr bw r1 v v' w w' := by
  have hl := h.len.2
  obtain ⟨m, hm⟩ : ∃ m, St.length = m := ⟨_, rfl⟩
  obtain ⟨g, cap, hv, hc⟩ : ∃ g cap, v = .slice (some ⟨g, 0, none⟩) (m + 1) cap ∧ m + 1 ≤ cap := by
    rcases h.s.2 with ⟨_, h1⟩ | ⟨g, cap, cur, h1, _, _, hcap, _⟩
    · simp at h1
    · simp only [List.length_append, List.length_singleton, hm] at h1 hcap; exact ⟨g, cap, h1, hcap⟩
  subst hv
  have hs := h.s
  simp only [List.length_append, List.length_singleton, List.map_append, List.map_cons, List.map_nil, hm] at hs hl
  have cj : w.cell? ⟨g, m, none⟩ = some (ptr bn (on + j * 2)) := by
    have := World.ownsRow.cellAt hs m (by omega)
    rw [this, List.getElem?_append_right (by simp [hm])]
    simp [hm]
  have c2 := h.c2
  have f2 := h.f2
  have FIN := hide (h.pop hm)
  have i0 : (0 : Int) ≤ (m : Int) := by omega
  have i1 : (m : Int) < (m : Int) + 1 := by omega
  have i2 : (m : Int) ≤ (cap : Int) := by omega
  clear h hs hm
  go_enter Tryz.func202, Tryz.ntmps202
  go_wp2_with fail
  go_ret
  exact ⟨rfl, _, (unhide FIN).1, (unhide FIN).2⟩
end Go.Proofs.YtddkhnclmeikfacGreat

namespace Go.Proofs.YtddkhnclmeikfacGreat
open Go.RowKit
attribute [local go_sem ↓] Go.wp_at_zero Go.wp_at_succ

/-- Mt', St' are Mt, St with what y leads to -/
def AddN (x : Hp) (y : Wd) (Mt Mt' St St' : List Nat) : Prop := (y.k ≠ 2 ∧ Mt' = Mt ∧ St' = St) ∨ (y.k = 2 ∧ ((tgt x y ∈ Mt ∧ Mt' = Mt ∧ St' = St) ∨ (¬ tgt x y ∈ Mt ∧ Mt' = Mt ++ [tgt x y] ∧ St' = St ++ [tgt x y])))
theorem AddN.sub {x : Hp} {y : Wd} {Mt Mt' St St' : List Nat} (h : AddN x y Mt Mt' St St') : (∀ i, i ∈ Mt → i ∈ Mt') ∧ (∀ i, i ∈ St → i ∈ St') := by
  rcases h with ⟨_, e, f⟩ | ⟨_, ⟨_, e, f⟩ | ⟨_, e, f⟩⟩
  · exact ⟨fun i hi => by rw [e]; exact hi, fun i hi => by rw [f]; exact hi⟩
  · exact ⟨fun i hi => by rw [e]; exact hi, fun i hi => by rw [f]; exact hi⟩
  · exact ⟨fun i hi => by rw [e]; exact List.mem_append_left _ hi, fun i hi => by rw [f]; exact List.mem_append_left _ hi⟩
theorem AddN.has {x : Hp} {y : Wd} {Mt Mt' St St' : List Nat} (h : AddN x y Mt Mt' St St') (hk : y.k = 2) : tgt x y ∈ Mt' := by
  rcases h with ⟨n, _⟩ | ⟨_, ⟨m, e, _⟩ | ⟨_, e, _⟩⟩
  · exact (n hk).elim
  · rw [e]; exact m
  · rw [e]; simp
theorem AddN.new {x : Hp} {y : Wd} {Mt Mt' St St' : List Nat} (h : AddN x y Mt Mt' St St') {i : Nat} (hi : i ∈ Mt') : i ∈ Mt ∨ (y.k = 2 ∧ i = tgt x y ∧ i ∈ St') := by
  rcases h with ⟨_, e, _⟩ | ⟨k, ⟨_, e, _⟩ | ⟨_, e, f⟩⟩
  · rw [e] at hi; exact .inl hi
  · rw [e] at hi; exact .inl hi
  · rw [e] at hi
    rcases List.mem_append.1 hi with q | q
    · exact .inl q
    · have : i = tgt x y := by simpa using q
      exact .inr ⟨k, this, by rw [f, this]; simp⟩
theorem AddN.weigh {x : Hp} {y : Wd} {Mt Mt' St St' : List Nat} (h : AddN x y Mt Mt' St St') : 2 * Mt.length + St'.length ≤ 2 * Mt'.length + St.length ∧ Mt.length ≤ Mt'.length := by
  rcases h with ⟨_, e, f⟩ | ⟨_, ⟨_, e, f⟩ | ⟨_, e, f⟩⟩
  · rw [e, f]; omega
  · rw [e, f]; omega
  · rw [e, f]; simp; omega

theorem lead_eq (x : Hp) (i : Nat) : lead x i = lead2 x i := rfl

/-- follow, of a word that may be marked: where it leads -/
theorem follow_any (x : Hp) (y : Wd) (b : Nat) (w : World) {ac : Nat → Option Addr} {kn : Nat} (bn on : Nat) (h : FwAt w b x ac (some ⟨bn, on, none⟩) kn) (r2 : R2 x) (hy : MayMark x y) :
    Calls Tryz.prog 206 #[.pointer (some ⟨b, 0, none⟩), y.v] w fun e w' => ∃ t, Hid (e = .returned t) ∧ ((y.k ≠ 2 ∧ t = .pointer none) ∨ (y.k = 2 ∧ t = ptr bn (on + tgt x y * 2))) ∧ Ext w w' := by
  cases k2 : (y.k == 2)
  · exact (follow_none y b w k2).mono fun _ _ ⟨he, hx⟩ => ⟨_, he, .inl ⟨by simpa using k2, rfl⟩, hx⟩
  · have hk : y.k = 2 := by simpa using k2
    obtain ⟨_, a0, a1, _, _⟩ := hy hk
    obtain ⟨i, hi⟩ : ∃ i : Nat, y.a = (i : Int) := ⟨y.a.toNat, by omega⟩
    have := follow_some x y b i w h r2 k2 (by omega) bn on rfl
    rw [← hi] at this
    exact this.mono fun _ _ ⟨he, hx⟩ => ⟨_, he, .inr ⟨hk, by unfold tgt; rw [hi, lead_eq]; simp⟩, hx⟩

/-- meet, of what follow answers -/
theorem meet_word (x : Hp) (y : Wd) (base bw bv r1 bn on : Nat) (t v : Value) (Mt St : List Nat) (w : World) (h : WkAt w base bw bv r1 bn on x.cells.length v Mt St) (hy : MayMark x y) (ht : (y.k ≠ 2 ∧ t = .pointer none) ∨ (y.k = 2 ∧ t = ptr bn (on + tgt x y * 2))) (hb : base ≤ w.heap.size) (hn8 : x.cells.length ≤ 8000) :
    Calls Tryz.prog 201 #[.pointer (some ⟨bw, 0, none⟩), t] w fun e w' => e = .returned (.tuple #[]) ∧ ∃ v' Mt' St', WkAt w' base bw bv r1 bn on x.cells.length v' Mt' St' ∧ Hid (AddN x y Mt Mt' St St') ∧ KFr bw r1 v v' w w' := by
  rcases ht with ⟨k, rfl⟩ | ⟨k, rfl⟩
  · exact (meet_nil bw w).mono fun _ _ ⟨he, hw⟩ => by subst hw; exact ⟨he, v, Mt, St, h, .inl ⟨k, rfl, rfl⟩, KFr.of_ext (Ext.refl _)⟩
  · exact (meet_any base bw bv r1 bn on x.cells.length (tgt x y) v Mt St w h (hy k).2.2.2.2.1 hb hn8).mono fun _ _ ⟨he, v', M', S', hw, ha, hk⟩ => ⟨he, v', M', S', hw, .inr ⟨k, unhide ha⟩, hk⟩

def OnlyN (x : Hp) (Mt : List Nat) : Prop := ∀ i, i ∈ Mt → Reached x i
def RegsN (x : Hp) (k : Nat) (Mt : List Nat) : Prop := ∀ j (h : j < x.regs.length), j < k → x.regs[j].k = 2 → tgt x x.regs[j] ∈ Mt
theorem OnlyN.add {x : Hp} {y : Wd} {Mt Mt' St St' : List Nat} (h : OnlyN x Mt) (a : AddN x y Mt Mt' St St') (hy : y.k = 2 → Reached x (tgt x y)) : OnlyN x Mt' := fun i hi => by
  rcases a.new hi with q | ⟨k, e, _⟩
  · exact h i q
  · rw [e]; exact hy k
theorem WkAt.start (w : World) (bv bn on n : Nat) (t : TypeId) : WkAt (((w.alloc (.map #[] 0)).alloc (.map #[] 0)).alloc (.cells #[.pointer (some ⟨bv, 0, none⟩), .map (some w.heap.size), .slice none 0 0, .map (some (w.heap.size + 1))] t)) w.heap.size (w.heap.size + 2) bv w.heap.size bn on n (.slice none 0 0) [] [] := by
  have hm : (((w.alloc (.map #[] 0)).alloc (.map #[] 0)).alloc (.cells #[.pointer (some ⟨bv, 0, none⟩), .map (some w.heap.size), .slice none 0 0, .map (some (w.heap.size + 1))] t)).heap[w.heap.size]? = some (.map #[] 0) := by
    rw [Below.heap_alloc _ _ _ (by simp; omega), Below.heap_alloc _ _ _ (by simp)]
    exact heap_alloc_new w _
  refine ⟨by simp [go_sem], by simp [go_sem], by simp [go_sem], by simp [go_sem], ⟨#[], 0, hm, by simp [KeysAre]⟩, World.ownsRow_nil _ _ _ _, by simp [Value.ownBlock], by simp [Value.ownBlock], by omega, by omega, Nat.le_refl _, fun i hi => hi, List.nodup_nil, List.nodup_nil, fun i hi => by cases hi⟩

set_option maxRecDepth 100000 in
set_option maxHeartbeats 2000000 in
theorem walk_any (x : Hp) (b : Nat) (w : World) {ar : Option Addr} {kr : Nat} {ac : Nat → Option Addr} {kn : Nat} (bn on : Nat) (h : VNt w b x ar kr ac (some ⟨bn, on, none⟩) kn) (r2 : R2 x) (r4 : R4 x) (hn8 : x.cells.length ≤ 8000) :
    Calls Tryz.prog 200 #[.pointer (some ⟨b, 0, none⟩)] w fun e w' => e = .returned (.pointer (some ⟨w.heap.size + 2, 0, none⟩)) ∧ ∃ v Mt St, WkAt w' w.heap.size (w.heap.size + 2) b w.heap.size bn on x.cells.length v Mt St ∧ Hid (OnlyN x Mt ∧ RegsN x x.regs.length Mt ∧ ∀ i, i ∈ Mt → i ∈ St) ∧ Ext w w' := by
  have c3 := h.H.c3
  have lr := h.H.lr
  have hb : b < w.heap.size := cell_lt c3
  have HV := hide h
  have Q2 := hide r2
  have Q4 := hide r4
  have hmm : ∀ (t : TypeId) (w : World), (Instr.makeMap t none).run Tryz.prog w = .ok (.map (some w.heap.size)) (w.alloc (.map #[] 0)) := fun _ _ => rfl
  clear h r2 r4
  have c4 := ((((Ext.refl w).alloc (.map #[] 0)).alloc (.map #[] 0)).alloc (.cells #[.pointer (some ⟨b, 0, none⟩), .map (some w.heap.size), .slice none 0 0, .map (some (w.heap.size + 1))] 221)).keep c3
  have S0 := hide (WkAt.start w b bn on x.cells.length 221)
  go_enter Tryz.func200, Tryz.ntmps200
  go_wp2_with fail
  go_loopw [17] (fun i wr => ∃ (k : Nat) (v : Value) (Mt St : List Nat), k ≤ x.regs.length ∧ i = .int .i64 k ∧ WkAt wr w.heap.size (w.heap.size + 2) b w.heap.size bn on x.cells.length v Mt St ∧ Hid (OnlyN x Mt ∧ RegsN x k Mt ∧ ∀ i, i ∈ Mt → i ∈ St) ∧ Ext w wr) (fun i _ => x.regs.length - (intOf i).toNat)
  case atStart => exact ⟨0, _, [], [], Nat.zero_le _, rfl, unhide S0, ⟨(fun i hi => by cases hi), (fun j _ hj => by omega), fun i hi => hi⟩, (((Ext.refl w).alloc _).alloc _).alloc _⟩
  case round =>
    clear S0 c3 c4 hmm
    obtain ⟨k, v, Mt, St, hk, rfl, hw, hinv, hbl⟩ := hrel
    have HW := hide hw
    clear hw
    by_cases hlt : k < x.regs.length
    · have hh := (unhide HV).ext hbl
      obtain ⟨b', o, rfl, p0, p1, p2⟩ := hh.H.R k hlt
      have hb' : b' < wr.heap.size := cell_lt p0
      have hk0 : (0:Int) ≤ (k:Int) := by omega
      have hk1 : (k:Int) < (x.regs.length:Int) := by omega
      have xa := (Ext.refl wr).alloc (.cells #[iv x.regs[k].k, iv x.regs[k].n, iv x.regs[k].a] 147)
      have MY := hide (may_reg (unhide Q2) (unhide Q4) k hlt)
      clear hh
      go_wp2_with fail
      refine (follow_any x x.regs[k] b _ bn on ((unhide HV).ext (hbl.trans xa)).f (unhide Q2) (unhide MY)).mono ?_
      rintro e w2 ⟨t, rfl, ht, hq⟩
      have x2 := xa.trans hq
      have HT := hide ht
      clear ht
      go_wp2_with fail
      refine (meet_word x x.regs[k] w.heap.size (w.heap.size + 2) b w.heap.size bn on t v Mt St _ ((unhide HW).ext x2) (unhide MY) (unhide HT) (hbl.trans x2).size hn8).mono ?_
      rintro e w3 ⟨rfl, v', M', S', hw3, ha, hkf⟩
      have R := hide (show WkAt w3 w.heap.size (w.heap.size + 2) b w.heap.size bn on x.cells.length v' M' S' ∧ (OnlyN x M' ∧ RegsN x (k + 1) M' ∧ ∀ i, i ∈ M' → i ∈ S') ∧ Ext w w3 from
        ⟨hw3, ⟨(unhide hinv).1.add (unhide ha) (fun e => Reached.reg k hlt e), fun j hj hjk e => by
          by_cases q : j = k
          · subst q; exact (unhide ha).has e
          · exact (unhide ha).sub.1 _ ((unhide hinv).2.1 j hj (by omega) e), fun i hi => by
          rcases (unhide ha).new hi with q | ⟨_, _, q⟩
          · exact (unhide ha).sub.2 i ((unhide hinv).2.2 i q)
          · exact q⟩, ((unhide HW).ext x2).kext hkf (hbl.trans x2)⟩)
      clear hw3 ha hkf
      go_wp2_with fail
      go_roundw
      case rel => exact ⟨k + 1, v', M', S', by omega, by go_num, (unhide R).1, (unhide R).2.1, (unhide R).2.2⟩
      case measure => simp [intOf]; omega
    · have hk2 : k = x.regs.length := by omega
      subst hk2
      go_wp2_with fail
      go_ret
      exact ⟨rfl, v, Mt, St, unhide HW, unhide hinv, hbl⟩
end Go.Proofs.YtddkhnclmeikfacGreat

namespace Go.Proofs.YtddkhnclmeikfacGreat
open Go.RowKit
attribute [local go_sem ↓] Go.wp_at_zero Go.wp_at_succ

/-- the row of those that speak, apart from what the walk turns -/
def SpAt (w : World) (g : Option Addr) (bw r1 : Nat) (v : Value) (bn on : Nat) (Ls : List Nat) : Prop := ∀ k (h : k < Ls.length), ∃ gb go, g = some ⟨gb, go, none⟩ ∧ w.cell? ⟨gb, go + k, none⟩ = some (ptr bn (on + Ls[k] * 2)) ∧ gb ≠ bw ∧ gb ≠ r1 ∧ v.ownBlock ≠ some gb
theorem SpAt.ext {w w' : World} {g : Option Addr} {bw r1 : Nat} {v : Value} {bn on : Nat} {Ls : List Nat} (h : SpAt w g bw r1 v bn on Ls) (e : Ext w w') : SpAt w' g bw r1 v bn on Ls := fun k hk => by
  obtain ⟨gb, go, a, c, d⟩ := h k hk
  exact ⟨gb, go, a, e.keep c, d⟩
theorem SpAt.step {w w' : World} {g : Option Addr} {bw r1 : Nat} {v v' : Value} {bn on : Nat} {Ls : List Nat} (h : SpAt w g bw r1 v bn on Ls) (f : KFr bw r1 v v' w w') : SpAt w' g bw r1 v' bn on Ls := fun k hk => by
  obtain ⟨gb, go, a, c, d1, d2, d3⟩ := h k hk
  have hl : gb < w.heap.size := cell_lt c
  refine ⟨gb, go, a, (World.cell?_of_block (a := ⟨gb, go + k, none⟩) (f.block gb hl d1 d2 d3)).trans c, d1, d2, fun e => ?_⟩
  rcases f.own with q | ⟨y, q, hy⟩
  · rw [q] at e; exact d3 e
  · rw [q] at e; cases e; omega

/-- what speakers answers -/
def SpAns (x : Hp) (w w' : World) (g : Option Addr) (bn on : Nat) (Ls : List Nat) : Prop := (∀ k (h : k < Ls.length), ∃ gb go, g = some ⟨gb, go, none⟩ ∧ w'.cell? ⟨gb, go + k, none⟩ = some (ptr bn (on + Ls[k] * 2)) ∧ w.heap.size ≤ gb) ∧ Ls.length ≤ 8000 ∧ (∀ i, i ∈ Ls ↔ i < x.cells.length ∧ Speaks (x.c i))
theorem SpAns.at {x : Hp} {w w' : World} {g : Option Addr} {base bw bv r1 bn on : Nat} {v : Value} {Mt St Ls : List Nat} (h : SpAns x w w' g bn on Ls) (k : WkAt w base bw bv r1 bn on x.cells.length v Mt St) : SpAt w' g bw r1 v bn on Ls := fun i hi => by
  obtain ⟨gb, go, a, c, d⟩ := h.1 i hi
  have := k.rlt
  exact ⟨gb, go, a, c, by omega, by omega, fun e => by have := (k.s.lt gb e).2; omega⟩

theorem next_any (base bw bv r1 bn on n : Nat) (v : Value) (Mt St : List Nat) (w : World) (h : WkAt w base bw bv r1 bn on n v Mt St) (hn8 : n ≤ 8000) :
    Calls Tryz.prog 202 #[.pointer (some ⟨bw, 0, none⟩)] w fun e w' => ∃ t v' St', Hid (e = .returned t) ∧ WkAt w' base bw bv r1 bn on n v' Mt St' ∧ Hid ((t = .pointer none ∧ St = [] ∧ St' = []) ∨ ∃ j, t = ptr bn (on + j * 2) ∧ St = St' ++ [j]) ∧ KFr bw r1 v v' w w' := by
  rcases St.eq_nil_or_concat with q | ⟨S, j, q⟩
  · subst q
    exact (next_none base bw bv r1 bn on n v Mt w h).mono fun _ _ ⟨he, hw⟩ => by subst hw; exact ⟨_, v, [], he, h, .inl ⟨rfl, rfl, rfl⟩, KFr.of_ext (Ext.refl _)⟩
  · rw [List.concat_eq_append] at q
    subst q
    exact (next_some base bw bv r1 bn on n j v Mt S w h hn8).mono fun _ _ ⟨he, v', hw, hk⟩ => ⟨_, v', S, he, hw, .inr ⟨j, rfl, rfl⟩, hk⟩

def LastN (x : Hp) (Mt : List Nat) : Prop := ∀ i, i < x.cells.length → Speaks (x.c i) → i ∈ Mt
/-- the pairs of i below l are gone through -/
def ClosedToN (x : Hp) (Mt : List Nat) (i l : Nat) : Prop := ∀ p, p < (x.c i).prs.length → p < l → (((x.c i).p p).key.k = 2 → tgt x ((x.c i).p p).key ∈ Mt) ∧ (((x.c i).p p).val.k = 2 → tgt x ((x.c i).p p).val ∈ Mt)
def ClosedN (x : Hp) (Mt : List Nat) (i : Nat) : Prop := ClosedToN x Mt i (x.c i).prs.length
theorem ClosedToN.sub {x : Hp} {Mt Mt' : List Nat} {i l : Nat} (h : ClosedToN x Mt i l) (s : ∀ i, i ∈ Mt → i ∈ Mt') : ClosedToN x Mt' i l := fun p h1 h2 => ⟨fun e => s _ ((h p h1 h2).1 e), fun e => s _ ((h p h1 h2).2 e)⟩
/-- the walk between two cells: cur is the one at hand -/
structure InvR (x : Hp) (Mt St : List Nat) (cur : Option Nat) : Prop where
  only : OnlyN x Mt
  regs : RegsN x x.regs.length Mt
  last : LastN x Mt
  part : ∀ i, i ∈ Mt → i ∈ St ∨ cur = some i ∨ ClosedN x Mt i
theorem InvR.done {x : Hp} {Mt : List Nat} (h : InvR x Mt [] none) (i : Nat) : i ∈ Mt ↔ Reached x i := by
  constructor
  · exact h.only i
  · intro r
    have cl : ∀ j, j ∈ Mt → ClosedN x Mt j := fun j hj => by
      rcases h.part j hj with q | q | q
      · cases q
      · cases q
      · exact q
    exact r (fun i => i ∈ Mt) (fun k hk hk2 => h.regs k hk hk hk2) (fun i hi _ hsp => h.last i hi hsp) (fun j p ih hp hk => (cl j ih p hp hp).1 hk) (fun j p ih hp hk => (cl j ih p hp hp).2 hk)
theorem InvR.add {x : Hp} {y : Wd} {Mt Mt' St St' : List Nat} {cur : Option Nat} (h : InvR x Mt St cur) (a : AddN x y Mt Mt' St St') (hy : y.k = 2 → Reached x (tgt x y)) : InvR x Mt' St' cur :=
  ⟨h.only.add a hy, fun j hj hjk e => a.sub.1 _ (h.regs j hj hjk e), fun i hi hs => a.sub.1 _ (h.last i hi hs), fun i hi => by
    rcases a.new hi with q | ⟨_, _, q⟩
    · rcases h.part i q with r | r | r
      · exact .inl (a.sub.2 i r)
      · exact .inr (.inl r)
      · exact .inr (.inr (r.sub a.sub.1))
    · exact .inl q⟩
theorem InvR.shut {x : Hp} {Mt St : List Nat} {j : Nat} (h : InvR x Mt St (some j)) (c : ClosedN x Mt j) : InvR x Mt St none :=
  ⟨h.only, h.regs, h.last, fun i hi => by
    rcases h.part i hi with r | r | r
    · exact .inl r
    · cases r; exact .inr (.inr c)
    · exact .inr (.inr r)⟩
theorem InvR.take {x : Hp} {Mt St : List Nat} {j : Nat} (h : InvR x Mt (St ++ [j]) none) : InvR x Mt St (some j) :=
  ⟨h.only, h.regs, h.last, fun i hi => by
    rcases h.part i hi with r | r | r
    · rcases List.mem_append.1 r with q | q
      · exact .inl q
      · simp at q; exact .inr (.inl (by rw [q]))
    · cases r
    · exact .inr (.inr r)⟩
end Go.Proofs.YtddkhnclmeikfacGreat

namespace Go.Proofs.YtddkhnclmeikfacGreat
open Go.RowKit

/-! A map from pointers into one block to slices. -/
/-- the entries are those of Q, each with the value that f gives it -/
def EntAre (bn on : Nat) (f : Nat → Value) (Q : List Nat) (l : List MapEntry) : Prop := l.map (fun e => (e.key, e.val)) = Q.map (fun k => (ptr bn (on + k * 2), f k))
theorem findF {P : Program} (w : World) (t e : TypeId) (i : TypeInfo) (ht : P.underlying t = some (.pointer e)) (hi : P.info? e = some i) (hs : i.size ≠ 0) (bn on : Nat) (f : Nat → Value) (k : Nat) :
    ∀ (l : List MapEntry) (Q : List Nat) (m : Nat), EntAre bn on f Q l → ∃ r, (Instr.findAsking t (ptr bn (on + k * 2)) l m).run P w = .ok r w ∧ ((∃ j, r = some (m + j, f k) ∧ Q[j]? = some k) ∨ (¬ k ∈ Q ∧ r = none))
  | [], Q, m, h => by
    have : Q = [] := by simpa [EntAre] using h.symm
    subst this
    exact ⟨none, by simp [Instr.findAsking], .inr ⟨by simp, rfl⟩⟩
  | x :: l, Q, m, h => by
    cases Q with
    | nil => simp [EntAre] at h
    | cons q Q =>
      simp only [EntAre, List.map_cons, List.cons.injEq, Prod.mk.injEq] at h
      obtain ⟨⟨h1, h2⟩, h3⟩ := h
      by_cases e : k = q
      · subst e
        refine ⟨some (m, f k), ?_, .inl ⟨0, rfl, rfl⟩⟩
        simp [Instr.findAsking, h1, run_equal_ptr w t _ i ht hi hs, h2]
      · obtain ⟨r, hr, ho⟩ := findF w t _ i ht hi hs bn on f k l Q (m + 1) h3
        have ne : ¬ (k * 2 = q * 2) := by omega
        refine ⟨r, ?_, ?_⟩
        · simp [Instr.findAsking, h1, run_equal_ptr w t _ i ht hi hs, ne, hr]
        · rcases ho with ⟨j, hj, hq⟩ | ⟨n, hj⟩
          · exact .inl ⟨j + 1, by rw [hj]; congr 2; omega, by simpa using hq⟩
          · exact .inr ⟨by simp [e, n], hj⟩
theorem findKeyF {P : Program} (w : World) (t e : TypeId) (i : TypeInfo) (ht : P.underlying t = some (.pointer e)) (hi : P.info? e = some i) (hs : i.size ≠ 0) (bn on : Nat) (f : Nat → Value) (k : Nat) (l : List MapEntry) (Q : List Nat) (h : EntAre bn on f Q l) :
    ∃ r, (Instr.findKey t (ptr bn (on + k * 2)) l).run P w = .ok r w ∧ ((∃ j, r = some (j, f k) ∧ Q[j]? = some k) ∨ (¬ k ∈ Q ∧ r = none)) := by
  obtain ⟨r, hr, ho⟩ := findF w t e i ht hi hs bn on f k l Q 0 h
  by_cases hl : l = []
  · subst hl
    have : Q = [] := by simpa [EntAre] using h.symm
    subst this
    exact ⟨none, by simp [Instr.findKey, run_underlying ht, findNow_ptr], .inr ⟨by simp, rfl⟩⟩
  · refine ⟨r, ?_, by simpa using ho⟩
    simp [Instr.findKey, run_underlying ht, findNow_ptr, hl, hr]

/-- the map in memory: f says what it holds -/
structure MapF (w : World) (r bn on : Nat) (f : Nat → Value) : Prop where
  mk' ::
  m : ∃ es clock Q, w.heap[r]? = some (.map es clock) ∧ EntAre bn on f Q es.toList ∧ Q.Nodup ∧ ∀ k, ¬ k ∈ Q → f k = .slice none 0 0
theorem MapF.block {w w' : World} {r bn on : Nat} {f : Nat → Value} (h : MapF w r bn on f) (e : w'.heap[r]? = w.heap[r]?) : MapF w' r bn on f := by
  obtain ⟨es, c, Q, h1, h2⟩ := h.m
  exact ⟨es, c, Q, e.trans h1, h2⟩
theorem MapF.lt {w : World} {r bn on : Nat} {f : Nat → Value} (h : MapF w r bn on f) : r < w.heap.size := by
  obtain ⟨es, c, Q, h1, _⟩ := h.m
  rcases Nat.lt_or_ge r w.heap.size with q | q
  · exact q
  · rw [Array.getElem?_eq_none q] at h1; cases h1
theorem MapF.lookup {P : Program} {w : World} {r bn on : Nat} {f : Nat → Value} (h : MapF w r bn on f) {mt t e et : TypeId} {i : TypeInfo} (hm : P.underlying mt = some (.map t et)) (ht : P.underlying t = some (.pointer e)) (hi : P.info? e = some i) (hs : i.size ≠ 0) (hz : ∀ w, (zeroValue et).run P w = .ok (.slice none 0 0) w) (k : Nat) :
    (Instr.lookup mt (.map (some r)) (ptr bn (on + k * 2)) false).run P w = .ok (f k) w := by
  obtain ⟨es, c, Q, h1, h2, h3, h4⟩ := h.m
  obtain ⟨g, hg, ho⟩ := findKeyF w t e i ht hi hs bn on f k es.toList Q h2
  rcases ho with ⟨j, rfl, hj⟩ | ⟨n, rfl⟩
  · simp [Instr.lookup, run_underlying hm, MapKept.run_getObj_map h1, checkKey_ptr w t e ht, hg]
  · simp [Instr.lookup, run_underlying hm, MapKept.run_getObj_map h1, checkKey_ptr w t e ht, hg, hz, h4 k n]

theorem EntAre.at {bn on : Nat} {f : Nat → Value} {Q : List Nat} {l : List MapEntry} (h : EntAre bn on f Q l) (i : Nat) : (l[i]?).map (fun e => (e.key, e.val)) = (Q[i]?).map (fun k => (ptr bn (on + k * 2), f k)) := by
  rw [← List.getElem?_map, ← List.getElem?_map, h]
theorem MapF.update {P : Program} {w : World} {r bn on : Nat} {f : Nat → Value} (h : MapF w r bn on f) {mt t e et : TypeId} {i : TypeInfo} (hm : P.underlying mt = some (.map t et)) (ht : P.underlying t = some (.pointer e)) (hi : P.info? e = some i) (hs : i.size ≠ 0) (k : Nat) (v : Value) :
    ∃ w', (Instr.mapUpdate mt (.map (some r)) (ptr bn (on + k * 2)) v).run P w = .ok () w' ∧ MapF w' r bn on (fun q => if q = k then v else f q) ∧ w'.os = w.os ∧ w'.tape = w.tape ∧ w'.output = w.output ∧ w'.heap.size = w.heap.size ∧ (∀ q : Nat, q ≠ r → w'.heap[q]? = w.heap[q]?) := by
  have hlt := h.lt
  obtain ⟨es, c, Q, h1, h2, h3, h4⟩ := h.m
  obtain ⟨g, hg, ho⟩ := findKeyF w t e i ht hi hs bn on f k es.toList Q h2
  rcases ho with ⟨j, rfl, hj⟩ | ⟨n, rfl⟩
  · have hat := h2.at j
    rw [hj] at hat
    obtain ⟨en, hen⟩ : ∃ en, es.toList[j]? = some en := by
      cases q : es.toList[j]? with
      | none => rw [q] at hat; simp at hat
      | some en => exact ⟨en, rfl⟩
    have hen2 : es[j]? = some en := by simpa using hen
    rw [hen] at hat
    simp only [Option.map_some, Option.some.injEq, Prod.mk.injEq] at hat
    refine ⟨{ w with heap := w.heap.setIfInBounds r (.map (es.modify j fun e => { e with key := ptr bn (on + k * 2), val := v }) c) }, ?_, ⟨es.modify j fun e => { e with key := ptr bn (on + k * 2), val := v }, c, Q, ?_, ?_, h3, fun q hq => ?_⟩, rfl, rfl, rfl, by simp, fun q hq => ?_⟩
    · simp [Instr.mapUpdate, run_underlying hm, MapKept.run_getObj_map h1, checkKey_ptr w t e ht, hg, MapKept.run_setObj_map _ h1, hen2, hat.1, Instr.keyThatStays, Instr.sameBits]
    · show (w.heap.setIfInBounds r _)[r]? = _
      rw [Array.getElem?_setIfInBounds, if_pos rfl, if_pos hlt]
    · unfold EntAre
      apply List.ext_getElem?
      intro m
      rw [List.getElem?_map, List.getElem?_map, Array.toList_modify, List.getElem?_modify]
      have hm2 := h2.at m
      by_cases em : j = m
      · subst em
        rw [hj, hen]
        simp
      · cases qm : Q[m]? with
        | none => rw [qm] at hm2; simp at hm2; simp [em, hm2]
        | some q =>
          rw [qm] at hm2
          have nq : q ≠ k := fun e => by
            subst e
            have := (List.getElem?_inj (i := j) (j := m) (l := Q) (by
              rcases Nat.lt_or_ge j Q.length with z | z
              · exact z
              · rw [List.getElem?_eq_none z] at hj; cases hj) h3).1 (by rw [hj, qm])
            exact em this
          simp only [em, if_false, nq, Option.map_some]
          simpa using hm2
    · rw [if_neg (fun e => by subst e; exact hq (List.mem_of_getElem? hj))]; exact h4 q hq
    · show (w.heap.setIfInBounds r _)[q]? = _
      rw [Array.getElem?_setIfInBounds, if_neg (fun e => hq e.symm)]
  · refine ⟨{ w with heap := w.heap.setIfInBounds r (.map (es.push { key := ptr bn (on + k * 2), val := v, born := c }) (c + 1)) }, ?_, ⟨es.push { key := ptr bn (on + k * 2), val := v, born := c }, c + 1, Q ++ [k], ?_, ?_, ?_, fun q hq => ?_⟩, rfl, rfl, rfl, by simp, fun q hq => ?_⟩
    · simp [Instr.mapUpdate, run_underlying hm, MapKept.run_getObj_map h1, checkKey_ptr w t e ht, hg, MapKept.run_setObj_map _ h1]
    · show (w.heap.setIfInBounds r _)[r]? = _
      rw [Array.getElem?_setIfInBounds, if_pos rfl, if_pos hlt]
    · unfold EntAre
      have e2 : Q.map (fun q => (ptr bn (on + q * 2), if q = k then v else f q)) = Q.map (fun q => (ptr bn (on + q * 2), f q)) := List.map_congr_left (fun q hq => by rw [if_neg (show ¬ q = k from fun z => n (z ▸ hq))])
      have h2' : es.toList.map (fun e => (e.key, e.val)) = Q.map (fun k => (ptr bn (on + k * 2), f k)) := h2
      simp [e2, h2']
    · rw [List.nodup_append]; exact ⟨h3, by simp, fun a ha b hb => by simp at hb; rw [hb]; intro e; exact n (e ▸ ha)⟩
    · simp only [List.mem_append, List.mem_singleton, not_or] at hq
      rw [if_neg hq.2]; exact h4 q hq.1
    · show (w.heap.setIfInBounds r _)[q]? = _
      rw [Array.getElem?_setIfInBounds, if_neg (fun e => hq e.symm)]
end Go.Proofs.YtddkhnclmeikfacGreat

namespace Go.Proofs.YtddkhnclmeikfacGreat
open Go.RowKit
attribute [local go_sem ↓] Go.wp_at_zero Go.wp_at_succ

/-- a pointer to a node, or none -/
def pv (bn on : Nat) (o : Option Nat) : Value := match o with | none => .pointer none | some i => ptr bn (on + i * 2)
theorem pv_none {bn on : Nat} : pv bn on none = .pointer none := rfl
theorem pv_some {bn on i : Nat} : pv bn on (some i) = ptr bn (on + i * 2) := rfl
/-- the node that a word leads to -/
def wo (x : Hp) (y : Wd) : Option Nat := if y.k = 2 then some (tgt x y) else none

/-- a step of the walk: Q says what may come -/
structure Grow (Q : Nat → Prop) (Mt Mt' St St' : List Nat) : Prop where
  m : ∀ i, i ∈ Mt → i ∈ Mt'
  s : ∀ i, i ∈ St → i ∈ St'
  n : ∀ i, i ∈ Mt' → i ∈ Mt ∨ (Q i ∧ i ∈ St')
  w : 2 * Mt.length + St'.length ≤ 2 * Mt'.length + St.length
  l : Mt.length ≤ Mt'.length
theorem Grow.refl {Q : Nat → Prop} {Mt St : List Nat} : Grow Q Mt Mt St St := ⟨fun _ h => h, fun _ h => h, fun _ h => .inl h, Nat.le_refl _, Nat.le_refl _⟩
theorem Grow.trans {Q : Nat → Prop} {M1 M2 M3 S1 S2 S3 : List Nat} (h : Grow Q M1 M2 S1 S2) (k : Grow Q M2 M3 S2 S3) : Grow Q M1 M3 S1 S3 :=
  ⟨fun i hi => k.m i (h.m i hi), fun i hi => k.s i (h.s i hi), fun i hi => by
    rcases k.n i hi with q | q
    · rcases h.n i q with r | ⟨r, s⟩
      · exact .inl r
      · exact .inr ⟨r, k.s i s⟩
    · exact .inr q, by have := h.w; have := k.w; omega, Nat.le_trans h.l k.l⟩
theorem Grow.mono {Q Q' : Nat → Prop} {M1 M2 S1 S2 : List Nat} (h : Grow Q M1 M2 S1 S2) (hq : ∀ i, Q i → Q' i) : Grow Q' M1 M2 S1 S2 :=
  ⟨h.m, h.s, fun i hi => by
    rcases h.n i hi with q | ⟨q, r⟩
    · exact .inl q
    · exact .inr ⟨hq i q, r⟩, h.w, h.l⟩
theorem grow_meet {Mt Mt' St St' : List Nat} {i : Nat} (a : (i ∈ Mt ∧ Mt' = Mt ∧ St' = St) ∨ (¬ i ∈ Mt ∧ Mt' = Mt ++ [i] ∧ St' = St ++ [i])) : Grow (fun q => q = i) Mt Mt' St St' ∧ i ∈ Mt' := by
  rcases a with ⟨m, rfl, rfl⟩ | ⟨m, rfl, rfl⟩
  · exact ⟨Grow.refl, m⟩
  · refine ⟨⟨fun j hj => List.mem_append_left _ hj, fun j hj => List.mem_append_left _ hj, fun j hj => ?_, by simp; omega, by simp⟩, by simp⟩
    rcases List.mem_append.1 hj with q | q
    · exact .inl q
    · simp at q; exact .inr ⟨q, by simp [q]⟩

/-- meet, of a pointer or none -/
theorem meet_opt (base bw bv r1 bn on n : Nat) (o : Option Nat) (v : Value) (Mt St : List Nat) (w : World) (h : WkAt w base bw bv r1 bn on n v Mt St) (ho : ∀ i, o = some i → i < n) (hb : base ≤ w.heap.size) (hn8 : n ≤ 8000) :
    Calls Tryz.prog 201 #[.pointer (some ⟨bw, 0, none⟩), pv bn on o] w fun e w' => e = .returned (.tuple #[]) ∧ ∃ v' Mt' St', WkAt w' base bw bv r1 bn on n v' Mt' St' ∧ Hid (Grow (fun i => o = some i) Mt Mt' St St' ∧ ∀ i, o = some i → i ∈ Mt') ∧ KFr bw r1 v v' w w' := by
  cases o with
  | none => exact (meet_nil bw w).mono fun _ _ ⟨he, hw⟩ => by subst hw; exact ⟨he, v, Mt, St, h, ⟨Grow.refl, fun i e => by cases e⟩, KFr.of_ext (Ext.refl _)⟩
  | some i => exact (meet_any base bw bv r1 bn on n i v Mt St w h (ho i rfl) hb hn8).mono fun _ _ ⟨he, v', M', S', hw, ha, hk⟩ => ⟨he, v', M', S', hw, ⟨(grow_meet (unhide ha)).1.mono (fun q e => by rw [e]), fun j e => by cases e; exact (grow_meet (unhide ha)).2⟩, hk⟩

theorem follow_o (x : Hp) (y : Wd) (b : Nat) (w : World) {ar : Option Addr} {kr : Nat} {ac : Nat → Option Addr} {kn : Nat} (bn on : Nat) (h : VNt w b x ar kr ac (some ⟨bn, on, none⟩) kn) (r2 : R2 x) (hy : MayMark x y) :
    Calls Tryz.prog 206 #[.pointer (some ⟨b, 0, none⟩), y.v] w fun e w' => Hid (e = .returned (pv bn on (wo x y))) ∧ Ext w w' :=
  (follow_any x y b w bn on h.f r2 hy).mono fun _ _ ⟨t, he, ht, hx⟩ => ⟨by
    rcases ht with ⟨k, e⟩ | ⟨k, e⟩
    · rw [unhide he, e, wo, if_neg k]; rfl
    · rw [unhide he, e, wo, if_pos k]; rfl, hx⟩
theorem wo_lt {x : Hp} {y : Wd} (hy : MayMark x y) (i : Nat) (h : wo x y = some i) : i < x.cells.length ∧ y.k = 2 ∧ i = tgt x y := by
  unfold wo at h
  split at h
  · rename_i k
    cases h
    exact ⟨(hy k).2.2.2.2.1, k, rfl⟩
  · cases h

/-- the values that wait for a key: f the slices, g what they hold -/
structure WtAt (w : World) (base bw r1 r2 bn on : Nat) (v : Value) (f : Nat → Value) (g : Nat → List (Option Nat)) : Prop where
  c3 : w.cell? ⟨bw, 3, none⟩ = some (Value.map (some r2))
  m : MapF w r2 bn on f
  row : ∀ k, w.ownsRow base 95 1 (f k) (g k).length ((g k).map (pv bn on))
  dis : ∀ k k' b, k ≠ k' → (f k).ownBlock = some b → (f k').ownBlock ≠ some b
  av : ∀ k b, (f k).ownBlock = some b → v.ownBlock ≠ some b
  a1 : ∀ k, (f k).ownBlock ≠ some bw
  a2 : ∀ k, (f k).ownBlock ≠ some r1
  a3 : ∀ k, (f k).ownBlock ≠ some r2
  n1 : r2 ≠ bw
  n2 : r2 ≠ r1
  n3 : v.ownBlock ≠ some r2
  b2 : base ≤ r2
theorem WtAt.ext {w w' : World} {base bw r1 r2 bn on : Nat} {v : Value} {f : Nat → Value} {g : Nat → List (Option Nat)} (h : WtAt w base bw r1 r2 bn on v f g) (e : Ext w w') : WtAt w' base bw r1 r2 bn on v f g :=
  ⟨e.keep h.c3, h.m.block (e.block r2 h.m.lt), fun k => ownsRow_of_block (h.row k) (fun b hb => e.block b ((h.row k).lt b hb).2), h.dis, h.av, h.a1, h.a2, h.a3, h.n1, h.n2, h.n3, h.b2⟩
theorem WtAt.step {w w' : World} {base bw r1 r2 bn on : Nat} {v v' : Value} {f : Nat → Value} {g : Nat → List (Option Nat)} (h : WtAt w base bw r1 r2 bn on v f g) (k : KFr bw r1 v v' w w') : WtAt w' base bw r1 r2 bn on v' f g := by
  refine ⟨k.keep 3 _ (by omega) h.c3, h.m.block (k.block r2 h.m.lt h.n1 h.n2 h.n3), fun q => ownsRow_of_block (h.row q) (fun b hb => k.block b ((h.row q).lt b hb).2 (fun e => h.a1 q (e ▸ hb)) (fun e => h.a2 q (e ▸ hb)) (h.av q b hb)), h.dis, fun q b hb e => ?_, h.a1, h.a2, h.a3, h.n1, h.n2, fun e => ?_, h.b2⟩
  · rcases k.own with o | ⟨y, o, hy⟩
    · rw [o] at e; exact h.av q b hb e
    · rw [o] at e; cases e; have := ((h.row q).lt b hb).2; omega
  · rcases k.own with o | ⟨y, o, hy⟩
    · rw [o] at e; exact h.n3 e
    · rw [o] at e; cases e; have := h.m.lt; omega
theorem ownsRow_form {w : World} {base n : Nat} {t : TypeId} {v : Value} {xs : List Value} (h : w.ownsRow base t 1 v n xs) : ∃ ad cap, v = .slice ad n cap ∧ (0 < n → ∃ gb, ad = some ⟨gb, 0, none⟩) := by
  rcases h.2 with ⟨h0, h1⟩ | ⟨g, cap, cur, h0, _⟩
  · subst h1; exact ⟨none, 0, h0, fun q => by omega⟩
  · exact ⟨_, cap, h0, fun _ => ⟨g, rfl⟩⟩
/-- one more waits for k -/
theorem WtAt.wait {w W w2 w3 : World} {base bw bv r1 r2 bn on n gb cap k : Nat} {v : Value} {f : Nat → Value} {g : Nat → List (Option Nat)} {Mt St : List Nat} {o : Option Nat} {ob : Obj} (hk : WkAt w base bw bv r1 bn on n v Mt St) (h : WtAt w base bw r1 r2 bn on v f g) (hWh : W.heap = (w.alloc ob).heap) (hWo : W.os = w.os) (hWt : W.tape = w.tape) (hWu : W.output = w.output)
    (hown : w2.ownsRow base 95 1 (.slice (some ⟨gb, 0, none⟩) ((g k).length + 1) cap) ((g k).length + 1) ((g k).map (pv bn on) ++ [pv bn on o])) (hg : W.grownBy w2 (f k).ownBlock) (hat : (f k).ownBlock = some gb ∨ gb = W.heap.size)
    (hm : MapF w3 r2 bn on (fun q => if q = k then .slice (some ⟨gb, 0, none⟩) ((g k).length + 1) cap else f q)) (hos : w3.os = w2.os) (ht : w3.tape = w2.tape) (hou : w3.output = w2.output) (hsz : w3.heap.size = w2.heap.size) (hbl : ∀ q : Nat, q ≠ r2 → w3.heap[q]? = w2.heap[q]?) :
    WkAt w3 base bw bv r1 bn on n v Mt St ∧ WtAt w3 base bw r1 r2 bn on v (fun q => if q = k then .slice (some ⟨gb, 0, none⟩) ((g k).length + 1) cap else f q) (fun q => if q = k then g k ++ [o] else g q) ∧ (∀ a : World, a.heap.size = base → Ext a w → Ext a w3) := by
  have hr := hk.rlt
  have hWs : W.heap.size = w.heap.size + 1 := by rw [hWh]; simp
  have hs1 : w.heap.size + 1 ≤ w2.heap.size := by have := hg.size; omega
  have blk : ∀ b : Nat, b < w.heap.size → (f k).ownBlock ≠ some b → w2.heap[b]? = w.heap[b]? := fun b hb hv => (hg.block b (by omega) (fun e => hv e.symm)).trans (by rw [hWh]; exact Below.heap_alloc w ob b hb)
  have blk3 : ∀ b : Nat, b < w.heap.size → (f k).ownBlock ≠ some b → b ≠ r2 → w3.heap[b]? = w.heap[b]? := fun b hb hv hn => (hbl b hn).trans (blk b hb hv)
  have hgb : gb ≠ bw ∧ gb ≠ r1 ∧ gb ≠ r2 ∧ v.ownBlock ≠ some gb ∧ (∀ q, q ≠ k → (f q).ownBlock ≠ some gb) := by
    rcases hat with e | e
    · exact ⟨fun q => h.a1 k (q ▸ e), fun q => h.a2 k (q ▸ e), fun q => h.a3 k (q ▸ e), h.av k gb e, fun q hq => h.dis k q gb (fun z => hq z.symm) e⟩
    · have := h.m.lt
      exact ⟨by omega, by omega, by omega, fun q => by have := (hk.s.lt _ q).2; omega, fun q _ z => by have := ((h.row q).lt _ z).2; omega⟩
  have fo : ∀ q b, (if q = k then (.slice (some ⟨gb, 0, none⟩) ((g k).length + 1) cap : Value) else f q).ownBlock = some b → (q = k ∧ b = gb) ∨ (q ≠ k ∧ (f q).ownBlock = some b) := fun q b e => by
    by_cases z : q = k
    · rw [if_pos z] at e; simp [Value.ownBlock] at e; exact .inl ⟨z, e.symm⟩
    · rw [if_neg z] at e; exact .inr ⟨z, e⟩
  have bwb : w3.heap[bw]? = w.heap[bw]? := blk3 bw hr.1 (h.a1 k) (fun e => h.n1 e.symm)
  have cc : ∀ o' v', w.cell? ⟨bw, o', none⟩ = some v' → w3.cell? ⟨bw, o', none⟩ = some v' := fun o' v' hc => (World.cell?_of_block (a := ⟨bw, o', none⟩) bwb).trans hc
  refine ⟨⟨cc 0 _ hk.c0, cc 1 _ hk.c1, cc 2 _ hk.c2, (World.frozen?_of_block (a := ⟨bw, 2, none⟩) bwb).trans hk.f2, hk.m.block (blk3 r1 hr.2 (h.a2 k) (fun e => h.n2 e.symm)), ownsRow_of_block hk.s (fun b hb => blk3 b (hk.s.lt b hb).2 (fun e => h.av k b e hb) (fun e => h.n3 (e ▸ hb))), hk.a1, hk.a2, hk.a3, hk.b1, hk.b2, hk.sub, hk.nd, hk.nds, hk.rg⟩, ⟨cc 3 _ h.c3, hm, fun q => ?_, fun q q' b hq e => ?_, fun q b e => ?_, fun q e => ?_, fun q e => ?_, fun q e => ?_, h.n1, h.n2, h.n3, h.b2⟩, fun a ha ea => ?_⟩
  · by_cases z : q = k
    · subst z
      simp only [if_true, List.length_append, List.length_singleton, List.map_append, List.map_cons, List.map_nil]
      exact ownsRow_of_block hown (fun b hb => hbl b (fun e => by simp [Value.ownBlock] at hb; omega))
    · simp only [z, if_false]
      exact ownsRow_of_block (h.row q) (fun b hb => blk3 b ((h.row q).lt b hb).2 (h.dis q k b z hb) (fun e => h.a3 q (e ▸ hb)))
  · intro e'
    rcases fo q b e with ⟨z, y⟩ | ⟨z, y⟩
    · rcases fo q' b e' with ⟨z', y'⟩ | ⟨z', y'⟩
      · exact hq (z.trans z'.symm)
      · rw [y] at y'; exact hgb.2.2.2.2 q' z' y'
    · rcases fo q' b e' with ⟨z', y'⟩ | ⟨z', y'⟩
      · rw [y'] at y; exact hgb.2.2.2.2 q z y
      · exact h.dis q q' b hq y y'
  · rcases fo q b e with ⟨z, y⟩ | ⟨z, y⟩
    · rw [y]; exact hgb.2.2.2.1
    · exact h.av q b y
  · rcases fo q bw e with ⟨z, y⟩ | ⟨z, y⟩
    · exact hgb.1 y.symm
    · exact h.a1 q y
  · rcases fo q r1 e with ⟨z, y⟩ | ⟨z, y⟩
    · exact hgb.2.1 y.symm
    · exact h.a2 q y
  · rcases fo q r2 e with ⟨z, y⟩ | ⟨z, y⟩
    · exact hgb.2.2.1 y.symm
    · exact h.a3 q y
  · refine Below.trans ea ⟨(hos.trans hg.os).trans hWo, (ht.trans hg.tape).trans hWt, (hou.trans hg.output).trans hWu, by omega, fun b hb => ?_⟩
    have hbw : b < w.heap.size := Nat.lt_of_lt_of_le hb ea.size
    exact blk3 b hbw (fun e => by have := ((h.row k).lt b e).1; omega) (fun e => by have := h.b2; omega)
end Go.Proofs.YtddkhnclmeikfacGreat
