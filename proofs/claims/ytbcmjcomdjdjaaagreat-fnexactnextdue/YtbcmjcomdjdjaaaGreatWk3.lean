import Derived.Test.YtbcmjcomdjdjaaaGreatWk
import Derived.Test.YtbcmjcomdjdjaaaGreatRes
import Derived.Test.YtbcmjcomdjdjaaaGreatL2a
namespace Go.Proofs.YtbcmjcomdjdjaaaGreat
open Go.RowKit
attribute [local go_sem ↓] Go.wp_at_zero Go.wp_at_succ

/-- Mt', St' are Mt, St with what y leads to -/
def AddN (x : Hp) (y : Wd) (Mt Mt' St St' : List Nat) : Prop := (y.k ≠ 2 ∧ Mt' = Mt ∧ St' = St) ∨ (y.k = 2 ∧ ((tgt x y ∈ Mt ∧ Mt' = Mt ∧ St' = St) ∨ (¬ tgt x y ∈ Mt ∧ Mt' = Mt ++ [tgt x y] ∧ St' = St ++ [tgt x y])))
theorem AddN.sub {x : Hp} {y : Wd} {Mt Mt' St St' : List Nat} (h : AddN x y Mt Mt' St St') : (∀ i, i ∈ Mt → i ∈ Mt') ∧ (∀ i, i ∈ St → i ∈ St') := by
  rcases h with ⟨_, e, f⟩ | ⟨_, ⟨_, e, f⟩ | ⟨_, e, f⟩⟩
  · exact ⟨fun i hi => by rw [e]; exact hi, fun i hi => by rw [f]; exact hi⟩
  · exact ⟨fun i hi => by rw [e]; exact hi, fun i hi => by rw [f]; exact hi⟩
  · exact ⟨fun i hi => by rw [e]; exact List.mem_append_left _ hi, fun i hi => by rw [f]; exact List.mem_append_left _ hi⟩
theorem AddN.has {x : Hp} {y : Wd} {Mt Mt' St St' : List Nat} (h : AddN x y Mt Mt' St St') (hk : y.k = 2) : tgt x y ∈ Mt' := by
  rcases h with ⟨n, _⟩ | ⟨_, ⟨m, e, _⟩ | ⟨_, e, _⟩⟩
  · exact (n hk).elim
  · rw [e]; exact m
  · rw [e]; simp
theorem AddN.new {x : Hp} {y : Wd} {Mt Mt' St St' : List Nat} (h : AddN x y Mt Mt' St St') {i : Nat} (hi : i ∈ Mt') : i ∈ Mt ∨ (y.k = 2 ∧ i = tgt x y ∧ i ∈ St') := by
  rcases h with ⟨_, e, _⟩ | ⟨k, ⟨_, e, _⟩ | ⟨_, e, f⟩⟩
  · rw [e] at hi; exact .inl hi
  · rw [e] at hi; exact .inl hi
  · rw [e] at hi
    rcases List.mem_append.1 hi with q | q
    · exact .inl q
    · have : i = tgt x y := by simpa using q
      exact .inr ⟨k, this, by rw [f, this]; simp⟩
theorem AddN.weigh {x : Hp} {y : Wd} {Mt Mt' St St' : List Nat} (h : AddN x y Mt Mt' St St') : 2 * Mt.length + St'.length ≤ 2 * Mt'.length + St.length ∧ Mt.length ≤ Mt'.length := by
  rcases h with ⟨_, e, f⟩ | ⟨_, ⟨_, e, f⟩ | ⟨_, e, f⟩⟩
  · rw [e, f]; omega
  · rw [e, f]; omega
  · rw [e, f]; simp; omega

theorem lead_eq (x : Hp) (i : Nat) : lead x i = lead2 x i := rfl

/-- follow, of a word that may be marked: where it leads -/
theorem follow_any (x : Hp) (y : Wd) (b : Nat) (w : World) {ar : Option Addr} {kr : Nat} {ac : Option Addr} {kc : Nat} {ag : Option Addr} {kg : Nat} {kn : Nat} (bn on : Nat) (h : VAt w b x ar kr ac kc ag kg (some ⟨bn, on, none⟩) kn) (r2 : R2 x) (hy : MayMark x y) :
    Calls Tryz.prog 57 #[.pointer (some ⟨b, 0, none⟩), y.v] w fun e w' => ∃ t, Hid (e = .returned t) ∧ ((y.k ≠ 2 ∧ t = .pointer none) ∨ (y.k = 2 ∧ t = ptr bn (on + tgt x y * 2))) ∧ Ext w w' := by
  cases k2 : (y.k == 2)
  · exact (follow_none y b w k2).mono fun _ _ ⟨he, hx⟩ => ⟨_, he, .inl ⟨by simpa using k2, rfl⟩, hx⟩
  · have hk : y.k = 2 := by simpa using k2
    obtain ⟨_, a0, a1, _, _⟩ := hy hk
    obtain ⟨i, hi⟩ : ∃ i : Nat, y.a = (i : Int) := ⟨y.a.toNat, by omega⟩
    have := follow_some x y b i w h r2 k2 (by omega) bn on rfl
    rw [← hi] at this
    exact this.mono fun _ _ ⟨he, hx⟩ => ⟨_, he, .inr ⟨hk, by unfold tgt; rw [hi, lead_eq]; simp⟩, hx⟩

/-- meet, of what follow answers -/
theorem meet_word (x : Hp) (y : Wd) (base bw bv r1 bn on : Nat) (t v : Value) (Mt St : List Nat) (w : World) (h : WkAt w base bw bv r1 bn on x.cells.length v Mt St) (hy : MayMark x y) (ht : (y.k ≠ 2 ∧ t = .pointer none) ∨ (y.k = 2 ∧ t = ptr bn (on + tgt x y * 2))) (hb : base ≤ w.heap.size) (hn8 : x.cells.length ≤ 8000) :
    Calls Tryz.prog 55 #[.pointer (some ⟨bw, 0, none⟩), t] w fun e w' => e = .returned (.tuple #[]) ∧ ∃ v' Mt' St', WkAt w' base bw bv r1 bn on x.cells.length v' Mt' St' ∧ Hid (AddN x y Mt Mt' St St') ∧ KFr bw r1 v v' w w' := by
  rcases ht with ⟨k, rfl⟩ | ⟨k, rfl⟩
  · exact (meet_nil bw w).mono fun _ _ ⟨he, hw⟩ => by subst hw; exact ⟨he, v, Mt, St, h, .inl ⟨k, rfl, rfl⟩, KFr.of_ext (Ext.refl _)⟩
  · exact (meet_any base bw bv r1 bn on x.cells.length (tgt x y) v Mt St w h (hy k).2.2.2.2.1 hb hn8).mono fun _ _ ⟨he, v', M', S', hw, ha, hk⟩ => ⟨he, v', M', S', hw, .inr ⟨k, unhide ha⟩, hk⟩

def OnlyN (x : Hp) (Mt : List Nat) : Prop := ∀ i, i ∈ Mt → Reached x i
def RegsN (x : Hp) (k : Nat) (Mt : List Nat) : Prop := ∀ j (h : j < x.regs.length), j < k → x.regs[j].k = 2 → tgt x x.regs[j] ∈ Mt
theorem OnlyN.add {x : Hp} {y : Wd} {Mt Mt' St St' : List Nat} (h : OnlyN x Mt) (a : AddN x y Mt Mt' St St') (hy : y.k = 2 → Reached x (tgt x y)) : OnlyN x Mt' := fun i hi => by
  rcases a.new hi with q | ⟨k, e, _⟩
  · exact h i q
  · rw [e]; exact hy k
theorem WkAt.start (w : World) (bv bn on n : Nat) (t : TypeId) : WkAt (((w.alloc (.map #[] 0)).alloc (.map #[] 0)).alloc (.cells #[.pointer (some ⟨bv, 0, none⟩), .map (some w.heap.size), .slice none 0 0, .map (some (w.heap.size + 1))] t)) w.heap.size (w.heap.size + 2) bv w.heap.size bn on n (.slice none 0 0) [] [] := by
  have hm : (((w.alloc (.map #[] 0)).alloc (.map #[] 0)).alloc (.cells #[.pointer (some ⟨bv, 0, none⟩), .map (some w.heap.size), .slice none 0 0, .map (some (w.heap.size + 1))] t)).heap[w.heap.size]? = some (.map #[] 0) := by
    rw [Below.heap_alloc _ _ _ (by simp; omega), Below.heap_alloc _ _ _ (by simp)]
    exact heap_alloc_new w _
  refine ⟨by simp [go_sem], by simp [go_sem], by simp [go_sem], by simp [go_sem], ⟨#[], 0, hm, by simp [KeysAre]⟩, World.ownsRow_nil _ _ _ _, by simp [Value.ownBlock], by simp [Value.ownBlock], by omega, by omega, Nat.le_refl _, fun i hi => hi, List.nodup_nil, List.nodup_nil, fun i hi => by cases hi⟩

set_option maxRecDepth 100000 in
set_option maxHeartbeats 2000000 in
theorem walk_any (x : Hp) (b : Nat) (w : World) {ar : Option Addr} {kr : Nat} {ac : Option Addr} {kc : Nat} {ag : Option Addr} {kg : Nat} {kn : Nat} (bn on : Nat) (h : VAt w b x ar kr ac kc ag kg (some ⟨bn, on, none⟩) kn) (r2 : R2 x) (r4 : R4 x) (hn8 : x.cells.length ≤ 8000) :
    Calls Tryz.prog 53 #[.pointer (some ⟨b, 0, none⟩)] w fun e w' => e = .returned (.pointer (some ⟨w.heap.size + 2, 0, none⟩)) ∧ ∃ v Mt St, WkAt w' w.heap.size (w.heap.size + 2) b w.heap.size bn on x.cells.length v Mt St ∧ Hid (OnlyN x Mt ∧ RegsN x x.regs.length Mt ∧ ∀ i, i ∈ Mt → i ∈ St) ∧ Ext w w' := by
  have c3 := h.H.c3
  have lr := h.H.lr
  have hb : b < w.heap.size := cell_lt c3
  have HV := hide h
  have Q2 := hide r2
  have Q4 := hide r4
  have hmm : ∀ (t : TypeId) (w : World), (Instr.makeMap t none).run Tryz.prog w = .ok (.map (some w.heap.size)) (w.alloc (.map #[] 0)) := fun _ _ => rfl
  clear h r2 r4
  have c4 := ((((Ext.refl w).alloc (.map #[] 0)).alloc (.map #[] 0)).alloc (.cells #[.pointer (some ⟨b, 0, none⟩), .map (some w.heap.size), .slice none 0 0, .map (some (w.heap.size + 1))] 110)).keep c3
  have S0 := hide (WkAt.start w b bn on x.cells.length 110)
  go_enter Tryz.func53, Tryz.ntmps53
  go_wp2_with fail
  go_loopw [17] (fun i wr => ∃ (k : Nat) (v : Value) (Mt St : List Nat), k ≤ x.regs.length ∧ i = .int .i64 k ∧ WkAt wr w.heap.size (w.heap.size + 2) b w.heap.size bn on x.cells.length v Mt St ∧ Hid (OnlyN x Mt ∧ RegsN x k Mt ∧ ∀ i, i ∈ Mt → i ∈ St) ∧ Ext w wr) (fun i _ => x.regs.length - (intOf i).toNat)
  case atStart => exact ⟨0, _, [], [], Nat.zero_le _, rfl, unhide S0, ⟨(fun i hi => by cases hi), (fun j _ hj => by omega), fun i hi => hi⟩, (((Ext.refl w).alloc _).alloc _).alloc _⟩
  case round =>
    clear S0 c3 c4 hmm
    obtain ⟨k, v, Mt, St, hk, rfl, hw, hinv, hbl⟩ := hrel
    have HW := hide hw
    clear hw
    by_cases hlt : k < x.regs.length
    · have hh := (unhide HV).ext hbl
      obtain ⟨b', o, rfl, p0, p1, p2⟩ := hh.H.R k hlt
      have hb' : b' < wr.heap.size := cell_lt p0
      have hk0 : (0:Int) ≤ (k:Int) := by omega
      have hk1 : (k:Int) < (x.regs.length:Int) := by omega
      have xa := (Ext.refl wr).alloc (.cells #[iv x.regs[k].k, iv x.regs[k].n, iv x.regs[k].a] 85)
      have MY := hide (may_reg (unhide Q2) (unhide Q4) k hlt)
      clear hh
      go_wp2_with fail
      refine (follow_any x x.regs[k] b _ bn on ((unhide HV).ext (hbl.trans xa)) (unhide Q2) (unhide MY)).mono ?_
      rintro e w2 ⟨t, rfl, ht, hq⟩
      have x2 := xa.trans hq
      have HT := hide ht
      clear ht
      go_wp2_with fail
      refine (meet_word x x.regs[k] w.heap.size (w.heap.size + 2) b w.heap.size bn on t v Mt St _ ((unhide HW).ext x2) (unhide MY) (unhide HT) (hbl.trans x2).size hn8).mono ?_
      rintro e w3 ⟨rfl, v', M', S', hw3, ha, hkf⟩
      have R := hide (show WkAt w3 w.heap.size (w.heap.size + 2) b w.heap.size bn on x.cells.length v' M' S' ∧ (OnlyN x M' ∧ RegsN x (k + 1) M' ∧ ∀ i, i ∈ M' → i ∈ S') ∧ Ext w w3 from
        ⟨hw3, ⟨(unhide hinv).1.add (unhide ha) (fun e => Reached.reg k hlt e), fun j hj hjk e => by
          by_cases q : j = k
          · subst q; exact (unhide ha).has e
          · exact (unhide ha).sub.1 _ ((unhide hinv).2.1 j hj (by omega) e), fun i hi => by
          rcases (unhide ha).new hi with q | ⟨_, _, q⟩
          · exact (unhide ha).sub.2 i ((unhide hinv).2.2 i q)
          · exact q⟩, ((unhide HW).ext x2).kext hkf (hbl.trans x2)⟩)
      clear hw3 ha hkf
      go_wp2_with fail
      go_roundw
      case rel => exact ⟨k + 1, v', M', S', by omega, by go_num, (unhide R).1, (unhide R).2.1, (unhide R).2.2⟩
      case measure => simp [intOf]; omega
    · have hk2 : k = x.regs.length := by omega
      subst hk2
      go_wp2_with fail
      go_ret
      exact ⟨rfl, v, Mt, St, unhide HW, unhide hinv, hbl⟩
end Go.Proofs.YtbcmjcomdjdjaaaGreat
