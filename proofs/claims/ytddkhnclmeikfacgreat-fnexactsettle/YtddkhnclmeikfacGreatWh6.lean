import Derived.Test.YtddkhnclmeikfacGreatWh1
import Derived.Test.YtddkhnclmeikfacGreatWb
namespace Go.Proofs.YtddkhnclmeikfacGreat
open Go.RowKit
attribute [local go_sem ↓] Go.wp_at_zero Go.wp_at_succ

theorem OnlyN.meet {x : Hp} {Mt Mt' St St' : List Nat} {i : Nat} (h : OnlyN x Mt) (hi : Reached x i) (a : (i ∈ Mt ∧ Mt' = Mt ∧ St' = St) ∨ (¬ i ∈ Mt ∧ Mt' = Mt ++ [i] ∧ St' = St ++ [i])) : OnlyN x Mt' ∧ (∀ j, j ∈ Mt → j ∈ Mt') ∧ i ∈ Mt' ∧ ((∀ i, i ∈ Mt → i ∈ St) → (∀ i, i ∈ Mt' → i ∈ St')) := by
  rcases a with ⟨m, rfl, rfl⟩ | ⟨m, rfl, rfl⟩
  · exact ⟨h, fun j hj => hj, m, fun q => q⟩
  · refine ⟨fun j hj => ?_, fun j hj => List.mem_append_left _ hj, by simp, fun q j hj => ?_⟩
    · rcases List.mem_append.1 hj with q | q
      · exact h j q
      · simp at q; rw [q]; exact hi
    · rcases List.mem_append.1 hj with r | r
      · exact List.mem_append_left _ (q j r)
      · exact List.mem_append_right _ r

/-- the program's walk stands at cur, before so many steps -/
def Cur (x : Hp) (n : Nat) (t : Value) (bn on gk : Nat) (Mt St : List Nat) : Prop := (t = .pointer none ∧ St = [] ∧ InvR x Mt [] none) ∨ ∃ j, t = ptr bn (on + j * 2) ∧ j ∈ Mt ∧ InvR x Mt St (some j) ∧ 2 * (n - Mt.length) + St.length + 1 ≤ gk

set_option maxRecDepth 100000 in
set_option maxHeartbeats 2000000 in
theorem reached_any (x : Hp) (b : Nat) (w : World) {ar : Option Addr} {kr : Nat} {ac : Nat → Option Addr} {kn : Nat} (bn on : Nat) (h : VNt w b x ar kr ac (some ⟨bn, on, none⟩) kn) (r2 : R2 x) (r4 : R4 x) (hn8 : x.cells.length ≤ 8000) (h200 : ∀ i, i < x.cells.length → (x.c i).prs.length ≤ 200)
    (hsp : ∀ w1, VNt w1 b x ar kr ac (some ⟨bn, on, none⟩) kn → Calls Tryz.prog 160 #[.pointer (some ⟨b, 0, none⟩)] w1 fun e w' => ∃ (g : Option Addr) (cap : Nat) (Ls : List Nat), Hid (e = .returned (.slice g Ls.length cap)) ∧ Hid (SpAns x w1 w' g bn on Ls) ∧ Ext w1 w') :
    Calls Tryz.prog 226 #[.pointer (some ⟨b, 0, none⟩)] w fun e w' => e = .returned (Value.map (some w.heap.size)) ∧ ∃ Mt : List Nat, MapAt w' w.heap.size bn (Mt.map (fun i => on + i * 2)) ∧ w.heap.size < w'.heap.size ∧ Hid (∀ i, i ∈ Mt ↔ Reached x i) ∧ Ext w w' := by
  have HV := hide h
  have Q2 := hide r2
  have Q4 := hide r4
  have SP := hide hsp
  clear h r2 r4 hsp
  go_enter Tryz.func226, Tryz.ntmps226
  go_wp2_with fail
  refine (walk_any x b _ bn on (unhide HV) (unhide Q2) (unhide Q4) hn8).mono ?_
  rintro e w1 ⟨rfl, v1, M1, S1, hw1, i1, x1⟩
  have W1 := hide hw1
  clear hw1
  go_wp2_with fail
  refine ((unhide SP) _ ((unhide HV).ext x1)).mono ?_
  rintro e w2 ⟨g, cap, Ls, rfl, hans, x12⟩
  have x2 := x1.trans x12
  have A0 := hide (And.intro ((unhide W1).ext x12) ((unhide hans).at (unhide W1)))
  have hLs : Ls.length ≤ 8000 := (unhide hans).2.1
  have LI := hide (unhide hans).2.2
  clear W1 hans x12
  go_wp2_with fail
  go_loopw [14] (fun i wr => ∃ (k : Nat) (v : Value) (Mt St : List Nat), k ≤ Ls.length ∧ i = .int .i64 k ∧ WkAt wr w.heap.size (w.heap.size + 2) b w.heap.size bn on x.cells.length v Mt St ∧ Hid (OnlyN x Mt ∧ RegsN x x.regs.length Mt ∧ (∀ i, i ∈ Mt → i ∈ St) ∧ ∀ j (h : j < Ls.length), j < k → Ls[j] ∈ Mt) ∧ Hid (SpAt wr g (w.heap.size + 2) w.heap.size v bn on Ls) ∧ Ext w wr) (fun i _ => Ls.length - (intOf i).toNat)
  case atStart => exact ⟨0, v1, M1, S1, Nat.zero_le _, rfl, (unhide A0).1, ⟨(unhide i1).1, (unhide i1).2.1, (unhide i1).2.2, fun j _ hj => by omega⟩, (unhide A0).2, x2⟩
  case round =>
    clear A0 i1 x1 x2
    obtain ⟨k, v, Mt, St, hk, rfl, hw, hinv, hsa, hbl⟩ := hrel
    have HW := hide hw
    clear hw
    by_cases hlt : k < Ls.length
    · obtain ⟨gb, go, hg, gc, g1, g2, g3⟩ := unhide hsa k hlt
      subst hg
      have hk0 : (0:Int) ≤ (k:Int) := by omega
      have hk1 : (k:Int) < (Ls.length:Int) := by omega
      have HI := hide ((unhide LI Ls[k]).1 (List.getElem_mem hlt))
      clear g1 g2 g3
      go_wp2_with fail
      refine (meet_any w.heap.size (w.heap.size + 2) b w.heap.size bn on x.cells.length Ls[k] v Mt St _ (unhide HW) (unhide HI).1 hbl.size hn8).mono ?_
      rintro e w3 ⟨rfl, v', M', S', hw3, ha, hkf⟩
      have R := hide (show WkAt w3 w.heap.size (w.heap.size + 2) b w.heap.size bn on x.cells.length v' M' S' ∧ (OnlyN x M' ∧ RegsN x x.regs.length M' ∧ (∀ i, i ∈ M' → i ∈ S') ∧ ∀ j (h : j < Ls.length), j < k + 1 → Ls[j] ∈ M') ∧ SpAt w3 (some ⟨gb, go, none⟩) (w.heap.size + 2) w.heap.size v' bn on Ls ∧ Ext w w3 from by
        have hq := (unhide hinv).1.meet (Reached.last Ls[k] (unhide HI).1 (speaks_used (unhide Q2) _ (unhide HI).1 (unhide HI).2) (unhide HI).2) (unhide ha)
        refine ⟨hw3, ⟨hq.1, fun j hj hjk e => hq.2.1 _ ((unhide hinv).2.1 j hj hjk e), hq.2.2.2 (unhide hinv).2.2.1, fun j hj hjk => ?_⟩, (unhide hsa).step hkf, (unhide HW).kext hkf hbl⟩
        by_cases q : j = k
        · subst q; exact hq.2.2.1
        · exact hq.2.1 _ ((unhide hinv).2.2.2 j hj (by omega)))
      clear hw3 ha hkf gc
      go_wp2_with fail
      go_roundw
      case rel => exact ⟨k + 1, v', M', S', by omega, by go_num, (unhide R).1, (unhide R).2.1, (unhide R).2.2.1, (unhide R).2.2.2⟩
      case measure => simp [intOf]; omega
    · have hk2 : k = Ls.length := by omega
      have I0 := hide (show InvR x Mt St none from ⟨(unhide hinv).1, (unhide hinv).2.1, fun i hi hs => by
        obtain ⟨j, hj, e⟩ := List.getElem_of_mem ((unhide LI i).2 ⟨hi, hs⟩)
        have := (unhide hinv).2.2.2 j hj (by omega)
        rw [e] at this; exact this, fun i hi => .inl ((unhide hinv).2.2.1 i hi)⟩)
      clear hinv hsa LI hk2
      go_wp2_with fail
      refine (next_any w.heap.size (w.heap.size + 2) b w.heap.size bn on x.cells.length v Mt St _ (unhide HW) hn8).mono ?_
      rintro e w3 ⟨t, v3, S3, rfl, hw3, ht, hkf⟩
      have hle := (unhide HW).len
      have R := hide (show WkAt w3 w.heap.size (w.heap.size + 2) b w.heap.size bn on x.cells.length v3 Mt S3 ∧ Cur x x.cells.length t bn on (3 * x.cells.length + 1) Mt S3 ∧ Ext w w3 from by
        refine ⟨hw3, ?_, (unhide HW).kext hkf hbl⟩
        rcases unhide ht with ⟨e, e1, e2⟩ | ⟨j, e, e1⟩
        · have := unhide I0
          rw [e1] at this
          exact .inl ⟨e, e2, this⟩
        · have hI := unhide I0
          rw [e1] at hI
          have hl := hw3.len
          exact .inr ⟨j, e, (unhide HW).sub j (by rw [e1]; simp), hI.take, by omega⟩)
      clear hw3 ht hkf HW I0 hle hbl
      go_wp2_with fail
      go_loopg [6] (3 * x.cells.length + 1) (fun gk t wr => ∃ (v : Value) (Mt St : List Nat), WkAt wr w.heap.size (w.heap.size + 2) b w.heap.size bn on x.cells.length v Mt St ∧ Hid (Cur x x.cells.length t bn on gk Mt St) ∧ Ext w wr)
      case atStart => exact ⟨v3, Mt, S3, (unhide R).1, (unhide R).2.1, (unhide R).2.2⟩
      case round =>
        clear R
        obtain ⟨v, Mt, St, hw, hcur, hbl⟩ := hrel
        have HW := hide hw
        rcases unhide hcur with ⟨rfl, rfl, hI⟩ | ⟨j, rfl, hj, hI, hgk⟩
        · have c1 := hw.c1
          have F := hide (And.intro hw.m (And.intro hw.rlt.2 hI.done))
          clear hw hcur hI
          go_wp2_with fail
          go_ret
          exact ⟨rfl, Mt, (unhide F).1, (unhide F).2.1, (unhide F).2.2, hbl⟩
        · have hjn : j < x.cells.length := hw.rg j hj
          have GD := hide ((hI.only j hj).good (unhide Q2) (unhide Q4))
          have RJ := hide (hI.only j hj)
          obtain ⟨bc, oc, ap, kp, e1, C⟩ := (unhide HV).H.cell j hjn
          obtain ⟨bn', on', bc', oc', e2, e3, m0, m1'⟩ := (unhide HV).N j hjn
          rw [e1] at e3
          cases e2; cases e3
          have p7 := hbl.keep C.p7
          have m1 := hbl.keep m1'
          have lp := C.lp
          have h2 := h200 j hjn
          have HP := hide C.P
          have I1 := hide (And.intro hI hgk)
          have B0 := hide hbl
          obtain ⟨WO, hWO⟩ : ∃ W, W = wr := ⟨_, rfl⟩
          subst hWO
          clear C m0 m1' hw hcur hI hgk e1 hbl
          go_wp2_with fail
          go_loopw [36] (fun i wi => ∃ (l : Nat) (v : Value) (Mt St : List Nat), l ≤ (x.c j).prs.length ∧ i = .int .i64 l ∧ WkAt wi w.heap.size (w.heap.size + 2) b w.heap.size bn on x.cells.length v Mt St ∧ Hid (InvR x Mt St (some j) ∧ ClosedToN x Mt j l ∧ 2 * (x.cells.length - Mt.length) + St.length + 1 ≤ gk) ∧ Ext w wi) (fun i _ => (x.c j).prs.length - (intOf i).toNat)
          case atStart => exact ⟨0, v, Mt, St, Nat.zero_le _, rfl, unhide HW, ⟨(unhide I1).1, (fun p _ h => by omega), (unhide I1).2⟩, unhide B0⟩
          case round =>
            clear HW I1 B0 p7 m1 hj
            clear v Mt St
            obtain ⟨l, v, Mt, St, hl, rfl, hw, hinv, hbl⟩ := hrel
            have HW := hide hw
            clear hw
            by_cases hl2 : l < (x.c j).prs.length
            · obtain ⟨b2, o2, rfl, q0, q1, q2, q3, q4, q5⟩ := unhide HP l hl2
              have e0 := hbl.keep q0
              have e1 := hbl.keep q1
              have e2 := hbl.keep q2
              have e3 := hbl.keep q3
              have e4 := hbl.keep q4
              have e5 := hbl.keep q5
              have hb2 : b2 < wr.heap.size := cell_lt e0
              clear q0 q1 q2 q3 q4 q5
              have hl0 : (0:Int) ≤ (l:Int) := by omega
              have hl1 : (l:Int) < ((x.c j).prs.length:Int) := by omega
              have xa := (Ext.refl wr).alloc (.cells #[.int .i64 ((x.c j).p l).key.k, .int .i64 ((x.c j).p l).key.n, .int .i64 ((x.c j).p l).key.a, .int .i64 ((x.c j).p l).val.k, .int .i64 ((x.c j).p l).val.n, .int .i64 ((x.c j).p l).val.a] 152)
              have MK := hide (may_pair (unhide Q2) (unhide Q4) j l (unhide GD) hl2)
              go_wp2_with fail
              refine (follow_any x ((x.c j).p l).key b _ bn on ((unhide HV).ext (hbl.trans xa)).f (unhide Q2) (unhide MK).1).mono ?_
              rintro e w2 ⟨t2, rfl, ht2, hq2⟩
              have x2 := xa.trans hq2
              have HT := hide ht2
              have u := fun (o : Nat) (v : Value) (hc : (wr.alloc (.cells #[.int .i64 ((x.c j).p l).key.k, .int .i64 ((x.c j).p l).key.n, .int .i64 ((x.c j).p l).key.a, .int .i64 ((x.c j).p l).val.k, .int .i64 ((x.c j).p l).val.n, .int .i64 ((x.c j).p l).val.a] 152)).cell? ⟨wr.heap.size, o, none⟩ = some v) => hq2.keep hc
              have u3 := u 3 _ (by simp [go_sem]; rfl)
              have u4 := u 4 _ (by simp [go_sem]; rfl)
              have u5 := u 5 _ (by simp [go_sem]; rfl)
              clear u ht2 e0 e1 e2 e3 e4 e5 hq2
              go_wp2_with fail
              refine (meet_word x ((x.c j).p l).key w.heap.size (w.heap.size + 2) b w.heap.size bn on t2 v Mt St _ ((unhide HW).ext x2) (unhide MK).1 (unhide HT) (hbl.trans x2).size hn8).mono ?_
              rintro e w3 ⟨rfl, v3, M3, S3, hw3, ha3, hk3⟩
              have hlt2 : wr.heap.size < w2.heap.size := cell_lt u3
              have sep : wr.heap.size ≠ w.heap.size + 2 ∧ wr.heap.size ≠ w.heap.size ∧ v.ownBlock ≠ some wr.heap.size := by
                have := (unhide HW).rlt
                exact ⟨by omega, by omega, fun e => by have := ((unhide HW).s.lt _ e).2; omega⟩
              have kb := hk3.block wr.heap.size hlt2 sep.1 sep.2.1 sep.2.2
              have y3 := (World.cell?_of_block (a := ⟨wr.heap.size, 3, none⟩) kb).trans u3
              have y4 := (World.cell?_of_block (a := ⟨wr.heap.size, 4, none⟩) kb).trans u4
              have y5 := (World.cell?_of_block (a := ⟨wr.heap.size, 5, none⟩) kb).trans u5
              have B3 := ((unhide HW).ext x2).kext hk3 (hbl.trans x2)
              have W3 := hide hw3
              have A3 := hide (And.intro ((unhide hinv).1.add (unhide ha3) (fun e => Reached.key j l (unhide RJ) hl2 e)) (And.intro ((unhide hinv).2.1.sub (unhide ha3).sub.1) (And.intro ((unhide ha3).has) (show 2 * (x.cells.length - M3.length) + S3.length + 1 ≤ gk by have := (unhide ha3).weigh; have := (unhide hinv).2.2; have := hw3.len; omega))))
              clear hw3 ha3 hk3 u3 u4 u5 kb sep hlt2 hinv HW HT x2 xa
              go_wp2_with fail
              refine (follow_any x ((x.c j).p l).val b _ bn on ((unhide HV).ext B3).f (unhide Q2) (unhide MK).2).mono ?_
              rintro e w4 ⟨t4, rfl, ht4, hq4⟩
              have HT := hide ht4
              clear ht4
              go_wp2_with fail
              refine (meet_word x ((x.c j).p l).val w.heap.size (w.heap.size + 2) b w.heap.size bn on t4 v3 M3 S3 _ ((unhide W3).ext hq4) (unhide MK).2 (unhide HT) (B3.trans hq4).size hn8).mono ?_
              rintro e w5 ⟨rfl, v5, M5, S5, hw5, ha5, hk5⟩
              have B5 := ((unhide W3).ext hq4).kext hk5 (B3.trans hq4)
              have W5 := hide hw5
              have A5 := hide (show InvR x M5 S5 (some j) ∧ ClosedToN x M5 j (l + 1) ∧ 2 * (x.cells.length - M5.length) + S5.length + 1 ≤ gk from
                ⟨(unhide A3).1.add (unhide ha5) (fun e => Reached.val j l (unhide RJ) hl2 e), fun p hp hpl => by
                  by_cases q : p = l
                  · subst q
                    exact ⟨fun e => (unhide ha5).sub.1 _ ((unhide A3).2.2.1 e), (unhide ha5).has⟩
                  · exact ((unhide A3).2.1.sub (unhide ha5).sub.1) p hp (by omega), by have := (unhide ha5).weigh; have := (unhide A3).2.2.2; have := hw5.len; omega⟩)
              clear hw5 ha5 hk5 y3 y4 y5 A3 W3 hq4 B3 HT
              go_wp2_with fail
              go_roundw
              case rel => exact ⟨l + 1, v5, M5, S5, by omega, by go_num, unhide W5, unhide A5, B5⟩
              case measure => simp [intOf]; omega
            · have hl3 : l = (x.c j).prs.length := by omega
              have I2 := hide (And.intro ((unhide hinv).1.shut (by have := (unhide hinv).2.1; rw [hl3] at this; exact this)) (unhide hinv).2.2)
              clear hl3 hinv
              go_wp2_with fail
              refine (next_any w.heap.size (w.heap.size + 2) b w.heap.size bn on x.cells.length v Mt St _ (unhide HW) hn8).mono ?_
              rintro e w3 ⟨t, v3, S3, rfl, hw3, ht, hkf⟩
              obtain ⟨gk', hgk⟩ : ∃ g, gk = g + 1 := ⟨gk - 1, by have := (unhide I2).2; omega⟩
              have R := hide (show WkAt w3 w.heap.size (w.heap.size + 2) b w.heap.size bn on x.cells.length v3 Mt S3 ∧ Cur x x.cells.length t bn on gk' Mt S3 ∧ Ext w w3 from by
                refine ⟨hw3, ?_, (unhide HW).kext hkf hbl⟩
                have hI := unhide I2
                rcases unhide ht with ⟨e, e1, e2⟩ | ⟨j, e, e1⟩
                · rw [e1] at hI
                  exact .inl ⟨e, e2, hI.1⟩
                · have hm : j ∈ Mt := (unhide HW).sub j (by rw [e1]; simp)
                  rw [e1] at hI
                  have hl := hI.2
                  simp only [List.length_append, List.length_singleton] at hl
                  exact .inr ⟨j, e, hm, hI.1.take, by omega⟩)
              have G := hide hgk
              clear hw3 ht hkf HW I2 hbl hgk
              go_wp2_with fail
              go_roundg gk'
              case measure => have := unhide G; omega
              case rel => exact ⟨v3, Mt, S3, (unhide R).1, (unhide R).2.1, (unhide R).2.2⟩
end Go.Proofs.YtddkhnclmeikfacGreat

namespace Go.Proofs.YtddkhnclmeikfacGreat
open Go.RowKit
attribute [local go_sem ↓] Go.wp_at_zero Go.wp_at_succ

def OnlyHN (x : Hp) (Mt : List Nat) : Prop := ∀ i, i ∈ Mt → Held x i
theorem OnlyHN.add {x : Hp} {y : Wd} {Mt Mt' St St' : List Nat} (h : OnlyHN x Mt) (a : AddN x y Mt Mt' St St') (hy : y.k = 2 → Held x (tgt x y)) : OnlyHN x Mt' := fun i hi => by
  rcases a.new hi with q | ⟨k, e, _⟩
  · exact h i q
  · rw [e]; exact hy k
theorem WtAt.start (w : World) (bv bn on : Nat) (t : TypeId) : WtAt (((w.alloc (.map #[] 0)).alloc (.map #[] 0)).alloc (.cells #[.pointer (some ⟨bv, 0, none⟩), .map (some w.heap.size), .slice none 0 0, .map (some (w.heap.size + 1))] t)) w.heap.size (w.heap.size + 2) w.heap.size (w.heap.size + 1) bn on (.slice none 0 0) (fun _ => .slice none 0 0) (fun _ => []) := by
  have hm : (((w.alloc (.map #[] 0)).alloc (.map #[] 0)).alloc (.cells #[.pointer (some ⟨bv, 0, none⟩), .map (some w.heap.size), .slice none 0 0, .map (some (w.heap.size + 1))] t)).heap[w.heap.size + 1]? = some (.map #[] 0) := by
    rw [Below.heap_alloc _ _ _ (by simp)]
    have := heap_alloc_new (w.alloc (.map #[] 0)) (.map #[] 0)
    simpa using this
  exact ⟨by simp [go_sem], ⟨#[], 0, [], hm, by simp [EntAre], List.nodup_nil, fun _ _ => rfl⟩, fun _ => World.ownsRow_nil _ _ _ _, fun _ _ _ _ h => by simp [Value.ownBlock] at h, fun _ _ h => by simp [Value.ownBlock] at h, fun _ h => by simp [Value.ownBlock] at h, fun _ h => by simp [Value.ownBlock] at h, fun _ h => by simp [Value.ownBlock] at h, by omega, by omega, by simp [Value.ownBlock], by omega⟩

set_option maxRecDepth 100000 in
set_option maxHeartbeats 2000000 in
theorem walkH_any (x : Hp) (b : Nat) (w : World) {ar : Option Addr} {kr : Nat} {ac : Nat → Option Addr} {kn : Nat} (bn on : Nat) (h : VNt w b x ar kr ac (some ⟨bn, on, none⟩) kn) (r2 : R2 x) (r4 : R4 x) (hn8 : x.cells.length ≤ 8000) :
    Calls Tryz.prog 200 #[.pointer (some ⟨b, 0, none⟩)] w fun e w' => e = .returned (.pointer (some ⟨w.heap.size + 2, 0, none⟩)) ∧ ∃ v Mt St, WkAt w' w.heap.size (w.heap.size + 2) b w.heap.size bn on x.cells.length v Mt St ∧ WtAt w' w.heap.size (w.heap.size + 2) w.heap.size (w.heap.size + 1) bn on v (fun _ => .slice none 0 0) (fun _ => []) ∧ Hid (OnlyHN x Mt ∧ RegsN x x.regs.length Mt ∧ ∀ i, i ∈ Mt → i ∈ St) ∧ Ext w w' := by
  have c3 := h.H.c3
  have lr := h.H.lr
  have hb : b < w.heap.size := cell_lt c3
  have HV := hide h
  have Q2 := hide r2
  have Q4 := hide r4
  have hmm : ∀ (t : TypeId) (w : World), (Instr.makeMap t none).run Tryz.prog w = .ok (.map (some w.heap.size)) (w.alloc (.map #[] 0)) := fun _ _ => rfl
  clear h r2 r4
  have c4 := ((((Ext.refl w).alloc (.map #[] 0)).alloc (.map #[] 0)).alloc (.cells #[.pointer (some ⟨b, 0, none⟩), .map (some w.heap.size), .slice none 0 0, .map (some (w.heap.size + 1))] 221)).keep c3
  have S0 := hide (WkAt.start w b bn on x.cells.length 221)
  have T0 := hide (WtAt.start w b bn on 221)
  go_enter Tryz.func200, Tryz.ntmps200
  go_wp2_with fail
  go_loopw [17] (fun i wr => ∃ (k : Nat) (v : Value) (Mt St : List Nat), k ≤ x.regs.length ∧ i = .int .i64 k ∧ WkAt wr w.heap.size (w.heap.size + 2) b w.heap.size bn on x.cells.length v Mt St ∧ WtAt wr w.heap.size (w.heap.size + 2) w.heap.size (w.heap.size + 1) bn on v (fun _ => .slice none 0 0) (fun _ => []) ∧ Hid (OnlyHN x Mt ∧ RegsN x k Mt ∧ ∀ i, i ∈ Mt → i ∈ St) ∧ Ext w wr) (fun i _ => x.regs.length - (intOf i).toNat)
  case atStart => exact ⟨0, _, [], [], Nat.zero_le _, rfl, unhide S0, unhide T0, ⟨(fun i hi => by cases hi), (fun j _ hj => by omega), fun i hi => hi⟩, (((Ext.refl w).alloc _).alloc _).alloc _⟩
  case round =>
    clear S0 T0 c3 c4 hmm
    obtain ⟨k, v, Mt, St, hk, rfl, hw, hwt, hinv, hbl⟩ := hrel
    have HW := hide hw
    have HT := hide hwt
    clear hw hwt
    by_cases hlt : k < x.regs.length
    · have hh := (unhide HV).ext hbl
      obtain ⟨b', o, rfl, p0, p1, p2⟩ := hh.H.R k hlt
      have hb' : b' < wr.heap.size := cell_lt p0
      have hk0 : (0:Int) ≤ (k:Int) := by omega
      have hk1 : (k:Int) < (x.regs.length:Int) := by omega
      have xa := (Ext.refl wr).alloc (.cells #[iv x.regs[k].k, iv x.regs[k].n, iv x.regs[k].a] 147)
      have MY := hide (may_reg (unhide Q2) (unhide Q4) k hlt)
      clear hh
      go_wp2_with fail
      refine (follow_any x x.regs[k] b _ bn on ((unhide HV).ext (hbl.trans xa)).f (unhide Q2) (unhide MY)).mono ?_
      rintro e w2 ⟨t, rfl, ht, hq⟩
      have x2 := xa.trans hq
      have HQ := hide ht
      clear ht
      go_wp2_with fail
      refine (meet_word x x.regs[k] w.heap.size (w.heap.size + 2) b w.heap.size bn on t v Mt St _ ((unhide HW).ext x2) (unhide MY) (unhide HQ) (hbl.trans x2).size hn8).mono ?_
      rintro e w3 ⟨rfl, v', M', S', hw3, ha, hkf⟩
      have R := hide (show WkAt w3 w.heap.size (w.heap.size + 2) b w.heap.size bn on x.cells.length v' M' S' ∧ WtAt w3 w.heap.size (w.heap.size + 2) w.heap.size (w.heap.size + 1) bn on v' (fun _ => .slice none 0 0) (fun _ => []) ∧ (OnlyHN x M' ∧ RegsN x (k + 1) M' ∧ ∀ i, i ∈ M' → i ∈ S') ∧ Ext w w3 from
        ⟨hw3, ((unhide HT).ext x2).step hkf, ⟨(unhide hinv).1.add (unhide ha) (fun e => Held.reg k hlt e), fun j hj hjk e => by
          by_cases q : j = k
          · subst q; exact (unhide ha).has e
          · exact (unhide ha).sub.1 _ ((unhide hinv).2.1 j hj (by omega) e), fun i hi => by
          rcases (unhide ha).new hi with q | ⟨_, _, q⟩
          · exact (unhide ha).sub.2 i ((unhide hinv).2.2 i q)
          · exact q⟩, ((unhide HW).ext x2).kext hkf (hbl.trans x2)⟩)
      clear hw3 ha hkf
      go_wp2_with fail
      go_roundw
      case rel => exact ⟨k + 1, v', M', S', by omega, by go_num, (unhide R).1, (unhide R).2.1, (unhide R).2.2.1, (unhide R).2.2.2⟩
      case measure => simp [intOf]; omega
    · have hk2 : k = x.regs.length := by omega
      subst hk2
      go_wp2_with fail
      go_ret
      exact ⟨rfl, v, Mt, St, unhide HW, unhide HT, unhide hinv, hbl⟩
end Go.Proofs.YtddkhnclmeikfacGreat

namespace Go.Proofs.YtddkhnclmeikfacGreat
open Go.RowKit
attribute [local go_sem ↓] Go.wp_at_zero Go.wp_at_succ

/-- the program's walk stands at cur, ahead of release, before so many steps -/
def CurH (x : Hp) (t : Value) (bn on G0 gk : Nat) (Mt St : List Nat) (g : Nat → List (Option Nat)) : Prop := gk ≤ G0 ∧ (∀ k, (g k).length + 200 * gk ≤ 200 * G0) ∧ ((t = .pointer none ∧ St = [] ∧ InvH x Mt [] g none none) ∨ ∃ j, t = ptr bn (on + j * 2) ∧ j ∈ Mt ∧ InvH x Mt St g (some j) (some j) ∧ 2 * (x.cells.length - Mt.length) + St.length + 1 ≤ gk)

set_option maxRecDepth 100000 in
set_option maxHeartbeats 4000000 in
theorem held_any (x : Hp) (b : Nat) (w : World) {ar : Option Addr} {kr : Nat} {ac : Nat → Option Addr} {kn : Nat} (bn on : Nat) (h : VNt w b x ar kr ac (some ⟨bn, on, none⟩) kn) (r2 : R2 x) (r4 : R4 x) (hn8 : x.cells.length ≤ 8000) (h200 : ∀ i, i < x.cells.length → (x.c i).prs.length ≤ 200)
    (hsp : ∀ w1, VNt w1 b x ar kr ac (some ⟨bn, on, none⟩) kn → Calls Tryz.prog 160 #[.pointer (some ⟨b, 0, none⟩)] w1 fun e w' => ∃ (g : Option Addr) (cap : Nat) (Ls : List Nat), Hid (e = .returned (.slice g Ls.length cap)) ∧ Hid (SpAns x w1 w' g bn on Ls) ∧ Ext w1 w') :
    Calls Tryz.prog 120 #[.pointer (some ⟨b, 0, none⟩)] w fun e w' => e = .returned (Value.map (some w.heap.size)) ∧ ∃ Mt : List Nat, MapAt w' w.heap.size bn (Mt.map (fun i => on + i * 2)) ∧ w.heap.size < w'.heap.size ∧ Hid (∀ i, i ∈ Mt ↔ Held x i) ∧ Ext w w' := by
  have HV := hide h
  have Q2 := hide r2
  have Q4 := hide r4
  have SP := hide hsp
  clear h r2 r4 hsp
  go_enter Tryz.func120, Tryz.ntmps120
  go_wp2_with fail
  refine (walkH_any x b _ bn on (unhide HV) (unhide Q2) (unhide Q4) hn8).mono ?_
  rintro e w1 ⟨rfl, v1, M1, S1, hw1, ht1, i1, x1⟩
  have W1 := hide hw1
  have T1 := hide ht1
  clear hw1 ht1
  go_wp2_with fail
  refine ((unhide SP) _ ((unhide HV).ext x1)).mono ?_
  rintro e w2 ⟨g, cap, Ls, rfl, hans, x12⟩
  have x2 := x1.trans x12
  have A0 := hide (And.intro ((unhide W1).ext x12) (And.intro ((unhide hans).at (unhide W1)) ((unhide T1).ext x12)))
  have hLs : Ls.length ≤ 8000 := (unhide hans).2.1
  have LI := hide (unhide hans).2.2
  clear W1 T1 hans x12
  go_wp2_with fail
  go_loopw [12] (fun i wr => ∃ (k : Nat) (v : Value) (Mt St : List Nat), k ≤ Ls.length ∧ i = .int .i64 k ∧ WkAt wr w.heap.size (w.heap.size + 2) b w.heap.size bn on x.cells.length v Mt St ∧ WtAt wr w.heap.size (w.heap.size + 2) w.heap.size (w.heap.size + 1) bn on v (fun _ => .slice none 0 0) (fun _ => []) ∧ Hid (OnlyHN x Mt ∧ RegsN x x.regs.length Mt ∧ (∀ i, i ∈ Mt → i ∈ St) ∧ ∀ j (h : j < Ls.length), j < k → (x.c Ls[j]).last = 2 → Ls[j] ∈ Mt) ∧ Hid (SpAt wr g (w.heap.size + 2) w.heap.size v bn on Ls) ∧ Ext w wr) (fun i _ => Ls.length - (intOf i).toNat)
  case atStart => exact ⟨0, v1, M1, S1, Nat.zero_le _, rfl, (unhide A0).1, (unhide A0).2.2, ⟨(unhide i1).1, (unhide i1).2.1, (unhide i1).2.2, fun j _ hj => by omega⟩, (unhide A0).2.1, x2⟩
  case round =>
    clear A0 i1 x1 x2
    obtain ⟨k, v, Mt, St, hk, rfl, hw, htt, hinv, hsa, hbl⟩ := hrel
    have HW := hide hw
    have HT := hide htt
    clear hw htt
    by_cases hlt : k < Ls.length
    · obtain ⟨gb, go, hg, gc, g1, g2, g3⟩ := unhide hsa k hlt
      subst hg
      have hk0 : (0:Int) ≤ (k:Int) := by omega
      have hk1 : (k:Int) < (Ls.length:Int) := by omega
      have HI := hide ((unhide LI Ls[k]).1 (List.getElem_mem hlt))
      clear g1 g2 g3
      obtain ⟨j, ej⟩ : ∃ j, j = Ls[k] := ⟨_, rfl⟩
      rw [← ej] at gc HI
      have hjn := (unhide HI).1
      obtain ⟨bc, oc, ap, kp, e1, C⟩ := (unhide HV).H.cell j hjn
      obtain ⟨bn', on', bc', oc', e2, e3, m0, m1'⟩ := (unhide HV).N j hjn
      rw [e1] at e3
      cases e2; cases e3
      have p3 := hbl.keep C.p3
      have m1 := hbl.keep m1'
      have EJ := hide ej
      clear C m0 m1' e1 ej
      cases tl : ((x.c j).last == 2)
      · have R := hide (show ∀ q (h : q < Ls.length), q < k + 1 → (x.c Ls[q]).last = 2 → Ls[q] ∈ Mt from fun q hq hqk e => by
          by_cases z : q = k
          · subst z; rw [← unhide EJ] at e; simp at tl; exact (tl e).elim
          · exact (unhide hinv).2.2.2 q hq (by omega) e)
        go_wp2_with fail
        go_roundw
        case rel => exact ⟨k + 1, v, Mt, St, by omega, by go_num, unhide HW, unhide HT, ⟨(unhide hinv).1, (unhide hinv).2.1, (unhide hinv).2.2.1, unhide R⟩, unhide hsa, hbl⟩
        case measure => simp [intOf]; omega
      · have hl2 : (x.c j).last = 2 := by simpa using tl
        have HL := hide hl2
        clear hl2
        go_wp2_with fail
        refine (meet_any w.heap.size (w.heap.size + 2) b w.heap.size bn on x.cells.length j v Mt St _ (unhide HW) hjn hbl.size hn8).mono ?_
        rintro e w3 ⟨rfl, v', M', S', hw3, ha, hkf⟩
        have R := hide (show WkAt w3 w.heap.size (w.heap.size + 2) b w.heap.size bn on x.cells.length v' M' S' ∧ WtAt w3 w.heap.size (w.heap.size + 2) w.heap.size (w.heap.size + 1) bn on v' (fun _ => .slice none 0 0) (fun _ => []) ∧ (OnlyHN x M' ∧ RegsN x x.regs.length M' ∧ (∀ i, i ∈ M' → i ∈ S') ∧ ∀ j (h : j < Ls.length), j < k + 1 → (x.c Ls[j]).last = 2 → Ls[j] ∈ M') ∧ SpAt w3 (some ⟨gb, go, none⟩) (w.heap.size + 2) w.heap.size v' bn on Ls ∧ Ext w w3 from by
          have G := grow_meet (unhide ha)
          refine ⟨hw3, (unhide HT).step hkf, ⟨fun i hi => ?_, fun j hj hjk e => G.1.m _ ((unhide hinv).2.1 j hj hjk e), fun i hi => ?_, fun q hq hqk e => ?_⟩, (unhide hsa).step hkf, (unhide HW).kext hkf hbl⟩
          · rcases G.1.n i hi with q | ⟨q, _⟩
            · exact (unhide hinv).1 i q
            · rw [q]; exact Held.due j hjn (unhide HL)
          · rcases G.1.n i hi with q | ⟨_, q⟩
            · exact G.1.s i ((unhide hinv).2.2.1 i q)
            · exact q
          · by_cases z : q = k
            · subst z; rw [← unhide EJ]; exact G.2
            · exact G.1.m _ ((unhide hinv).2.2.2 q hq (by omega) e))
        clear hw3 ha hkf gc p3 m1
        go_wp2_with fail
        go_roundw
        case rel => exact ⟨k + 1, v', M', S', by omega, by go_num, (unhide R).1, (unhide R).2.1, (unhide R).2.2.1, (unhide R).2.2.2.1, (unhide R).2.2.2.2⟩
        case measure => simp [intOf]; omega
    · have hk2 : k = Ls.length := by omega
      have I0 := hide (show InvH x Mt St (fun _ => []) none none from ⟨(unhide hinv).1, (unhide hinv).2.1, fun i hi hs => by
        obtain ⟨j, hj, e⟩ := List.getElem_of_mem ((unhide LI i).2 ⟨hi, .inr hs⟩)
        have := (unhide hinv).2.2.2 j hj (by omega) (by rw [e]; exact hs)
        rw [e] at this; exact this, (fun _ _ h => by cases h), (fun _ _ h => by cases h), fun i hi => .inl ((unhide hinv).2.2.1 i hi)⟩)
      clear hinv hsa LI hk2
      go_wp2_with fail
      refine (next_any w.heap.size (w.heap.size + 2) b w.heap.size bn on x.cells.length v Mt St _ (unhide HW) hn8).mono ?_
      rintro e w3 ⟨t, v3, S3, rfl, hw3, ht, hkf⟩
      have hle := (unhide HW).len
      have R := hide (show WkAt w3 w.heap.size (w.heap.size + 2) b w.heap.size bn on x.cells.length v3 Mt S3 ∧ WtAt w3 w.heap.size (w.heap.size + 2) w.heap.size (w.heap.size + 1) bn on v3 (fun _ => .slice none 0 0) (fun _ => []) ∧ CurH x t bn on (3 * x.cells.length + 1) (3 * x.cells.length + 1) Mt S3 (fun _ => []) ∧ Ext w w3 from by
        refine ⟨hw3, (unhide HT).step hkf, ⟨Nat.le_refl _, fun k => by simp, ?_⟩, (unhide HW).kext hkf hbl⟩
        rcases unhide ht with ⟨e, e1, e2⟩ | ⟨j, e, e1⟩
        · have := unhide I0
          rw [e1] at this
          exact .inl ⟨e, e2, this⟩
        · have hI := unhide I0
          rw [e1] at hI
          have hl := hw3.len
          exact .inr ⟨j, e, (unhide HW).sub j (by rw [e1]; simp), hI.take, by omega⟩)
      clear hw3 ht hkf HW HT I0 hle hbl
      go_wp2_with fail
      go_loopg [6] (3 * x.cells.length + 1) (fun gk t wr => ∃ (v : Value) (Mt St : List Nat) (f : Nat → Value) (g : Nat → List (Option Nat)), WkAt wr w.heap.size (w.heap.size + 2) b w.heap.size bn on x.cells.length v Mt St ∧ WtAt wr w.heap.size (w.heap.size + 2) w.heap.size (w.heap.size + 1) bn on v f g ∧ Hid (CurH x t bn on (3 * x.cells.length + 1) gk Mt St g) ∧ Ext w wr)
      case atStart => exact ⟨v3, Mt, S3, _, _, (unhide R).1, (unhide R).2.1, (unhide R).2.2.1, (unhide R).2.2.2⟩
      case round =>
        clear R
        obtain ⟨v, Mt, St, f, g, hw, htt, hcur, hbl⟩ := hrel
        have HW := hide hw
        have HT := hide htt
        obtain ⟨hgk, hlen, hcr⟩ := unhide hcur
        rcases hcr with ⟨rfl, rfl, hI⟩ | ⟨j, rfl, hj, hI, hgj⟩
        · have c1 := hw.c1
          have F := hide (And.intro hw.m (And.intro hw.rlt.2 hI.done))
          clear hw htt hcur hI hlen
          go_wp2_with fail
          go_ret
          exact ⟨rfl, Mt, (unhide F).1, (unhide F).2.1, (unhide F).2.2, hbl⟩
        · have hjn : j < x.cells.length := hw.rg j hj
          have LEN := hide hlen
          have HI := hide hI
          have HJ := hide hj
          have hp := h200 j hjn
          clear hw htt hcur hI hlen hj
          go_wp2_with fail
          refine (release_any w (w.heap.size + 2) b w.heap.size (w.heap.size + 1) bn on x.cells.length j v f g Mt St _ (unhide HW) (unhide HT) (fun i hi => (unhide HI).wl j i hi) hbl hn8 (by have := unhide LEN j; omega)).mono ?_
          rintro e w3 ⟨rfl, v3, M3, S3, hw3, ht3, hg3, hx3⟩
          have W3 := hide hw3
          have T3 := hide ht3
          have I3 := hide (((unhide HI).grow (unhide hg3).1 (fun i hi => (unhide HI).wh j i hi ((unhide HI).only j (unhide HJ)))).freed (unhide hg3).2)
          have J3 := hide ((unhide hg3).1.m j (unhide HJ))
          have G3 := hide (unhide hg3).1
          have X3 := hide (unhide hx3)
          clear hw3 ht3 hg3 hx3
          go_wp2_with fail
          refine (hold_any x w b (w.heap.size + 2) w.heap.size (w.heap.size + 1) bn on j v3 f g M3 S3 _ (unhide HV) (unhide Q2) (unhide Q4) hp (unhide W3) (unhide T3) (unhide I3) (unhide J3) (unhide X3) hn8 (fun k => by have := unhide LEN k; omega)).mono ?_
          rintro e w4 ⟨rfl, v4, M4, S4, f4, g4, hw4, ht4, hi4, hx4⟩
          have W4 := hide hw4
          have T4 := hide ht4
          have I4 := hide (unhide hi4)
          have X4 := unhide hx4
          clear hw4 ht4 hi4 hx4
          go_wp2_with fail
          refine (next_any w.heap.size (w.heap.size + 2) b w.heap.size bn on x.cells.length v4 M4 S4 _ (unhide W4) hn8).mono ?_
          rintro e w5 ⟨t, v5, S5, rfl, hw5, ht5, hkf⟩
          obtain ⟨gk', hgk'⟩ : ∃ g, gk = g + 1 := ⟨gk - 1, by omega⟩
          have R := hide (show WkAt w5 w.heap.size (w.heap.size + 2) b w.heap.size bn on x.cells.length v5 M4 S5 ∧ WtAt w5 w.heap.size (w.heap.size + 2) w.heap.size (w.heap.size + 1) bn on v5 f4 g4 ∧ CurH x t bn on (3 * x.cells.length + 1) gk' M4 S5 g4 ∧ Ext w w5 from by
            refine ⟨hw5, (unhide T4).step hkf, ⟨by omega, fun k => ?_, ?_⟩, (unhide W4).kext hkf X4⟩
            · have := (unhide I4).2.2 k
              have := unhide LEN k
              omega
            · have hI := (unhide I4).1
              have wg : 2 * (x.cells.length - M4.length) + S4.length ≤ 2 * (x.cells.length - Mt.length) + St.length := by
                have a1 := (unhide G3).w
                have a2 := (unhide I4).2.1.w
                have a3 := (unhide W4).len
                have a4 := (unhide W3).len
                have a5 := (unhide G3).l
                have a6 := (unhide I4).2.1.l
                omega
              rcases unhide ht5 with ⟨e, e1, e2⟩ | ⟨i, e, e1⟩
              · rw [e1] at hI
                exact .inl ⟨e, e2, hI⟩
              · have hm : i ∈ M4 := (unhide W4).sub i (by rw [e1]; simp)
                rw [e1] at hI wg
                simp only [List.length_append, List.length_singleton] at wg
                exact .inr ⟨i, e, hm, hI.take, by omega⟩)
          have G := hide hgk'
          clear hw5 ht5 hkf W4 T4 I4 X4 hgk'
          go_wp2_with fail
          go_roundg gk'
          case measure => have := unhide G; omega
          case rel => exact ⟨v5, M4, S5, f4, g4, (unhide R).1, (unhide R).2.1, (unhide R).2.2.1, (unhide R).2.2.2⟩
end Go.Proofs.YtddkhnclmeikfacGreat
