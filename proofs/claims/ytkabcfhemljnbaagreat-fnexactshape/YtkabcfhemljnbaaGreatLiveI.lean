import Derived.Test.YtkabcfhemljnbaaGreatWk3
import Derived.Test.YtkabcfhemljnbaaGreatL2e
import Derived.Deep.LoopGhost
import Derived.Test.YtkabcfhemljnbaaGreatShelf
import Derived.Shelf.SlSortCmp.NoneTotal
namespace Go.Proofs.YtkabcfhemljnbaaGreat
open Go.RowKit
attribute [local go_sem ↓] Go.wp_at_zero Go.wp_at_succ

set_option maxRecDepth 100000 in
set_option maxHeartbeats 2000000 in
theorem sum_any (x : Hp) (b r1 : Nat) (Mt : List Nat) (w : World) {ar : Option Addr} {kr : Nat} {ac : Option Addr} {kc : Nat} {ag : Option Addr} {kg : Nat} {kn : Nat} (bn on : Nat) (h : VAt w b x ar kr ac kc ag kg (some ⟨bn, on, none⟩) kn) (hm : MapAt w r1 bn (Mt.map (fun i => on + i * 2))) (hr : r1 < w.heap.size) (hn8 : x.cells.length ≤ 8000) (h200 : ∀ i, i < x.cells.length → (x.c i).prs.length ≤ 200) :
    Calls Tryz.prog 64 #[.pointer (some ⟨b, 0, none⟩), .map (some r1)] w fun e w' => ∃ u : Nat, Hid (e = .returned (.int .i64 (u : Int))) ∧ Hid (u = sumTo x (fun i => decide (i ∈ Mt)) x.cells.length) ∧ Ext w w' := by
  have n13 := h.n13
  have HV := hide h
  have HM := hide hm
  have HL := hide (fun k hk => sumTo_le (p := fun i => decide (i ∈ Mt)) h200 k hk)
  clear h hm
  go_enter Tryz.func64, Tryz.ntmps64
  go_wp2_with fail
  go_loopw [5, 13] (fun n i wr => ∃ (k u : Nat), k ≤ x.cells.length ∧ i = .int .i64 k ∧ n = .int .i64 u ∧ Hid (u = sumTo x (fun i => decide (i ∈ Mt)) k) ∧ Ext w wr) (fun _ i _ => x.cells.length - (intOf i).toNat)
  case atStart => exact ⟨0, 0, Nat.zero_le _, rfl, rfl, rfl, Ext.refl w⟩
  case round =>
    clear n13
    obtain ⟨k, u, hk, rfl, rfl, hu, hbl⟩ := hrel
    have hul : u ≤ 201 * k := by have := unhide hu; rw [this]; exact unhide HL k hk
    by_cases hlt : k < x.cells.length
    · have hh := (unhide HV).ext hbl
      have n13 := hh.n13
      have hl := h200 k hlt
      have hk0 : (0:Int) ≤ (k:Int) := by omega
      have hk1 : (k:Int) < (x.cells.length:Int) := by omega
      have M2 := hide ((unhide HM).block (hbl.block r1 hr))
      clear hh
      go_wp2_with fail
      refine (has_any r1 bn (on + k * 2) _ _ (unhide M2)).mono ?_
      rintro e w1 ⟨rfl, hq⟩
      have x2 := hbl.trans hq
      clear n13
      by_cases tp : k ∈ Mt
      · have E : decide (on + k * 2 ∈ Mt.map (fun i => on + i * 2)) = true := decide_eq_true (mem_off.2 tp)
        rw [E]
        clear E
        have U2 := hide (show u + (1 + (x.c k).prs.length) = sumTo x (fun i => decide (i ∈ Mt)) (k + 1) by have := unhide hu; simp only [sumTo, decide_eq_true tp]; simp; omega)
        obtain ⟨b', o, ap, kp, e1, p0, p1, p2, p3, p4, p5, p6, p7, lp, P⟩ := ((unhide HV).ext x2).H.cell k hlt
        obtain ⟨bn', on', bc, oc, e2, e3, m0, m1⟩ := ((unhide HV).ext x2).N k hlt
        rw [e1] at e3
        cases e2; cases e3
        clear P p0 p1 p2 p3 p4 p5 p6 tp e1
        go_wp2_with fail
        refine (units_any (x.c k) bn (on + k * 2) _ _ ap kp _ m1 p7 lp).mono ?_
        rintro e w2 ⟨rfl, rfl⟩
        go_wp2_with fail
        go_roundw
        case rel => exact ⟨k + 1, u + (1 + (x.c k).prs.length), by omega, by go_num, by go_num, unhide U2, x2⟩
        case measure => simp [intOf]; omega
      · have E : decide (on + k * 2 ∈ Mt.map (fun i => on + i * 2)) = false := decide_eq_false (fun f => tp (mem_off.1 f))
        rw [E]
        clear E
        have U2 := hide (show u = sumTo x (fun i => decide (i ∈ Mt)) (k + 1) by have := unhide hu; simp only [sumTo, decide_eq_false tp]; simp; exact this)
        clear tp
        go_wp2_with fail
        go_roundw
        case rel => exact ⟨k + 1, u, by omega, by go_num, rfl, unhide U2, x2⟩
        case measure => simp [intOf]; omega
    · have hk2 : k = x.cells.length := by omega
      have U := hide (show u = sumTo x (fun i => decide (i ∈ Mt)) x.cells.length by have := unhide hu; rw [hk2] at this; exact this)
      clear hk2
      go_wp2_with fail
      go_ret
      exact ⟨u, rfl, unhide U, hbl⟩
end Go.Proofs.YtkabcfhemljnbaaGreat

namespace Go.Proofs.YtkabcfhemljnbaaGreat
open Go.RowKit
attribute [local go_sem ↓] Go.wp_at_zero Go.wp_at_succ

/-- the row of those that speak, apart from what the walk turns -/
def SpAt (w : World) (g : Option Addr) (bw r1 : Nat) (v : Value) (bn on : Nat) (Ls : List Nat) : Prop := ∀ k (h : k < Ls.length), ∃ gb go, g = some ⟨gb, go, none⟩ ∧ w.cell? ⟨gb, go + k, none⟩ = some (ptr bn (on + Ls[k] * 2)) ∧ gb ≠ bw ∧ gb ≠ r1 ∧ v.ownBlock ≠ some gb
theorem SpAt.ext {w w' : World} {g : Option Addr} {bw r1 : Nat} {v : Value} {bn on : Nat} {Ls : List Nat} (h : SpAt w g bw r1 v bn on Ls) (e : Ext w w') : SpAt w' g bw r1 v bn on Ls := fun k hk => by
  obtain ⟨gb, go, a, c, d⟩ := h k hk
  exact ⟨gb, go, a, e.keep c, d⟩
theorem SpAt.step {w w' : World} {g : Option Addr} {bw r1 : Nat} {v v' : Value} {bn on : Nat} {Ls : List Nat} (h : SpAt w g bw r1 v bn on Ls) (f : KFr bw r1 v v' w w') : SpAt w' g bw r1 v' bn on Ls := fun k hk => by
  obtain ⟨gb, go, a, c, d1, d2, d3⟩ := h k hk
  have hl : gb < w.heap.size := cell_lt c
  refine ⟨gb, go, a, (World.cell?_of_block (a := ⟨gb, go + k, none⟩) (f.block gb hl d1 d2 d3)).trans c, d1, d2, fun e => ?_⟩
  rcases f.own with q | ⟨y, q, hy⟩
  · rw [q] at e; exact d3 e
  · rw [q] at e; cases e; omega

/-- what speakers answers -/
def SpAns (x : Hp) (w w' : World) (g : Option Addr) (bn on : Nat) (Ls : List Nat) : Prop := (∀ k (h : k < Ls.length), ∃ gb go, g = some ⟨gb, go, none⟩ ∧ w'.cell? ⟨gb, go + k, none⟩ = some (ptr bn (on + Ls[k] * 2)) ∧ w.heap.size ≤ gb) ∧ Ls.length ≤ 8000 ∧ (∀ i, i ∈ Ls ↔ i < x.cells.length ∧ Speaks (x.c i))
theorem SpAns.at {x : Hp} {w w' : World} {g : Option Addr} {base bw bv r1 bn on : Nat} {v : Value} {Mt St Ls : List Nat} (h : SpAns x w w' g bn on Ls) (k : WkAt w base bw bv r1 bn on x.cells.length v Mt St) : SpAt w' g bw r1 v bn on Ls := fun i hi => by
  obtain ⟨gb, go, a, c, d⟩ := h.1 i hi
  have := k.rlt
  exact ⟨gb, go, a, c, by omega, by omega, fun e => by have := (k.s.lt gb e).2; omega⟩

theorem next_any (base bw bv r1 bn on n : Nat) (v : Value) (Mt St : List Nat) (w : World) (h : WkAt w base bw bv r1 bn on n v Mt St) (hn8 : n ≤ 8000) :
    Calls Tryz.prog 105 #[.pointer (some ⟨bw, 0, none⟩)] w fun e w' => ∃ t v' St', Hid (e = .returned t) ∧ WkAt w' base bw bv r1 bn on n v' Mt St' ∧ Hid ((t = .pointer none ∧ St = [] ∧ St' = []) ∨ ∃ j, t = ptr bn (on + j * 2) ∧ St = St' ++ [j]) ∧ KFr bw r1 v v' w w' := by
  rcases St.eq_nil_or_concat with q | ⟨S, j, q⟩
  · subst q
    exact (next_none base bw bv r1 bn on n v Mt w h).mono fun _ _ ⟨he, hw⟩ => by subst hw; exact ⟨_, v, [], he, h, .inl ⟨rfl, rfl, rfl⟩, KFr.of_ext (Ext.refl _)⟩
  · rw [List.concat_eq_append] at q
    subst q
    exact (next_some base bw bv r1 bn on n j v Mt S w h hn8).mono fun _ _ ⟨he, v', hw, hk⟩ => ⟨_, v', S, he, hw, .inr ⟨j, rfl, rfl⟩, hk⟩

def LastN (x : Hp) (Mt : List Nat) : Prop := ∀ i, i < x.cells.length → Speaks (x.c i) → i ∈ Mt
/-- the pairs of i below l are gone through -/
def ClosedToN (x : Hp) (Mt : List Nat) (i l : Nat) : Prop := ∀ p, p < (x.c i).prs.length → p < l → (((x.c i).p p).key.k = 2 → tgt x ((x.c i).p p).key ∈ Mt) ∧ (((x.c i).p p).val.k = 2 → tgt x ((x.c i).p p).val ∈ Mt)
def ClosedN (x : Hp) (Mt : List Nat) (i : Nat) : Prop := ClosedToN x Mt i (x.c i).prs.length
theorem ClosedToN.sub {x : Hp} {Mt Mt' : List Nat} {i l : Nat} (h : ClosedToN x Mt i l) (s : ∀ i, i ∈ Mt → i ∈ Mt') : ClosedToN x Mt' i l := fun p h1 h2 => ⟨fun e => s _ ((h p h1 h2).1 e), fun e => s _ ((h p h1 h2).2 e)⟩
/-- the walk between two cells: cur is the one at hand -/
structure InvR (x : Hp) (Mt St : List Nat) (cur : Option Nat) : Prop where
  only : OnlyN x Mt
  regs : RegsN x x.regs.length Mt
  last : LastN x Mt
  part : ∀ i, i ∈ Mt → i ∈ St ∨ cur = some i ∨ ClosedN x Mt i
theorem InvR.done {x : Hp} {Mt : List Nat} (h : InvR x Mt [] none) (i : Nat) : i ∈ Mt ↔ Reached x i := by
  constructor
  · exact h.only i
  · intro r
    have cl : ∀ j, j ∈ Mt → ClosedN x Mt j := fun j hj => by
      rcases h.part j hj with q | q | q
      · cases q
      · cases q
      · exact q
    exact r (fun i => i ∈ Mt) (fun k hk hk2 => h.regs k hk hk hk2) (fun i hi _ hsp => h.last i hi hsp) (fun j p ih hp hk => (cl j ih p hp hp).1 hk) (fun j p ih hp hk => (cl j ih p hp hp).2 hk)
theorem InvR.add {x : Hp} {y : Wd} {Mt Mt' St St' : List Nat} {cur : Option Nat} (h : InvR x Mt St cur) (a : AddN x y Mt Mt' St St') (hy : y.k = 2 → Reached x (tgt x y)) : InvR x Mt' St' cur :=
  ⟨h.only.add a hy, fun j hj hjk e => a.sub.1 _ (h.regs j hj hjk e), fun i hi hs => a.sub.1 _ (h.last i hi hs), fun i hi => by
    rcases a.new hi with q | ⟨_, _, q⟩
    · rcases h.part i q with r | r | r
      · exact .inl (a.sub.2 i r)
      · exact .inr (.inl r)
      · exact .inr (.inr (r.sub a.sub.1))
    · exact .inl q⟩
theorem InvR.shut {x : Hp} {Mt St : List Nat} {j : Nat} (h : InvR x Mt St (some j)) (c : ClosedN x Mt j) : InvR x Mt St none :=
  ⟨h.only, h.regs, h.last, fun i hi => by
    rcases h.part i hi with r | r | r
    · exact .inl r
    · cases r; exact .inr (.inr c)
    · exact .inr (.inr r)⟩
theorem InvR.take {x : Hp} {Mt St : List Nat} {j : Nat} (h : InvR x Mt (St ++ [j]) none) : InvR x Mt St (some j) :=
  ⟨h.only, h.regs, h.last, fun i hi => by
    rcases h.part i hi with r | r | r
    · rcases List.mem_append.1 r with q | q
      · exact .inl q
      · simp at q; exact .inr (.inl (by rw [q]))
    · cases r
    · exact .inr (.inr r)⟩
end Go.Proofs.YtkabcfhemljnbaaGreat

namespace Go.Proofs.YtkabcfhemljnbaaGreat
open Go.RowKit
attribute [local go_sem ↓] Go.wp_at_zero Go.wp_at_succ

theorem OnlyN.meet {x : Hp} {Mt Mt' St St' : List Nat} {i : Nat} (h : OnlyN x Mt) (hi : Reached x i) (a : (i ∈ Mt ∧ Mt' = Mt ∧ St' = St) ∨ (¬ i ∈ Mt ∧ Mt' = Mt ++ [i] ∧ St' = St ++ [i])) : OnlyN x Mt' ∧ (∀ j, j ∈ Mt → j ∈ Mt') ∧ i ∈ Mt' ∧ ((∀ i, i ∈ Mt → i ∈ St) → (∀ i, i ∈ Mt' → i ∈ St')) := by
  rcases a with ⟨m, rfl, rfl⟩ | ⟨m, rfl, rfl⟩
  · exact ⟨h, fun j hj => hj, m, fun q => q⟩
  · refine ⟨fun j hj => ?_, fun j hj => List.mem_append_left _ hj, by simp, fun q j hj => ?_⟩
    · rcases List.mem_append.1 hj with q | q
      · exact h j q
      · simp at q; rw [q]; exact hi
    · rcases List.mem_append.1 hj with r | r
      · exact List.mem_append_left _ (q j r)
      · exact List.mem_append_right _ r

/-- the program's walk stands at cur, before so many steps -/
def Cur (x : Hp) (n : Nat) (t : Value) (bn on gk : Nat) (Mt St : List Nat) : Prop := (t = .pointer none ∧ St = [] ∧ InvR x Mt [] none) ∨ ∃ j, t = ptr bn (on + j * 2) ∧ j ∈ Mt ∧ InvR x Mt St (some j) ∧ 2 * (n - Mt.length) + St.length + 1 ≤ gk

set_option maxRecDepth 100000 in
set_option maxHeartbeats 2000000 in
theorem reached_any (x : Hp) (b : Nat) (w : World) {ar : Option Addr} {kr : Nat} {ac : Option Addr} {kc : Nat} {ag : Option Addr} {kg : Nat} {kn : Nat} (bn on : Nat) (h : VAt w b x ar kr ac kc ag kg (some ⟨bn, on, none⟩) kn) (r2 : R2 x) (r4 : R4 x) (hn8 : x.cells.length ≤ 8000) (h200 : ∀ i, i < x.cells.length → (x.c i).prs.length ≤ 200)
    (hsp : ∀ w1, VAt w1 b x ar kr ac kc ag kg (some ⟨bn, on, none⟩) kn → Calls Tryz.prog 103 #[.pointer (some ⟨b, 0, none⟩)] w1 fun e w' => ∃ (g : Option Addr) (cap : Nat) (Ls : List Nat), Hid (e = .returned (.slice g Ls.length cap)) ∧ Hid (SpAns x w1 w' g bn on Ls) ∧ Ext w1 w') :
    Calls Tryz.prog 54 #[.pointer (some ⟨b, 0, none⟩)] w fun e w' => e = .returned (Value.map (some w.heap.size)) ∧ ∃ Mt : List Nat, MapAt w' w.heap.size bn (Mt.map (fun i => on + i * 2)) ∧ w.heap.size < w'.heap.size ∧ Hid (∀ i, i ∈ Mt ↔ Reached x i) ∧ Ext w w' := by
  have HV := hide h
  have Q2 := hide r2
  have Q4 := hide r4
  have SP := hide hsp
  clear h r2 r4 hsp
  go_enter Tryz.func54, Tryz.ntmps54
  go_wp2_with fail
  refine (walk_any x b _ bn on (unhide HV) (unhide Q2) (unhide Q4) hn8).mono ?_
  rintro e w1 ⟨rfl, v1, M1, S1, hw1, i1, x1⟩
  have W1 := hide hw1
  clear hw1
  go_wp2_with fail
  refine ((unhide SP) _ ((unhide HV).ext x1)).mono ?_
  rintro e w2 ⟨g, cap, Ls, rfl, hans, x12⟩
  have x2 := x1.trans x12
  have A0 := hide (And.intro ((unhide W1).ext x12) ((unhide hans).at (unhide W1)))
  have hLs : Ls.length ≤ 8000 := (unhide hans).2.1
  have LI := hide (unhide hans).2.2
  clear W1 hans x12
  go_wp2_with fail
  go_loopw [14] (fun i wr => ∃ (k : Nat) (v : Value) (Mt St : List Nat), k ≤ Ls.length ∧ i = .int .i64 k ∧ WkAt wr w.heap.size (w.heap.size + 2) b w.heap.size bn on x.cells.length v Mt St ∧ Hid (OnlyN x Mt ∧ RegsN x x.regs.length Mt ∧ (∀ i, i ∈ Mt → i ∈ St) ∧ ∀ j (h : j < Ls.length), j < k → Ls[j] ∈ Mt) ∧ Hid (SpAt wr g (w.heap.size + 2) w.heap.size v bn on Ls) ∧ Ext w wr) (fun i _ => Ls.length - (intOf i).toNat)
  case atStart => exact ⟨0, v1, M1, S1, Nat.zero_le _, rfl, (unhide A0).1, ⟨(unhide i1).1, (unhide i1).2.1, (unhide i1).2.2, fun j _ hj => by omega⟩, (unhide A0).2, x2⟩
  case round =>
    clear A0 i1 x1 x2
    obtain ⟨k, v, Mt, St, hk, rfl, hw, hinv, hsa, hbl⟩ := hrel
    have HW := hide hw
    clear hw
    by_cases hlt : k < Ls.length
    · obtain ⟨gb, go, hg, gc, g1, g2, g3⟩ := unhide hsa k hlt
      subst hg
      have hk0 : (0:Int) ≤ (k:Int) := by omega
      have hk1 : (k:Int) < (Ls.length:Int) := by omega
      have HI := hide ((unhide LI Ls[k]).1 (List.getElem_mem hlt))
      clear g1 g2 g3
      go_wp2_with fail
      refine (meet_any w.heap.size (w.heap.size + 2) b w.heap.size bn on x.cells.length Ls[k] v Mt St _ (unhide HW) (unhide HI).1 hbl.size hn8).mono ?_
      rintro e w3 ⟨rfl, v', M', S', hw3, ha, hkf⟩
      have R := hide (show WkAt w3 w.heap.size (w.heap.size + 2) b w.heap.size bn on x.cells.length v' M' S' ∧ (OnlyN x M' ∧ RegsN x x.regs.length M' ∧ (∀ i, i ∈ M' → i ∈ S') ∧ ∀ j (h : j < Ls.length), j < k + 1 → Ls[j] ∈ M') ∧ SpAt w3 (some ⟨gb, go, none⟩) (w.heap.size + 2) w.heap.size v' bn on Ls ∧ Ext w w3 from by
        have hq := (unhide hinv).1.meet (Reached.last Ls[k] (unhide HI).1 (speaks_used (unhide Q2) _ (unhide HI).1 (unhide HI).2) (unhide HI).2) (unhide ha)
        refine ⟨hw3, ⟨hq.1, fun j hj hjk e => hq.2.1 _ ((unhide hinv).2.1 j hj hjk e), hq.2.2.2 (unhide hinv).2.2.1, fun j hj hjk => ?_⟩, (unhide hsa).step hkf, (unhide HW).kext hkf hbl⟩
        by_cases q : j = k
        · subst q; exact hq.2.2.1
        · exact hq.2.1 _ ((unhide hinv).2.2.2 j hj (by omega)))
      clear hw3 ha hkf gc
      go_wp2_with fail
      go_roundw
      case rel => exact ⟨k + 1, v', M', S', by omega, by go_num, (unhide R).1, (unhide R).2.1, (unhide R).2.2.1, (unhide R).2.2.2⟩
      case measure => simp [intOf]; omega
    · have hk2 : k = Ls.length := by omega
      have I0 := hide (show InvR x Mt St none from ⟨(unhide hinv).1, (unhide hinv).2.1, fun i hi hs => by
        obtain ⟨j, hj, e⟩ := List.getElem_of_mem ((unhide LI i).2 ⟨hi, hs⟩)
        have := (unhide hinv).2.2.2 j hj (by omega)
        rw [e] at this; exact this, fun i hi => .inl ((unhide hinv).2.2.1 i hi)⟩)
      clear hinv hsa LI hk2
      go_wp2_with fail
      refine (next_any w.heap.size (w.heap.size + 2) b w.heap.size bn on x.cells.length v Mt St _ (unhide HW) hn8).mono ?_
      rintro e w3 ⟨t, v3, S3, rfl, hw3, ht, hkf⟩
      have hle := (unhide HW).len
      have R := hide (show WkAt w3 w.heap.size (w.heap.size + 2) b w.heap.size bn on x.cells.length v3 Mt S3 ∧ Cur x x.cells.length t bn on (3 * x.cells.length + 1) Mt S3 ∧ Ext w w3 from by
        refine ⟨hw3, ?_, (unhide HW).kext hkf hbl⟩
        rcases unhide ht with ⟨e, e1, e2⟩ | ⟨j, e, e1⟩
        · have := unhide I0
          rw [e1] at this
          exact .inl ⟨e, e2, this⟩
        · have hI := unhide I0
          rw [e1] at hI
          have hl := hw3.len
          exact .inr ⟨j, e, (unhide HW).sub j (by rw [e1]; simp), hI.take, by omega⟩)
      clear hw3 ht hkf HW I0 hle hbl
      go_wp2_with fail
      go_loopg [6] (3 * x.cells.length + 1) (fun gk t wr => ∃ (v : Value) (Mt St : List Nat), WkAt wr w.heap.size (w.heap.size + 2) b w.heap.size bn on x.cells.length v Mt St ∧ Hid (Cur x x.cells.length t bn on gk Mt St) ∧ Ext w wr)
      case atStart => exact ⟨v3, Mt, S3, (unhide R).1, (unhide R).2.1, (unhide R).2.2⟩
      case round =>
        clear R
        obtain ⟨v, Mt, St, hw, hcur, hbl⟩ := hrel
        have HW := hide hw
        rcases unhide hcur with ⟨rfl, rfl, hI⟩ | ⟨j, rfl, hj, hI, hgk⟩
        · have c1 := hw.c1
          have F := hide (And.intro hw.m (And.intro hw.rlt.2 hI.done))
          clear hw hcur hI
          go_wp2_with fail
          go_ret
          exact ⟨rfl, Mt, (unhide F).1, (unhide F).2.1, (unhide F).2.2, hbl⟩
        · have hjn : j < x.cells.length := hw.rg j hj
          have GD := hide ((hI.only j hj).good (unhide Q2) (unhide Q4))
          have RJ := hide (hI.only j hj)
          obtain ⟨bc, oc, ap, kp, e1, C⟩ := (unhide HV).H.cell j hjn
          obtain ⟨bn', on', bc', oc', e2, e3, m0, m1'⟩ := (unhide HV).N j hjn
          rw [e1] at e3
          cases e2; cases e3
          have p7 := hbl.keep C.p7
          have m1 := hbl.keep m1'
          have lp := C.lp
          have h2 := h200 j hjn
          have HP := hide C.P
          have I1 := hide (And.intro hI hgk)
          have B0 := hide hbl
          obtain ⟨WO, hWO⟩ : ∃ W, W = wr := ⟨_, rfl⟩
          subst hWO
          clear C m0 m1' hw hcur hI hgk e1 hbl
          go_wp2_with fail
          go_loopw [36] (fun i wi => ∃ (l : Nat) (v : Value) (Mt St : List Nat), l ≤ (x.c j).prs.length ∧ i = .int .i64 l ∧ WkAt wi w.heap.size (w.heap.size + 2) b w.heap.size bn on x.cells.length v Mt St ∧ Hid (InvR x Mt St (some j) ∧ ClosedToN x Mt j l ∧ 2 * (x.cells.length - Mt.length) + St.length + 1 ≤ gk) ∧ Ext w wi) (fun i _ => (x.c j).prs.length - (intOf i).toNat)
          case atStart => exact ⟨0, v, Mt, St, Nat.zero_le _, rfl, unhide HW, ⟨(unhide I1).1, (fun p _ h => by omega), (unhide I1).2⟩, unhide B0⟩
          case round =>
            clear HW I1 B0 p7 m1 hj
            clear v Mt St
            obtain ⟨l, v, Mt, St, hl, rfl, hw, hinv, hbl⟩ := hrel
            have HW := hide hw
            clear hw
            by_cases hl2 : l < (x.c j).prs.length
            · obtain ⟨b2, o2, rfl, q0, q1, q2, q3, q4, q5⟩ := unhide HP l hl2
              have e0 := hbl.keep q0
              have e1 := hbl.keep q1
              have e2 := hbl.keep q2
              have e3 := hbl.keep q3
              have e4 := hbl.keep q4
              have e5 := hbl.keep q5
              have hb2 : b2 < wr.heap.size := cell_lt e0
              clear q0 q1 q2 q3 q4 q5
              have hl0 : (0:Int) ≤ (l:Int) := by omega
              have hl1 : (l:Int) < ((x.c j).prs.length:Int) := by omega
              have xa := (Ext.refl wr).alloc (.cells #[.int .i64 ((x.c j).p l).key.k, .int .i64 ((x.c j).p l).key.n, .int .i64 ((x.c j).p l).key.a, .int .i64 ((x.c j).p l).val.k, .int .i64 ((x.c j).p l).val.n, .int .i64 ((x.c j).p l).val.a] 123)
              have MK := hide (may_pair (unhide Q2) (unhide Q4) j l (unhide GD) hl2)
              go_wp2_with fail
              refine (follow_any x ((x.c j).p l).key b _ bn on ((unhide HV).ext (hbl.trans xa)) (unhide Q2) (unhide MK).1).mono ?_
              rintro e w2 ⟨t2, rfl, ht2, hq2⟩
              have x2 := xa.trans hq2
              have HT := hide ht2
              have u := fun (o : Nat) (v : Value) (hc : (wr.alloc (.cells #[.int .i64 ((x.c j).p l).key.k, .int .i64 ((x.c j).p l).key.n, .int .i64 ((x.c j).p l).key.a, .int .i64 ((x.c j).p l).val.k, .int .i64 ((x.c j).p l).val.n, .int .i64 ((x.c j).p l).val.a] 123)).cell? ⟨wr.heap.size, o, none⟩ = some v) => hq2.keep hc
              have u3 := u 3 _ (by simp [go_sem]; rfl)
              have u4 := u 4 _ (by simp [go_sem]; rfl)
              have u5 := u 5 _ (by simp [go_sem]; rfl)
              clear u ht2 e0 e1 e2 e3 e4 e5 hq2
              go_wp2_with fail
              refine (meet_word x ((x.c j).p l).key w.heap.size (w.heap.size + 2) b w.heap.size bn on t2 v Mt St _ ((unhide HW).ext x2) (unhide MK).1 (unhide HT) (hbl.trans x2).size hn8).mono ?_
              rintro e w3 ⟨rfl, v3, M3, S3, hw3, ha3, hk3⟩
              have hlt2 : wr.heap.size < w2.heap.size := cell_lt u3
              have sep : wr.heap.size ≠ w.heap.size + 2 ∧ wr.heap.size ≠ w.heap.size ∧ v.ownBlock ≠ some wr.heap.size := by
                have := (unhide HW).rlt
                exact ⟨by omega, by omega, fun e => by have := ((unhide HW).s.lt _ e).2; omega⟩
              have kb := hk3.block wr.heap.size hlt2 sep.1 sep.2.1 sep.2.2
              have y3 := (World.cell?_of_block (a := ⟨wr.heap.size, 3, none⟩) kb).trans u3
              have y4 := (World.cell?_of_block (a := ⟨wr.heap.size, 4, none⟩) kb).trans u4
              have y5 := (World.cell?_of_block (a := ⟨wr.heap.size, 5, none⟩) kb).trans u5
              have B3 := ((unhide HW).ext x2).kext hk3 (hbl.trans x2)
              have W3 := hide hw3
              have A3 := hide (And.intro ((unhide hinv).1.add (unhide ha3) (fun e => Reached.key j l (unhide RJ) hl2 e)) (And.intro ((unhide hinv).2.1.sub (unhide ha3).sub.1) (And.intro ((unhide ha3).has) (show 2 * (x.cells.length - M3.length) + S3.length + 1 ≤ gk by have := (unhide ha3).weigh; have := (unhide hinv).2.2; have := hw3.len; omega))))
              clear hw3 ha3 hk3 u3 u4 u5 kb sep hlt2 hinv HW HT x2 xa
              go_wp2_with fail
              refine (follow_any x ((x.c j).p l).val b _ bn on ((unhide HV).ext B3) (unhide Q2) (unhide MK).2).mono ?_
              rintro e w4 ⟨t4, rfl, ht4, hq4⟩
              have HT := hide ht4
              clear ht4
              go_wp2_with fail
              refine (meet_word x ((x.c j).p l).val w.heap.size (w.heap.size + 2) b w.heap.size bn on t4 v3 M3 S3 _ ((unhide W3).ext hq4) (unhide MK).2 (unhide HT) (B3.trans hq4).size hn8).mono ?_
              rintro e w5 ⟨rfl, v5, M5, S5, hw5, ha5, hk5⟩
              have B5 := ((unhide W3).ext hq4).kext hk5 (B3.trans hq4)
              have W5 := hide hw5
              have A5 := hide (show InvR x M5 S5 (some j) ∧ ClosedToN x M5 j (l + 1) ∧ 2 * (x.cells.length - M5.length) + S5.length + 1 ≤ gk from
                ⟨(unhide A3).1.add (unhide ha5) (fun e => Reached.val j l (unhide RJ) hl2 e), fun p hp hpl => by
                  by_cases q : p = l
                  · subst q
                    exact ⟨fun e => (unhide ha5).sub.1 _ ((unhide A3).2.2.1 e), (unhide ha5).has⟩
                  · exact ((unhide A3).2.1.sub (unhide ha5).sub.1) p hp (by omega), by have := (unhide ha5).weigh; have := (unhide A3).2.2.2; have := hw5.len; omega⟩)
              clear hw5 ha5 hk5 y3 y4 y5 A3 W3 hq4 B3 HT
              go_wp2_with fail
              go_roundw
              case rel => exact ⟨l + 1, v5, M5, S5, by omega, by go_num, unhide W5, unhide A5, B5⟩
              case measure => simp [intOf]; omega
            · have hl3 : l = (x.c j).prs.length := by omega
              have I2 := hide (And.intro ((unhide hinv).1.shut (by have := (unhide hinv).2.1; rw [hl3] at this; exact this)) (unhide hinv).2.2)
              clear hl3 hinv
              go_wp2_with fail
              refine (next_any w.heap.size (w.heap.size + 2) b w.heap.size bn on x.cells.length v Mt St _ (unhide HW) hn8).mono ?_
              rintro e w3 ⟨t, v3, S3, rfl, hw3, ht, hkf⟩
              obtain ⟨gk', hgk⟩ : ∃ g, gk = g + 1 := ⟨gk - 1, by have := (unhide I2).2; omega⟩
              have R := hide (show WkAt w3 w.heap.size (w.heap.size + 2) b w.heap.size bn on x.cells.length v3 Mt S3 ∧ Cur x x.cells.length t bn on gk' Mt S3 ∧ Ext w w3 from by
                refine ⟨hw3, ?_, (unhide HW).kext hkf hbl⟩
                have hI := unhide I2
                rcases unhide ht with ⟨e, e1, e2⟩ | ⟨j, e, e1⟩
                · rw [e1] at hI
                  exact .inl ⟨e, e2, hI.1⟩
                · have hm : j ∈ Mt := (unhide HW).sub j (by rw [e1]; simp)
                  rw [e1] at hI
                  have hl := hI.2
                  simp only [List.length_append, List.length_singleton] at hl
                  exact .inr ⟨j, e, hm, hI.1.take, by omega⟩)
              have G := hide hgk
              clear hw3 ht hkf HW I2 hbl hgk
              go_wp2_with fail
              go_roundg gk'
              case measure => have := unhide G; omega
              case rel => exact ⟨v3, Mt, S3, (unhide R).1, (unhide R).2.1, (unhide R).2.2⟩
end Go.Proofs.YtkabcfhemljnbaaGreat

namespace Go.Proofs.YtkabcfhemljnbaaGreat
open Go.RowKit
attribute [local go_sem ↓] Go.wp_at_zero Go.wp_at_succ

set_option maxHeartbeats 1000000 in
theorem spk_closure (x y : Int) (bn q1 q2 bc r1 r2 : Nat) (W : World) (m1 : W.cell? ⟨bn, q1 + 1, none⟩ = some (ptr bc r1)) (c1 : W.cell? ⟨bc, r1 + 4, none⟩ = some (iv x)) (m2 : W.cell? ⟨bn, q2 + 1, none⟩ = some (ptr bc r2)) (c2 : W.cell? ⟨bc, r2 + 4, none⟩ = some (iv y)) :
    Calls Tryz.prog 153 #[ptr bn q1, ptr bn q2] W fun e w' => e = .returned (.int .i64 (Lib.compareInt x y)) ∧ ∃ q, w' = W.drewN q := by
  have hcon := fun W => AnyG.cmp_Compare_int Tryz.cmpL x y W
  change ∀ W, Calls Tryz.prog 154 _ _ _ at hcon
  generalize Lib.compareInt x y = r at hcon ⊢
  have HC := hide hcon
  clear hcon
  go_enter Tryz.func153, Tryz.ntmps153
  go_wp2_with fail
  go_quiet ((go_at_call 154; exact Calls.quiet_of_same (unhide HC _)))
  go_wp2_with fail
  go_ret
  exact ⟨rfl, _, rfl⟩
end Go.Proofs.YtkabcfhemljnbaaGreat

namespace Go.Proofs.YtkabcfhemljnbaaGreat
open Go.RowKit Go.Lib Go.Sort Go.Shelf
def clN (n i : Nat) : Nat := if i < n then i else 0
theorem clN_lt {n i : Nat} (h : i < n) : clN n i = i := by simp [clN, h]
theorem clN_ok {n i : Nat} (h : 0 < n) : clN n i < n := by unfold clN; split <;> omega
def encN (bn on n i : Nat) : Value := ptr bn (on + clN n i * 2)
def cfN (x : Hp) (i j : Nat) : Int := Lib.compareInt (x.c (clN x.cells.length i)).born (x.c (clN x.cells.length j)).born
theorem ltN (x : Hp) (i j : Nat) : ltOf (cfN x) i j = decide ((x.c (clN x.cells.length i)).born < (x.c (clN x.cells.length j)).born) := by
  unfold ltOf cfN Lib.compareInt
  by_cases h1 : (x.c (clN x.cells.length i)).born < (x.c (clN x.cells.length j)).born
  · simp [h1]
  · by_cases h2 : (x.c (clN x.cells.length j)).born < (x.c (clN x.cells.length i)).born <;> simp [h1, h2]
theorem swoN (x : Hp) : SWO (ltOf (cfN x)) := {
  irrefl := fun i => by rw [ltN]; simp
  trans := fun i j k h1 h2 => by rw [ltN] at *; simp at *; omega
  ntrans := fun i j k h1 h2 => by rw [ltN] at *; simp at *; omega }

theorem block_sort {α : Type} [Inhabited α] (enc : α → Value) (w : World) (blk off m k : Nat) (d : Array α) (os : Array Obj) (hk : k ≠ blk) (hks : k < w.heap.size) : (sortWorld enc w blk off m d os).heap[k]? = w.heap[k]? := by
  have hs : (putRow enc (Sort.ahead w m) blk off d).heap.size = w.heap.size := by simp [putRow, mapBlock, Sort.ahead]
  show ((putRow enc (Sort.ahead w m) blk off d).heap ++ os)[k]? = w.heap[k]?
  rw [Array.getElem?_append_left (by omega)]
  show (w.heap.modify blk _)[k]? = w.heap[k]?
  rw [Array.getElem?_modify, if_neg (by omega)]
theorem below_sort {α : Type} [Inhabited α] (enc : α → Value) (w : World) (blk off m base : Nat) (d : Array α) (os : Array Obj) (hb : base ≤ blk) (hbs : base ≤ w.heap.size) : Go.RowKit.Below base w (sortWorld enc w blk off m d os) := by
  have hs : (putRow enc (Sort.ahead w m) blk off d).heap.size = w.heap.size := by simp [putRow, mapBlock, Sort.ahead]
  refine ⟨rfl, rfl, rfl, ?_, fun k hk => block_sort enc w blk off m k d os (by omega) (by omega)⟩
  simp [sortWorld, grow, hs]

/-- in the order of making -/
def SrtN (x : Hp) (L : List Nat) : Prop := ∀ i j (hi : i < L.length) (hj : j < L.length), i < j → (x.c L[i]).born ≤ (x.c L[j]).born

theorem sort_some (x : Hp) (b base g cap : Nat) (Ls : List Nat) (w : World) {ar : Option Addr} {kr : Nat} {ac : Option Addr} {kc : Nat} {ag : Option Addr} {kg : Nat} {kn : Nat} (bn on : Nat) (h : VAt w b x ar kr ac kc ag kg (some ⟨bn, on, none⟩) kn) (hbn : ∀ i, i < x.cells.length → ∃ bc oc, ac = some ⟨bc, oc, none⟩ ∧ bc < base ∧ bn < base) (hL : ∀ i, i ∈ Ls → i < x.cells.length) (hne : 0 < x.cells.length) (h8 : Ls.length ≤ 8000)
    (hc : ∀ j (hj : j < Ls.length), w.cell? ⟨g, j, none⟩ = some (ptr bn (on + Ls[j] * 2)) ∧ w.frozen? ⟨g, j, none⟩ = false) (hg : base ≤ g) (hgs : g < w.heap.size) (hbs : base ≤ w.heap.size) :
    Calls Tryz.prog 152 #[.slice (some ⟨g, 0, none⟩) Ls.length cap, .func (.func 153) #[] #[]] w fun e w' => e = .returned (.tuple #[]) ∧ ∃ Ls', Hid (List.Perm Ls' Ls) ∧ Hid (∀ j (hj : j < Ls'.length), w'.cell? ⟨g, j, none⟩ = some (ptr bn (on + Ls'[j] * 2))) ∧ Hid (SrtN x Ls') ∧ Go.RowKit.Below base w w' := by
  have eg : ∀ args w, (callFunc 153 args).run Tryz.prog w = .ok (.enter 153 args) w := enters_of Tryz.func153 (by kernel_rfl) rfl
  have hH : Holds (encN bn on x.cells.length) w g 0 Ls.toArray := fun j hj => by
    have hj' : j < Ls.length := by simpa using hj
    have := hc j hj'
    rw [getElem!_pos _ j hj]
    simp only [Nat.zero_add, encN, List.getElem_toArray]
    rw [clN_lt (hL _ (List.getElem_mem hj'))]
    exact this
  have hR : CmpReads Tryz.prog 153 #[] (encN bn on x.cells.length) (cfN x) g 0 Ls.toArray.size w := fun m os dk hdk i j => by
    obtain ⟨bc, oc, e0, l1, l2⟩ := hbn _ (clN_ok (i := i) hne)
    have key : ∀ i, (sortWorld (encN bn on x.cells.length) w g 0 m dk os).cell? ⟨bn, on + clN x.cells.length i * 2 + 1, none⟩ = some (ptr bc (oc + clN x.cells.length i * 8)) ∧ (sortWorld (encN bn on x.cells.length) w g 0 m dk os).cell? ⟨bc, oc + clN x.cells.length i * 8 + 4, none⟩ = some (iv (x.c (clN x.cells.length i)).born) := fun i => by
      obtain ⟨bn', on', bc', oc', a1, a2, _, a3⟩ := h.N _ (clN_ok (i := i) hne)
      obtain ⟨bc2, oc2, ap, kp, a4, C⟩ := h.H.cell _ (clN_ok (i := i) hne)
      rw [e0] at a2 a4
      cases a1; cases a2; cases a4
      exact ⟨(World.cell?_of_block (w := w) (a := ⟨bn, _, none⟩) (block_sort _ _ _ _ _ bn _ _ (by omega) (by omega))).trans a3, (World.cell?_of_block (w := w) (a := ⟨bc, _, none⟩) (block_sort _ _ _ _ _ bc _ _ (by omega) (by omega))).trans C.p4⟩
    exact spk_closure _ _ bn _ _ bc _ _ _ (key i).1 (key i).2 (key j).1 (key j).2
  have hS := Any.slices_SortFunc Tryz.sortL (encN bn on x.cells.length) (fun _ => rfl) (cfN x) (swoN x) 153 #[] g 0 cap Ls.toArray w eg hR.lays hH hgs (by simp; omega)
  change Calls Tryz.prog 152 _ _ _ at hS
  refine hS.mono fun e w' ⟨he, d', n, os, hp, hsd, hw⟩ => ⟨he, d'.toList, ?_, ?_, ?_, ?_⟩
  · obtain ⟨q1, _, q3⟩ := hp
    have e1 : d'.extract 0 Ls.toArray.size = d' := by rw [← q1]; simp
    have e2 : Ls.toArray.extract 0 Ls.toArray.size = Ls.toArray := by simp
    rw [e1, e2] at q3
    exact q3
  · obtain ⟨q1, _, q3⟩ := hp
    have e1 : d'.extract 0 Ls.toArray.size = d' := by rw [← q1]; simp
    have e2 : Ls.toArray.extract 0 Ls.toArray.size = Ls.toArray := by simp
    rw [e1, e2] at q3
    intro j hj
    have hj' : j < d'.size := by simpa using hj
    have := (holds_sortWorld (encN bn on x.cells.length) w g 0 n Ls.toArray d' os hgs hH q1 j hj').1
    rw [getElem!_pos _ j hj', ← hw] at this
    simp only [Nat.zero_add, encN] at this
    rw [clN_lt (hL _ (q3.mem_iff.1 (Array.getElem_mem_toList hj')))] at this
    simpa using this
  · obtain ⟨q1, _, q3⟩ := hp
    have e1 : d'.extract 0 Ls.toArray.size = d' := by rw [← q1]; simp
    have e2 : Ls.toArray.extract 0 Ls.toArray.size = Ls.toArray := by simp
    rw [e1, e2] at q3
    intro i j hi hj hij
    have hi' : i < d'.size := by simpa using hi
    have hj' : j < d'.size := by simpa using hj
    have := hsd i j (Nat.zero_le _) hij (by omega)
    rw [getElem!_pos _ i hi', getElem!_pos _ j hj', ltN, clN_lt (hL _ (q3.mem_iff.1 (Array.getElem_mem_toList hi'))), clN_lt (hL _ (q3.mem_iff.1 (Array.getElem_mem_toList hj')))] at this
    simp at this
    simpa using this
  · rw [hw]; exact below_sort _ _ _ _ _ _ _ _ hg hbs

end Go.Proofs.YtkabcfhemljnbaaGreat

namespace Go.Proofs.YtkabcfhemljnbaaGreat
open Go.RowKit
theorem sort_none (p : Option Addr) (cap : Nat) (w : World) :
    Calls Tryz.prog 152 #[.slice p 0 cap, .func (.func 153) #[] #[]] w fun e w' => e = .returned (.tuple #[]) ∧ w' = w :=
  AnyF.slices_SortFunc_none (P := Tryz.prog) (ρ := Tryz.sortL_ren) { Tryz.sortL with } p cap (.func (.func 153) #[] #[]) w

/-- the sort of a row that the caller owns -/
theorem sort_own (x : Hp) (b base : Nat) (v : Value) (Ls : List Nat) (w : World) {ar : Option Addr} {kr : Nat} {ac : Option Addr} {kc : Nat} {ag : Option Addr} {kg : Nat} {kn : Nat} (bn on : Nat) (h : VAt w b x ar kr ac kc ag kg (some ⟨bn, on, none⟩) kn) (hbn : ∀ i, i < x.cells.length → ∃ bc oc, ac = some ⟨bc, oc, none⟩ ∧ bc < base ∧ bn < base) (hL : ∀ i, i ∈ Ls → i < x.cells.length) (h8 : Ls.length ≤ 8000)
    (hv : w.ownsRow base 103 1 v Ls.length (Ls.map (fun i => ptr bn (on + i * 2)))) (hbs : base ≤ w.heap.size) :
    Calls Tryz.prog 152 #[v, .func (.func 153) #[] #[]] w fun e w' => e = .returned (.tuple #[]) ∧ Hid (∃ g cap Ls', v = .slice g Ls'.length cap ∧ List.Perm Ls' Ls ∧ (∀ j (hj : j < Ls'.length), ∃ gb go, g = some ⟨gb, go, none⟩ ∧ w'.cell? ⟨gb, go + j, none⟩ = some (ptr bn (on + Ls'[j] * 2)) ∧ base ≤ gb) ∧ SrtN x Ls') ∧ Below base w w' := by
  by_cases h0 : Ls = []
  · subst h0
    obtain ⟨p, cap, rfl⟩ : ∃ p cap, v = .slice p 0 cap := by
      rcases hv.2 with ⟨e, _⟩ | ⟨g, cap, cur, e, _⟩
      · exact ⟨none, 0, e⟩
      · exact ⟨_, _, e⟩
    exact (sort_none p cap w).mono fun _ _ ⟨he, hw⟩ => by subst hw; exact ⟨he, ⟨p, cap, [], rfl, List.Perm.refl _, (fun j hj => by simp at hj), fun i j hi => by simp at hi⟩, Below.refl _ _⟩
  · have hpos : 0 < Ls.length := List.length_pos_iff.2 h0
    rcases hv.2 with ⟨_, e⟩ | ⟨g, cap, cur, rfl, hg, hb, _⟩
    · omega
    · have hgs : g < w.heap.size := by
        rcases Nat.lt_or_ge g w.heap.size with q | q
        · exact q
        · rw [Array.getElem?_eq_none q] at hb; cases hb
      have hne : 0 < x.cells.length := by have := hL _ (List.getElem_mem hpos); omega
      have hc : ∀ j (hj : j < Ls.length), w.cell? ⟨g, j, none⟩ = some (ptr bn (on + Ls[j] * 2)) ∧ w.frozen? ⟨g, j, none⟩ = false := fun j hj => by
        refine ⟨?_, World.ownsRow.frozenAt hv j⟩
        rw [World.ownsRow.cellAt hv j (by omega)]
        simp [List.getElem?_eq_getElem hj]
      exact (sort_some x b base g cap Ls w bn on h hbn hL hne h8 hc hg hgs hbs).mono fun _ w' ⟨he, L', hp, hc', hsr, hbl⟩ => ⟨he, ⟨some ⟨g, 0, none⟩, cap, L', by rw [(unhide hp).length_eq], unhide hp, fun j hj => ⟨g, 0, rfl, by rw [Nat.zero_add]; exact unhide hc' j hj, hg⟩, unhide hsr⟩, hbl⟩
end Go.Proofs.YtkabcfhemljnbaaGreat

namespace Go.Proofs.YtkabcfhemljnbaaGreat
open Go.RowKit
attribute [local go_sem ↓] Go.wp_at_zero Go.wp_at_succ

/-- those below k that speak -/
def spk (x : Hp) (k : Nat) : List Nat := (List.range k).filter (fun i => speaksN (x.c i))
theorem spk_no {x : Hp} {k : Nat} (h : speaksN (x.c k) = false) : spk x (k + 1) = spk x k := by simp [spk, List.range_succ, List.filter_append, h]
theorem spk_yes {x : Hp} {k : Nat} (h : speaksN (x.c k) = true) : spk x (k + 1) = spk x k ++ [k] := by simp [spk, List.range_succ, List.filter_append, h]
theorem spk_len (x : Hp) (k : Nat) : (spk x k).length ≤ k := by have := List.length_filter_le (fun i => speaksN (x.c i)) (List.range k); simpa [spk] using this
theorem spk_mem {x : Hp} {k i : Nat} : i ∈ spk x k ↔ i < k ∧ Speaks (x.c i) := by simp [spk, speaksN_iff]
theorem row_ext {a w w2 : World} {T : TypeId} {v : Value} {n : Nat} {vs : List Value} {o : Obj} (h : w.ownsRow a.heap.size T 1 v n vs) (e : Ext a w) (hg : (w.alloc o).grownBy w2 v.ownBlock) : Ext a w2 := by
  have hs : w.heap.size + 1 ≤ w2.heap.size := by have := hg.size; simpa using this
  refine Below.trans e ⟨hg.os, hg.tape, hg.output, by omega, fun k hk => ?_⟩
  have hkw : k < w.heap.size := Nat.lt_of_lt_of_le hk e.size
  rw [hg.block k (by simp; omega) (fun f => by have := (h.lt k f.symm).1; omega), Below.heap_alloc _ o k hkw]

set_option maxRecDepth 100000 in
set_option maxHeartbeats 2000000 in
theorem speakers_ord (x : Hp) (b : Nat) (w : World) {ar : Option Addr} {kr : Nat} {ac : Option Addr} {kc : Nat} {ag : Option Addr} {kg : Nat} {kn : Nat} (bn on : Nat) (h : VAt w b x ar kr ac kc ag kg (some ⟨bn, on, none⟩) kn) (hn8 : x.cells.length ≤ 8000) :
    Calls Tryz.prog 103 #[.pointer (some ⟨b, 0, none⟩)] w fun e w' => ∃ (g : Option Addr) (cap : Nat) (Ls : List Nat), Hid (e = .returned (.slice g Ls.length cap)) ∧ Hid (SpAns x w w' g bn on Ls) ∧ Hid (SrtN x Ls ∧ Ls.Perm (spk x x.cells.length)) ∧ Ext w w' := by
  obtain ⟨i0, hi0, hy0, hy1, hy2⟩ := info_parts infoNodeP
  have n13 := h.n13
  have HV := hide h
  clear h
  go_enter Tryz.func103, Tryz.ntmps103
  go_wp2_with fail
  go_loopw [3, 10] (fun v i wr => ∃ (k : Nat), k ≤ x.cells.length ∧ i = .int .i64 k ∧ Hid (wr.ownsRow w.heap.size 103 1 v (spk x k).length ((spk x k).map (fun i => ptr bn (on + i * 2)))) ∧ Ext w wr) (fun _ i _ => x.cells.length - (intOf i).toNat)
  case atStart => exact ⟨0, Nat.zero_le _, rfl, World.ownsRow_nil _ _ _ _, Ext.refl w⟩
  case round =>
    clear n13
    obtain ⟨k, hk, rfl, hrw, hbl⟩ := hrel
    have hlen := spk_len x k
    by_cases hlt : k < x.cells.length
    · have hh := (unhide HV).ext hbl
      have n13 := hh.n13
      obtain ⟨bc, oc, ap, kp, e1, C⟩ := hh.H.cell k hlt
      obtain ⟨bn', on', bc', oc', e2, e3, m0, m1⟩ := hh.N k hlt
      rw [e1] at e3
      cases e2; cases e3
      have HC := hide C
      have hb0 : b < wr.heap.size := cell_lt n13
      have hk0 : (0:Int) ≤ (k:Int) := by omega
      have hk1 : (k:Int) < (x.cells.length:Int) := by omega
      clear hh C m0 e1
      go_wp2_with fail
      refine (speaks_any (x.c k) bn (on + k * 2) bc (oc + k * 8) ap kp _ m1 (unhide HC)).mono ?_
      rintro e w1 ⟨rfl, rfl⟩
      clear m1 HC
      cases t : speaksN (x.c k)
      · have R := hide (show _ from spk_no t ▸ unhide hrw)
        clear t
        go_wp2_with fail
        go_roundw
        case rel => exact ⟨k + 1, by omega, by go_num, unhide R, hbl⟩
        case measure => simp [intOf]; omega
      · have T := hide t
        clear t
        go_wp2_with (at_builtin; refine wpList_append_lies _ rfl _ _ 107 rfl w.heap.size 103 i0 (.pointer none) 1 8 Tryz.underlying107 hi0 hy0 hy1 hy2 rfl (by decide) _ (spk x k).length ((spk x k).map (fun i => ptr bn (on + i * 2))) rfl ((unhide hrw).alloc _) _ 1 1 [ptr bn (on + k * 2)] rfl rfl ?c1 ?c2 (by decide) ?c3 ?c4 ?c5 _ rfl ?_)
        case c1 =>
          intro j u hj
          match j, hj with
          | 0, hj => simp at hj; subst hj; simp [Addr.add]
        case c2 => intro u hu; simp at hu; subst hu; rfl
        case c3 => unfold maxLen; omega
        case c4 => have := hbl.size; simp; omega
        case c5 => have := hbl.size; simp; omega
        intro g cap w2 hown hgrow hat hglt
        have R := hide (And.intro (show w2.ownsRow w.heap.size 103 1 (.slice (some ⟨g, 0, none⟩) ((spk x k).length + 1) cap) (spk x (k + 1)).length ((spk x (k + 1)).map (fun i => ptr bn (on + i * 2))) by rw [spk_yes (unhide T)]; simpa using hown) (row_ext (unhide hrw) hbl hgrow))
        clear hown hgrow hat hglt
        go_wp2_with fail
        go_roundw
        case rel => exact ⟨k + 1, by omega, by go_num, (unhide R).1, (unhide R).2⟩
        case measure => simp [intOf]; omega
    · have hk2 : k = x.cells.length := by omega
      subst hk2
      have VB := hide ((unhide HV).ext hbl)
      have BB := hide (show ∀ i, i < x.cells.length → ∃ bc oc, ac = some ⟨bc, oc, none⟩ ∧ bc < w.heap.size ∧ bn < w.heap.size from fun i hi => by
        obtain ⟨bn', on', bc, oc, e1, e2, m0, _⟩ := (unhide HV).N i hi
        obtain ⟨bc2, oc2, ap, kp, e3, C⟩ := (unhide HV).H.cell i hi
        rw [e2] at e3
        cases e1; cases e3
        exact ⟨bc, oc, e2, cell_lt C.p0, cell_lt m0⟩)
      go_wp2_with fail
      refine (sort_own x b w.heap.size _ (spk x x.cells.length) _ bn on (unhide VB) (unhide BB) (fun i hi => (spk_mem.1 hi).1) (by omega) (unhide hrw) hbl.size).mono ?_
      rintro e w3 ⟨rfl, hs, hb3⟩
      have x3 : Ext w w3 := Below.trans hbl hb3
      go_wp2_with fail
      go_ret
      obtain ⟨g, cap, L', e, hp, hc, hsr⟩ := unhide hs
      exact ⟨g, cap, L', by show _ = _; rw [e]; rfl, ⟨hc, by have := hp.length_eq; omega, fun i => by rw [hp.mem_iff]; exact spk_mem⟩, ⟨hsr, hp⟩, x3⟩
theorem speakers_any (x : Hp) (b : Nat) (w : World) {ar : Option Addr} {kr : Nat} {ac : Option Addr} {kc : Nat} {ag : Option Addr} {kg : Nat} {kn : Nat} (bn on : Nat) (h : VAt w b x ar kr ac kc ag kg (some ⟨bn, on, none⟩) kn) (hn8 : x.cells.length ≤ 8000) :
    Calls Tryz.prog 103 #[.pointer (some ⟨b, 0, none⟩)] w fun e w' => ∃ (g : Option Addr) (cap : Nat) (Ls : List Nat), Hid (e = .returned (.slice g Ls.length cap)) ∧ Hid (SpAns x w w' g bn on Ls) ∧ Ext w w' :=
  (speakers_ord x b w bn on h hn8).mono fun _ _ ⟨g, cap, Ls, a, b, _, c⟩ => ⟨g, cap, Ls, a, b, c⟩
end Go.Proofs.YtkabcfhemljnbaaGreat

namespace Go.Proofs.YtkabcfhemljnbaaGreat
open Go.RowKit
attribute [local go_sem ↓] Go.wp_at_zero Go.wp_at_succ

set_option maxRecDepth 100000 in
set_option maxHeartbeats 2000000 in
theorem implLive_any (x : Hp) (w : World) {ar : Option Addr} {kr : Nat} {ac : Option Addr} {kc : Nat} {ag : Option Addr} {kg : Nat} (hR : SlW w (.slice ar x.regs.length kr) x.regs) (hC : SlC w (.slice ac x.cells.length kc) x.cells) (hG : SlI w (.slice ag x.gray.length kg) x.gray) (hcap : CapAt w x ac) :
    Calls Tryz.prog 24 #[x.v (.slice ar x.regs.length kr) (.slice ac x.cells.length kc) (.slice ag x.gray.length kg)] w fun e w' => ∃ r : Nat, Hid (e = .returned (.int .i64 (r : Int))) ∧ LiveIs x r ∧ Ext w w' := by
  have x1 := (Ext.refl w).alloc (.cells #[iv x.room, iv x.used, iv x.born, .slice ar x.regs.length kr, .slice ac x.cells.length kc, iv x.phase, iv x.hand, iv x.sub, .slice ag x.gray.length kg, iv x.per, iv x.start, iv x.rounds, iv x.forced] 33)
  have S1 := hide (SlW.ext x1 hR)
  have S2 := hide (SlC.ext x1 hC)
  have S3 := hide (SlI.ext x1 hG)
  have S4 := hide (hcap.extS hC x1)
  clear hR hC hG hcap
  go_enter Tryz.func24, Tryz.ntmps24
  go_wp2_with fail
  refine (sound_any x _ (unhide S1) (unhide S2) (unhide S3) (unhide S4)).mono ?_
  rintro e w2 ⟨hq, hor⟩
  have x2 := x1.trans hq
  rcases unhide hor with ⟨hn, rfl⟩ | ⟨hok, b, an, kn, rfl, hv, han⟩
  · have N := hide (show LiveIs x 0 from .inr ⟨hn, rfl⟩)
    clear hor hn
    go_wp2_with fail
    go_ret
    exact ⟨0, rfl, unhide N, x2⟩
  · obtain ⟨bn, on, rfl⟩ := unhide han
    have OK := hide hok
    have V := hide hv
    clear hor hok hv han
    go_wp2_with fail
    refine (reached_any x b _ bn on (unhide V) (unhide OK).all.2.1 (unhide OK).all.2.2.2 (unhide OK).n8 (unhide OK).p200 (fun w1 h1 => speakers_any x b w1 bn on h1 (unhide OK).n8)).mono ?_
    rintro e w3 ⟨rfl, Mt, hm, hlt, hr, hq3⟩
    have x3 := x2.trans hq3
    have M := hide hm
    clear hm
    go_wp2_with fail
    refine (sum_any x b w2.heap.size Mt _ bn on ((unhide V).ext hq3) (unhide M) hlt (unhide OK).n8 (unhide OK).p200).mono ?_
    rintro e w4 ⟨u, rfl, hu, hq4⟩
    have x4 := x3.trans hq4
    go_wp2_with fail
    go_ret
    exact ⟨u, rfl, .inl ⟨unhide OK, _, fun i => by simpa using unhide hr i, unhide hu⟩, x4⟩
end Go.Proofs.YtkabcfhemljnbaaGreat
