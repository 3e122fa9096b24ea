import Derived.RangeFuncNested
import Derived.RangeFuncBound
import Derived.RangeFuncCalls
import Derived.RangeFuncLeaves
import Derived.Shelf.Abstract
import Derived.Shelf.RegionOpen
import Derived.WalkKit
import Derived.OwnWalkIn
import Derived.TacticsInMore
import Derived.LoopNIn
import Derived.LoopIn
import Derived.Test.YtbcmjcomdjdjaaaGreatDn1
import Derived.Test.YtbcmjcomdjdjaaaGreatSp4
import Derived.RangeFuncFrom
namespace Go.Proofs.YtbcmjcomdjdjaaaGreat
open Go.RowKit Go.Shelf
attribute [local go_sem] Oper.semAt_some

/-- what lies in cells stays -/
def CKeep (W W' : World) : Prop := ∀ (q : Nat) (o : Obj), W.heap[q]? = some o → o.isCells = true → W'.heap[q]? = some o
theorem CKeep.trans {A B C : World} (h : CKeep A B) (k : CKeep B C) : CKeep A C := fun q o a b => k q o (h q o a b) b
theorem CKeep.refl (A : World) : CKeep A A := fun _ _ a _ => a
theorem CKeep.cell {W W' : World} (h : CKeep W W') {p : Addr} {v : Value} (hc : W.cell? p = some v) : W'.cell? p = some v := by
  obtain ⟨o, ho, hi⟩ := cells_of_cell hc
  rw [World.cell?_of_block ((h _ _ ho hi).trans ho.symm)]; exact hc
theorem CKeep.put (W : World) (l : Nat) (o o' : Obj) (hl : W.heap[l]? = some o) (hc : o.isCells = false) : CKeep W (W.putObj l o') := fun q p hq hp => by
  have : q ≠ l := fun e => by subst e; rw [hl] at hq; cases hq; rw [hc] at hp; cases hp
  rw [World.putObj_heap_other this]; exact hq

/-- those that speak, in their order -/
def IsS (x : Hp) (L : List Nat) : Prop := (∀ i, i ∈ L ↔ i < x.cells.length ∧ Speaks (x.c i)) ∧ SrtN x L
def dueF (x : Hp) (L : List Nat) : List Nat := L.filter (fun i => (x.c i).last == 2)
theorem dueF_no {x : Hp} {L : List Nat} {k : Nat} (hk : k < L.length) (h : ((x.c L[k]).last == 2) = false) : dueF x (L.take (k + 1)) = dueF x (L.take k) := by
  rw [List.take_succ_eq_append_getElem hk, dueF, List.filter_append]; simp [h, dueF]
theorem dueF_yes {x : Hp} {L : List Nat} {k : Nat} (hk : k < L.length) (h : ((x.c L[k]).last == 2) = true) : dueF x (L.take (k + 1)) = dueF x (L.take k) ++ [L[k]] := by
  rw [List.take_succ_eq_append_getElem hk, dueF, List.filter_append]; simp [h, dueF]
theorem dueF_pre {x : Hp} {L : List Nat} (k : Nat) : dueF x (L.take k) <+: dueF x L := by
  have : dueF x L = dueF x (L.take k) ++ dueF x (L.drop k) := by rw [dueF, dueF, dueF, ← List.filter_append, List.take_append_drop]
  rw [this]; exact List.prefix_append _ _
theorem dueF_len {x : Hp} {L : List Nat} : (dueF x L).length ≤ L.length := List.length_filter_le _ _
theorem dueF_nil {x : Hp} {L : List Nat} (h : IsS x L) (e : dueF x L = []) : DueTo x x.cells.length (-1) := .inl ⟨rfl, fun i hi hd => by
  have : i ∈ dueF x L := List.mem_filter.2 ⟨(h.1 i).2 ⟨hi, .inr hd⟩, by simpa using hd⟩
  rw [e] at this; cases this⟩
theorem dueF_head {x : Hp} {L : List Nat} (h : IsS x L) {y : Nat} (e : [y] <+: dueF x L) : DueTo x x.cells.length (y : Int) ∧ y < x.cells.length := by
  obtain ⟨t, e⟩ := e
  have hp : (dueF x L).Pairwise (fun a b => (x.c a).born ≤ (x.c b).born) := ((List.pairwise_iff_getElem (R := fun a b => (x.c a).born ≤ (x.c b).born) (l := L)).2 (fun i j hi hj hij => h.2 i j hi hj hij)).filter _
  rw [← e] at hp
  have hy : y ∈ dueF x L := by rw [← e]; simp
  have hy2 := List.mem_filter.1 hy
  have hy3 := (h.1 y).1 hy2.1
  refine ⟨.inr ⟨y, rfl, hy3.1, by simpa using hy2.2, fun j hj dj => ?_⟩, hy3.1⟩
  have hj2 : j ∈ dueF x L := List.mem_filter.2 ⟨(h.1 j).2 ⟨hj, .inr dj⟩, by simpa using dj⟩
  rw [← e] at hj2
  rcases List.mem_append.1 hj2 with q | q
  · rw [List.mem_singleton] at q; subst q; omega
  · exact (List.pairwise_cons.1 hp).1 j q

/-- the speakers' row and what is read of them -/
def SpL (x : Hp) (w : World) (g : Option Addr) (bn on : Nat) (L : List Nat) : Prop := ∀ k (h : k < L.length), ∃ gb go bc oc, g = some ⟨gb, go, none⟩ ∧ w.cell? ⟨gb, go + k, none⟩ = some (ptr bn (on + L[k] * 2)) ∧ w.cell? ⟨bn, on + L[k] * 2 + 1, none⟩ = some (.pointer (some ⟨bc, oc + L[k] * 8, none⟩)) ∧ w.cell? ⟨bc, oc + L[k] * 8 + 3, none⟩ = some (iv (x.c L[k]).last)
theorem SpL.keep {x : Hp} {w w' : World} {g : Option Addr} {bn on : Nat} {L : List Nat} (h : SpL x w g bn on L) (k : CKeep w w') : SpL x w' g bn on L := fun i hi => by
  obtain ⟨gb, go, bc, oc, e, a, b, c⟩ := h i hi
  exact ⟨gb, go, bc, oc, e, k.cell a, k.cell b, k.cell c⟩

set_option maxRecDepth 100000 in
set_option maxHeartbeats 2000000 in
theorem due1_in (n : Nat) (hn : 1 ≤ n) (l : Nat) (x : Hp) (b Bv : Nat) (W : World) {ar : Option Addr} {kr : Nat} {ac : Option Addr} {kc : Nat} {ag : Option Addr} {kg : Nat} {kn : Nat} (bn on : Nat) (J Jx : List Nat → World → Prop) (hJ : AbidesFrom W.heap.size J)
    (hY : ∀ pre y W1, J pre W1 → pre.length < 8001 → YieldAt Fence.wide (n - 1) Tryz.prog l #[ptr bn (on + y * 2)] W1 fun e W' =>
      (e = .returned (.bool true) ∧ J (pre ++ [y]) W' ∧ CKeep W1 W') ∨ (e = .returned (.bool false) ∧ Jx (pre ++ [y]) W'))
    (hB : W.cell? ⟨Bv, 0, none⟩ = some (.pointer (some ⟨b, 0, none⟩))) (h : VAt W b x ar kr ac kc ag kg (some ⟨bn, on, none⟩) kn) (hn8 : x.cells.length ≤ 8000) (h0 : J [] W) :
    CallsIn Fence.wide n Tryz.prog 110 #[.func (.yield l) #[] #[], .pointer (some ⟨Bv, 0, none⟩)] W fun e W' => (∃ v, e = .returned v) ∧
      ((∃ xs, (∃ L, IsS x L ∧ xs = dueF x L) ∧ J xs W') ∨ (∃ pre, (∃ L, IsS x L ∧ pre <+: dueF x L) ∧ Jx pre W')) := by
  refine callsIn_of_wp Tryz.func110 rfl trivial ?_ rfl
  simp only [Tryz.ntmps110, List.size_toArray, List.length_cons, List.length_nil, Nat.reduceAdd, Nat.reduceSub, Array.replicate_succ, Array.replicate_zero, List.push_toArray, List.append_toArray, List.nil_append, List.cons_append]
  gi_wp2_with (refine ⟨trivial, ?_⟩; gi_at_call 54; refine (callsIn_wide.2 (speakers_ord x b W bn on h hn8)).mono ?_; rintro e w1 ⟨g, cap, L, rfl, hans, hord, x1⟩)
  have IS := hide (show IsS x L from ⟨fun i => (unhide hans).2.2 i, (unhide hord).1⟩)
  have SL := hide (show SpL x w1 g bn on L from fun k hk => by
    obtain ⟨gb, go, a, c, _⟩ := (unhide hans).1 k hk
    have hl := (((unhide hans).2.2 L[k]).1 (List.getElem_mem hk)).1
    obtain ⟨bn', on', bc', oc', e2, e3, _, m1⟩ := (h.ext x1).N L[k] hl
    obtain ⟨bc, oc, ap, kp, e1, C⟩ := (h.ext x1).H.cell L[k] hl
    rw [e1] at e3
    cases e2; cases e3
    exact ⟨gb, go, _, _, a, c, m1, C.p3⟩)
  have J1 := hide (hJ [] W w1 none h0 ⟨x1.os, x1.tape, x1.output, x1.size, fun k hk _ => x1.block k hk⟩ (fun r e => by cases e))
  have hL8 : L.length ≤ 8000 := (unhide hans).2.1
  clear hans hord h0 h hB
  gi_wp2
  gi_loopw [8] (fun i wr => ∃ k : Nat, k ≤ L.length ∧ i = .int .i64 k ∧ Hid (J (dueF x (L.take k)) wr) ∧ Hid (SpL x wr g bn on L)) (fun i _ => L.length - (intOf i).toNat)
  case atStart => exact ⟨0, Nat.zero_le _, rfl, unhide J1, unhide SL⟩
  case round =>
    clear J1 SL
    obtain ⟨k, hk, rfl, hjs, hsl⟩ := hrel
    by_cases hlt : k < L.length
    · obtain ⟨gb, go, bc, oc, rfl, a, b1, c⟩ := (unhide hsl) k hlt
      have hk0 : (0:Int) ≤ (k:Int) := by omega
      have hk1 : (k:Int) < (L.length:Int) := by omega
      cases t : ((x.c L[k]).last == 2)
      · have D := hide (show J (dueF x (L.take (k + 1))) wr by rw [dueF_no hlt t]; exact unhide hjs)
        obtain ⟨j, ej⟩ : ∃ j, j = L[k] := ⟨_, rfl⟩
        rw [← ej] at a b1 c t
        clear ej
        gi_wp2
        refine ⟨fun _ h => (by cases h), ?_⟩
        gi_wp2
        go_roundw
        case rel => exact ⟨k + 1, hlt, by go_num, unhide D, unhide hsl⟩
        case measure => simp [intOf]; omega
      · have T := hide (dueF_yes hlt t)
        obtain ⟨fn, tmps, assign, body, hy, hR⟩ := hY _ L[k] wr (unhide hjs) (by have := @dueF_len x (L.take k); have := List.length_take_le k L; omega)
        obtain ⟨j, ej⟩ : ∃ j, j = L[k] := ⟨_, rfl⟩
        rw [← ej] at a b1 c t hy hR T
        clear ej
        gi_wp2
        refine hR.mono ?_
        rintro e W3 (⟨rfl, hJ3, hk3⟩ | ⟨rfl, hJx3⟩)
        · have R := hide (show J (dueF x (L.take (k + 1))) W3 ∧ SpL x W3 (some ⟨gb, go, none⟩) bn on L from ⟨by rw [unhide T]; exact hJ3, (unhide hsl).keep hk3⟩)
          clear hJ3 hk3
          gi_wp2
          go_roundw
          case rel => exact ⟨k + 1, hlt, by go_num, (unhide R).1, (unhide R).2⟩
          case measure => simp [intOf]; omega
        · have R := hide (show ∃ pre, (∃ L, IsS x L ∧ pre <+: dueF x L) ∧ Jx pre W3 from ⟨_, ⟨L, unhide IS, by rw [← unhide T]; exact dueF_pre _⟩, hJx3⟩)
          clear hJx3
          gi_wp2
          refine bodyPost_ret (results_none rfl _ _ _) rfl ?_
          exact ⟨⟨_, rfl⟩, .inr (unhide R)⟩
    · have hk2 : k = L.length := by omega
      subst hk2
      have R := hide (show ∃ xs, (∃ L, IsS x L ∧ xs = dueF x L) ∧ J xs wr from ⟨_, ⟨L, unhide IS, rfl⟩, by have := unhide hjs; rw [List.take_length] at this; exact this⟩)
      gi_wp2
      go_end0
      exact ⟨⟨_, rfl⟩, .inl (unhide R)⟩
end Go.Proofs.YtbcmjcomdjdjaaaGreat

namespace Go.Proofs.YtbcmjcomdjdjaaaGreat
open Go.RowKit
attribute [local go_sem ↓] Go.wp_at_zero Go.wp_at_succ

set_option maxRecDepth 100000 in
set_option maxHeartbeats 2000000 in
theorem l4next_any (x : Hp) (b : Nat) (w : World) {ar : Option Addr} {kr : Nat} {ac : Option Addr} {kc : Nat} {ag : Option Addr} {kg : Nat} (h : HAt w b x ar kr ac kc ag kg) (hn8 : x.cells.length ≤ 8000) :
    Calls Tryz.prog 30 #[.pointer (some ⟨b, 0, none⟩)] w fun e w' => ∃ r : Int, Hid (e = .returned (.int .i64 r)) ∧ Hid (DueTo x x.cells.length r) ∧ Ext w w' := by
  have HH := hide h
  have c4 := h.c4
  clear h
  go_enter Tryz.func30, Tryz.ntmps30
  go_wp2_with fail
  go_loopw [3, 11] (fun a i wr => ∃ (k : Nat) (r : Int), k ≤ x.cells.length ∧ i = .int .i64 k ∧ a = .int .i64 r ∧ Hid (DueTo x k r) ∧ Ext w wr) (fun _ i _ => x.cells.length - (intOf i).toNat)
  case atStart => exact ⟨0, -1, Nat.zero_le _, rfl, rfl, .inl ⟨rfl, fun i hi => by omega⟩, Ext.refl w⟩
  case round =>
    clear c4
    obtain ⟨k, r, hk, rfl, rfl, hd, hbl⟩ := hrel
    by_cases hlt : k < x.cells.length
    · have hh := (unhide HH).ext hbl
      have c4 := hh.c4
      obtain ⟨bc, oc, ap, kp, rfl, C⟩ := hh.cell k hlt
      have HC := hide C
      have p0 := C.p0
      have p1 := C.p1
      have p2 := C.p2
      have p3 := C.p3
      have p4 := C.p4
      have p5 := C.p5
      have p6 := C.p6
      have p7 := C.p7
      have hbc : bc < wr.heap.size := cell_lt p0
      have hbb : b < wr.heap.size := cell_lt c4
      have hk0 : (0:Int) ≤ (k:Int) := by omega
      have hk1 : (k:Int) < (x.cells.length:Int) := by omega
      clear C
      cases t : ((x.c k).last == 2)
      · have D := hide (show DueTo x (k + 1) r from (unhide hd).no (by simpa using t))
        go_wp2_with fail
        go_quiet (fail)
        go_wp2_with fail
        go_roundw
        case rel => exact ⟨k + 1, r, by omega, by go_num, rfl, unhide D, (hbl.alloc _).drewN _⟩
        case measure => simp [intOf]; omega
      · have T := hide (show (x.c k).last = 2 by simpa using t)
        rcases (unhide hd).form with rfl | ⟨i, rfl, hi⟩
        · have D := hide ((unhide hd).first (unhide T))
          go_wp2_with fail
          go_quiet (fail)
          go_wp2_with fail
          go_roundw
          case rel => exact ⟨k + 1, k, by omega, by go_num, rfl, unhide D, (hbl.alloc _).drewN _⟩
          case measure => simp [intOf]; omega
        · obtain ⟨bc', oc', ap', kp', e1, C'⟩ := hh.cell i (by omega)
          cases e1
          have q4 := C'.p4
          have hi0 : ¬ (i : Int) < 0 := by omega
          have hi1 : (i:Int) < (x.cells.length:Int) := by omega
          have hi2 : (0:Int) ≤ (i:Int) := by omega
          clear C'
          by_cases hl : (x.c k).born < (x.c i).born
          · have D := hide ((unhide hd).less (unhide T) hl)
            go_wp2_with fail
            go_quiet (fail)
            go_wp2_with fail
            go_roundw
            case rel => exact ⟨k + 1, k, by omega, by go_num, rfl, unhide D, (hbl.alloc _).drewN _⟩
            case measure => simp [intOf]; omega
          · have D := hide ((unhide hd).more (by omega))
            go_wp2_with fail
            go_quiet (fail)
            go_wp2_with fail
            go_roundw
            case rel => exact ⟨k + 1, i, by omega, by go_num, rfl, unhide D, (hbl.alloc _).drewN _⟩
            case measure => simp [intOf]; omega
    · have hk2 : k = x.cells.length := by omega
      have D := hide (show DueTo x x.cells.length r by have := unhide hd; rw [hk2] at this; exact this)
      clear hk2 hd
      go_wp2_with fail
      go_ret
      exact ⟨r, rfl, unhide D, hbl⟩

set_option maxRecDepth 100000 in
set_option maxHeartbeats 2000000 in
theorem specNextDue_any (x : Hp) (w : World) {ar : Option Addr} {kr : Nat} {ac : Option Addr} {kc : Nat} {ag : Option Addr} {kg : Nat} (hR : SlW w (.slice ar x.regs.length kr) x.regs) (hC : SlC w (.slice ac x.cells.length kc) x.cells) (hG : SlI w (.slice ag x.gray.length kg) x.gray) :
    Calls Tryz.prog 11 #[x.v (.slice ar x.regs.length kr) (.slice ac x.cells.length kc) (.slice ag x.gray.length kg)] w fun e w' => ∃ r : Int, Hid (e = .returned (.int .i64 r)) ∧ Hid (DueIs x r) ∧ Ext w w' := by
  have x1 := (Ext.refl w).alloc (.cells #[iv x.room, iv x.used, iv x.born, .slice ar x.regs.length kr, .slice ac x.cells.length kc, iv x.phase, iv x.hand, iv x.sub, .slice ag x.gray.length kg, iv x.per, iv x.start, iv x.rounds, iv x.forced] 32)
  have S1 := hide (SlW.ext x1 hR)
  have S2 := hide (SlC.ext x1 hC)
  have S3 := hide (SlI.ext x1 hG)
  have HB := hide (hat_box x w hR hC hG)
  clear hR hC hG
  go_enter Tryz.func11, Tryz.ntmps11
  go_wp2_with fail
  refine (specHeapOk_any x _ (unhide S1) (unhide S2) (unhide S3)).mono ?_
  rintro e w2 ⟨n, rfl, hok2, hq⟩
  have x2 := x1.trans hq
  have OK2 := hide hok2
  have H2 := hide ((unhide HB).ext hq)
  clear hok2 hq
  cases t : (n == 0)
  · have t2 : (n != 0) = true := by simpa using t
    have N := hide (show DueIs x (-1) from .inr ⟨fun h => by have := OkIs.uniq h (unhide OK2); simp at t; omega, rfl⟩)
    go_wp2_with fail
    go_ret
    exact ⟨-1, rfl, unhide N, x2⟩
  · have t2 : (n != 0) = false := by simpa using t
    have Y := hide (show OkIs x 0 by have := unhide OK2; simp at t; rw [t] at this; exact this)
    go_wp2_with fail
    refine (l4next_any x w.heap.size _ (unhide H2) (unhide Y).n8).mono ?_
    rintro e w3 ⟨r, rfl, hr, hq3⟩
    have x3 := x2.trans hq3
    go_wp2_with fail
    go_ret
    exact ⟨r, rfl, .inl ⟨unhide Y, unhide hr⟩, x3⟩
end Go.Proofs.YtbcmjcomdjdjaaaGreat

namespace Go.Proofs.YtbcmjcomdjdjaaaGreat
open Go.RowKit Go.Shelf
attribute [local go_sem] Oper.semAt_some

theorem due_in (n : Nat) (p0 : Option Addr) (w : World) :
    CallsIn Fence.wide n Tryz.prog 60 #[.pointer p0] w fun e w' => e = .returned (.func (.func 110) #[] #[.pointer (some ⟨w.heap.size, 0, none⟩)]) ∧ w' = w.alloc (.cells #[.pointer p0] 50) := by
  refine callsIn_of_wp Tryz.func60 rfl trivial ?_ rfl
  simp only [Tryz.ntmps60, List.size_toArray, List.length_cons, List.length_nil, Nat.reduceAdd, Nat.reduceSub, Array.replicate_succ, Array.replicate_zero, List.push_toArray, List.append_toArray, List.nil_append, List.cons_append]
  gi_wp2
  go_ret
  exact ⟨rfl, rfl⟩
theorem box_of {W : World} {B : Nat} {v : Value} {t : TypeId} (h : W.heap[B]? = some (.cells #[v] t (0, 0))) : W.cell? ⟨B, 0, none⟩ = some v ∧ W.frozen? ⟨B, 0, none⟩ = false := by
  constructor <;> simp [World.cell?, World.frozen?, h]
theorem box_new (W : World) (v : Value) (t : TypeId) : (W.alloc (.cells #[v] t)).cell? ⟨W.heap.size, 0, none⟩ = some v ∧ (W.alloc (.cells #[v] t)).frozen? ⟨W.heap.size, 0, none⟩ = false :=
  box_of (World.alloc_heap_new W _)
theorem due_stops (n : Nat) (hn : 1 ≤ n) (x : Hp) (b Bv : Nat) (w : World) {ar : Option Addr} {kr : Nat} {ac : Option Addr} {kc : Nat} {ag : Option Addr} {kg : Nat} {kn : Nat} (bn on : Nat) (hB : w.cell? ⟨Bv, 0, none⟩ = some (.pointer (some ⟨b, 0, none⟩))) (h : VAt w b x ar kr ac kc ag kg (some ⟨bn, on, none⟩) kn) (hn8 : x.cells.length ≤ 8000) :
    SeqStopsK Fence.wide n Tryz.prog 110 #[.pointer (some ⟨Bv, 0, none⟩)] (fun y : Nat => #[ptr bn (on + y * 2)]) CKeep (fun ys => ∃ L, IsS x L ∧ ys = dueF x L) (fun pre => ∃ L, IsS x L ∧ pre <+: dueF x L) 8001 w := fun l J Jx W hW hJ _ hY h0 =>
  due1_in n hn l x b Bv W bn on J Jx hJ hY (Ext.keep hW hB) (h.ext hW) hn8 h0

set_option maxRecDepth 100000 in
set_option maxHeartbeats 2000000 in
theorem nextDue_any (x : Hp) (b : Nat) (w : World) {ar : Option Addr} {kr : Nat} {ac : Option Addr} {kc : Nat} {ag : Option Addr} {kg : Nat} {kn : Nat} (bn on : Nat) (h : VAt w b x ar kr ac kc ag kg (some ⟨bn, on, none⟩) kn) (hn8 : x.cells.length ≤ 8000) :
    Calls Tryz.prog 31 #[.pointer (some ⟨b, 0, none⟩)] w fun e w' => ∃ v, e = .returned v ∧ ((v = .pointer none ∧ DueTo x x.cells.length (-1)) ∨ ∃ y : Nat, v = ptr bn (on + y * 2) ∧ DueTo x x.cells.length y ∧ y < x.cells.length) ∧ Ext w w' := by
  refine (callsIn_wide (n := 3)).1 ?_
  refine callsIn_of_wp_marks Tryz.func31 rfl trivial ?_ rfl
  simp only [Tryz.ntmps31, List.size_toArray, List.length_cons, List.length_nil, Nat.reduceAdd, Nat.reduceSub, Array.replicate_succ, Array.replicate_zero, List.push_toArray, List.append_toArray, List.nil_append, List.cons_append]
  gi_wp2_with (refine ⟨trivial, ?_⟩; gi_at_call 60; refine (due_in _ _ _).mono ?_; rintro e w' ⟨rfl, rfl⟩)
  have c0 := box_new w (.pointer none) 60
  have c1 := box_new (w.alloc (.cells #[.pointer none] 60)) (.pointer (some ⟨b, 0, none⟩)) 50
  simp only [World.size_alloc] at c1
  have hB0 : Below w.heap.size w ((w.alloc (.cells #[.pointer none] 60)).alloc (.cells #[.pointer (some ⟨b, 0, none⟩)] 50)) := ((Below.refl _ w).alloc (Nat.le_refl _) _).alloc (by simp) _
  refine wpIn_rangeFunc_ownF rfl (by decide) (gf := 110) (lb := #[.pointer (some ⟨w.heap.size + 1, 0, none⟩)]) rfl trivial (enters_of Tryz.func110 (by kernel_rfl) rfl)
    (due_stops 2 (by decide) x b (w.heap.size + 1) _ bn on c1.1 (h.ext hB0) hn8) CKeep.trans (fun W l o o' _ h1 h2 _ => CKeep.put W l o o' h1 h2) (Below.refl _ _) (fun _ => rfl)
    (fun pre W => (pre = [] ∧ W.cell? ⟨w.heap.size, 0, none⟩ = some (.pointer none) ∧ W.frozen? ⟨w.heap.size, 0, none⟩ = false) ∧ Below w.heap.size w W)
    (fun c pre W => (c = .ret ∧ ∃ y : Nat, pre = [y] ∧ W.cell? ⟨w.heap.size, 0, none⟩ = some (ptr bn (on + y * 2))) ∧ Below w.heap.size w W)
    (OwnFrom.and (Own.from (fun s A B row hs hg hr => ⟨hs.1, cell_kept hs.2.1 hg hr, (frozen_kept hs.2.1 hg hr).trans hs.2.2⟩) _) (ownFrom_below (Nat.le_refl _) (by simp; omega)))
    (fun c => OwnFrom.and (Own.from (fun s A B row hs hg hr => ⟨hs.1, let ⟨y, e, q⟩ := hs.2; ⟨y, e, cell_kept q hg hr⟩⟩) _) (ownFrom_below (Nat.le_refl _) (by simp; omega)))
    ⟨⟨rfl, ((Ext.refl _).alloc _).keep c0.1, ((bcell ((Ext.refl (w.alloc (.cells #[.pointer none] 60))).alloc _)).2 _ 0 (by simp)).trans c0.2⟩, hB0⟩
    (fun y => { tmps := #[.pointer (some ⟨b, 0, none⟩), undef, .pointer (some ⟨w.heap.size, 0, none⟩), ptr bn (on + y * 2), .pointer (some ⟨b, 0, none⟩), .func (.func 110) #[] #[.pointer (some ⟨w.heap.size + 1, 0, none⟩)], ptr bn (on + y * 2), undef], defers := [] }) ?assign ?body ?done ?stop
  case assign =>
    intro l x W K hK
    gi_wp2
    exact hK
  case body =>
    rintro l pre y W ⟨⟨rfl, hcr, hfr⟩, hB⟩ _
    gi_wp2
    exact ⟨KeepsOthers.setCell _ _ _, ⟨rfl, y, rfl, World.cell?_setCell_same' _ _ _ (by rw [hcr]; rfl)⟩, hB.setCell (p := ⟨w.heap.size, 0, none⟩) (Nat.le_refl _) _⟩
  case done =>
    rintro D ys W hD ⟨L, hL, rfl⟩ ⟨⟨hne, hcr, hfr⟩, hB⟩ hK
    gi_wp2
    have hK' := (KeepsOthers.setCell W ⟨w.heap.size, 0, none⟩ (.pointer none)).same D _ hK rfl
    refine ⟨by simp, .inl ⟨_, _, rfl, run_takeDeferred hK', ?_⟩⟩
    have hc5 := cell_kept (World.cell?_setCell_same' W ⟨w.heap.size, 0, none⟩ (.pointer none) (by rw [hcr]; rfl)) (grownBy_putObj' _ D (.deferred none)) (fun r e => by cases e; exact ⟨_, hK', rfl⟩)
    refine ⟨.pointer none, ?_, _, rfl, .inl ⟨rfl, dueF_nil hL hne⟩, (hB.setCell (p := ⟨w.heap.size, 0, none⟩) (Nat.le_refl _) _).trans (belowK_b (w := w) (Nat.le_refl _) _ D _ _ (by simp at hD; omega) hK' rfl rfl)⟩
    simp [results, Tryz.f31, go_sem, hc5]
  case stop =>
    rintro D c pre W hD ⟨L, hL, hpre⟩ ⟨⟨rfl, y, rfl, hcr⟩, hB⟩ hK
    gi_wp2
    refine ⟨by simp, .inl ⟨_, _, rfl, run_takeDeferred hK, ?_⟩⟩
    have hc5 := cell_kept hcr (grownBy_putObj' _ D (.deferred none)) (fun r e => by cases e; exact ⟨_, hK, rfl⟩)
    refine ⟨ptr bn (on + y * 2), ?_, _, rfl, .inr ⟨y, rfl, (dueF_head hL hpre).1, (dueF_head hL hpre).2⟩, hB.trans (belowK_b (w := w) (Nat.le_refl _) W D _ _ (by simp at hD; omega) hK rfl rfl)⟩
    simp [results, Tryz.f31, go_sem, hc5]
end Go.Proofs.YtbcmjcomdjdjaaaGreat
