import Derived.Test.YtojdehkcggbdeabImpH
namespace Go.Proofs.Ytojdehkcggbdeab
open Go.RowKit
attribute [local go_sem ↓] Go.wp_at_zero Go.wp_at_succ

set_option maxRecDepth 100000 in
set_option maxHeartbeats 1000000 in
theorem doomedKept_any (x : Hp) (b k : Nat) (w : World) {ar : Option Addr} {kr : Nat} {ac : Option Addr} {kc : Nat} {ag : Option Addr} {kg : Nat} {an : Option Addr} {kn : Nat} (h : VAt w b x ar kr ac kc ag kg an kn) (hlt : k < x.cells.length) (bn on : Nat) (ha : an = some ⟨bn, on, none⟩) :
    Calls Try.prog 98 #[.pointer (some ⟨b, 0, none⟩), .pointer (some ⟨bn, on + k * 2, none⟩)] w fun e w' => ∃ r : Bool, e = .returned (.bool r) ∧ (r = true ↔ (∀ l, l < (x.c k).prs.length → Formed ((x.c k).p l).key x.cells.length ∧ Formed ((x.c k).p l).val x.cells.length) ∧ ¬ Speaks (x.c k)) ∧ Ext w w' := by
  obtain ⟨bn', on', bc, oc, e1, rfl, m0, m1⟩ := h.N k hlt
  rw [ha] at e1
  cases e1
  obtain ⟨bc', oc', ap, kp, e2, C⟩ := h.H.cell k hlt
  cases e2
  have p7 := C.p7
  have lp := C.lp
  have HP := hide C.P
  have HC := hide C
  clear m0 C
  go_enter Try.func98, Try.ntmps98
  go_wp2_with fail
  go_loopw [15] (fun i wr => ∃ l : Nat, l ≤ (x.c k).prs.length ∧ i = .int .i64 l ∧ (∀ j, j < l → Formed ((x.c k).p j).key x.cells.length ∧ Formed ((x.c k).p j).val x.cells.length) ∧ Ext w wr) (fun i _ => (x.c k).prs.length - (intOf i).toNat)
  case atStart => exact ⟨0, Nat.zero_le _, rfl, fun j h => by omega, Ext.refl _⟩
  case round =>
    obtain ⟨l, hl, rfl, hall, hbl⟩ := hrel
    have HB := hide hall
    clear hall
    by_cases hl2 : l < (x.c k).prs.length
    · obtain ⟨b2, o2, rfl, q0, q1, q2, q3, q4, q5⟩ := unhide HP l hl2
      have e0 := hbl.keep q0
      have e1 := hbl.keep q1
      have e2 := hbl.keep q2
      have e3 := hbl.keep q3
      have e4 := hbl.keep q4
      have e5 := hbl.keep q5
      have hb2 : b2 < wr.heap.size := cell_lt e0
      clear q0 q1 q2 q3 q4 q5 p7 m1
      have hl0 : (0:Int) ≤ (l:Int) := by omega
      have hl1 : (l:Int) < ((x.c k).prs.length:Int) := by omega
      have hx3 := hbl.alloc (.cells #[.int .i64 ((x.c k).p l).key.k, .int .i64 ((x.c k).p l).key.n, .int .i64 ((x.c k).p l).key.a, .int .i64 ((x.c k).p l).val.k, .int .i64 ((x.c k).p l).val.n, .int .i64 ((x.c k).p l).val.a] 95)
      go_wp2_with fail
      refine (formed_any ((x.c k).p l).key b x.cells.length an kn _ (h.ext hx3).n13 h.H.lc).mono ?_
      rintro e w3 ⟨rfl, hq3⟩
      have x3 := hx3.trans hq3
      have u := fun (o : Nat) (v : Value) (hc : (wr.alloc (.cells #[.int .i64 ((x.c k).p l).key.k, .int .i64 ((x.c k).p l).key.n, .int .i64 ((x.c k).p l).key.a, .int .i64 ((x.c k).p l).val.k, .int .i64 ((x.c k).p l).val.n, .int .i64 ((x.c k).p l).val.a] 95)).cell? ⟨wr.heap.size, o, none⟩ = some v) => hq3.keep hc
      have v3 := u 3 _ (by simp [go_sem]; rfl)
      have v4 := u 4 _ (by simp [go_sem]; rfl)
      have v5 := u 5 _ (by simp [go_sem]; rfl)
      clear u e0 e1 e2 e3 e4 e5
      cases tk : formedB ((x.c k).p l).key x.cells.length
      · have N := hide (show ¬ ((∀ l, l < (x.c k).prs.length → Formed ((x.c k).p l).key x.cells.length ∧ Formed ((x.c k).p l).val x.cells.length) ∧ ¬ Speaks (x.c k)) from fun r => by
          have := formedB_iff.2 (r.1 l hl2).1
          rw [this] at tk; simp at tk)
        go_wp2_with fail
        go_ret
        first | (exact Or.inl ⟨rfl, unhide N, x3⟩) | (exact ⟨false, rfl, ⟨fun f => by simp at f, fun r => (unhide N r).elim⟩, x3⟩)
      · go_wp2_with fail
        refine (formed_any ((x.c k).p l).val b x.cells.length an kn _ (h.ext x3).n13 h.H.lc).mono ?_
        rintro e w4 ⟨rfl, hq4⟩
        have x4 := x3.trans hq4
        cases tv : formedB ((x.c k).p l).val x.cells.length
        · have N := hide (show ¬ ((∀ l, l < (x.c k).prs.length → Formed ((x.c k).p l).key x.cells.length ∧ Formed ((x.c k).p l).val x.cells.length) ∧ ¬ Speaks (x.c k)) from fun r => by
            have := formedB_iff.2 (r.1 l hl2).2
            rw [this] at tv; simp at tv)
          go_wp2_with fail
          go_ret
          first | (exact Or.inl ⟨rfl, unhide N, x4⟩) | (exact ⟨false, rfl, ⟨fun f => by simp at f, fun r => (unhide N r).elim⟩, x4⟩)
        · have S := hide (show ∀ j, j < l + 1 → Formed ((x.c k).p j).key x.cells.length ∧ Formed ((x.c k).p j).val x.cells.length from fun j hj => by
            by_cases e : j = l
            · subst e; exact ⟨formedB_iff.1 tk, formedB_iff.1 tv⟩
            · exact unhide HB j (by omega))
          go_wp2_with fail
          go_roundw
          case rel => exact ⟨l + 1, by omega, by go_num, unhide S, x4⟩
          case measure => simp [intOf]; omega
    · have Y := hide (show ∀ l, l < (x.c k).prs.length → Formed ((x.c k).p l).key x.cells.length ∧ Formed ((x.c k).p l).val x.cells.length from fun j hj => unhide HB j (by omega))
      have HS := hide (speaks_any (x.c k) bn (on + k * 2) bc (oc + k * 8) ap kp wr (hbl.keep m1) ((unhide HC).ext hbl))
      cases ts : speaksN (x.c k)
      · have Z := hide (show (∀ l, l < (x.c k).prs.length → Formed ((x.c k).p l).key x.cells.length ∧ Formed ((x.c k).p l).val x.cells.length) ∧ ¬ Speaks (x.c k) from ⟨unhide Y, fun hs => by rw [← speaksN_iff, ts] at hs; simp at hs⟩)
        go_wp2_with (go_at_call 105; refine (unhide HS).mono ?_; rintro e w' ⟨rfl, rfl⟩)
        go_ret
        first | (exact Or.inr ⟨by simp, unhide Z, hbl⟩) | (exact ⟨true, by simp, ⟨fun _ => unhide Z, fun _ => rfl⟩, hbl⟩)
      · have N := hide (show ¬ ((∀ l, l < (x.c k).prs.length → Formed ((x.c k).p l).key x.cells.length ∧ Formed ((x.c k).p l).val x.cells.length) ∧ ¬ Speaks (x.c k)) from fun r => r.2 (speaksN_iff.1 ts))
        go_wp2_with (go_at_call 105; refine (unhide HS).mono ?_; rintro e w' ⟨rfl, rfl⟩)
        go_ret
        first | (exact Or.inl ⟨by simp, unhide N, hbl⟩) | (exact ⟨false, by simp, ⟨fun f => by simp at f, fun r => (unhide N r).elim⟩, hbl⟩)

end Go.Proofs.Ytojdehkcggbdeab
