import Derived.Test.YtojdehkcggbdeabImpG
namespace Go.Proofs.Ytojdehkcggbdeab
open Go.RowKit
attribute [local go_sem ↓] Go.wp_at_zero Go.wp_at_succ

set_option maxRecDepth 100000 in
set_option maxHeartbeats 1000000 in
theorem pairsLead_any (x : Hp) (b k : Nat) (w : World) {ar : Option Addr} {kr : Nat} {ac : Option Addr} {kc : Nat} {ag : Option Addr} {kg : Nat} {an : Option Addr} {kn : Nat} (h : VAt w b x ar kr ac kc ag kg an kn) (hlt : k < x.cells.length) (bn on : Nat) (ha : an = some ⟨bn, on, none⟩) :
    Calls Try.prog 99 #[.pointer (some ⟨b, 0, none⟩), .pointer (some ⟨bn, on + k * 2, none⟩)] w fun e w' => ∃ r : Bool, e = .returned (.bool r) ∧ (r = true ↔ ∀ l, l < (x.c k).prs.length → Leads x ((x.c k).p l).key (¬ Mended x k l) ∧ Leads x ((x.c k).p l).val (¬ Mended x k l)) ∧ Ext w w' := by
  obtain ⟨bn', on', bc, oc, e1, rfl, m0, m1⟩ := h.N k hlt
  rw [ha] at e1
  cases e1
  obtain ⟨bc', oc', ap, kp, e2, C⟩ := h.H.cell k hlt
  cases e2
  have p7 := C.p7
  have lp := C.lp
  have HP := hide C.P
  have HC := hide C
  have M0 := hide m0
  clear m0 C
  go_enter Try.func99, Try.ntmps99
  go_wp2_with fail
  go_loopw [16] (fun i wr => ∃ l : Nat, l ≤ (x.c k).prs.length ∧ i = .int .i64 l ∧ (∀ j, j < l → Leads x ((x.c k).p j).key (¬ Mended x k j) ∧ Leads x ((x.c k).p j).val (¬ Mended x k j)) ∧ Ext w wr) (fun i _ => (x.c k).prs.length - (intOf i).toNat)
  case atStart => exact ⟨0, Nat.zero_le _, rfl, fun j h => by omega, Ext.refl _⟩
  case round =>
    obtain ⟨l, hl, rfl, hall, hbl⟩ := hrel
    have HB := hide hall
    clear hall
    by_cases hl2 : l < (x.c k).prs.length
    · obtain ⟨b2, o2, rfl, q0, q1, q2, q3, q4, q5⟩ := unhide HP l hl2
      have e0 := hbl.keep q0
      have e1 := hbl.keep q1
      have e2 := hbl.keep q2
      have e3 := hbl.keep q3
      have e4 := hbl.keep q4
      have e5 := hbl.keep q5
      have hb2 : b2 < wr.heap.size := cell_lt e0
      clear q0 q1 q2 q3 q4 q5 p7 m1
      have hl0 : (0:Int) ≤ (l:Int) := by omega
      have hl1 : (l:Int) < ((x.c k).prs.length:Int) := by omega
      have hx3 := hbl.alloc (.cells #[.int .i64 ((x.c k).p l).key.k, .int .i64 ((x.c k).p l).key.n, .int .i64 ((x.c k).p l).key.a, .int .i64 ((x.c k).p l).val.k, .int .i64 ((x.c k).p l).val.n, .int .i64 ((x.c k).p l).val.a] 95)
      have hmm : ((!mendedB x k l) = true ↔ ¬ Mended x k l) := by rw [← mendedB_iff]; simp
      have K1 := hide (leadsB_iff (x := x) (y := ((x.c k).p l).key) hmm)
      have K2 := hide (leadsB_iff (x := x) (y := ((x.c k).p l).val) hmm)
      clear hmm
      go_wp2_with fail
      have hv := h.ext hx3
      refine (mended_any x b bn (on + k * 2) k l _ hv.H.c5 hv.H.c6 hv.H.c7 (hx3.keep (unhide M0))).mono ?_
      rintro e w2 ⟨rfl, hq2⟩
      have x2 := hx3.trans hq2
      have u := fun (o : Nat) (v : Value) (hc : (wr.alloc (.cells #[.int .i64 ((x.c k).p l).key.k, .int .i64 ((x.c k).p l).key.n, .int .i64 ((x.c k).p l).key.a, .int .i64 ((x.c k).p l).val.k, .int .i64 ((x.c k).p l).val.n, .int .i64 ((x.c k).p l).val.a] 95)).cell? ⟨wr.heap.size, o, none⟩ = some v) => hq2.keep hc
      have u0 := u 0 _ (by simp [go_sem]; rfl)
      have u1 := u 1 _ (by simp [go_sem]; rfl)
      have u2 := u 2 _ (by simp [go_sem]; rfl)
      have u3 := u 3 _ (by simp [go_sem]; rfl)
      have u4 := u 4 _ (by simp [go_sem]; rfl)
      have u5 := u 5 _ (by simp [go_sem]; rfl)
      clear u hv e0 e1 e2 e3 e4 e5
      go_wp2_with fail
      refine (leads_any x b ((x.c k).p l).key (mendedB x k l) _ (h.ext x2)).mono ?_
      rintro e w3 ⟨rfl, hq3⟩
      have x3 := x2.trans hq3
      have v3 := hq3.keep u3
      have v4 := hq3.keep u4
      have v5 := hq3.keep u5
      clear u0 u1 u2 u3 u4 u5
      cases tk : leadsB x ((x.c k).p l).key (!mendedB x k l)
      · have N := hide (show ¬ (∀ l, l < (x.c k).prs.length → Leads x ((x.c k).p l).key (¬ Mended x k l) ∧ Leads x ((x.c k).p l).val (¬ Mended x k l)) from fun r => by
          have := (unhide K1).2 (r l hl2).1
          rw [this] at tk; simp at tk)
        go_wp2_with fail
        go_ret
        first | (exact Or.inl ⟨rfl, unhide N, x3⟩) | (exact ⟨false, rfl, ⟨fun f => by simp at f, fun r => (unhide N r).elim⟩, x3⟩)
      · go_wp2_with fail
        refine (leads_any x b ((x.c k).p l).val (mendedB x k l) _ (h.ext x3)).mono ?_
        rintro e w4 ⟨rfl, hq4⟩
        have x4 := x3.trans hq4
        cases tv : leadsB x ((x.c k).p l).val (!mendedB x k l)
        · have N := hide (show ¬ (∀ l, l < (x.c k).prs.length → Leads x ((x.c k).p l).key (¬ Mended x k l) ∧ Leads x ((x.c k).p l).val (¬ Mended x k l)) from fun r => by
            have := (unhide K2).2 (r l hl2).2
            rw [this] at tv; simp at tv)
          go_wp2_with fail
          go_ret
          first | (exact Or.inl ⟨rfl, unhide N, x4⟩) | (exact ⟨false, rfl, ⟨fun f => by simp at f, fun r => (unhide N r).elim⟩, x4⟩)
        · have S := hide (show ∀ j, j < l + 1 → Leads x ((x.c k).p j).key (¬ Mended x k j) ∧ Leads x ((x.c k).p j).val (¬ Mended x k j) from fun j hj => by
            by_cases e : j = l
            · subst e; exact ⟨(unhide K1).1 tk, (unhide K2).1 tv⟩
            · exact unhide HB j (by omega))
          go_wp2_with fail
          go_roundw
          case rel => exact ⟨l + 1, by omega, by go_num, unhide S, x4⟩
          case measure => simp [intOf]; omega
    · have Y := hide (show ∀ l, l < (x.c k).prs.length → Leads x ((x.c k).p l).key (¬ Mended x k l) ∧ Leads x ((x.c k).p l).val (¬ Mended x k l) from fun j hj => unhide HB j (by omega))
      go_wp2_with fail
      go_ret
      first | (exact Or.inr ⟨rfl, unhide Y, hbl⟩) | (exact ⟨true, rfl, ⟨fun _ => unhide Y, fun _ => rfl⟩, hbl⟩)

end Go.Proofs.Ytojdehkcggbdeab
