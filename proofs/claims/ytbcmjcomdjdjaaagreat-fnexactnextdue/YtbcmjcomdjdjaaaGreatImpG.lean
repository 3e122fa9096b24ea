import Derived.Test.YtbcmjcomdjdjaaaGreatImpC
import Derived.Test.YtbcmjcomdjdjaaaGreatSpecE
namespace Go.Proofs.YtbcmjcomdjdjaaaGreat
open Go.RowKit
attribute [local go_sem ↓] Go.wp_at_zero Go.wp_at_succ

set_option maxRecDepth 100000 in
set_option maxHeartbeats 1000000 in
theorem leads_any (x : Hp) (b : Nat) (y : Wd) (md : Bool) (w : World) {ar : Option Addr} {kr : Nat} {ac : Option Addr} {kc : Nat} {ag : Option Addr} {kg : Nat} {an : Option Addr} {kn : Nat} (h : VAt w b x ar kr ac kc ag kg an kn) :
    Calls Tryz.prog 133 #[.pointer (some ⟨b, 0, none⟩), y.v, .bool md] w fun e w' => e = .returned (.bool (leadsB x y (!md))) ∧ Ext w w' := by
  have hb : b < w.heap.size := cell_lt h.n13
  go_enter Tryz.func133, Tryz.ntmps133
  go_wp2_with fail
  refine (formed_any y b x.cells.length an kn _ (Ext.keep ((Ext.refl w).alloc _) h.n13) h.H.lc).mono ?_
  rintro e w1 ⟨rfl, hq1⟩
  have x1 : Ext w w1 := Ext.trans ((Ext.refl w).alloc _) hq1
  have a0 := hq1.keep (b := w.heap.size) (o := 0) (v := iv y.k) (by simp [go_sem])
  have a1 := hq1.keep (b := w.heap.size) (o := 1) (v := iv y.n) (by simp [go_sem])
  have a2 := hq1.keep (b := w.heap.size) (o := 2) (v := iv y.a) (by simp [go_sem])
  cases qf : formedB y x.cells.length
  · have E := hide (show leadsB x y (!md) = false by simp [leadsB, qf])
    go_wp2_with fail
    go_ret
    exact ⟨by rw [unhide E]; rfl, x1⟩
  cases qk : (y.k == 2)
  · have E := hide (show leadsB x y (!md) = true by simp [leadsB, qf, qk])
    go_wp2_with fail
    refine (find_none y b _ qk).mono ?_
    rintro e w2 ⟨rfl, hq2⟩
    go_wp2_with fail
    go_ret
    exact ⟨by rw [unhide E]; rfl, x1.trans hq2⟩
  have q1 : y.k = 2 := by simpa using qk
  have hf := formedB_iff.1 qf
  unfold Formed at hf
  have hr : 0 ≤ y.a ∧ y.a < x.cells.length := by omega
  have E0 := hide (show leadsB x y (!md) = (if (x.c y.a.toNat).st = 2 then !md else ((x.c y.a.toNat).st == 1) && !doomedB x y.a.toNat) by simp [leadsB, qf, q1])
  obtain ⟨i, hi⟩ := Int.eq_ofNat_of_zero_le hr.1
  rw [hi] at E0 a2
  rw [Int.toNat_natCast] at E0
  have hin : i < x.cells.length := by omega
  clear q1 hf hr hi
  have h1 := h.ext x1
  obtain ⟨bn, on, bc, oc, rfl, rfl, m0, m1⟩ := h1.N i hin
  obtain ⟨bc', oc', ap, kp, e2, C⟩ := h1.H.cell i hin
  cases e2
  have HD := hide (fun w' (e : Ext w1 w') => doomed_any x b i w' (h1.ext e) hin bn on rfl)
  have HF := hide (find_some y b x.cells.length bn on kn i w1 qk h1.n13 hin)
  clear h h1
  go_wp2_with fail
  refine (unhide HF).mono ?_
  rintro e w2 ⟨rfl, hq2⟩
  have x2 : Ext w w2 := x1.trans hq2
  have u1 := hq2.keep m1
  have r0 := hq2.keep C.p0
  have HD2 := hide (unhide HD w2 hq2)
  clear C m0 m1 a0 a1 a2
  cases qs : ((x.c i).st == 2)
  · have qs' : ¬ (x.c i).st = 2 := by simpa using qs
    have E := hide (show leadsB x y (!md) = (((x.c i).st == 1) && !doomedB x i) by rw [unhide E0, if_neg qs'])
    cases qu : ((x.c i).st == 1)
    · go_wp2_with fail
      go_ret
      exact ⟨by rw [unhide E, qu]; rfl, x2⟩
    · go_wp2_with (go_at_call 134; refine (unhide HD2).mono ?_; rintro e w3 ⟨rfl, hq3⟩)
      go_ret
      exact ⟨by rw [unhide E, qu]; simp, x2.trans hq3⟩
  · have qs' : (x.c i).st = 2 := by simpa using qs
    have E := hide (show leadsB x y (!md) = !md by rw [unhide E0, if_pos qs'])
    clear qs'
    go_wp2_with fail
    go_ret
    exact ⟨by rw [unhide E]; rfl, x2⟩
end Go.Proofs.YtbcmjcomdjdjaaaGreat

namespace Go.Proofs.YtbcmjcomdjdjaaaGreat
open Go.RowKit
attribute [local go_sem ↓] Go.wp_at_zero Go.wp_at_succ

set_option maxRecDepth 100000 in
set_option maxHeartbeats 1000000 in
theorem pairsLead_any (x : Hp) (b k : Nat) (w : World) {ar : Option Addr} {kr : Nat} {ac : Option Addr} {kc : Nat} {ag : Option Addr} {kg : Nat} {an : Option Addr} {kn : Nat} (h : VAt w b x ar kr ac kc ag kg an kn) (hlt : k < x.cells.length) (bn on : Nat) (ha : an = some ⟨bn, on, none⟩) :
    Calls Tryz.prog 136 #[.pointer (some ⟨b, 0, none⟩), .pointer (some ⟨bn, on + k * 2, none⟩)] w fun e w' => ∃ r : Bool, e = .returned (.bool r) ∧ (r = true ↔ ∀ l, l < (x.c k).prs.length → Leads x ((x.c k).p l).key (¬ Mended x k l) ∧ Leads x ((x.c k).p l).val (¬ Mended x k l)) ∧ Ext w w' := by
  obtain ⟨bn', on', bc, oc, e1, rfl, m0, m1⟩ := h.N k hlt
  rw [ha] at e1
  cases e1
  obtain ⟨bc', oc', ap, kp, e2, C⟩ := h.H.cell k hlt
  cases e2
  have p7 := C.p7
  have lp := C.lp
  have HP := hide C.P
  have HC := hide C
  have M0 := hide m0
  clear m0 C
  go_enter Tryz.func136, Tryz.ntmps136
  go_wp2_with fail
  go_loopw [16] (fun i wr => ∃ l : Nat, l ≤ (x.c k).prs.length ∧ i = .int .i64 l ∧ (∀ j, j < l → Leads x ((x.c k).p j).key (¬ Mended x k j) ∧ Leads x ((x.c k).p j).val (¬ Mended x k j)) ∧ Ext w wr) (fun i _ => (x.c k).prs.length - (intOf i).toNat)
  case atStart => exact ⟨0, Nat.zero_le _, rfl, fun j h => by omega, Ext.refl _⟩
  case round =>
    obtain ⟨l, hl, rfl, hall, hbl⟩ := hrel
    have HB := hide hall
    clear hall
    by_cases hl2 : l < (x.c k).prs.length
    · obtain ⟨b2, o2, rfl, q0, q1, q2, q3, q4, q5⟩ := unhide HP l hl2
      have e0 := hbl.keep q0
      have e1 := hbl.keep q1
      have e2 := hbl.keep q2
      have e3 := hbl.keep q3
      have e4 := hbl.keep q4
      have e5 := hbl.keep q5
      have hb2 : b2 < wr.heap.size := cell_lt e0
      clear q0 q1 q2 q3 q4 q5 p7 m1
      have hl0 : (0:Int) ≤ (l:Int) := by omega
      have hl1 : (l:Int) < ((x.c k).prs.length:Int) := by omega
      have hx3 := hbl.alloc (.cells #[.int .i64 ((x.c k).p l).key.k, .int .i64 ((x.c k).p l).key.n, .int .i64 ((x.c k).p l).key.a, .int .i64 ((x.c k).p l).val.k, .int .i64 ((x.c k).p l).val.n, .int .i64 ((x.c k).p l).val.a] 106)
      have hmm : ((!mendedB x k l) = true ↔ ¬ Mended x k l) := by rw [← mendedB_iff]; simp
      have K1 := hide (leadsB_iff (x := x) (y := ((x.c k).p l).key) hmm)
      have K2 := hide (leadsB_iff (x := x) (y := ((x.c k).p l).val) hmm)
      clear hmm
      go_wp2_with fail
      have hv := h.ext hx3
      refine (mended_any x b bn (on + k * 2) k l _ hv.H.c5 hv.H.c6 hv.H.c7 (hx3.keep (unhide M0))).mono ?_
      rintro e w2 ⟨rfl, hq2⟩
      have x2 := hx3.trans hq2
      have u := fun (o : Nat) (v : Value) (hc : (wr.alloc (.cells #[.int .i64 ((x.c k).p l).key.k, .int .i64 ((x.c k).p l).key.n, .int .i64 ((x.c k).p l).key.a, .int .i64 ((x.c k).p l).val.k, .int .i64 ((x.c k).p l).val.n, .int .i64 ((x.c k).p l).val.a] 106)).cell? ⟨wr.heap.size, o, none⟩ = some v) => hq2.keep hc
      have u0 := u 0 _ (by simp [go_sem]; rfl)
      have u1 := u 1 _ (by simp [go_sem]; rfl)
      have u2 := u 2 _ (by simp [go_sem]; rfl)
      have u3 := u 3 _ (by simp [go_sem]; rfl)
      have u4 := u 4 _ (by simp [go_sem]; rfl)
      have u5 := u 5 _ (by simp [go_sem]; rfl)
      clear u hv e0 e1 e2 e3 e4 e5
      go_wp2_with fail
      refine (leads_any x b ((x.c k).p l).key (mendedB x k l) _ (h.ext x2)).mono ?_
      rintro e w3 ⟨rfl, hq3⟩
      have x3 := x2.trans hq3
      have v3 := hq3.keep u3
      have v4 := hq3.keep u4
      have v5 := hq3.keep u5
      clear u0 u1 u2 u3 u4 u5
      cases tk : leadsB x ((x.c k).p l).key (!mendedB x k l)
      · have N := hide (show ¬ (∀ l, l < (x.c k).prs.length → Leads x ((x.c k).p l).key (¬ Mended x k l) ∧ Leads x ((x.c k).p l).val (¬ Mended x k l)) from fun r => by
          have := (unhide K1).2 (r l hl2).1
          rw [this] at tk; simp at tk)
        go_wp2_with fail
        go_ret
        first | (exact Or.inl ⟨rfl, unhide N, x3⟩) | (exact ⟨false, rfl, ⟨fun f => by simp at f, fun r => (unhide N r).elim⟩, x3⟩)
      · go_wp2_with fail
        refine (leads_any x b ((x.c k).p l).val (mendedB x k l) _ (h.ext x3)).mono ?_
        rintro e w4 ⟨rfl, hq4⟩
        have x4 := x3.trans hq4
        cases tv : leadsB x ((x.c k).p l).val (!mendedB x k l)
        · have N := hide (show ¬ (∀ l, l < (x.c k).prs.length → Leads x ((x.c k).p l).key (¬ Mended x k l) ∧ Leads x ((x.c k).p l).val (¬ Mended x k l)) from fun r => by
            have := (unhide K2).2 (r l hl2).2
            rw [this] at tv; simp at tv)
          go_wp2_with fail
          go_ret
          first | (exact Or.inl ⟨rfl, unhide N, x4⟩) | (exact ⟨false, rfl, ⟨fun f => by simp at f, fun r => (unhide N r).elim⟩, x4⟩)
        · have S := hide (show ∀ j, j < l + 1 → Leads x ((x.c k).p j).key (¬ Mended x k j) ∧ Leads x ((x.c k).p j).val (¬ Mended x k j) from fun j hj => by
            by_cases e : j = l
            · subst e; exact ⟨(unhide K1).1 tk, (unhide K2).1 tv⟩
            · exact unhide HB j (by omega))
          go_wp2_with fail
          go_roundw
          case rel => exact ⟨l + 1, by omega, by go_num, unhide S, x4⟩
          case measure => simp [intOf]; omega
    · have Y := hide (show ∀ l, l < (x.c k).prs.length → Leads x ((x.c k).p l).key (¬ Mended x k l) ∧ Leads x ((x.c k).p l).val (¬ Mended x k l) from fun j hj => unhide HB j (by omega))
      go_wp2_with fail
      go_ret
      first | (exact Or.inr ⟨rfl, unhide Y, hbl⟩) | (exact ⟨true, rfl, ⟨fun _ => unhide Y, fun _ => rfl⟩, hbl⟩)

end Go.Proofs.YtbcmjcomdjdjaaaGreat

namespace Go.Proofs.YtbcmjcomdjdjaaaGreat
open Go.RowKit
attribute [local go_sem ↓] Go.wp_at_zero Go.wp_at_succ

set_option maxRecDepth 100000 in
set_option maxHeartbeats 1000000 in
theorem doomedKept_any (x : Hp) (b k : Nat) (w : World) {ar : Option Addr} {kr : Nat} {ac : Option Addr} {kc : Nat} {ag : Option Addr} {kg : Nat} {an : Option Addr} {kn : Nat} (h : VAt w b x ar kr ac kc ag kg an kn) (hlt : k < x.cells.length) (bn on : Nat) (ha : an = some ⟨bn, on, none⟩) :
    Calls Tryz.prog 135 #[.pointer (some ⟨b, 0, none⟩), .pointer (some ⟨bn, on + k * 2, none⟩)] w fun e w' => ∃ r : Bool, e = .returned (.bool r) ∧ (r = true ↔ (∀ l, l < (x.c k).prs.length → Formed ((x.c k).p l).key x.cells.length ∧ Formed ((x.c k).p l).val x.cells.length) ∧ ¬ Speaks (x.c k)) ∧ Ext w w' := by
  obtain ⟨bn', on', bc, oc, e1, rfl, m0, m1⟩ := h.N k hlt
  rw [ha] at e1
  cases e1
  obtain ⟨bc', oc', ap, kp, e2, C⟩ := h.H.cell k hlt
  cases e2
  have p7 := C.p7
  have lp := C.lp
  have HP := hide C.P
  have HC := hide C
  clear m0 C
  go_enter Tryz.func135, Tryz.ntmps135
  go_wp2_with fail
  go_loopw [15] (fun i wr => ∃ l : Nat, l ≤ (x.c k).prs.length ∧ i = .int .i64 l ∧ (∀ j, j < l → Formed ((x.c k).p j).key x.cells.length ∧ Formed ((x.c k).p j).val x.cells.length) ∧ Ext w wr) (fun i _ => (x.c k).prs.length - (intOf i).toNat)
  case atStart => exact ⟨0, Nat.zero_le _, rfl, fun j h => by omega, Ext.refl _⟩
  case round =>
    obtain ⟨l, hl, rfl, hall, hbl⟩ := hrel
    have HB := hide hall
    clear hall
    by_cases hl2 : l < (x.c k).prs.length
    · obtain ⟨b2, o2, rfl, q0, q1, q2, q3, q4, q5⟩ := unhide HP l hl2
      have e0 := hbl.keep q0
      have e1 := hbl.keep q1
      have e2 := hbl.keep q2
      have e3 := hbl.keep q3
      have e4 := hbl.keep q4
      have e5 := hbl.keep q5
      have hb2 : b2 < wr.heap.size := cell_lt e0
      clear q0 q1 q2 q3 q4 q5 p7 m1
      have hl0 : (0:Int) ≤ (l:Int) := by omega
      have hl1 : (l:Int) < ((x.c k).prs.length:Int) := by omega
      have hx3 := hbl.alloc (.cells #[.int .i64 ((x.c k).p l).key.k, .int .i64 ((x.c k).p l).key.n, .int .i64 ((x.c k).p l).key.a, .int .i64 ((x.c k).p l).val.k, .int .i64 ((x.c k).p l).val.n, .int .i64 ((x.c k).p l).val.a] 106)
      go_wp2_with fail
      refine (formed_any ((x.c k).p l).key b x.cells.length an kn _ (h.ext hx3).n13 h.H.lc).mono ?_
      rintro e w3 ⟨rfl, hq3⟩
      have x3 := hx3.trans hq3
      have u := fun (o : Nat) (v : Value) (hc : (wr.alloc (.cells #[.int .i64 ((x.c k).p l).key.k, .int .i64 ((x.c k).p l).key.n, .int .i64 ((x.c k).p l).key.a, .int .i64 ((x.c k).p l).val.k, .int .i64 ((x.c k).p l).val.n, .int .i64 ((x.c k).p l).val.a] 106)).cell? ⟨wr.heap.size, o, none⟩ = some v) => hq3.keep hc
      have v3 := u 3 _ (by simp [go_sem]; rfl)
      have v4 := u 4 _ (by simp [go_sem]; rfl)
      have v5 := u 5 _ (by simp [go_sem]; rfl)
      clear u e0 e1 e2 e3 e4 e5
      cases tk : formedB ((x.c k).p l).key x.cells.length
      · have N := hide (show ¬ ((∀ l, l < (x.c k).prs.length → Formed ((x.c k).p l).key x.cells.length ∧ Formed ((x.c k).p l).val x.cells.length) ∧ ¬ Speaks (x.c k)) from fun r => by
          have := formedB_iff.2 (r.1 l hl2).1
          rw [this] at tk; simp at tk)
        go_wp2_with fail
        go_ret
        first | (exact Or.inl ⟨rfl, unhide N, x3⟩) | (exact ⟨false, rfl, ⟨fun f => by simp at f, fun r => (unhide N r).elim⟩, x3⟩)
      · go_wp2_with fail
        refine (formed_any ((x.c k).p l).val b x.cells.length an kn _ (h.ext x3).n13 h.H.lc).mono ?_
        rintro e w4 ⟨rfl, hq4⟩
        have x4 := x3.trans hq4
        cases tv : formedB ((x.c k).p l).val x.cells.length
        · have N := hide (show ¬ ((∀ l, l < (x.c k).prs.length → Formed ((x.c k).p l).key x.cells.length ∧ Formed ((x.c k).p l).val x.cells.length) ∧ ¬ Speaks (x.c k)) from fun r => by
            have := formedB_iff.2 (r.1 l hl2).2
            rw [this] at tv; simp at tv)
          go_wp2_with fail
          go_ret
          first | (exact Or.inl ⟨rfl, unhide N, x4⟩) | (exact ⟨false, rfl, ⟨fun f => by simp at f, fun r => (unhide N r).elim⟩, x4⟩)
        · have S := hide (show ∀ j, j < l + 1 → Formed ((x.c k).p j).key x.cells.length ∧ Formed ((x.c k).p j).val x.cells.length from fun j hj => by
            by_cases e : j = l
            · subst e; exact ⟨formedB_iff.1 tk, formedB_iff.1 tv⟩
            · exact unhide HB j (by omega))
          go_wp2_with fail
          go_roundw
          case rel => exact ⟨l + 1, by omega, by go_num, unhide S, x4⟩
          case measure => simp [intOf]; omega
    · have Y := hide (show ∀ l, l < (x.c k).prs.length → Formed ((x.c k).p l).key x.cells.length ∧ Formed ((x.c k).p l).val x.cells.length from fun j hj => unhide HB j (by omega))
      have HS := hide (speaks_any (x.c k) bn (on + k * 2) bc (oc + k * 8) ap kp wr (hbl.keep m1) ((unhide HC).ext hbl))
      cases ts : speaksN (x.c k)
      · have Z := hide (show (∀ l, l < (x.c k).prs.length → Formed ((x.c k).p l).key x.cells.length ∧ Formed ((x.c k).p l).val x.cells.length) ∧ ¬ Speaks (x.c k) from ⟨unhide Y, fun hs => by rw [← speaksN_iff, ts] at hs; simp at hs⟩)
        go_wp2_with (go_at_call 104; refine (unhide HS).mono ?_; rintro e w' ⟨rfl, rfl⟩)
        go_ret
        first | (exact Or.inr ⟨by simp, unhide Z, hbl⟩) | (exact ⟨true, by simp, ⟨fun _ => unhide Z, fun _ => rfl⟩, hbl⟩)
      · have N := hide (show ¬ ((∀ l, l < (x.c k).prs.length → Formed ((x.c k).p l).key x.cells.length ∧ Formed ((x.c k).p l).val x.cells.length) ∧ ¬ Speaks (x.c k)) from fun r => r.2 (speaksN_iff.1 ts))
        go_wp2_with (go_at_call 104; refine (unhide HS).mono ?_; rintro e w' ⟨rfl, rfl⟩)
        go_ret
        first | (exact Or.inl ⟨by simp, unhide N, hbl⟩) | (exact ⟨false, by simp, ⟨fun f => by simp at f, fun r => (unhide N r).elim⟩, hbl⟩)

end Go.Proofs.YtbcmjcomdjdjaaaGreat

namespace Go.Proofs.YtbcmjcomdjdjaaaGreat
open Go.RowKit
attribute [local go_sem ↓] Go.wp_at_zero Go.wp_at_succ

set_option maxRecDepth 100000 in
set_option maxHeartbeats 1000000 in
theorem wordsKept_any (x : Hp) (b : Nat) (w : World) {ar : Option Addr} {kr : Nat} {ac : Option Addr} {kc : Nat} {ag : Option Addr} {kg : Nat} {an : Option Addr} {kn : Nat} (h : VAt w b x ar kr ac kc ag kg an kn) :
    Calls Tryz.prog 99 #[.pointer (some ⟨b, 0, none⟩)] w fun e w' => ∃ r : Bool, e = .returned (.bool r) ∧ (r = true ↔ R4 x) ∧ Ext w w' := by
  have c3 := h.H.c3
  have lr := h.H.lr
  have lc := h.H.lc
  go_enter Tryz.func99, Tryz.ntmps99
  go_wp2_with fail
  go_loopw [13] (fun i wr => ∃ k : Nat, k ≤ x.regs.length ∧ i = .int .i64 k ∧ (∀ j (hj : j < x.regs.length), j < k → Leads x x.regs[j] False) ∧ Ext w wr) (fun i _ => x.regs.length - (intOf i).toNat)
  case atStart => exact ⟨0, Nat.zero_le _, rfl, fun j hj h => by omega, Ext.refl _⟩
  case round =>
    obtain ⟨k, hk, rfl, hall, hbl⟩ := hrel
    have HA := hide hall
    clear hall
    by_cases hlt : k < x.regs.length
    · obtain ⟨b', o, rfl, p0, p1, p2⟩ := (h.ext hbl).H.R k hlt
      have hb' : b' < wr.heap.size := cell_lt p0
      have hk0 : (0:Int) ≤ (k:Int) := by omega
      have hk1 : (k:Int) < (x.regs.length:Int) := by omega
      go_wp2_with fail
      refine (leads_any x b x.regs[k] true _ (h.ext (hbl.alloc _))).mono ?_
      rintro e w1 ⟨rfl, hq1⟩
      have x1 : Ext w w1 := (hbl.alloc _).trans hq1
      cases q : leadsB x x.regs[k] (!true)
      · have N := hide (show ¬ R4 x from fun r => by
          have := (leadsB_iff (m := !true) (p := False) (by simp)).2 (r.1 k hlt)
          rw [this] at q; simp at q)
        go_wp2_with fail
        go_ret
        first | (exact Or.inl ⟨rfl, unhide N, x1⟩) | (exact ⟨false, rfl, ⟨fun f => by simp at f, fun r => (unhide N r).elim⟩, x1⟩)
      · have S := hide (show ∀ j (hj : j < x.regs.length), j < k + 1 → Leads x x.regs[j] False from fun j hj hjk => by
          by_cases e : j = k
          · subst e; exact (leadsB_iff (m := !true) (p := False) (by simp)).1 q
          · exact unhide HA j hj (by omega))
        go_wp2_with fail
        go_roundw
        case rel => exact ⟨k + 1, by omega, by go_num, unhide S, x1⟩
        case measure => simp [intOf]; omega
    · have A1 := hide (show ∀ j (hj : j < x.regs.length), Leads x x.regs[j] False from fun j hj => unhide HA j hj (by omega))
      clear HA
      have d13 := (h.ext hbl).n13
      go_wp2_with fail
      clear hlt hk
      go_loopw [27] (fun i wr => ∃ k : Nat, k ≤ x.cells.length ∧ i = .int .i64 k ∧ (∀ j, j < k → ¬ (Doomed x j ∧ Speaks (x.c j)) ∧ ∀ l, l < (x.c j).prs.length → PairOk x j l ((x.c j).p l)) ∧ Ext w wr) (fun i _ => x.cells.length - (intOf i).toNat)
      case atStart => exact ⟨0, Nat.zero_le _, rfl, fun j h => by omega, hbl⟩
      case round =>
        clear hbl d13
        obtain ⟨k, hk, rfl, hall, hbl⟩ := hrel
        have HA := hide hall
        clear hall
        by_cases hlt : k < x.cells.length
        · have h1 := h.ext hbl
          obtain ⟨bn, on, bc, oc, rfl, rfl, m0, m1⟩ := h1.N k hlt
          have d13 := h1.n13
          have hk0 : (0:Int) ≤ (k:Int) := by omega
          have hk1 : (k:Int) < (x.cells.length:Int) := by omega
          go_wp2_with fail
          refine (doomed_any x b k _ h1 hlt bn on rfl).mono ?_
          rintro e w2 ⟨rfl, hq2⟩
          have h2 := h1.ext hq2
          have x2 := hbl.trans hq2
          cases td : doomedB x k
          · have ND := hide (show ¬ Doomed x k from fun hd => by rw [← doomedB_iff, td] at hd; simp at hd)
            go_wp2_with fail
            refine (pairsLead_any x b k _ h2 hlt bn on rfl).mono ?_
            rintro e w3 ⟨r, rfl, hr, hq3⟩
            have x3 := x2.trans hq3
            cases r
            · have N := hide (show ¬ R4 x from fun r4 => by
                have := hr.2 (fun l hl => ((r4.2 k hlt).2 l hl).2 (unhide ND))
                simp at this)
              clear hr
              go_wp2_with fail
              go_ret
              first | (exact Or.inl ⟨rfl, unhide N, x3⟩) | (exact ⟨false, rfl, ⟨fun f => by simp at f, fun r => (unhide N r).elim⟩, x3⟩)
            · have S := hide (show ∀ j, j < k + 1 → ¬ (Doomed x j ∧ Speaks (x.c j)) ∧ ∀ l, l < (x.c j).prs.length → PairOk x j l ((x.c j).p l) from fun j hj => by
                by_cases e : j = k
                · subst e; exact ⟨fun hd => unhide ND hd.1, fun l hl => ⟨fun hd => (unhide ND hd).elim, fun _ => hr.1 rfl l hl⟩⟩
                · exact unhide HA j (by omega))
              clear hr
              go_wp2_with fail
              go_roundw
              case rel => exact ⟨k + 1, by omega, by go_num, unhide S, x3⟩
              case measure => simp [intOf]; omega
          · have DD := hide (doomedB_iff.1 td)
            go_wp2_with fail
            refine (doomedKept_any x b k _ h2 hlt bn on rfl).mono ?_
            rintro e w3 ⟨r, rfl, hr, hq3⟩
            have x3 := x2.trans hq3
            cases r
            · have N := hide (show ¬ R4 x from fun r4 => by
                have := hr.2 ⟨fun l hl => ((r4.2 k hlt).2 l hl).1 (unhide DD), fun hs => (r4.2 k hlt).1 ⟨unhide DD, hs⟩⟩
                simp at this)
              clear hr
              go_wp2_with fail
              go_ret
              first | (exact Or.inl ⟨rfl, unhide N, x3⟩) | (exact ⟨false, rfl, ⟨fun f => by simp at f, fun r => (unhide N r).elim⟩, x3⟩)
            · have S := hide (show ∀ j, j < k + 1 → ¬ (Doomed x j ∧ Speaks (x.c j)) ∧ ∀ l, l < (x.c j).prs.length → PairOk x j l ((x.c j).p l) from fun j hj => by
                by_cases e : j = k
                · subst e; exact ⟨fun hd => (hr.1 rfl).2 hd.2, fun l hl => ⟨fun _ => (hr.1 rfl).1 l hl, fun nd => (nd (unhide DD)).elim⟩⟩
                · exact unhide HA j (by omega))
              clear hr
              go_wp2_with fail
              go_roundw
              case rel => exact ⟨k + 1, by omega, by go_num, unhide S, x3⟩
              case measure => simp [intOf]; omega
        · have Y := hide (show R4 x from ⟨unhide A1, fun i hi => unhide HA i (by omega)⟩)
          go_wp2_with fail
          go_ret
          first | (exact Or.inr ⟨rfl, unhide Y, hbl⟩) | (exact ⟨true, rfl, ⟨fun _ => unhide Y, fun _ => rfl⟩, hbl⟩)
end Go.Proofs.YtbcmjcomdjdjaaaGreat

namespace Go.Proofs.YtbcmjcomdjdjaaaGreat
open Go.RowKit
attribute [local go_sem ↓] Go.wp_at_zero Go.wp_at_succ

theorem grayPairs_none (b : Nat) (w : World) {ag : Option Addr} {kg : Nat} (c8 : w.cell? ⟨b, 8, none⟩ = some (.slice ag 0 kg)) :
    Calls Tryz.prog 140 #[.pointer (some ⟨b, 0, none⟩)] w fun e w' => e = .returned (.slice none 0 0) ∧ w' = w := by
  go_enter Tryz.func140, Tryz.ntmps140
  go_wp2_with fail
  go_ret
  exact ⟨rfl, rfl⟩

theorem grayPairs_some (x : Hp) (b i : Nat) (w : World) {ar : Option Addr} {kr : Nat} {ac : Option Addr} {kc : Nat} {ag : Option Addr} {kg : Nat} {an : Option Addr} {kn : Nat} (h : VAt w b x ar kr ac kc ag kg an kn) (hg : 0 < x.gray.length) (hi : x.gray[0] = (i : Int)) (hin : i < x.cells.length) (bc oc : Nat) (ap : Option Addr) (kp : Nat) (ha : ac = some ⟨bc, oc, none⟩) (C : CAt w bc (oc + i * 8) (x.c i) ap kp) :
    Calls Tryz.prog 140 #[.pointer (some ⟨b, 0, none⟩)] w fun e w' => e = .returned (.slice ap (x.c i).prs.length kp) ∧ ∃ m, w' = w.drewN m := by
  obtain ⟨bn, on, bc', oc', rfl, e1, m0, m1⟩ := h.N i hin
  rw [ha] at e1
  cases e1
  obtain ⟨bg, og, rfl, pg⟩ := h.H.G 0 hg
  unfold InAt at pg
  rw [hi] at pg
  simp only [Nat.zero_mul, Nat.add_zero] at pg
  have c8 := h.H.c8
  have n13 := h.n13
  have p7 := C.p7
  have hg3 : ((x.gray.length : Int) == 0) = false := beq_eq_false_iff_ne.2 (by omega)
  have hg4 : (0 : Int) < (x.gray.length : Int) := by omega
  have hi0 : (0 : Int) ≤ (i : Int) := by omega
  have hi1 : (i : Int) < (x.cells.length : Int) := by omega
  clear h C hi
  go_enter Tryz.func140, Tryz.ntmps140
  go_wp2_with fail
  go_quiet (fail)
  go_wp2_with fail
  go_ret
  exact ⟨rfl, _, rfl⟩

theorem handPairs_none (x : Hp) (b : Nat) (w : World) {an : Option Addr} {kn : Nat} (c6 : w.cell? ⟨b, 6, none⟩ = some (iv x.cells.length)) (n13 : w.cell? ⟨b, 13, none⟩ = some (.slice an x.cells.length kn)) :
    Calls Tryz.prog 141 #[.pointer (some ⟨b, 0, none⟩)] w fun e w' => e = .returned (.slice none 0 0) ∧ ∃ m, w' = w.drewN m := by
  go_enter Tryz.func141, Tryz.ntmps141
  go_wp2_with fail
  go_quiet (fail)
  go_wp2_with fail
  go_ret
  exact ⟨rfl, _, rfl⟩

theorem handPairs_some (x : Hp) (b i : Nat) (w : World) {ar : Option Addr} {kr : Nat} {ac : Option Addr} {kc : Nat} {ag : Option Addr} {kg : Nat} {an : Option Addr} {kn : Nat} (h : VAt w b x ar kr ac kc ag kg an kn) (hi : x.hand = (i : Int)) (hin : i < x.cells.length) (bc oc : Nat) (ap : Option Addr) (kp : Nat) (ha : ac = some ⟨bc, oc, none⟩) (C : CAt w bc (oc + i * 8) (x.c i) ap kp) :
    Calls Tryz.prog 141 #[.pointer (some ⟨b, 0, none⟩)] w fun e w' => e = .returned (.slice ap (x.c i).prs.length kp) ∧ ∃ m, w' = w.drewN m := by
  obtain ⟨bn, on, bc', oc', rfl, e1, m0, m1⟩ := h.N i hin
  rw [ha] at e1
  cases e1
  have c6 := h.H.c6
  rw [hi] at c6
  have n13 := h.n13
  have p7 := C.p7
  have hn : ((i : Int) == (x.cells.length : Int)) = false := beq_eq_false_iff_ne.2 (by omega)
  have hi0 : (0 : Int) ≤ (i : Int) := by omega
  have hi1 : (i : Int) < (x.cells.length : Int) := by omega
  clear h C hi
  go_enter Tryz.func141, Tryz.ntmps141
  go_wp2_with fail
  go_quiet (fail)
  go_wp2_with fail
  go_quiet (fail)
  go_wp2_with fail
  go_ret
  exact ⟨rfl, _, by rw [World.drewN_drewN]⟩

/-- holdsWhite of a word that leads to a used cell -/
theorem holdsWhite_no (y : Wd) (b : Nat) (w : World) (k2 : (y.k == 2) = false) :
    Calls Tryz.prog 163 #[.pointer (some ⟨b, 0, none⟩), y.v] w fun e w' => e = .returned (.bool false) ∧ Ext w w' := by
  go_enter Tryz.func163, Tryz.ntmps163
  go_wp2_with fail
  refine (find_none y b _ k2).mono ?_
  rintro e w1 ⟨rfl, hq⟩
  go_wp2_with fail
  go_ret
  exact ⟨rfl, Ext.trans ((Ext.refl w).alloc _) hq⟩
end Go.Proofs.YtbcmjcomdjdjaaaGreat

namespace Go.Proofs.YtbcmjcomdjdjaaaGreat
open Go.RowKit
attribute [local go_sem ↓] Go.wp_at_zero Go.wp_at_succ

set_option maxRecDepth 100000 in
set_option maxHeartbeats 1000000 in
theorem progressKept_any (x : Hp) (b : Nat) (w : World) {ar : Option Addr} {kr : Nat} {ac : Option Addr} {kc : Nat} {ag : Option Addr} {kg : Nat} {an : Option Addr} {kn : Nat} (h : VAt w b x ar kr ac kc ag kg an kn) (r1 : R1 x) (r2 : R2 x) (r5 : R5 x) :
    Calls Tryz.prog 101 #[.pointer (some ⟨b, 0, none⟩)] w fun e w' => ∃ r : Bool, Hid (e = .returned (.bool r)) ∧ (r = true ↔ R6 x) ∧ Ext w w' := by
  have c5 := h.H.c5
  have c6 := h.H.c6
  have c7 := h.H.c7
  obtain ⟨ph0, ph1⟩ := r1.phase
  obtain ⟨hh0, hh1⟩ := r1.hand
  have hs0 := r1.sub.1
  have hphase : x.phase = 0 ∨ x.phase = 1 ∨ x.phase = 2 ∨ x.phase = 3 ∨ x.phase = 4 ∨ x.phase = 5 ∨ x.phase = 6 := by omega
  clear ph0 ph1
  rcases hphase with hp | hp | hp | hp | hp | hp | hp
  · have Y := hide (R6_04 (x := x) (Or.inl hp))
    clear r1 r2 r5 h
    cases q : (x.hand == 0)
    all_goals
      go_enter Tryz.func101, Tryz.ntmps101
      go_wp2_with fail
      go_ret
      exact ⟨_, rfl, by have := unhide Y; rw [q] at this; simpa using this, Ext.refl _⟩
  · have Y := hide (R6_1 (x := x) (Or.inl hp))
    clear r1 r2 r5 h
    go_enter Tryz.func101, Tryz.ntmps101
    go_wp2_with fail
    go_ret
    exact ⟨_, rfl, unhide Y, Ext.refl _⟩
  · cases q : (x.hand == 0)
    · have Y := hide (show ¬ R6 x from fun r => by have := (r.2.1 hp).1; simp at q; omega)
      clear r1 r2 r5 h
      go_enter Tryz.func101, Tryz.ntmps101
      go_wp2_with fail
      go_quiet (fail)
      go_wp2_with fail
      go_ret
      exact ⟨false, rfl, ⟨fun f => by simp at f, fun r => (unhide Y r).elim⟩, (Ext.refl _).drewN _⟩
    · by_cases hg : x.gray.length = 0
      · have Y := hide (show decide (x.sub ≤ 0) = true ↔ R6 x by
          have q2 : x.hand = 0 := by simpa using q
          unfold R6; simp [hp, hg, q2]; omega)
        have c8 := h.H.c8
        rw [hg] at c8
        have HG := hide (fun n => grayPairs_none b (w.drewN n) (((Ext.refl w).drewN n).keep c8))
        clear r1 r2 r5 h hg c8
        go_enter Tryz.func101, Tryz.ntmps101
        go_wp2_with fail
        go_quiet ((go_at_call 140; exact Calls.quiet_of_same (unhide HG _)))
        go_wp2_with fail
        go_ret
        exact ⟨_, rfl, unhide Y, (Ext.refl _).drewN _⟩
      · have hg0 : 0 < x.gray.length := by omega
        have hgr := r5.2.2 x.gray[0] (List.getElem_mem hg0)
        obtain ⟨i, hi⟩ := Int.eq_ofNat_of_zero_le hgr.1
        have eg : x.g0 = i := by simp [Hp.g0, hg0, hi]
        have Y := hide (show decide (x.sub ≤ ((x.c i).prs.length : Int)) = true ↔ R6 x by
          have q2 : x.hand = 0 := by simpa using q
          have hg2 : x.gray ≠ [] := fun e => by simp [e] at hg
          unfold R6; rw [eg]; simp [hp, hg2, q2])
        obtain ⟨b', o, ap, kp, ea, C⟩ := h.H.cell i (by omega)
        have HG := hide (fun n => grayPairs_some x b i (w.drewN n) (h.ext ((Ext.refl w).drewN n)) hg0 hi (by omega) b' o ap kp ea (C.ext ((Ext.refl w).drewN n)))
        clear r1 r2 r5 h C hgr hi eg hg hg0 ea
        go_enter Tryz.func101, Tryz.ntmps101
        go_wp2_with fail
        go_quiet ((go_at_call 140; exact Calls.quiet_of (unhide HG _)))
        go_wp2_with fail
        go_ret
        exact ⟨_, rfl, unhide Y, (Ext.refl _).drewN _⟩
  · have Y := hide (R6_1 (x := x) (Or.inr (Or.inl hp)))
    clear r1 r2 r5 h
    go_enter Tryz.func101, Tryz.ntmps101
    go_wp2_with fail
    go_ret
    exact ⟨_, rfl, unhide Y, Ext.refl _⟩
  · have Y := hide (R6_04 (x := x) (Or.inr hp))
    clear r1 r2 r5 h
    cases q : (x.hand == 0)
    all_goals
      go_enter Tryz.func101, Tryz.ntmps101
      go_wp2_with fail
      go_ret
      exact ⟨_, rfl, by have := unhide Y; rw [q] at this; simpa using this, Ext.refl _⟩
  · obtain ⟨i, hi⟩ := Int.eq_ofNat_of_zero_le hh0
    by_cases hil : i < x.cells.length
    · have Y := hide (show decide (x.sub ≤ ((x.c i).prs.length : Int)) = true ↔ R6 x by
        have q4 : ¬ (i : Int) = (x.cells.length : Int) := by omega
        by_cases q3 : (x.c i).st = 1
        · unfold R6; simp [hp, hi, q3, q4]
        · have q5 : (x.c i).prs.length = 0 := by
            rcases r2.1 i hil with c | c | c
            · exact c.2.1.2.2.2.2.2
            · exact c.2.1.2.2.2.2.2
            · exact absurd c.1 q3
          unfold R6; simp [hp, hi, q3, q5]; omega)
      obtain ⟨b', o, ap, kp, ea, C⟩ := h.H.cell i hil
      have HG := hide (fun n => handPairs_some x b i (w.drewN n) (h.ext ((Ext.refl w).drewN n)) hi hil b' o ap kp ea (C.ext ((Ext.refl w).drewN n)))
      clear r1 r2 r5 h C ea hi hh0 hh1
      go_enter Tryz.func101, Tryz.ntmps101
      go_wp2_with fail
      go_quiet ((go_at_call 141; exact Calls.quiet_of (unhide HG _)))
      go_wp2_with fail
      go_ret
      exact ⟨_, rfl, unhide Y, (Ext.refl _).drewN _⟩
    · have he : x.hand = x.cells.length := by omega
      have Y := hide (show decide (x.sub ≤ 0) = true ↔ R6 x by
        unfold R6; simp [hp, he]; omega)
      have d6 := c6
      rw [he] at d6
      have HG := hide (fun n => handPairs_none x b (w.drewN n) (((Ext.refl w).drewN n).keep d6) (((Ext.refl w).drewN n).keep h.n13))
      clear r1 r2 r5 h hi hh0 hh1 he d6 hil
      go_enter Tryz.func101, Tryz.ntmps101
      go_wp2_with fail
      go_quiet ((go_at_call 141; exact Calls.quiet_of (unhide HG _)))
      go_wp2_with fail
      go_ret
      exact ⟨_, rfl, unhide Y, (Ext.refl _).drewN _⟩
  · have Y := hide (R6_1 (x := x) (Or.inr (Or.inr hp)))
    clear r1 r2 r5 h
    go_enter Tryz.func101, Tryz.ntmps101
    go_wp2_with fail
    go_ret
    exact ⟨_, rfl, unhide Y, Ext.refl _⟩
end Go.Proofs.YtbcmjcomdjdjaaaGreat

namespace Go.Proofs.YtbcmjcomdjdjaaaGreat
open Go.RowKit
attribute [local go_sem ↓] Go.wp_at_zero Go.wp_at_succ

/-- holdsWhite as it answers in a heap whose words are formed -/
def hwB (x : Hp) (y : Wd) : Bool := (y.k == 2) && whiteN (x.c y.a.toNat)

theorem holdsWhite_yes (x : Hp) (y : Wd) (b i : Nat) (w : World) {ar : Option Addr} {kr : Nat} {ac : Option Addr} {kc : Nat} {ag : Option Addr} {kg : Nat} {an : Option Addr} {kn : Nat} (h : VAt w b x ar kr ac kc ag kg an kn) (k2 : (y.k == 2) = true) (hi : i < x.cells.length) :
    Calls Tryz.prog 163 #[.pointer (some ⟨b, 0, none⟩), .agg #[iv y.k, iv y.n, iv i]] w fun e w' => e = .returned (.bool (whiteN (x.c i))) ∧ Ext w w' := by
  obtain ⟨bn, on, bc, oc, rfl, rfl, m0, m1⟩ := h.N i hi
  obtain ⟨bc', oc', ap, kp, e2, C⟩ := h.H.cell i hi
  cases e2
  have n13 := h.n13
  have x1 := (Ext.refl w).alloc (.cells #[iv y.k, iv y.n, iv i] 85)
  go_enter Tryz.func163, Tryz.ntmps163
  go_wp2_with fail
  refine (find_some y b x.cells.length bn on kn i _ k2 (x1.keep n13) hi).mono ?_
  rintro e w1 ⟨rfl, hq⟩
  have x2 := x1.trans hq
  go_wp2_with fail
  refine (white_any (x.c i) bn (on + i * 2) bc (oc + i * 8) ap kp _ (x2.keep m1) (C.ext x2)).mono ?_
  rintro e w2 ⟨rfl, rfl⟩
  go_wp2_with fail
  go_ret
  exact ⟨rfl, x2⟩

theorem holdsWhite_any (x : Hp) (y : Wd) (b : Nat) (w : World) {ar : Option Addr} {kr : Nat} {ac : Option Addr} {kc : Nat} {ag : Option Addr} {kg : Nat} {an : Option Addr} {kn : Nat} (h : VAt w b x ar kr ac kc ag kg an kn) (hy : Formed y x.cells.length) :
    Calls Tryz.prog 163 #[.pointer (some ⟨b, 0, none⟩), y.v] w fun e w' => e = .returned (.bool (hwB x y)) ∧ Ext w w' := by
  cases k2 : (y.k == 2)
  · have : hwB x y = false := by simp [hwB, k2]
    rw [this]; exact holdsWhite_no y b w k2
  · have hr : 0 ≤ y.a ∧ y.a < x.cells.length := by simp at k2; unfold Formed at hy; omega
    have e : hwB x y = whiteN (x.c y.a.toNat) := by simp [hwB, k2]
    rw [e]
    have := holdsWhite_yes x y b y.a.toNat w h k2 (by omega)
    rwa [Int.toNat_of_nonneg hr.1] at this


set_option maxRecDepth 100000 in
set_option maxHeartbeats 1000000 in
theorem anyWhite_any (x : Hp) (b n cap : Nat) (ap : Option Addr) (f : Nat → Pr) (w : World) {ar : Option Addr} {kr : Nat} {ac : Option Addr} {kc : Nat} {ag : Option Addr} {kg : Nat} {an : Option Addr} {kn : Nat} (h : VAt w b x ar kr ac kc ag kg an kn)
    (lp : n ≤ 35184372088832) (P : ∀ k, k < n → ∃ b' o', ap = some ⟨b', o', none⟩ ∧ PrAt w b' (o' + k * 6) (f k)) (hF : ∀ k, k < n → Formed (f k).key x.cells.length ∧ Formed (f k).val x.cells.length) :
    Calls Tryz.prog 144 #[.pointer (some ⟨b, 0, none⟩), .slice ap n cap] w fun e w' => ∃ r : Bool, Hid (e = .returned (.bool r)) ∧ (r = true ↔ ∃ k, k < n ∧ (hwB x (f k).key = true ∨ hwB x (f k).val = true)) ∧ Ext w w' := by
  have HP := hide P
  have HF := hide hF
  clear P hF
  go_enter Tryz.func144, Tryz.ntmps144
  go_wp2_with fail
  go_loopw [9] (fun i wr => ∃ l : Nat, l ≤ n ∧ i = .int .i64 l ∧ (∀ j, j < l → ¬ (hwB x (f j).key = true ∨ hwB x (f j).val = true)) ∧ Ext w wr) (fun i _ => n - (intOf i).toNat)
  case atStart => exact ⟨0, Nat.zero_le _, rfl, fun j h => by omega, Ext.refl _⟩
  case round =>
    obtain ⟨l, hl, rfl, hall, hbl⟩ := hrel
    have HB := hide hall
    clear hall
    by_cases hl2 : l < n
    · obtain ⟨b2, o2, rfl, q0, q1, q2, q3, q4, q5⟩ := unhide HP l hl2
      have HFl := hide (unhide HF l hl2)
      have e0 := hbl.keep q0
      have e1 := hbl.keep q1
      have e2 := hbl.keep q2
      have e3 := hbl.keep q3
      have e4 := hbl.keep q4
      have e5 := hbl.keep q5
      have hb2 : b2 < wr.heap.size := cell_lt e0
      clear q0 q1 q2 q3 q4 q5
      have hl0 : (0:Int) ≤ (l:Int) := by omega
      have hl1 : (l:Int) < (n:Int) := by omega
      have hx3 := hbl.alloc (.cells #[.int .i64 (f l).key.k, .int .i64 (f l).key.n, .int .i64 (f l).key.a, .int .i64 (f l).val.k, .int .i64 (f l).val.n, .int .i64 (f l).val.a] 106)
      go_wp2_with fail
      refine (holdsWhite_any x (f l).key b _ (h.ext hx3) (unhide HFl).1).mono ?_
      rintro e w2 ⟨rfl, hq2⟩
      have x2 := hx3.trans hq2
      have u := fun (o : Nat) (v : Value) (hc : (wr.alloc (.cells #[.int .i64 (f l).key.k, .int .i64 (f l).key.n, .int .i64 (f l).key.a, .int .i64 (f l).val.k, .int .i64 (f l).val.n, .int .i64 (f l).val.a] 106)).cell? ⟨wr.heap.size, o, none⟩ = some v) => hq2.keep hc
      have u3 := u 3 _ (by simp [go_sem]; rfl)
      have u4 := u 4 _ (by simp [go_sem]; rfl)
      have u5 := u 5 _ (by simp [go_sem]; rfl)
      clear u e0 e1 e2 e3 e4 e5
      cases tk : hwB x (f l).key
      · go_wp2_with fail
        refine (holdsWhite_any x (f l).val b _ (h.ext x2) (unhide HFl).2).mono ?_
        rintro e w3 ⟨rfl, hq3⟩
        have x3 := x2.trans hq3
        cases tv : hwB x (f l).val
        · have S := hide (show ∀ j, j < l + 1 → ¬ (hwB x (f j).key = true ∨ hwB x (f j).val = true) from fun j hj => by
            by_cases e : j = l
            · subst e; simp [tk, tv]
            · exact unhide HB j (by omega))
          go_wp2_with fail
          go_roundw
          case rel => exact ⟨l + 1, by omega, by go_num, unhide S, x3⟩
          case measure => simp [intOf]; omega
        · have Y := hide (show ∃ k, k < n ∧ (hwB x (f k).key = true ∨ hwB x (f k).val = true) from ⟨l, hl2, .inr tv⟩)
          go_wp2_with fail
          go_ret
          exact ⟨true, rfl, ⟨fun _ => unhide Y, fun _ => rfl⟩, x3⟩
      · have Y := hide (show ∃ k, k < n ∧ (hwB x (f k).key = true ∨ hwB x (f k).val = true) from ⟨l, hl2, .inl tk⟩)
        go_wp2_with fail
        go_ret
        exact ⟨true, rfl, ⟨fun _ => unhide Y, fun _ => rfl⟩, x2⟩
    · have N := hide (show ¬ ∃ k, k < n ∧ (hwB x (f k).key = true ∨ hwB x (f k).val = true) from fun ⟨k, hk, hh⟩ => unhide HB k (by omega) hh)
      go_wp2_with fail
      go_ret
      exact ⟨false, rfl, ⟨fun f => by simp at f, fun r => (unhide N r).elim⟩, hbl⟩
end Go.Proofs.YtbcmjcomdjdjaaaGreat
