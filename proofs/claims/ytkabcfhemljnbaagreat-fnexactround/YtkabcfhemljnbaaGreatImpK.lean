import Derived.Test.YtkabcfhemljnbaaGreatImpO
import Derived.Test.YtkabcfhemljnbaaGreatImpB1
namespace Go.Proofs.YtkabcfhemljnbaaGreat
open Go.RowKit
attribute [local go_sem ↓] Go.wp_at_zero Go.wp_at_succ

/-- the two heaps of least items that cellsKept fills -/
structure Two (w wr : World) (x : Hp) (k : Nat) (v1 v2 : Value) (L1 L2 : List Int) : Prop where
  e : Ext w wr
  s1 : LsAt wr w.heap.size w.heap.size 0 v1 L1
  s2 : LsAt wr w.heap.size (w.heap.size + 1) 0 v2 L2
  d1 : v1.ownBlock ≠ some (w.heap.size + 1)
  d2 : v2.ownBlock ≠ some w.heap.size
  d3 : ∀ k, v2.ownBlock = some k → v1.ownBlock ≠ some k
  h1 : Ho L1
  h2 : Ho L2
  p1 : L1.Perm (births x k)
  p2 : L2.Perm (targets x k)

theorem Two.len {w wr : World} {x : Hp} {k : Nat} {v1 v2 : Value} {L1 L2 : List Int} (h : Two w wr x k v1 v2 L1 L2) : L1.length ≤ k ∧ L2.length ≤ k :=
  ⟨by rw [h.p1.length_eq]; exact valsTo_len _ _ _, by rw [h.p2.length_eq]; exact valsTo_len _ _ _⟩
theorem Two.ext {w wr w' : World} {x : Hp} {k : Nat} {v1 v2 : Value} {L1 L2 : List Int} (h : Two w wr x k v1 v2 L1 L2) (e : Ext wr w') : Two w w' x k v1 v2 L1 L2 :=
  ⟨h.e.trans e, h.s1.ext e, h.s2.ext e, h.d1, h.d2, h.d3, h.h1, h.h2, h.p1, h.p2⟩
theorem Two.skip {w wr : World} {x : Hp} {k : Nat} {v1 v2 : Value} {L1 L2 : List Int} (h : Two w wr x k v1 v2 L1 L2) (s1 : isSt x 1 k = false) (s2 : isSt x 2 k = false) : Two w wr x (k + 1) v1 v2 L1 L2 :=
  ⟨h.e, h.s1, h.s2, h.d1, h.d2, h.d3, h.h1, h.h2, by unfold births; rw [valsTo_no _ _ _ s1]; exact h.p1, by unfold targets; rw [valsTo_no _ _ _ s2]; exact h.p2⟩
theorem Two.put1 {w wr w' : World} {x : Hp} {k : Nat} {v1 v2 v1' : Value} {L1 L2 L1' : List Int} (h : Two w wr x k v1 v2 L1 L2) (s1 : isSt x 1 k = true) (s2 : isSt x 2 k = false)
    (l : LsAt w' w.heap.size w.heap.size 0 v1' L1') (o : Ho L1') (p : L1'.Perm (bornOf x k :: L1)) (q : QFr w.heap.size 0 v1 v1' wr w') : Two w w' x (k + 1) v1' v2 L1' L2 := by
  have hs := h.s2.hlt
  refine ⟨q.ext h.e (Nat.le_refl _) (fun k hk => (h.s1.rlt k hk).1), l, h.s2.other q (by omega) h.d1 h.d2 h.d3, ?_, h.d2, ?_, o, h.h2, ?_, by unfold targets; rw [valsTo_no _ _ _ s2]; exact h.p2⟩
  · rcases q.own with e | ⟨g, e, hg⟩
    · rw [e]; exact h.d1
    · rw [e]; intro f; cases f; omega
  · intro k hk
    rcases q.own with e | ⟨g, e, hg⟩
    · rw [e]; exact h.d3 k hk
    · rw [e]; intro f; cases f; have := (h.s2.rlt k hk).2; omega
  · unfold births
    rw [valsTo_yes _ _ _ s1]
    exact (p.trans (h.p1.cons _)).trans (List.perm_append_singleton _ _).symm
theorem Two.put2 {w wr w' : World} {x : Hp} {k : Nat} {v1 v2 v2' : Value} {L1 L2 L2' : List Int} (h : Two w wr x k v1 v2 L1 L2) (s1 : isSt x 1 k = false) (s2 : isSt x 2 k = true)
    (l : LsAt w' w.heap.size (w.heap.size + 1) 0 v2' L2') (o : Ho L2') (p : L2'.Perm (toOf x k :: L2)) (q : QFr (w.heap.size + 1) 0 v2 v2' wr w') : Two w w' x (k + 1) v1 v2' L1 L2' := by
  have hs := h.s1.hlt
  refine ⟨q.ext h.e (by omega) (fun k hk => (h.s2.rlt k hk).1), h.s1.other q (by omega) h.d2 h.d1 (fun k h1 h2 => h.d3 k h2 h1), l, h.d1, ?_, ?_, h.h1, o, by unfold births; rw [valsTo_no _ _ _ s1]; exact h.p1, ?_⟩
  · rcases q.own with e | ⟨g, e, hg⟩
    · rw [e]; exact h.d2
    · rw [e]; intro f; cases f; omega
  · intro k hk f
    rcases q.own with e | ⟨g, e, hg⟩
    · rw [e] at hk; exact h.d3 k hk f
    · rw [e] at hk; cases hk; have := (h.s1.rlt _ f).2; omega
  · unfold targets
    rw [valsTo_yes _ _ _ s2]
    exact (p.trans (h.p2.cons _)).trans (List.perm_append_singleton _ _).symm
theorem Two.start (w : World) (x : Hp) (a b : TypeId) : Two w ((w.alloc (.cells #[.slice none 0 0] a)).alloc (.cells #[.slice none 0 0] b)) x 0 (.slice none 0 0) (.slice none 0 0) [] [] := by
  refine ⟨((Ext.refl w).alloc _).alloc _, LsAt.nil (by simp [go_sem]) (by simp [go_sem]), LsAt.nil (by simp [go_sem]) (by simp [go_sem]), by simp [Value.ownBlock], by simp [Value.ownBlock], by simp [Value.ownBlock], Ho.nil, Ho.nil, List.Perm.refl _, List.Perm.refl _⟩

theorem isSt_of {x : Hp} {k : Nat} {s : Int} (t : Int) (h : ((x.c k).st == s) = true) (hne : s ≠ t) : isSt x t k = false := by
  simp [isSt] at *; omega

set_option maxRecDepth 100000 in
set_option maxHeartbeats 4000000 in
theorem cellsKept_any (x : Hp) (b : Nat) (w : World) {ar : Option Addr} {kr : Nat} {ac : Option Addr} {kc : Nat} {ag : Option Addr} {kg : Nat} {an : Option Addr} {kn : Nat} {base : Nat} {vf : Value} {F : List Int} (h : VAt w b x ar kr ac kc ag kg an kn) (hF : FAt w b x base vf F) (hn : x.cells.length ≤ 8000) :
    Calls Tryz.prog 144 #[.pointer (some ⟨b, 0, none⟩)] w fun e w' => ∃ r : Bool, Hid (e = .returned (.bool r)) ∧ (r = true ↔ R2 x) ∧ Ext w w' := by
  have n13 := h.n13
  have hb : b < w.heap.size := cell_lt n13
  have HV := hide h
  have HFF := hide hF
  clear h hF
  go_enter Tryz.func144, Tryz.ntmps144
  go_wp2_with fail
  go_loopw [12] (fun i wr => ∃ (k : Nat) (v1 v2 : Value) (L1 L2 : List Int), k ≤ x.cells.length ∧ i = .int .i64 k ∧ Hid (∀ j, j < k → CellOk x j) ∧ Two w wr x k v1 v2 L1 L2) (fun i _ => x.cells.length - (intOf i).toNat)
  case atStart => exact ⟨0, _, _, [], [], Nat.zero_le _, rfl, fun j hj => by omega, Two.start w x _ _⟩
  case round =>
    clear n13
    obtain ⟨k, v1, v2, L1, L2, hk, rfl, HA, htwo⟩ := hrel
    have TW := hide htwo
    by_cases hlt : k < x.cells.length
    · have hv := (unhide HV).ext htwo.e
      have hff := (unhide HFF).ext htwo.e
      obtain ⟨bn, on, bc, oc, rfl, rfl, m0, m1⟩ := hv.N k hlt
      obtain ⟨bc2, oc2, ap, kp, e2, C⟩ := hv.H.cell k hlt
      cases e2
      have p0 := C.p0
      have p4 := C.p4
      have p6 := C.p6
      have d13 := hv.n13
      have HC := hide C
      have HV1 := hide hv
      have HF1 := hide hff
      have hk0 : (0:Int) ≤ (k:Int) := by omega
      have hk1 : (k:Int) < (x.cells.length:Int) := by omega
      have hbs : w.heap.size ≤ wr.heap.size := htwo.e.size
      have hl1 : L1.length ≤ 100000 := by have := htwo.len.1; omega
      have hl2 : L2.length ≤ 100000 := by have := htwo.len.2; omega
      clear htwo C hv hff
      have step : CellOk x k → Hid (∀ j, j < k + 1 → CellOk x j) := fun hc j hj => by
        by_cases e : j = k
        · rw [e]; exact hc
        · exact unhide HA j (by omega)
      have ST := hide step
      clear step
      cases s0 : ((x.c k).st == 0)
      · cases s1 : ((x.c k).st == 1)
        · cases s2 : ((x.c k).st == 2)
          · have N := hide (show ¬ R2 x from fun r => by
              have := r.1 k hlt
              unfold CellOk at this
              simp at s0 s1 s2
              omega)
            go_wp2_with fail
            go_ret
            exact ⟨false, rfl, ⟨fun f => by simp at f, fun r => (unhide N r).elim⟩, (unhide TW).e⟩
          · go_wp2_with fail
            refine (movedKept_any x b k _ (unhide HV1) (unhide HF1) hlt bn on rfl).mono ?_
            rintro e w2 ⟨r, rfl, hr, hq⟩
            have T2 := hide ((unhide TW).ext hq)
            cases r
            · have N := hide (show ¬ R2 x from fun r => by
                have h2 := r.1 k hlt
                unfold CellOk at h2
                have h3 : (x.c k).st = 2 := by simpa using s2
                have := hr.2 (by rcases h2 with h2 | h2 | h2 <;> first | exact h2.2 | omega)
                simp at this)
              clear hr
              go_wp2_with fail
              go_ret
              exact ⟨false, rfl, ⟨fun f => by simp at f, fun r => (unhide N r).elim⟩, (unhide T2).e⟩
            · have OK := hide (unhide ST (.inr (.inl ⟨by simpa using s2, hr.1 rfl⟩)))
              have u6 := hq.keep p6
              have um := hq.keep m1
              clear hr
              go_wp2_with fail
              refine (put_ls _ w.heap.size (w.heap.size + 1) 0 v2 L2 (x.c k).to (unhide T2).s2 (Nat.le_trans hbs hq.size) (unhide T2).h2 hl2).mono ?_
              rintro e w3 ⟨rfl, v3, L3, l3, o3, p3, q3⟩
              have T3 := hide ((unhide T2).put2 (isSt_of 1 s2 (by omega)) s2 l3 o3 p3 q3)
              clear l3 o3 p3 q3
              go_wp2_with fail
              go_roundw
              case rel => exact ⟨k + 1, v1, v3, L1, L3, by omega, by go_num, unhide OK, unhide T3⟩
              case measure => simp [intOf]; omega
        · go_wp2_with fail
          refine (usedKept_any x (x.c k) b bn (on + k * 2) _ _ ap kp _ (unhide HV1).H.c2 m1 (unhide HC)).mono ?_
          rintro e w2 ⟨r, rfl, hr, hq⟩
          have T2 := hide ((unhide TW).ext hq)
          cases r
          · have N := hide (show ¬ R2 x from fun r => by
              have h2 := r.1 k hlt
              unfold CellOk at h2
              have h3 : (x.c k).st = 1 := by simpa using s1
              have := hr.2 (by rcases h2 with h2 | h2 | h2 <;> first | exact h2.2 | omega)
              simp at this)
            clear hr
            go_wp2_with fail
            go_ret
            exact ⟨false, rfl, ⟨fun f => by simp at f, fun r => (unhide N r).elim⟩, (unhide T2).e⟩
          · have OK := hide (unhide ST (.inr (.inr ⟨by simpa using s1, hr.1 rfl⟩)))
            have u4 := hq.keep p4
            have um := hq.keep m1
            clear hr
            go_wp2_with fail
            refine (put_ls _ w.heap.size w.heap.size 0 v1 L1 (x.c k).born (unhide T2).s1 (Nat.le_trans hbs hq.size) (unhide T2).h1 hl1).mono ?_
            rintro e w3 ⟨rfl, v3, L3, l3, o3, p3, q3⟩
            have T3 := hide ((unhide T2).put1 s1 (isSt_of 2 s1 (by omega)) l3 o3 p3 q3)
            clear l3 o3 p3 q3
            go_wp2_with fail
            go_roundw
            case rel => exact ⟨k + 1, v3, v2, L3, L2, by omega, by go_num, unhide OK, unhide T3⟩
            case measure => simp [intOf]; omega
      · have S0 := hide (show (x.c k).st = 0 by simpa using s0)
        go_wp2_with fail
        refine (bare_any (x.c k) bn (on + k * 2) _ _ ap kp _ m1 (unhide HC)).mono ?_
        rintro e w2 ⟨rfl, rfl⟩
        cases tb : bareC (x.c k)
        · have N := hide (show ¬ R2 x from fun r => by
            have h2 := r.1 k hlt
            unfold CellOk at h2
            have h3 := unhide S0
            have : Bare (x.c k) := by rcases h2 with h2 | h2 | h2 <;> first | exact h2.2.1 | omega
            rw [← bareC_iff, tb] at this
            simp at this)
          go_wp2_with fail
          go_ret
          exact ⟨false, rfl, ⟨fun f => by simp at f, fun r => (unhide N r).elim⟩, (unhide TW).e⟩
        · cases tt : ((x.c k).to == 0)
          · have tt2 : ((x.c k).to != 0) = true := by simpa using tt
            have N := hide (show ¬ R2 x from fun r => by
              have h2 := r.1 k hlt
              unfold CellOk at h2
              have h3 := unhide S0
              simp at tt
              omega)
            go_wp2_with fail
            go_ret
            exact ⟨false, rfl, ⟨fun f => by simp at f, fun r => (unhide N r).elim⟩, (unhide TW).e⟩
          · have tt2 : ((x.c k).to != 0) = false := by simpa using tt
            have OK := hide (unhide ST (.inl ⟨unhide S0, bareC_iff.1 tb, by simpa using tt⟩))
            have T3 := hide ((unhide TW).skip (isSt_of 1 s0 (by omega)) (isSt_of 2 s0 (by omega)))
            go_wp2_with fail
            go_roundw
            case rel => exact ⟨k + 1, v1, v2, L1, L2, by omega, by go_num, unhide OK, unhide T3⟩
            case measure => simp [intOf]; omega
    · have hk2 : k = x.cells.length := by omega
      have A1 := hide (show ∀ j, j < x.cells.length → CellOk x j from fun j hj => unhide HA j (by omega))
      have AP := hide (apart_iff x (unhide A1))
      have P1 := hide (show L1.Nodup ↔ (births x x.cells.length).Nodup by have := htwo.p1; rw [hk2] at this; exact this.nodup_iff)
      have P2 := hide (show L2.Nodup ↔ (targets x x.cells.length).Nodup by have := htwo.p2; rw [hk2] at this; exact this.nodup_iff)
      have hl1 : L1.length ≤ 100000 := by have := htwo.len.1; omega
      have hl2 : L2.length ≤ 100000 := by have := htwo.len.2; omega
      clear htwo hk2
      go_wp2_with fail
      refine (drain_ls _ w.heap.size w.heap.size 0 v1 L1 (unhide TW).s1 (unhide TW).h1 hl1).mono ?_
      rintro e w2 ⟨r, rfl, hr, v3, q3⟩
      have E2 := hide (q3.ext (unhide TW).e (Nat.le_refl _) (fun k hk => ((unhide TW).s1.rlt k hk).1))
      have S2 := hide ((unhide TW).s2.other q3 (by omega) (unhide TW).d1 (unhide TW).d2 (unhide TW).d3)
      clear q3
      cases r
      · have N := hide (show ¬ R2 x from fun r => by
          have := hr.2 ((unhide P1).2 ((unhide AP).1 r.2).1)
          simp at this)
        clear hr
        go_wp2_with fail
        go_ret
        exact ⟨false, rfl, ⟨fun f => by simp at f, fun r => (unhide N r).elim⟩, unhide E2⟩
      · have B1 := hide ((unhide P1).1 (hr.1 rfl))
        clear hr
        go_wp2_with fail
        refine (drain_ls _ w.heap.size (w.heap.size + 1) 0 v2 L2 (unhide S2) (unhide TW).h2 hl2).mono ?_
        rintro e w3 ⟨r, rfl, hr, v4, q4⟩
        have E3 := hide (q4.ext (unhide E2) (by omega) (fun k hk => ((unhide S2).rlt k hk).1))
        have RR := hide (show r = true ↔ R2 x from ⟨fun e => ⟨unhide A1, (unhide AP).2 ⟨unhide B1, (unhide P2).1 (hr.1 e)⟩⟩, fun q => hr.2 ((unhide P2).2 ((unhide AP).1 q.2).2)⟩)
        clear q4 hr
        go_wp2_with fail
        go_ret
        exact ⟨r, rfl, unhide RR, unhide E3⟩
end Go.Proofs.YtkabcfhemljnbaaGreat

namespace Go.Proofs.YtkabcfhemljnbaaGreat
open Go.RowKit
attribute [local go_sem ↓] Go.wp_at_zero Go.wp_at_succ

set_option maxRecDepth 100000 in
set_option maxHeartbeats 1000000 in
theorem leads_any (x : Hp) (b : Nat) (y : Wd) (md : Bool) (w : World) {ar : Option Addr} {kr : Nat} {ac : Option Addr} {kc : Nat} {ag : Option Addr} {kg : Nat} {an : Option Addr} {kn : Nat} (h : VAt w b x ar kr ac kc ag kg an kn) :
    Calls Tryz.prog 178 #[.pointer (some ⟨b, 0, none⟩), y.v, .bool md] w fun e w' => e = .returned (.bool (leadsB x y (!md))) ∧ Ext w w' := by
  have hb : b < w.heap.size := cell_lt h.n13
  go_enter Tryz.func178, Tryz.ntmps178
  go_wp2_with fail
  refine (formed_any y b x.cells.length an kn _ (Ext.keep ((Ext.refl w).alloc _) h.n13) h.H.lc).mono ?_
  rintro e w1 ⟨rfl, hq1⟩
  have x1 : Ext w w1 := Ext.trans ((Ext.refl w).alloc _) hq1
  have a0 := hq1.keep (b := w.heap.size) (o := 0) (v := iv y.k) (by simp [go_sem])
  have a1 := hq1.keep (b := w.heap.size) (o := 1) (v := iv y.n) (by simp [go_sem])
  have a2 := hq1.keep (b := w.heap.size) (o := 2) (v := iv y.a) (by simp [go_sem])
  cases qf : formedB y x.cells.length
  · have E := hide (show leadsB x y (!md) = false by simp [leadsB, qf])
    go_wp2_with fail
    go_ret
    exact ⟨by rw [unhide E]; rfl, x1⟩
  cases qk : (y.k == 2)
  · have E := hide (show leadsB x y (!md) = true by simp [leadsB, qf, qk])
    go_wp2_with fail
    refine (find_none y b _ qk).mono ?_
    rintro e w2 ⟨rfl, hq2⟩
    go_wp2_with fail
    go_ret
    exact ⟨by rw [unhide E]; rfl, x1.trans hq2⟩
  have q1 : y.k = 2 := by simpa using qk
  have hf := formedB_iff.1 qf
  unfold Formed at hf
  have hr : 0 ≤ y.a ∧ y.a < x.cells.length := by omega
  have E0 := hide (show leadsB x y (!md) = (if (x.c y.a.toNat).st = 2 then !md else ((x.c y.a.toNat).st == 1) && !doomedB x y.a.toNat) by simp [leadsB, qf, q1])
  obtain ⟨i, hi⟩ := Int.eq_ofNat_of_zero_le hr.1
  rw [hi] at E0 a2
  rw [Int.toNat_natCast] at E0
  have hin : i < x.cells.length := by omega
  clear q1 hf hr hi
  have h1 := h.ext x1
  obtain ⟨bn, on, bc, oc, rfl, rfl, m0, m1⟩ := h1.N i hin
  obtain ⟨bc', oc', ap, kp, e2, C⟩ := h1.H.cell i hin
  cases e2
  have HD := hide (fun w' (e : Ext w1 w') => doomed_any x b i w' (h1.ext e) hin bn on rfl)
  have HF := hide (find_some y b x.cells.length bn on kn i w1 qk h1.n13 hin)
  clear h h1
  go_wp2_with fail
  refine (unhide HF).mono ?_
  rintro e w2 ⟨rfl, hq2⟩
  have x2 : Ext w w2 := x1.trans hq2
  have u1 := hq2.keep m1
  have r0 := hq2.keep C.p0
  have HD2 := hide (unhide HD w2 hq2)
  clear C m0 m1 a0 a1 a2
  cases qs : ((x.c i).st == 2)
  · have qs' : ¬ (x.c i).st = 2 := by simpa using qs
    have E := hide (show leadsB x y (!md) = (((x.c i).st == 1) && !doomedB x i) by rw [unhide E0, if_neg qs'])
    cases qu : ((x.c i).st == 1)
    · go_wp2_with fail
      go_ret
      exact ⟨by rw [unhide E, qu]; rfl, x2⟩
    · go_wp2_with (go_at_call 179; refine (unhide HD2).mono ?_; rintro e w3 ⟨rfl, hq3⟩)
      go_ret
      exact ⟨by rw [unhide E, qu]; simp, x2.trans hq3⟩
  · have qs' : (x.c i).st = 2 := by simpa using qs
    have E := hide (show leadsB x y (!md) = !md by rw [unhide E0, if_pos qs'])
    clear qs'
    go_wp2_with fail
    go_ret
    exact ⟨by rw [unhide E]; rfl, x2⟩
end Go.Proofs.YtkabcfhemljnbaaGreat

namespace Go.Proofs.YtkabcfhemljnbaaGreat
open Go.RowKit
attribute [local go_sem ↓] Go.wp_at_zero Go.wp_at_succ

set_option maxRecDepth 100000 in
set_option maxHeartbeats 1000000 in
theorem pairsLead_any (x : Hp) (b k : Nat) (w : World) {ar : Option Addr} {kr : Nat} {ac : Option Addr} {kc : Nat} {ag : Option Addr} {kg : Nat} {an : Option Addr} {kn : Nat} (h : VAt w b x ar kr ac kc ag kg an kn) (hlt : k < x.cells.length) (bn on : Nat) (ha : an = some ⟨bn, on, none⟩) :
    Calls Tryz.prog 181 #[.pointer (some ⟨b, 0, none⟩), .pointer (some ⟨bn, on + k * 2, none⟩)] w fun e w' => ∃ r : Bool, e = .returned (.bool r) ∧ (r = true ↔ ∀ l, l < (x.c k).prs.length → Leads x ((x.c k).p l).key (¬ Mended x k l) ∧ Leads x ((x.c k).p l).val (¬ Mended x k l)) ∧ Ext w w' := by
  obtain ⟨bn', on', bc, oc, e1, rfl, m0, m1⟩ := h.N k hlt
  rw [ha] at e1
  cases e1
  obtain ⟨bc', oc', ap, kp, e2, C⟩ := h.H.cell k hlt
  cases e2
  have p7 := C.p7
  have lp := C.lp
  have HP := hide C.P
  have HC := hide C
  have M0 := hide m0
  clear m0 C
  go_enter Tryz.func181, Tryz.ntmps181
  go_wp2_with fail
  go_loopw [16] (fun i wr => ∃ l : Nat, l ≤ (x.c k).prs.length ∧ i = .int .i64 l ∧ (∀ j, j < l → Leads x ((x.c k).p j).key (¬ Mended x k j) ∧ Leads x ((x.c k).p j).val (¬ Mended x k j)) ∧ Ext w wr) (fun i _ => (x.c k).prs.length - (intOf i).toNat)
  case atStart => exact ⟨0, Nat.zero_le _, rfl, fun j h => by omega, Ext.refl _⟩
  case round =>
    obtain ⟨l, hl, rfl, hall, hbl⟩ := hrel
    have HB := hide hall
    clear hall
    by_cases hl2 : l < (x.c k).prs.length
    · obtain ⟨b2, o2, rfl, q0, q1, q2, q3, q4, q5⟩ := unhide HP l hl2
      have e0 := hbl.keep q0
      have e1 := hbl.keep q1
      have e2 := hbl.keep q2
      have e3 := hbl.keep q3
      have e4 := hbl.keep q4
      have e5 := hbl.keep q5
      have hb2 : b2 < wr.heap.size := cell_lt e0
      clear q0 q1 q2 q3 q4 q5 p7 m1
      have hl0 : (0:Int) ≤ (l:Int) := by omega
      have hl1 : (l:Int) < ((x.c k).prs.length:Int) := by omega
      have hx3 := hbl.alloc (.cells #[.int .i64 ((x.c k).p l).key.k, .int .i64 ((x.c k).p l).key.n, .int .i64 ((x.c k).p l).key.a, .int .i64 ((x.c k).p l).val.k, .int .i64 ((x.c k).p l).val.n, .int .i64 ((x.c k).p l).val.a] 123)
      have hmm : ((!mendedB x k l) = true ↔ ¬ Mended x k l) := by rw [← mendedB_iff]; simp
      have K1 := hide (leadsB_iff (x := x) (y := ((x.c k).p l).key) hmm)
      have K2 := hide (leadsB_iff (x := x) (y := ((x.c k).p l).val) hmm)
      clear hmm
      go_wp2_with fail
      have hv := h.ext hx3
      refine (mended_any x b bn (on + k * 2) k l _ hv.H.c5 hv.H.c6 hv.H.c7 (hx3.keep (unhide M0))).mono ?_
      rintro e w2 ⟨rfl, hq2⟩
      have x2 := hx3.trans hq2
      have u := fun (o : Nat) (v : Value) (hc : (wr.alloc (.cells #[.int .i64 ((x.c k).p l).key.k, .int .i64 ((x.c k).p l).key.n, .int .i64 ((x.c k).p l).key.a, .int .i64 ((x.c k).p l).val.k, .int .i64 ((x.c k).p l).val.n, .int .i64 ((x.c k).p l).val.a] 123)).cell? ⟨wr.heap.size, o, none⟩ = some v) => hq2.keep hc
      have u0 := u 0 _ (by simp [go_sem]; rfl)
      have u1 := u 1 _ (by simp [go_sem]; rfl)
      have u2 := u 2 _ (by simp [go_sem]; rfl)
      have u3 := u 3 _ (by simp [go_sem]; rfl)
      have u4 := u 4 _ (by simp [go_sem]; rfl)
      have u5 := u 5 _ (by simp [go_sem]; rfl)
      clear u hv e0 e1 e2 e3 e4 e5
      go_wp2_with fail
      refine (leads_any x b ((x.c k).p l).key (mendedB x k l) _ (h.ext x2)).mono ?_
      rintro e w3 ⟨rfl, hq3⟩
      have x3 := x2.trans hq3
      have v3 := hq3.keep u3
      have v4 := hq3.keep u4
      have v5 := hq3.keep u5
      clear u0 u1 u2 u3 u4 u5
      cases tk : leadsB x ((x.c k).p l).key (!mendedB x k l)
      · have N := hide (show ¬ (∀ l, l < (x.c k).prs.length → Leads x ((x.c k).p l).key (¬ Mended x k l) ∧ Leads x ((x.c k).p l).val (¬ Mended x k l)) from fun r => by
          have := (unhide K1).2 (r l hl2).1
          rw [this] at tk; simp at tk)
        go_wp2_with fail
        go_ret
        first | (exact Or.inl ⟨rfl, unhide N, x3⟩) | (exact ⟨false, rfl, ⟨fun f => by simp at f, fun r => (unhide N r).elim⟩, x3⟩)
      · go_wp2_with fail
        refine (leads_any x b ((x.c k).p l).val (mendedB x k l) _ (h.ext x3)).mono ?_
        rintro e w4 ⟨rfl, hq4⟩
        have x4 := x3.trans hq4
        cases tv : leadsB x ((x.c k).p l).val (!mendedB x k l)
        · have N := hide (show ¬ (∀ l, l < (x.c k).prs.length → Leads x ((x.c k).p l).key (¬ Mended x k l) ∧ Leads x ((x.c k).p l).val (¬ Mended x k l)) from fun r => by
            have := (unhide K2).2 (r l hl2).2
            rw [this] at tv; simp at tv)
          go_wp2_with fail
          go_ret
          first | (exact Or.inl ⟨rfl, unhide N, x4⟩) | (exact ⟨false, rfl, ⟨fun f => by simp at f, fun r => (unhide N r).elim⟩, x4⟩)
        · have S := hide (show ∀ j, j < l + 1 → Leads x ((x.c k).p j).key (¬ Mended x k j) ∧ Leads x ((x.c k).p j).val (¬ Mended x k j) from fun j hj => by
            by_cases e : j = l
            · subst e; exact ⟨(unhide K1).1 tk, (unhide K2).1 tv⟩
            · exact unhide HB j (by omega))
          go_wp2_with fail
          go_roundw
          case rel => exact ⟨l + 1, by omega, by go_num, unhide S, x4⟩
          case measure => simp [intOf]; omega
    · have Y := hide (show ∀ l, l < (x.c k).prs.length → Leads x ((x.c k).p l).key (¬ Mended x k l) ∧ Leads x ((x.c k).p l).val (¬ Mended x k l) from fun j hj => unhide HB j (by omega))
      go_wp2_with fail
      go_ret
      first | (exact Or.inr ⟨rfl, unhide Y, hbl⟩) | (exact ⟨true, rfl, ⟨fun _ => unhide Y, fun _ => rfl⟩, hbl⟩)

end Go.Proofs.YtkabcfhemljnbaaGreat

namespace Go.Proofs.YtkabcfhemljnbaaGreat
open Go.RowKit
attribute [local go_sem ↓] Go.wp_at_zero Go.wp_at_succ

set_option maxRecDepth 100000 in
set_option maxHeartbeats 1000000 in
theorem doomedKept_any (x : Hp) (b k : Nat) (w : World) {ar : Option Addr} {kr : Nat} {ac : Option Addr} {kc : Nat} {ag : Option Addr} {kg : Nat} {an : Option Addr} {kn : Nat} (h : VAt w b x ar kr ac kc ag kg an kn) (hlt : k < x.cells.length) (bn on : Nat) (ha : an = some ⟨bn, on, none⟩) :
    Calls Tryz.prog 180 #[.pointer (some ⟨b, 0, none⟩), .pointer (some ⟨bn, on + k * 2, none⟩)] w fun e w' => ∃ r : Bool, e = .returned (.bool r) ∧ (r = true ↔ (∀ l, l < (x.c k).prs.length → Formed ((x.c k).p l).key x.cells.length ∧ Formed ((x.c k).p l).val x.cells.length) ∧ ¬ Speaks (x.c k)) ∧ Ext w w' := by
  obtain ⟨bn', on', bc, oc, e1, rfl, m0, m1⟩ := h.N k hlt
  rw [ha] at e1
  cases e1
  obtain ⟨bc', oc', ap, kp, e2, C⟩ := h.H.cell k hlt
  cases e2
  have p7 := C.p7
  have lp := C.lp
  have HP := hide C.P
  have HC := hide C
  clear m0 C
  go_enter Tryz.func180, Tryz.ntmps180
  go_wp2_with fail
  go_loopw [15] (fun i wr => ∃ l : Nat, l ≤ (x.c k).prs.length ∧ i = .int .i64 l ∧ (∀ j, j < l → Formed ((x.c k).p j).key x.cells.length ∧ Formed ((x.c k).p j).val x.cells.length) ∧ Ext w wr) (fun i _ => (x.c k).prs.length - (intOf i).toNat)
  case atStart => exact ⟨0, Nat.zero_le _, rfl, fun j h => by omega, Ext.refl _⟩
  case round =>
    obtain ⟨l, hl, rfl, hall, hbl⟩ := hrel
    have HB := hide hall
    clear hall
    by_cases hl2 : l < (x.c k).prs.length
    · obtain ⟨b2, o2, rfl, q0, q1, q2, q3, q4, q5⟩ := unhide HP l hl2
      have e0 := hbl.keep q0
      have e1 := hbl.keep q1
      have e2 := hbl.keep q2
      have e3 := hbl.keep q3
      have e4 := hbl.keep q4
      have e5 := hbl.keep q5
      have hb2 : b2 < wr.heap.size := cell_lt e0
      clear q0 q1 q2 q3 q4 q5 p7 m1
      have hl0 : (0:Int) ≤ (l:Int) := by omega
      have hl1 : (l:Int) < ((x.c k).prs.length:Int) := by omega
      have hx3 := hbl.alloc (.cells #[.int .i64 ((x.c k).p l).key.k, .int .i64 ((x.c k).p l).key.n, .int .i64 ((x.c k).p l).key.a, .int .i64 ((x.c k).p l).val.k, .int .i64 ((x.c k).p l).val.n, .int .i64 ((x.c k).p l).val.a] 123)
      go_wp2_with fail
      refine (formed_any ((x.c k).p l).key b x.cells.length an kn _ (h.ext hx3).n13 h.H.lc).mono ?_
      rintro e w3 ⟨rfl, hq3⟩
      have x3 := hx3.trans hq3
      have u := fun (o : Nat) (v : Value) (hc : (wr.alloc (.cells #[.int .i64 ((x.c k).p l).key.k, .int .i64 ((x.c k).p l).key.n, .int .i64 ((x.c k).p l).key.a, .int .i64 ((x.c k).p l).val.k, .int .i64 ((x.c k).p l).val.n, .int .i64 ((x.c k).p l).val.a] 123)).cell? ⟨wr.heap.size, o, none⟩ = some v) => hq3.keep hc
      have v3 := u 3 _ (by simp [go_sem]; rfl)
      have v4 := u 4 _ (by simp [go_sem]; rfl)
      have v5 := u 5 _ (by simp [go_sem]; rfl)
      clear u e0 e1 e2 e3 e4 e5
      cases tk : formedB ((x.c k).p l).key x.cells.length
      · have N := hide (show ¬ ((∀ l, l < (x.c k).prs.length → Formed ((x.c k).p l).key x.cells.length ∧ Formed ((x.c k).p l).val x.cells.length) ∧ ¬ Speaks (x.c k)) from fun r => by
          have := formedB_iff.2 (r.1 l hl2).1
          rw [this] at tk; simp at tk)
        go_wp2_with fail
        go_ret
        first | (exact Or.inl ⟨rfl, unhide N, x3⟩) | (exact ⟨false, rfl, ⟨fun f => by simp at f, fun r => (unhide N r).elim⟩, x3⟩)
      · go_wp2_with fail
        refine (formed_any ((x.c k).p l).val b x.cells.length an kn _ (h.ext x3).n13 h.H.lc).mono ?_
        rintro e w4 ⟨rfl, hq4⟩
        have x4 := x3.trans hq4
        cases tv : formedB ((x.c k).p l).val x.cells.length
        · have N := hide (show ¬ ((∀ l, l < (x.c k).prs.length → Formed ((x.c k).p l).key x.cells.length ∧ Formed ((x.c k).p l).val x.cells.length) ∧ ¬ Speaks (x.c k)) from fun r => by
            have := formedB_iff.2 (r.1 l hl2).2
            rw [this] at tv; simp at tv)
          go_wp2_with fail
          go_ret
          first | (exact Or.inl ⟨rfl, unhide N, x4⟩) | (exact ⟨false, rfl, ⟨fun f => by simp at f, fun r => (unhide N r).elim⟩, x4⟩)
        · have S := hide (show ∀ j, j < l + 1 → Formed ((x.c k).p j).key x.cells.length ∧ Formed ((x.c k).p j).val x.cells.length from fun j hj => by
            by_cases e : j = l
            · subst e; exact ⟨formedB_iff.1 tk, formedB_iff.1 tv⟩
            · exact unhide HB j (by omega))
          go_wp2_with fail
          go_roundw
          case rel => exact ⟨l + 1, by omega, by go_num, unhide S, x4⟩
          case measure => simp [intOf]; omega
    · have Y := hide (show ∀ l, l < (x.c k).prs.length → Formed ((x.c k).p l).key x.cells.length ∧ Formed ((x.c k).p l).val x.cells.length from fun j hj => unhide HB j (by omega))
      have HS := hide (speaks_any (x.c k) bn (on + k * 2) bc (oc + k * 8) ap kp wr (hbl.keep m1) ((unhide HC).ext hbl))
      cases ts : speaksN (x.c k)
      · have Z := hide (show (∀ l, l < (x.c k).prs.length → Formed ((x.c k).p l).key x.cells.length ∧ Formed ((x.c k).p l).val x.cells.length) ∧ ¬ Speaks (x.c k) from ⟨unhide Y, fun hs => by rw [← speaksN_iff, ts] at hs; simp at hs⟩)
        go_wp2_with (go_at_call 151; refine (unhide HS).mono ?_; rintro e w' ⟨rfl, rfl⟩)
        go_ret
        first | (exact Or.inr ⟨by simp, unhide Z, hbl⟩) | (exact ⟨true, by simp, ⟨fun _ => unhide Z, fun _ => rfl⟩, hbl⟩)
      · have N := hide (show ¬ ((∀ l, l < (x.c k).prs.length → Formed ((x.c k).p l).key x.cells.length ∧ Formed ((x.c k).p l).val x.cells.length) ∧ ¬ Speaks (x.c k)) from fun r => r.2 (speaksN_iff.1 ts))
        go_wp2_with (go_at_call 151; refine (unhide HS).mono ?_; rintro e w' ⟨rfl, rfl⟩)
        go_ret
        first | (exact Or.inl ⟨by simp, unhide N, hbl⟩) | (exact ⟨false, by simp, ⟨fun f => by simp at f, fun r => (unhide N r).elim⟩, hbl⟩)

end Go.Proofs.YtkabcfhemljnbaaGreat

namespace Go.Proofs.YtkabcfhemljnbaaGreat
open Go.RowKit
attribute [local go_sem ↓] Go.wp_at_zero Go.wp_at_succ

set_option maxRecDepth 100000 in
set_option maxHeartbeats 1000000 in
theorem wordsKept_any (x : Hp) (b : Nat) (w : World) {ar : Option Addr} {kr : Nat} {ac : Option Addr} {kc : Nat} {ag : Option Addr} {kg : Nat} {an : Option Addr} {kn : Nat} (h : VAt w b x ar kr ac kc ag kg an kn) :
    Calls Tryz.prog 146 #[.pointer (some ⟨b, 0, none⟩)] w fun e w' => ∃ r : Bool, e = .returned (.bool r) ∧ (r = true ↔ R4 x) ∧ Ext w w' := by
  have c3 := h.H.c3
  have lr := h.H.lr
  have lc := h.H.lc
  go_enter Tryz.func146, Tryz.ntmps146
  go_wp2_with fail
  go_loopw [13] (fun i wr => ∃ k : Nat, k ≤ x.regs.length ∧ i = .int .i64 k ∧ (∀ j (hj : j < x.regs.length), j < k → Leads x x.regs[j] False) ∧ Ext w wr) (fun i _ => x.regs.length - (intOf i).toNat)
  case atStart => exact ⟨0, Nat.zero_le _, rfl, fun j hj h => by omega, Ext.refl _⟩
  case round =>
    obtain ⟨k, hk, rfl, hall, hbl⟩ := hrel
    have HA := hide hall
    clear hall
    by_cases hlt : k < x.regs.length
    · obtain ⟨b', o, rfl, p0, p1, p2⟩ := (h.ext hbl).H.R k hlt
      have hb' : b' < wr.heap.size := cell_lt p0
      have hk0 : (0:Int) ≤ (k:Int) := by omega
      have hk1 : (k:Int) < (x.regs.length:Int) := by omega
      go_wp2_with fail
      refine (leads_any x b x.regs[k] true _ (h.ext (hbl.alloc _))).mono ?_
      rintro e w1 ⟨rfl, hq1⟩
      have x1 : Ext w w1 := (hbl.alloc _).trans hq1
      cases q : leadsB x x.regs[k] (!true)
      · have N := hide (show ¬ R4 x from fun r => by
          have := (leadsB_iff (m := !true) (p := False) (by simp)).2 (r.1 k hlt)
          rw [this] at q; simp at q)
        go_wp2_with fail
        go_ret
        first | (exact Or.inl ⟨rfl, unhide N, x1⟩) | (exact ⟨false, rfl, ⟨fun f => by simp at f, fun r => (unhide N r).elim⟩, x1⟩)
      · have S := hide (show ∀ j (hj : j < x.regs.length), j < k + 1 → Leads x x.regs[j] False from fun j hj hjk => by
          by_cases e : j = k
          · subst e; exact (leadsB_iff (m := !true) (p := False) (by simp)).1 q
          · exact unhide HA j hj (by omega))
        go_wp2_with fail
        go_roundw
        case rel => exact ⟨k + 1, by omega, by go_num, unhide S, x1⟩
        case measure => simp [intOf]; omega
    · have A1 := hide (show ∀ j (hj : j < x.regs.length), Leads x x.regs[j] False from fun j hj => unhide HA j hj (by omega))
      clear HA
      have d13 := (h.ext hbl).n13
      go_wp2_with fail
      clear hlt hk
      go_loopw [27] (fun i wr => ∃ k : Nat, k ≤ x.cells.length ∧ i = .int .i64 k ∧ (∀ j, j < k → ¬ (Doomed x j ∧ Speaks (x.c j)) ∧ ∀ l, l < (x.c j).prs.length → PairOk x j l ((x.c j).p l)) ∧ Ext w wr) (fun i _ => x.cells.length - (intOf i).toNat)
      case atStart => exact ⟨0, Nat.zero_le _, rfl, fun j h => by omega, hbl⟩
      case round =>
        clear hbl d13
        obtain ⟨k, hk, rfl, hall, hbl⟩ := hrel
        have HA := hide hall
        clear hall
        by_cases hlt : k < x.cells.length
        · have h1 := h.ext hbl
          obtain ⟨bn, on, bc, oc, rfl, rfl, m0, m1⟩ := h1.N k hlt
          have d13 := h1.n13
          have hk0 : (0:Int) ≤ (k:Int) := by omega
          have hk1 : (k:Int) < (x.cells.length:Int) := by omega
          go_wp2_with fail
          refine (doomed_any x b k _ h1 hlt bn on rfl).mono ?_
          rintro e w2 ⟨rfl, hq2⟩
          have h2 := h1.ext hq2
          have x2 := hbl.trans hq2
          cases td : doomedB x k
          · have ND := hide (show ¬ Doomed x k from fun hd => by rw [← doomedB_iff, td] at hd; simp at hd)
            go_wp2_with fail
            refine (pairsLead_any x b k _ h2 hlt bn on rfl).mono ?_
            rintro e w3 ⟨r, rfl, hr, hq3⟩
            have x3 := x2.trans hq3
            cases r
            · have N := hide (show ¬ R4 x from fun r4 => by
                have := hr.2 (fun l hl => ((r4.2 k hlt).2 l hl).2 (unhide ND))
                simp at this)
              clear hr
              go_wp2_with fail
              go_ret
              first | (exact Or.inl ⟨rfl, unhide N, x3⟩) | (exact ⟨false, rfl, ⟨fun f => by simp at f, fun r => (unhide N r).elim⟩, x3⟩)
            · have S := hide (show ∀ j, j < k + 1 → ¬ (Doomed x j ∧ Speaks (x.c j)) ∧ ∀ l, l < (x.c j).prs.length → PairOk x j l ((x.c j).p l) from fun j hj => by
                by_cases e : j = k
                · subst e; exact ⟨fun hd => unhide ND hd.1, fun l hl => ⟨fun hd => (unhide ND hd).elim, fun _ => hr.1 rfl l hl⟩⟩
                · exact unhide HA j (by omega))
              clear hr
              go_wp2_with fail
              go_roundw
              case rel => exact ⟨k + 1, by omega, by go_num, unhide S, x3⟩
              case measure => simp [intOf]; omega
          · have DD := hide (doomedB_iff.1 td)
            go_wp2_with fail
            refine (doomedKept_any x b k _ h2 hlt bn on rfl).mono ?_
            rintro e w3 ⟨r, rfl, hr, hq3⟩
            have x3 := x2.trans hq3
            cases r
            · have N := hide (show ¬ R4 x from fun r4 => by
                have := hr.2 ⟨fun l hl => ((r4.2 k hlt).2 l hl).1 (unhide DD), fun hs => (r4.2 k hlt).1 ⟨unhide DD, hs⟩⟩
                simp at this)
              clear hr
              go_wp2_with fail
              go_ret
              first | (exact Or.inl ⟨rfl, unhide N, x3⟩) | (exact ⟨false, rfl, ⟨fun f => by simp at f, fun r => (unhide N r).elim⟩, x3⟩)
            · have S := hide (show ∀ j, j < k + 1 → ¬ (Doomed x j ∧ Speaks (x.c j)) ∧ ∀ l, l < (x.c j).prs.length → PairOk x j l ((x.c j).p l) from fun j hj => by
                by_cases e : j = k
                · subst e; exact ⟨fun hd => (hr.1 rfl).2 hd.2, fun l hl => ⟨fun _ => (hr.1 rfl).1 l hl, fun nd => (nd (unhide DD)).elim⟩⟩
                · exact unhide HA j (by omega))
              clear hr
              go_wp2_with fail
              go_roundw
              case rel => exact ⟨k + 1, by omega, by go_num, unhide S, x3⟩
              case measure => simp [intOf]; omega
        · have Y := hide (show R4 x from ⟨unhide A1, fun i hi => unhide HA i (by omega)⟩)
          go_wp2_with fail
          go_ret
          first | (exact Or.inr ⟨rfl, unhide Y, hbl⟩) | (exact ⟨true, rfl, ⟨fun _ => unhide Y, fun _ => rfl⟩, hbl⟩)
end Go.Proofs.YtkabcfhemljnbaaGreat

namespace Go.Proofs.YtkabcfhemljnbaaGreat
open Go.RowKit
attribute [local go_sem ↓] Go.wp_at_zero Go.wp_at_succ

theorem grayPairs_none (b : Nat) (w : World) {ag : Option Addr} {kg : Nat} (c8 : w.cell? ⟨b, 8, none⟩ = some (.slice ag 0 kg)) :
    Calls Tryz.prog 184 #[.pointer (some ⟨b, 0, none⟩)] w fun e w' => e = .returned (.slice none 0 0) ∧ w' = w := by
  go_enter Tryz.func184, Tryz.ntmps184
  go_wp2_with fail
  go_ret
  exact ⟨rfl, rfl⟩

theorem grayPairs_some (x : Hp) (b i : Nat) (w : World) {ar : Option Addr} {kr : Nat} {ac : Option Addr} {kc : Nat} {ag : Option Addr} {kg : Nat} {an : Option Addr} {kn : Nat} (h : VAt w b x ar kr ac kc ag kg an kn) (hg : 0 < x.gray.length) (hi : x.gray[0] = (i : Int)) (hin : i < x.cells.length) (bc oc : Nat) (ap : Option Addr) (kp : Nat) (ha : ac = some ⟨bc, oc, none⟩) (C : CAt w bc (oc + i * 8) (x.c i) ap kp) :
    Calls Tryz.prog 184 #[.pointer (some ⟨b, 0, none⟩)] w fun e w' => e = .returned (.slice ap (x.c i).prs.length kp) ∧ ∃ m, w' = w.drewN m := by
  obtain ⟨bn, on, bc', oc', rfl, e1, m0, m1⟩ := h.N i hin
  rw [ha] at e1
  cases e1
  obtain ⟨bg, og, rfl, pg⟩ := h.H.G 0 hg
  unfold InAt at pg
  rw [hi] at pg
  simp only [Nat.zero_mul, Nat.add_zero] at pg
  have c8 := h.H.c8
  have n13 := h.n13
  have p7 := C.p7
  have hg3 : ((x.gray.length : Int) == 0) = false := beq_eq_false_iff_ne.2 (by omega)
  have hg4 : (0 : Int) < (x.gray.length : Int) := by omega
  have hi0 : (0 : Int) ≤ (i : Int) := by omega
  have hi1 : (i : Int) < (x.cells.length : Int) := by omega
  clear h C hi
  go_enter Tryz.func184, Tryz.ntmps184
  go_wp2_with fail
  go_quiet (fail)
  go_wp2_with fail
  go_ret
  exact ⟨rfl, _, rfl⟩

theorem handPairs_none (x : Hp) (b : Nat) (w : World) {an : Option Addr} {kn : Nat} (c6 : w.cell? ⟨b, 6, none⟩ = some (iv x.cells.length)) (n13 : w.cell? ⟨b, 13, none⟩ = some (.slice an x.cells.length kn)) :
    Calls Tryz.prog 185 #[.pointer (some ⟨b, 0, none⟩)] w fun e w' => e = .returned (.slice none 0 0) ∧ ∃ m, w' = w.drewN m := by
  go_enter Tryz.func185, Tryz.ntmps185
  go_wp2_with fail
  go_quiet (fail)
  go_wp2_with fail
  go_ret
  exact ⟨rfl, _, rfl⟩

theorem handPairs_some (x : Hp) (b i : Nat) (w : World) {ar : Option Addr} {kr : Nat} {ac : Option Addr} {kc : Nat} {ag : Option Addr} {kg : Nat} {an : Option Addr} {kn : Nat} (h : VAt w b x ar kr ac kc ag kg an kn) (hi : x.hand = (i : Int)) (hin : i < x.cells.length) (bc oc : Nat) (ap : Option Addr) (kp : Nat) (ha : ac = some ⟨bc, oc, none⟩) (C : CAt w bc (oc + i * 8) (x.c i) ap kp) :
    Calls Tryz.prog 185 #[.pointer (some ⟨b, 0, none⟩)] w fun e w' => e = .returned (.slice ap (x.c i).prs.length kp) ∧ ∃ m, w' = w.drewN m := by
  obtain ⟨bn, on, bc', oc', rfl, e1, m0, m1⟩ := h.N i hin
  rw [ha] at e1
  cases e1
  have c6 := h.H.c6
  rw [hi] at c6
  have n13 := h.n13
  have p7 := C.p7
  have hn : ((i : Int) == (x.cells.length : Int)) = false := beq_eq_false_iff_ne.2 (by omega)
  have hi0 : (0 : Int) ≤ (i : Int) := by omega
  have hi1 : (i : Int) < (x.cells.length : Int) := by omega
  clear h C hi
  go_enter Tryz.func185, Tryz.ntmps185
  go_wp2_with fail
  go_quiet (fail)
  go_wp2_with fail
  go_quiet (fail)
  go_wp2_with fail
  go_ret
  exact ⟨rfl, _, by rw [World.drewN_drewN]⟩

/-- holdsWhite of a word that leads to a used cell -/
theorem holdsWhite_no (y : Wd) (b : Nat) (w : World) (k2 : (y.k == 2) = false) :
    Calls Tryz.prog 197 #[.pointer (some ⟨b, 0, none⟩), y.v] w fun e w' => e = .returned (.bool false) ∧ Ext w w' := by
  go_enter Tryz.func197, Tryz.ntmps197
  go_wp2_with fail
  refine (find_none y b _ k2).mono ?_
  rintro e w1 ⟨rfl, hq⟩
  go_wp2_with fail
  go_ret
  exact ⟨rfl, Ext.trans ((Ext.refl w).alloc _) hq⟩
end Go.Proofs.YtkabcfhemljnbaaGreat
