import Derived.Test.YtbcmjcomdjdjaaaGreatImpO
namespace Go.Proofs.YtbcmjcomdjdjaaaGreat
open Go.RowKit
attribute [local go_sem ↓] Go.wp_at_zero Go.wp_at_succ

/-- the two heaps of least items that cellsKept fills -/
structure Two (w wr : World) (x : Hp) (k : Nat) (v1 v2 : Value) (L1 L2 : List Int) : Prop where
  e : Ext w wr
  s1 : LsAt wr w.heap.size w.heap.size 0 v1 L1
  s2 : LsAt wr w.heap.size (w.heap.size + 1) 0 v2 L2
  d1 : v1.ownBlock ≠ some (w.heap.size + 1)
  d2 : v2.ownBlock ≠ some w.heap.size
  d3 : ∀ k, v2.ownBlock = some k → v1.ownBlock ≠ some k
  h1 : Ho L1
  h2 : Ho L2
  p1 : L1.Perm (births x k)
  p2 : L2.Perm (targets x k)

theorem Two.len {w wr : World} {x : Hp} {k : Nat} {v1 v2 : Value} {L1 L2 : List Int} (h : Two w wr x k v1 v2 L1 L2) : L1.length ≤ k ∧ L2.length ≤ k :=
  ⟨by rw [h.p1.length_eq]; exact valsTo_len _ _ _, by rw [h.p2.length_eq]; exact valsTo_len _ _ _⟩
theorem Two.ext {w wr w' : World} {x : Hp} {k : Nat} {v1 v2 : Value} {L1 L2 : List Int} (h : Two w wr x k v1 v2 L1 L2) (e : Ext wr w') : Two w w' x k v1 v2 L1 L2 :=
  ⟨h.e.trans e, h.s1.ext e, h.s2.ext e, h.d1, h.d2, h.d3, h.h1, h.h2, h.p1, h.p2⟩
theorem Two.skip {w wr : World} {x : Hp} {k : Nat} {v1 v2 : Value} {L1 L2 : List Int} (h : Two w wr x k v1 v2 L1 L2) (s1 : isSt x 1 k = false) (s2 : isSt x 2 k = false) : Two w wr x (k + 1) v1 v2 L1 L2 :=
  ⟨h.e, h.s1, h.s2, h.d1, h.d2, h.d3, h.h1, h.h2, by unfold births; rw [valsTo_no _ _ _ s1]; exact h.p1, by unfold targets; rw [valsTo_no _ _ _ s2]; exact h.p2⟩
theorem Two.put1 {w wr w' : World} {x : Hp} {k : Nat} {v1 v2 v1' : Value} {L1 L2 L1' : List Int} (h : Two w wr x k v1 v2 L1 L2) (s1 : isSt x 1 k = true) (s2 : isSt x 2 k = false)
    (l : LsAt w' w.heap.size w.heap.size 0 v1' L1') (o : Ho L1') (p : L1'.Perm (bornOf x k :: L1)) (q : QFr w.heap.size 0 v1 v1' wr w') : Two w w' x (k + 1) v1' v2 L1' L2 := by
  have hs := h.s2.hlt
  refine ⟨q.ext h.e (Nat.le_refl _) (fun k hk => (h.s1.rlt k hk).1), l, h.s2.other q (by omega) h.d1 h.d2 h.d3, ?_, h.d2, ?_, o, h.h2, ?_, by unfold targets; rw [valsTo_no _ _ _ s2]; exact h.p2⟩
  · rcases q.own with e | ⟨g, e, hg⟩
    · rw [e]; exact h.d1
    · rw [e]; intro f; cases f; omega
  · intro k hk
    rcases q.own with e | ⟨g, e, hg⟩
    · rw [e]; exact h.d3 k hk
    · rw [e]; intro f; cases f; have := (h.s2.rlt k hk).2; omega
  · unfold births
    rw [valsTo_yes _ _ _ s1]
    exact (p.trans (h.p1.cons _)).trans (List.perm_append_singleton _ _).symm
theorem Two.put2 {w wr w' : World} {x : Hp} {k : Nat} {v1 v2 v2' : Value} {L1 L2 L2' : List Int} (h : Two w wr x k v1 v2 L1 L2) (s1 : isSt x 1 k = false) (s2 : isSt x 2 k = true)
    (l : LsAt w' w.heap.size (w.heap.size + 1) 0 v2' L2') (o : Ho L2') (p : L2'.Perm (toOf x k :: L2)) (q : QFr (w.heap.size + 1) 0 v2 v2' wr w') : Two w w' x (k + 1) v1 v2' L1 L2' := by
  have hs := h.s1.hlt
  refine ⟨q.ext h.e (by omega) (fun k hk => (h.s2.rlt k hk).1), h.s1.other q (by omega) h.d2 h.d1 (fun k h1 h2 => h.d3 k h2 h1), l, h.d1, ?_, ?_, h.h1, o, by unfold births; rw [valsTo_no _ _ _ s1]; exact h.p1, ?_⟩
  · rcases q.own with e | ⟨g, e, hg⟩
    · rw [e]; exact h.d2
    · rw [e]; intro f; cases f; omega
  · intro k hk f
    rcases q.own with e | ⟨g, e, hg⟩
    · rw [e] at hk; exact h.d3 k hk f
    · rw [e] at hk; cases hk; have := (h.s1.rlt _ f).2; omega
  · unfold targets
    rw [valsTo_yes _ _ _ s2]
    exact (p.trans (h.p2.cons _)).trans (List.perm_append_singleton _ _).symm
theorem Two.start (w : World) (x : Hp) (a b : TypeId) : Two w ((w.alloc (.cells #[.slice none 0 0] a)).alloc (.cells #[.slice none 0 0] b)) x 0 (.slice none 0 0) (.slice none 0 0) [] [] := by
  refine ⟨((Ext.refl w).alloc _).alloc _, LsAt.nil (by simp [go_sem]) (by simp [go_sem]), LsAt.nil (by simp [go_sem]) (by simp [go_sem]), by simp [Value.ownBlock], by simp [Value.ownBlock], by simp [Value.ownBlock], Ho.nil, Ho.nil, List.Perm.refl _, List.Perm.refl _⟩

theorem isSt_of {x : Hp} {k : Nat} {s : Int} (t : Int) (h : ((x.c k).st == s) = true) (hne : s ≠ t) : isSt x t k = false := by
  simp [isSt] at *; omega

set_option maxRecDepth 100000 in
set_option maxHeartbeats 4000000 in
theorem cellsKept_any (x : Hp) (b : Nat) (w : World) {ar : Option Addr} {kr : Nat} {ac : Option Addr} {kc : Nat} {ag : Option Addr} {kg : Nat} {an : Option Addr} {kn : Nat} {base : Nat} {vf : Value} {F : List Int} (h : VAt w b x ar kr ac kc ag kg an kn) (hF : FAt w b x base vf F) (hn : x.cells.length ≤ 8000) :
    Calls Tryz.prog 97 #[.pointer (some ⟨b, 0, none⟩)] w fun e w' => ∃ r : Bool, Hid (e = .returned (.bool r)) ∧ (r = true ↔ R2 x) ∧ Ext w w' := by
  have n13 := h.n13
  have hb : b < w.heap.size := cell_lt n13
  have HV := hide h
  have HFF := hide hF
  clear h hF
  go_enter Tryz.func97, Tryz.ntmps97
  go_wp2_with fail
  go_loopw [12] (fun i wr => ∃ (k : Nat) (v1 v2 : Value) (L1 L2 : List Int), k ≤ x.cells.length ∧ i = .int .i64 k ∧ Hid (∀ j, j < k → CellOk x j) ∧ Two w wr x k v1 v2 L1 L2) (fun i _ => x.cells.length - (intOf i).toNat)
  case atStart => exact ⟨0, _, _, [], [], Nat.zero_le _, rfl, fun j hj => by omega, Two.start w x _ _⟩
  case round =>
    clear n13
    obtain ⟨k, v1, v2, L1, L2, hk, rfl, HA, htwo⟩ := hrel
    have TW := hide htwo
    by_cases hlt : k < x.cells.length
    · have hv := (unhide HV).ext htwo.e
      have hff := (unhide HFF).ext htwo.e
      obtain ⟨bn, on, bc, oc, rfl, rfl, m0, m1⟩ := hv.N k hlt
      obtain ⟨bc2, oc2, ap, kp, e2, C⟩ := hv.H.cell k hlt
      cases e2
      have p0 := C.p0
      have p4 := C.p4
      have p6 := C.p6
      have d13 := hv.n13
      have HC := hide C
      have HV1 := hide hv
      have HF1 := hide hff
      have hk0 : (0:Int) ≤ (k:Int) := by omega
      have hk1 : (k:Int) < (x.cells.length:Int) := by omega
      have hbs : w.heap.size ≤ wr.heap.size := htwo.e.size
      have hl1 : L1.length ≤ 100000 := by have := htwo.len.1; omega
      have hl2 : L2.length ≤ 100000 := by have := htwo.len.2; omega
      clear htwo C hv hff
      have step : CellOk x k → Hid (∀ j, j < k + 1 → CellOk x j) := fun hc j hj => by
        by_cases e : j = k
        · rw [e]; exact hc
        · exact unhide HA j (by omega)
      have ST := hide step
      clear step
      cases s0 : ((x.c k).st == 0)
      · cases s1 : ((x.c k).st == 1)
        · cases s2 : ((x.c k).st == 2)
          · have N := hide (show ¬ R2 x from fun r => by
              have := r.1 k hlt
              unfold CellOk at this
              simp at s0 s1 s2
              omega)
            go_wp2_with fail
            go_ret
            exact ⟨false, rfl, ⟨fun f => by simp at f, fun r => (unhide N r).elim⟩, (unhide TW).e⟩
          · go_wp2_with fail
            refine (movedKept_any x b k _ (unhide HV1) (unhide HF1) hlt bn on rfl).mono ?_
            rintro e w2 ⟨r, rfl, hr, hq⟩
            have T2 := hide ((unhide TW).ext hq)
            cases r
            · have N := hide (show ¬ R2 x from fun r => by
                have h2 := r.1 k hlt
                unfold CellOk at h2
                have h3 : (x.c k).st = 2 := by simpa using s2
                have := hr.2 (by rcases h2 with h2 | h2 | h2 <;> first | exact h2.2 | omega)
                simp at this)
              clear hr
              go_wp2_with fail
              go_ret
              exact ⟨false, rfl, ⟨fun f => by simp at f, fun r => (unhide N r).elim⟩, (unhide T2).e⟩
            · have OK := hide (unhide ST (.inr (.inl ⟨by simpa using s2, hr.1 rfl⟩)))
              have u6 := hq.keep p6
              have um := hq.keep m1
              clear hr
              go_wp2_with fail
              refine (put_ls _ w.heap.size (w.heap.size + 1) 0 v2 L2 (x.c k).to (unhide T2).s2 (Nat.le_trans hbs hq.size) (unhide T2).h2 hl2).mono ?_
              rintro e w3 ⟨rfl, v3, L3, l3, o3, p3, q3⟩
              have T3 := hide ((unhide T2).put2 (isSt_of 1 s2 (by omega)) s2 l3 o3 p3 q3)
              clear l3 o3 p3 q3
              go_wp2_with fail
              go_roundw
              case rel => exact ⟨k + 1, v1, v3, L1, L3, by omega, by go_num, unhide OK, unhide T3⟩
              case measure => simp [intOf]; omega
        · go_wp2_with fail
          refine (usedKept_any x (x.c k) b bn (on + k * 2) _ _ ap kp _ (unhide HV1).H.c2 m1 (unhide HC)).mono ?_
          rintro e w2 ⟨r, rfl, hr, hq⟩
          have T2 := hide ((unhide TW).ext hq)
          cases r
          · have N := hide (show ¬ R2 x from fun r => by
              have h2 := r.1 k hlt
              unfold CellOk at h2
              have h3 : (x.c k).st = 1 := by simpa using s1
              have := hr.2 (by rcases h2 with h2 | h2 | h2 <;> first | exact h2.2 | omega)
              simp at this)
            clear hr
            go_wp2_with fail
            go_ret
            exact ⟨false, rfl, ⟨fun f => by simp at f, fun r => (unhide N r).elim⟩, (unhide T2).e⟩
          · have OK := hide (unhide ST (.inr (.inr ⟨by simpa using s1, hr.1 rfl⟩)))
            have u4 := hq.keep p4
            have um := hq.keep m1
            clear hr
            go_wp2_with fail
            refine (put_ls _ w.heap.size w.heap.size 0 v1 L1 (x.c k).born (unhide T2).s1 (Nat.le_trans hbs hq.size) (unhide T2).h1 hl1).mono ?_
            rintro e w3 ⟨rfl, v3, L3, l3, o3, p3, q3⟩
            have T3 := hide ((unhide T2).put1 s1 (isSt_of 2 s1 (by omega)) l3 o3 p3 q3)
            clear l3 o3 p3 q3
            go_wp2_with fail
            go_roundw
            case rel => exact ⟨k + 1, v3, v2, L3, L2, by omega, by go_num, unhide OK, unhide T3⟩
            case measure => simp [intOf]; omega
      · have S0 := hide (show (x.c k).st = 0 by simpa using s0)
        go_wp2_with fail
        refine (bare_any (x.c k) bn (on + k * 2) _ _ ap kp _ m1 (unhide HC)).mono ?_
        rintro e w2 ⟨rfl, rfl⟩
        cases tb : bareC (x.c k)
        · have N := hide (show ¬ R2 x from fun r => by
            have h2 := r.1 k hlt
            unfold CellOk at h2
            have h3 := unhide S0
            have : Bare (x.c k) := by rcases h2 with h2 | h2 | h2 <;> first | exact h2.2.1 | omega
            rw [← bareC_iff, tb] at this
            simp at this)
          go_wp2_with fail
          go_ret
          exact ⟨false, rfl, ⟨fun f => by simp at f, fun r => (unhide N r).elim⟩, (unhide TW).e⟩
        · cases tt : ((x.c k).to == 0)
          · have tt2 : ((x.c k).to != 0) = true := by simpa using tt
            have N := hide (show ¬ R2 x from fun r => by
              have h2 := r.1 k hlt
              unfold CellOk at h2
              have h3 := unhide S0
              simp at tt
              omega)
            go_wp2_with fail
            go_ret
            exact ⟨false, rfl, ⟨fun f => by simp at f, fun r => (unhide N r).elim⟩, (unhide TW).e⟩
          · have tt2 : ((x.c k).to != 0) = false := by simpa using tt
            have OK := hide (unhide ST (.inl ⟨unhide S0, bareC_iff.1 tb, by simpa using tt⟩))
            have T3 := hide ((unhide TW).skip (isSt_of 1 s0 (by omega)) (isSt_of 2 s0 (by omega)))
            go_wp2_with fail
            go_roundw
            case rel => exact ⟨k + 1, v1, v2, L1, L2, by omega, by go_num, unhide OK, unhide T3⟩
            case measure => simp [intOf]; omega
    · have hk2 : k = x.cells.length := by omega
      have A1 := hide (show ∀ j, j < x.cells.length → CellOk x j from fun j hj => unhide HA j (by omega))
      have AP := hide (apart_iff x (unhide A1))
      have P1 := hide (show L1.Nodup ↔ (births x x.cells.length).Nodup by have := htwo.p1; rw [hk2] at this; exact this.nodup_iff)
      have P2 := hide (show L2.Nodup ↔ (targets x x.cells.length).Nodup by have := htwo.p2; rw [hk2] at this; exact this.nodup_iff)
      have hl1 : L1.length ≤ 100000 := by have := htwo.len.1; omega
      have hl2 : L2.length ≤ 100000 := by have := htwo.len.2; omega
      clear htwo hk2
      go_wp2_with fail
      refine (drain_ls _ w.heap.size w.heap.size 0 v1 L1 (unhide TW).s1 (unhide TW).h1 hl1).mono ?_
      rintro e w2 ⟨r, rfl, hr, v3, q3⟩
      have E2 := hide (q3.ext (unhide TW).e (Nat.le_refl _) (fun k hk => ((unhide TW).s1.rlt k hk).1))
      have S2 := hide ((unhide TW).s2.other q3 (by omega) (unhide TW).d1 (unhide TW).d2 (unhide TW).d3)
      clear q3
      cases r
      · have N := hide (show ¬ R2 x from fun r => by
          have := hr.2 ((unhide P1).2 ((unhide AP).1 r.2).1)
          simp at this)
        clear hr
        go_wp2_with fail
        go_ret
        exact ⟨false, rfl, ⟨fun f => by simp at f, fun r => (unhide N r).elim⟩, unhide E2⟩
      · have B1 := hide ((unhide P1).1 (hr.1 rfl))
        clear hr
        go_wp2_with fail
        refine (drain_ls _ w.heap.size (w.heap.size + 1) 0 v2 L2 (unhide S2) (unhide TW).h2 hl2).mono ?_
        rintro e w3 ⟨r, rfl, hr, v4, q4⟩
        have E3 := hide (q4.ext (unhide E2) (by omega) (fun k hk => ((unhide S2).rlt k hk).1))
        have RR := hide (show r = true ↔ R2 x from ⟨fun e => ⟨unhide A1, (unhide AP).2 ⟨unhide B1, (unhide P2).1 (hr.1 e)⟩⟩, fun q => hr.2 ((unhide P2).2 ((unhide AP).1 q.2).2)⟩)
        clear q4 hr
        go_wp2_with fail
        go_ret
        exact ⟨r, rfl, unhide RR, unhide E3⟩
end Go.Proofs.YtbcmjcomdjdjaaaGreat
