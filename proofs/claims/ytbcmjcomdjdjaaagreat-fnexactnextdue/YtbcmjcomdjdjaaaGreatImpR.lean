import Derived.Test.YtbcmjcomdjdjaaaGreatImpG
import Derived.Test.YtbcmjcomdjdjaaaGreatImpQ
import Derived.Test.YtbcmjcomdjdjaaaGreatSpecF
namespace Go.Proofs.YtbcmjcomdjdjaaaGreat
open Go.RowKit
attribute [local go_sem ↓] Go.wp_at_zero Go.wp_at_succ

/-- every slice of pairs is no longer than its capacity -/
def CapAt (w : World) (x : Hp) (ac : Option Addr) : Prop := ∀ i, i < x.cells.length → ∀ bc oc ad l c, ac = some ⟨bc, oc, none⟩ → w.cell? ⟨bc, oc + i * 8 + 7, none⟩ = some (.slice ad l c) → l ≤ c ∨ l = 0
theorem CapAt.ext {w w' : World} {x : Hp} {ac : Option Addr} {b : Nat} {ar : Option Addr} {kr kc : Nat} {ag : Option Addr} {kg : Nat} (h : CapAt w x ac) (hh : HAt w b x ar kr ac kc ag kg) (e : Ext w w') : CapAt w' x ac := fun i hi bc oc ad l c ha hc => by
  obtain ⟨b2, o2, ap, kp, e2, C⟩ := hh.cell i hi
  rw [ha] at e2
  cases e2
  have := (C.ext e).p7
  rw [this] at hc
  cases hc
  exact h i hi _ _ _ _ _ ha C.p7

/-- in the Phases of marking, of the pairs of any cell: the words are formed, and what is white is used -/
theorem mark_pairs {x : Hp} (r4 : R4 x) (m : Marking x) (i k : Nat) (hi : i < x.cells.length) (hk : k < (x.c i).prs.length) :
    (Formed ((x.c i).p k).key x.cells.length ∧ Formed ((x.c i).p k).val x.cells.length) ∧ (hwB x ((x.c i).p k).key = true ↔ White x ((x.c i).p k).key) ∧ (hwB x ((x.c i).p k).val = true ↔ White x ((x.c i).p k).val) := by
  have nd : ∀ j, ¬ Doomed x j := fun j d => by have := d.1; unfold Marking at m; omega
  have hm : Mended x i k := ⟨by unfold Marking at m; omega, fun e => by unfold Marking at m; omega⟩
  have hp := ((r4.2 i hi).2 k hk).2 (nd i)
  have key : ∀ y : Wd, Leads x y (¬ Mended x i k) → (hwB x y = true ↔ White x y) := fun y hl => by
    unfold White hwB whiteN
    simp only [Bool.and_eq_true, beq_iff_eq]
    constructor
    · intro h; exact ⟨h.1, h.2.2⟩
    · intro h
      refine ⟨h.1, ?_, h.2⟩
      rcases hl.2 h.1 with h2 | h2
      · exact (h2.2 hm).elim
      · exact h2.1
  exact ⟨⟨hp.1.1, hp.2.1⟩, key _ hp.1, key _ hp.2⟩

theorem speaks_used {x : Hp} (r2 : R2 x) (i : Nat) (hi : i < x.cells.length) (h : Speaks (x.c i)) : (x.c i).st = 1 := by
  have := r2.1 i hi
  unfold Speaks at h
  unfold CellOk MovedOk Bare at this
  omega

def R7b (x : Hp) : Prop :=
  (∀ i, i < x.cells.length → ¬ (speaksN (x.c i) = true ∧ whiteN (x.c i) = true ∧ (x.phase = 2 ∨ (i : Int) < x.hand)) ∧ ((x.c i).color = 2 → ¬ ∃ k, k < (x.c i).prs.length ∧ (hwB x ((x.c i).p k).key = true ∨ hwB x ((x.c i).p k).val = true)))

/-- what the first Sub pairs of the first cell in Gray ask -/
def R7c (x : Hp) : Prop := x.phase = 2 → x.gray.length ≠ 0 → ∀ k : Nat, k < x.sub.toNat → ¬ (hwB x ((x.c x.g0).p k).key = true ∨ hwB x ((x.c x.g0).p k).val = true)

theorem g0_ok {x : Hp} (r5 : R5 x) (h : x.gray.length ≠ 0) : x.g0 < x.cells.length ∧ x.gray.getD 0 0 = (x.g0 : Int) ∧ (x.c x.g0).color = 1 := by
  have hm : x.gray.getD 0 0 ∈ x.gray := it_mem x.gray 0 (by omega)
  have := ((R5_iff x).1 r5).2.2.2.1 _ hm
  unfold Hp.g0
  exact ⟨by omega, by omega, this.2⟩

theorem R7_iff {x : Hp} (r2 : R2 x) (r4 : R4 x) (r5 : R5 x) (r6 : R6 x) (m : Marking x) : R7 x ↔ R7b x ∧ R7c x := by
  have mp := fun i k hi hk => mark_pairs r4 m i k hi hk
  have hsub : x.phase = 2 → x.gray.length ≠ 0 → x.sub ≤ (x.c x.g0).prs.length := fun p g => (r6.2.1 p).2.2 g
  constructor
  · intro h
    have h := h m
    refine ⟨fun i hi => ⟨fun ⟨a, b, c⟩ => ?_, fun hc ⟨k, hk, hw⟩ => ?_⟩, fun p g k hk hw => ?_⟩
    · refine (h i hi).1 ⟨speaksN_iff.1 a, ?_, c⟩
      unfold whiteN at b
      simp at b; exact b.2
    · have := (h i hi).2 k (by unfold looked; rw [if_pos hc]; exact hk)
      rcases hw with hw | hw
      · exact this.1 ((mp i k hi hk).2.1.1 hw)
      · exact this.2 ((mp i k hi hk).2.2.1 hw)
    · obtain ⟨g1, g2, g3⟩ := g0_ok r5 g
      have hs := hsub p g
      have hk2 : k < (x.c x.g0).prs.length := by omega
      have := (h x.g0 g1).2 k (by unfold looked; rw [if_neg (by omega), if_pos ⟨p, g, g2⟩]; exact hk)
      rcases hw with hw | hw
      · exact this.1 ((mp _ k g1 hk2).2.1.1 hw)
      · exact this.2 ((mp _ k g1 hk2).2.2.1 hw)
  · intro ⟨hb, hc⟩ _ i hi
    refine ⟨fun ⟨a, b, c⟩ => (hb i hi).1 ⟨speaksN_iff.2 a, ?_, c⟩, fun k hk => ?_⟩
    · unfold whiteN; simp; exact ⟨speaks_used r2 i hi a, b⟩
    · unfold looked at hk
      by_cases e1 : (x.c i).color = 2
      · rw [if_pos e1] at hk
        have := (hb i hi).2 e1
        exact ⟨fun w => this ⟨k, hk, .inl ((mp i k hi hk).2.1.2 w)⟩, fun w => this ⟨k, hk, .inr ((mp i k hi hk).2.2.2 w)⟩⟩
      · rw [if_neg e1] at hk
        by_cases e2 : x.phase = 2 ∧ x.gray.length ≠ 0 ∧ x.gray.getD 0 0 = (i : Int)
        · rw [if_pos e2] at hk
          obtain ⟨g1, g2, g3⟩ := g0_ok r5 e2.2.1
          have hig : i = x.g0 := by have := e2.2.2; omega
          have hs := hsub e2.1 e2.2.1
          have hk2 : k < (x.c i).prs.length := by rw [hig]; omega
          have := hc e2.1 e2.2.1 k hk
          rw [← hig] at this
          exact ⟨fun w => this (.inl ((mp i k hi hk2).2.1.2 w)), fun w => this (.inr ((mp i k hi hk2).2.2.2 w))⟩
        · rw [if_neg e2] at hk; omega
end Go.Proofs.YtbcmjcomdjdjaaaGreat

namespace Go.Proofs.YtbcmjcomdjdjaaaGreat
open Go.RowKit
attribute [local go_sem ↓] Go.wp_at_zero Go.wp_at_succ

theorem anyWhite_is (x : Hp) (b n cap : Nat) (ap : Option Addr) (f : Nat → Pr) (s : Bool) (hs : s = true ↔ ∃ k, k < n ∧ (hwB x (f k).key = true ∨ hwB x (f k).val = true)) (w : World) {ar : Option Addr} {kr : Nat} {ac : Option Addr} {kc : Nat} {ag : Option Addr} {kg : Nat} {an : Option Addr} {kn : Nat} (h : VAt w b x ar kr ac kc ag kg an kn)
    (lp : n ≤ 35184372088832) (P : ∀ k, k < n → ∃ b' o', ap = some ⟨b', o', none⟩ ∧ PrAt w b' (o' + k * 6) (f k)) (hF : ∀ k, k < n → Formed (f k).key x.cells.length ∧ Formed (f k).val x.cells.length) :
    Calls Tryz.prog 144 #[.pointer (some ⟨b, 0, none⟩), .slice ap n cap] w fun e w' => e = .returned (.bool s) ∧ Ext w w' :=
  (anyWhite_any x b n cap ap f w h lp P hF).mono fun e w' ⟨r, he, hr, hx⟩ => by
    have : r = s := by rw [Bool.eq_iff_iff]; exact hr.trans hs.symm
    rw [← this]; exact ⟨he, hx⟩

set_option maxRecDepth 100000 in
set_option maxHeartbeats 4000000 in
theorem marksKept_any (x : Hp) (b : Nat) (w : World) {ar : Option Addr} {kr : Nat} {ac : Option Addr} {kc : Nat} {ag : Option Addr} {kg : Nat} {an : Option Addr} {kn : Nat} (h : VAt w b x ar kr ac kc ag kg an kn) (hcap : CapAt w x ac) (r1 : R1 x) (r2 : R2 x) (r4 : R4 x) (r5 : R5 x) (r6 : R6 x) :
    Calls Tryz.prog 102 #[.pointer (some ⟨b, 0, none⟩)] w fun e w' => ∃ r : Bool, Hid (e = .returned (.bool r)) ∧ (r = true ↔ R7 x) ∧ Ext w w' := by
  have c5 := h.H.c5
  have n13 := h.n13
  have HV := hide h
  have HCAP := hide hcap
  have lc := h.H.lc
  have hsub0 : 0 ≤ x.sub := r1.sub.1
  have Q2 := hide r2
  have Q4 := hide r4
  have Q5 := hide r5
  have Q6 := hide r6
  clear h hcap r1 r2 r4 r5 r6
  cases tm : markingB x
  · have Y := hide (show R7 x from fun m => by rw [← markingB_iff, tm] at m; simp at m)
    go_enter Tryz.func102, Tryz.ntmps102
    go_wp2_with fail
    refine (marking_is x b false tm _ c5).mono ?_
    rintro e w1 ⟨rfl, rfl⟩
    go_wp2_with fail
    go_ret
    exact ⟨true, rfl, ⟨fun _ => unhide Y, fun _ => rfl⟩, Ext.refl _⟩
  have MM := hide (markingB_iff.1 tm)
  have IFF := hide (R7_iff (unhide Q2) (unhide Q4) (unhide Q5) (unhide Q6) (unhide MM))
  go_enter Tryz.func102, Tryz.ntmps102
  go_wp2_with fail
  refine (marking_is x b true tm _ c5).mono ?_
  rintro e w1 ⟨rfl, rfl⟩
  go_wp2_with fail
  go_loopw [13] (fun i wr => ∃ (k : Nat), k ≤ x.cells.length ∧ i = .int .i64 k ∧ Hid (∀ i, i < k → ¬ (speaksN (x.c i) = true ∧ whiteN (x.c i) = true ∧ (x.phase = 2 ∨ (i : Int) < x.hand)) ∧ ((x.c i).color = 2 → ¬ ∃ k, k < (x.c i).prs.length ∧ (hwB x ((x.c i).p k).key = true ∨ hwB x ((x.c i).p k).val = true))) ∧ Ext w1 wr) (fun i _ => x.cells.length - (intOf i).toNat)
  case atStart => exact ⟨0, Nat.zero_le _, rfl, fun j hj => by omega, Ext.refl _⟩
  case round =>
    clear n13 c5
    obtain ⟨k, hk, rfl, HA, hbl⟩ := hrel
    by_cases hlt : k < x.cells.length
    · have hv := (unhide HV).ext hbl
      obtain ⟨bn, on, bc, oc, rfl, rfl, m0, m1⟩ := hv.N k hlt
      obtain ⟨bc2, oc2, ap, kp, e2, C⟩ := hv.H.cell k hlt
      cases e2
      have d13 := hv.n13
      have HV1 := hide hv
      have HC := hide C
      have HPP := hide C.P
      have p5 := C.p5
      have p7 := C.p7
      have lp := C.lp
      have hk0 : (0:Int) ≤ (k:Int) := by omega
      have hk1 : (k:Int) < (x.cells.length:Int) := by omega
      clear hv C
      have FF := hide (fun l (hl : l < (x.c k).prs.length) => (mark_pairs (unhide Q4) (unhide MM) k l hlt hl).1)
      have ST := hide (show ¬ (speaksN (x.c k) = true ∧ whiteN (x.c k) = true ∧ (x.phase = 2 ∨ (k : Int) < x.hand)) → ((x.c k).color = 2 → ¬ ∃ l, l < (x.c k).prs.length ∧ (hwB x ((x.c k).p l).key = true ∨ hwB x ((x.c k).p l).val = true)) → ∀ i, i < k + 1 → ¬ (speaksN (x.c i) = true ∧ whiteN (x.c i) = true ∧ (x.phase = 2 ∨ (i : Int) < x.hand)) ∧ ((x.c i).color = 2 → ¬ ∃ k, k < (x.c i).prs.length ∧ (hwB x ((x.c i).p k).key = true ∨ hwB x ((x.c i).p k).val = true)) from fun h1 h2 j hj => by
        by_cases e : j = k
        · rw [e]; exact ⟨h1, h2⟩
        · exact unhide HA j (by omega))
      cases ts : speaksN (x.c k)
      · have H1 := hide (show ¬ (speaksN (x.c k) = true ∧ whiteN (x.c k) = true ∧ (x.phase = 2 ∨ (k : Int) < x.hand)) from fun q => by rw [ts] at q; simp at q)
        go_wp2_with fail
        refine (speaks_any (x.c k) bn (on + k * 2) _ _ ap kp _ m1 (unhide HC)).mono ?_
        rintro e w2 ⟨rfl, rfl⟩
        rw [ts]
        cases tc : ((x.c k).color == 2)
        · have OK := hide (unhide ST (unhide H1) (fun e => by rw [e] at tc; simp at tc))
          go_wp2_with fail
          go_roundw
          case rel => exact ⟨k + 1, by omega, by go_num, unhide OK, hbl⟩
          case measure => simp [intOf]; omega
        · go_wp2_with fail
          refine (anyWhite_any x b (x.c k).prs.length kp ap (x.c k).p _ ((unhide HV).ext hbl) lp (unhide HPP) (unhide FF)).mono ?_
          rintro e w6 ⟨r, rfl, hr, hq6⟩
          have x6 := Ext.trans hbl hq6
          cases r
          · have OK := hide (unhide ST (unhide H1) (fun _ q => by have := hr.2 q; simp at this))
            clear hr
            go_wp2_with fail
            go_roundw
            case rel => exact ⟨k + 1, by omega, by go_num, unhide OK, x6⟩
            case measure => simp [intOf]; omega
          · have N := hide (show ¬ R7 x from fun r7 => (((unhide IFF).1 r7).1 k hlt).2 (by simpa using tc) (hr.1 rfl))
            clear hr
            go_wp2_with fail
            go_ret
            exact ⟨false, rfl, ⟨fun f => by simp at f, fun r => (unhide N r).elim⟩, x6⟩
      · cases tw : whiteN (x.c k)
        · have H1 := hide (show ¬ (speaksN (x.c k) = true ∧ whiteN (x.c k) = true ∧ (x.phase = 2 ∨ (k : Int) < x.hand)) from fun q => by rw [tw] at q; simp at q)
          go_wp2_with fail
          refine (speaks_any (x.c k) bn (on + k * 2) _ _ ap kp _ m1 (unhide HC)).mono ?_
          rintro e w2 ⟨rfl, rfl⟩
          rw [ts]
          go_wp2_with fail
          refine (white_any (x.c k) bn (on + k * 2) _ _ ap kp _ m1 (unhide HC)).mono ?_
          rintro e w3 ⟨rfl, rfl⟩
          rw [tw]
          cases tc : ((x.c k).color == 2)
          · have OK := hide (unhide ST (unhide H1) (fun e => by rw [e] at tc; simp at tc))
            go_wp2_with fail
            go_roundw
            case rel => exact ⟨k + 1, by omega, by go_num, unhide OK, hbl⟩
            case measure => simp [intOf]; omega
          · go_wp2_with fail
            refine (anyWhite_any x b (x.c k).prs.length kp ap (x.c k).p _ ((unhide HV).ext hbl) lp (unhide HPP) (unhide FF)).mono ?_
            rintro e w6 ⟨r, rfl, hr, hq6⟩
            have x6 := Ext.trans hbl hq6
            cases r
            · have OK := hide (unhide ST (unhide H1) (fun _ q => by have := hr.2 q; simp at this))
              clear hr
              go_wp2_with fail
              go_roundw
              case rel => exact ⟨k + 1, by omega, by go_num, unhide OK, x6⟩
              case measure => simp [intOf]; omega
            · have N := hide (show ¬ R7 x from fun r7 => (((unhide IFF).1 r7).1 k hlt).2 (by simpa using tc) (hr.1 rfl))
              clear hr
              go_wp2_with fail
              go_ret
              exact ⟨false, rfl, ⟨fun f => by simp at f, fun r => (unhide N r).elim⟩, x6⟩
        · cases tr : ((x.phase == 2) || decide ((k : Int) < x.hand))
          · have H1 := hide (show ¬ (speaksN (x.c k) = true ∧ whiteN (x.c k) = true ∧ (x.phase = 2 ∨ (k : Int) < x.hand)) from fun q => by
              have := q.2.2
              simp at tr
              omega)
            go_wp2_with fail
            refine (speaks_any (x.c k) bn (on + k * 2) _ _ ap kp _ m1 (unhide HC)).mono ?_
            rintro e w2 ⟨rfl, rfl⟩
            rw [ts]
            go_wp2_with fail
            refine (white_any (x.c k) bn (on + k * 2) _ _ ap kp _ m1 (unhide HC)).mono ?_
            rintro e w3 ⟨rfl, rfl⟩
            rw [tw]
            go_wp2_with fail
            refine (rootSeen_any x b bn (on + k * 2) k _ (unhide HV1).H.c5 (unhide HV1).H.c6 m0).mono ?_
            rintro e w4 ⟨rfl, hq4⟩
            rw [tr]
            have x4 := hbl.trans hq4
            have PP4 := hide (((unhide HC).ext hq4).P)
            have m1' := hq4.keep m1
            have p5' := hq4.keep p5
            have p7' := hq4.keep p7
            clear m1 p5 p7
            cases tc : ((x.c k).color == 2)
            · have OK := hide (unhide ST (unhide H1) (fun e => by rw [e] at tc; simp at tc))
              go_wp2_with fail
              go_roundw
              case rel => exact ⟨k + 1, by omega, by go_num, unhide OK, x4⟩
              case measure => simp [intOf]; omega
            · go_wp2_with fail
              refine (anyWhite_any x b (x.c k).prs.length kp ap (x.c k).p _ ((unhide HV).ext x4) lp (unhide PP4) (unhide FF)).mono ?_
              rintro e w6 ⟨r, rfl, hr, hq6⟩
              have x6 := Ext.trans x4 hq6
              cases r
              · have OK := hide (unhide ST (unhide H1) (fun _ q => by have := hr.2 q; simp at this))
                clear hr
                go_wp2_with fail
                go_roundw
                case rel => exact ⟨k + 1, by omega, by go_num, unhide OK, x6⟩
                case measure => simp [intOf]; omega
              · have N := hide (show ¬ R7 x from fun r7 => (((unhide IFF).1 r7).1 k hlt).2 (by simpa using tc) (hr.1 rfl))
                clear hr
                go_wp2_with fail
                go_ret
                exact ⟨false, rfl, ⟨fun f => by simp at f, fun r => (unhide N r).elim⟩, x6⟩
          · have N := hide (show ¬ R7 x from fun r7 => (((unhide IFF).1 r7).1 k hlt).1 ⟨ts, tw, by simpa using tr⟩)
            go_wp2_with fail
            refine (speaks_any (x.c k) bn (on + k * 2) _ _ ap kp _ m1 (unhide HC)).mono ?_
            rintro e w2 ⟨rfl, rfl⟩
            rw [ts]
            go_wp2_with fail
            refine (white_any (x.c k) bn (on + k * 2) _ _ ap kp _ m1 (unhide HC)).mono ?_
            rintro e w3 ⟨rfl, rfl⟩
            rw [tw]
            go_wp2_with fail
            refine (rootSeen_any x b bn (on + k * 2) k _ (unhide HV1).H.c5 (unhide HV1).H.c6 m0).mono ?_
            rintro e w4 ⟨rfl, hq4⟩
            rw [tr]
            have x4 := hbl.trans hq4
            go_wp2_with fail
            go_ret
            exact ⟨false, rfl, ⟨fun f => by simp at f, fun r => (unhide N r).elim⟩, x4⟩
    · have A1 := hide (show R7b x from fun i hi => unhide HA i (by omega))
      have hv := (unhide HV).ext hbl
      have d7 := hv.H.c7
      have HV1 := hide hv
      obtain ⟨s, hs⟩ : ∃ s : Nat, x.sub = (s : Int) := ⟨x.sub.toNat, by omega⟩
      rw [hs] at d7
      have HS := hide hs
      have F0 : ∀ w', Up wr w' → w'.cell? ⟨b, 7, none⟩ = some (iv (s : Int)) := fun w' e => e.ext.keep d7
      clear hv hs hsub0
      by_cases hg : x.gray.length = 0
      · have d8 := (unhide HV1).H.c8
        rw [hg] at d8
        have hs0 : s = 0 := by
          have h6 := unhide Q6
          have hm := unhide MM
          have := unhide HS
          unfold Marking at hm
          rcases hm with hm | hm
          · have := h6.2.2.2 (.inl hm); omega
          · have := (h6.2.1 hm).2.1 hg; omega
        subst hs0
        have Y := hide (show R7 x from (unhide IFF).2 ⟨unhide A1, fun _ g => (g hg).elim⟩)
        have HG := hide (fun w' (e : Up wr w') => quietUp ((grayPairs_none b w' (e.ext.keep d8)).mono fun _ _ ⟨he, hw⟩ => ⟨he, hw ▸ Ext.refl w'⟩) e)
        have HW := hide (fun w' (e : Up wr w') => quietUp (anyWhite_is x b 0 0 none (fun _ => Pr0) false (by simp) w' ((unhide HV1).ext e.ext) (by omega) (fun k hk => by omega) (fun k hk => by omega)) e)
        go_wp2_with fail
        refine wp_region_quiet (C := Up wr) (by kernel_rfl) (by kernel_rfl) (show Ext _ _ from (Ext.refl _).drew) ?_
        go_simp
        iterate 12 (first | go_big_quiet_skip | (go_big_quiet_want; go_big_quiet_op; first | go_big_quiet_on | (apply Exists.intro; refine ⟨fun w' hw' => ?_, ?_⟩; (first | (go_at_call 140; exact (unhide HG w' hw')) | (go_at_call 144; exact (unhide HW w' hw')) | (with_reducible rfl) | (go_simp; first | done | (with_reducible rfl) | (refine ⟨?_, ?_⟩ <;> with_reducible rfl))); go_big_quiet_on)))
        refine wpQuiet_nil ?_
        intro w3 hq3
        have x3 := hbl.trans hq3.ext
        clear F0 HG HW
        go_wp2_with fail
        go_ret
        exact ⟨true, rfl, ⟨fun _ => unhide Y, fun _ => rfl⟩, x3⟩
      · obtain ⟨g1, g2, g3⟩ := g0_ok (unhide Q5) hg
        obtain ⟨bc, oc, ap, kp, e2, C⟩ := (unhide HV1).H.cell x.g0 g1
        have hg0 : 0 < x.gray.length := by omega
        have hgi : x.gray[0] = (x.g0 : Int) := by rw [← g2]; simp [hg0]
        have hsn : s ≤ (x.c x.g0).prs.length := by
          have h6 := unhide Q6
          have hm := unhide MM
          have := unhide HS
          unfold Marking at hm
          rcases hm with hm | hm
          · have := h6.2.2.2 (.inl hm); omega
          · have := (h6.2.1 hm).2.2 hg; omega
        have hsk : s ≤ kp := by
          have hc := (CapAt.ext (unhide HCAP) (unhide HV).H hbl) x.g0 g1 bc oc ap (x.c x.g0).prs.length kp e2 C.p7
          omega
        have i0 : (0 : Int) ≤ (s : Int) := by omega
        have i1 : (s : Int) ≤ (kp : Int) := by omega
        have hlp : s ≤ 35184372088832 := by have := C.lp; omega
        have HG := hide (fun w' (e : Up wr w') => quietUp ((grayPairs_some x b x.g0 w' ((unhide HV1).ext e.ext) hg0 hgi g1 bc oc ap kp e2 (C.ext e.ext)).mono fun _ _ ⟨he, m, hw⟩ => ⟨he, hw ▸ (Ext.refl w').drewN m⟩) e)
        have FF := hide (fun l (hl : l < s) => (mark_pairs (unhide Q4) (unhide MM) x.g0 l g1 (by omega)).1)
        have CC := hide C
        have PH2 := hide (show x.phase = 2 ∨ s = 0 by
          have h6 := unhide Q6
          have hm := unhide MM
          have := unhide HS
          unfold Marking at hm
          rcases hm with hm | hm
          · have := h6.2.2.2 (.inl hm); omega
          · exact .inl hm)
        have R7C := hide (show R7c x ↔ ¬ ∃ k, k < s ∧ (hwB x ((x.c x.g0).p k).key = true ∨ hwB x ((x.c x.g0).p k).val = true) by
          have e1 : x.sub.toNat = s := by have := unhide HS; omega
          constructor
          · rintro h ⟨k, hk, hw⟩
            rcases unhide PH2 with p | p
            · exact h p hg k (by rw [e1]; exact hk) hw
            · omega
          · intro h _ _ k hk hw
            exact h ⟨k, by rw [e1] at hk; exact hk, hw⟩)
        clear C
        by_cases hex : ∃ k, k < s ∧ (hwB x ((x.c x.g0).p k).key = true ∨ hwB x ((x.c x.g0).p k).val = true)
        · have N := hide (show ¬ R7 x from fun r7 => (unhide R7C).1 ((unhide IFF).1 r7).2 hex)
          have HW := hide (fun w' (e : Up wr w') => quietUp (anyWhite_is x b s kp ap (x.c x.g0).p true ⟨fun _ => hex, fun _ => rfl⟩ w' ((unhide HV1).ext e.ext) hlp (fun k hk => ((unhide CC).ext e.ext).P k (by omega)) (unhide FF)) e)
          clear hex
          go_wp2_with fail
          refine wp_region_quiet (C := Up wr) (by kernel_rfl) (by kernel_rfl) (show Ext _ _ from (Ext.refl _).drew) ?_
          go_simp
          iterate 12 (first | go_big_quiet_skip | (go_big_quiet_want; go_big_quiet_op; first | go_big_quiet_on | (apply Exists.intro; refine ⟨fun w' hw' => ?_, ?_⟩; (first | (go_at_call 140; exact (unhide HG w' hw')) | (go_at_call 144; exact (unhide HW w' hw')) | (with_reducible rfl) | (go_simp; first | done | (with_reducible rfl) | (refine ⟨?_, ?_⟩ <;> with_reducible rfl))); go_big_quiet_on)))
          refine wpQuiet_nil ?_
          intro w3 hq3
          have x3 := hbl.trans hq3.ext
          clear F0 HG HW
          go_wp2_with fail
          go_ret
          exact ⟨false, rfl, ⟨fun f => by simp at f, fun r => (unhide N r).elim⟩, x3⟩
        · have Y := hide (show R7 x from (unhide IFF).2 ⟨unhide A1, (unhide R7C).2 hex⟩)
          have HW := hide (fun w' (e : Up wr w') => quietUp (anyWhite_is x b s kp ap (x.c x.g0).p false ⟨fun f => by simp at f, fun q => (hex q).elim⟩ w' ((unhide HV1).ext e.ext) hlp (fun k hk => ((unhide CC).ext e.ext).P k (by omega)) (unhide FF)) e)
          clear hex
          go_wp2_with fail
          refine wp_region_quiet (C := Up wr) (by kernel_rfl) (by kernel_rfl) (show Ext _ _ from (Ext.refl _).drew) ?_
          go_simp
          iterate 12 (first | go_big_quiet_skip | (go_big_quiet_want; go_big_quiet_op; first | go_big_quiet_on | (apply Exists.intro; refine ⟨fun w' hw' => ?_, ?_⟩; (first | (go_at_call 140; exact (unhide HG w' hw')) | (go_at_call 144; exact (unhide HW w' hw')) | (with_reducible rfl) | (go_simp; first | done | (with_reducible rfl) | (refine ⟨?_, ?_⟩ <;> with_reducible rfl))); go_big_quiet_on)))
          refine wpQuiet_nil ?_
          intro w3 hq3
          have x3 := hbl.trans hq3.ext
          clear F0 HG HW
          go_wp2_with fail
          go_ret
          exact ⟨true, rfl, ⟨fun _ => unhide Y, fun _ => rfl⟩, x3⟩
end Go.Proofs.YtbcmjcomdjdjaaaGreat
