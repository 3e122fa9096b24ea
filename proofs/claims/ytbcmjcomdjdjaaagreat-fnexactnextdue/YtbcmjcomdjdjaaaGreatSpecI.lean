import Derived.Test.YtbcmjcomdjdjaaaGreatSpecC
namespace Go.Proofs.YtbcmjcomdjdjaaaGreat
open Go.RowKit
attribute [local go_sem ↓] Go.wp_at_zero Go.wp_at_succ

theorem formed_at {y : Wd} {n : Nat} (h : Formed y n) (e : y.k = 2) : 0 ≤ y.a ∧ y.a < n := by unfold Formed at h; omega

set_option maxRecDepth 100000 in
set_option maxHeartbeats 4000000 in
theorem l1marks_1 (x : Hp) (b : Nat) (w : World) {ar : Option Addr} {kr : Nat} {ac : Option Addr} {kc : Nat} {ag : Option Addr} {kg : Nat} (h : HAt w b x ar kr ac kc ag kg) (fo : ∀ i, i < x.cells.length → ∀ k, k < (x.c i).prs.length → Formed ((x.c i).p k).key x.cells.length ∧ Formed ((x.c i).p k).val x.cells.length) (r6 : R6 x) (r1 : R1 x) (q1 : (x.phase == 1) = true) :
    Calls Tryz.prog 43 #[.pointer (some ⟨b, 0, none⟩)] w fun e w' => ∃ r : Bool, e = .returned (.bool r) ∧ (r = true ↔ R7 x) ∧ Ext w w' := by
  have hph : x.phase = 1 := by simpa using q1
  have MK := hide (show Marking x from Or.inl hph)
  have HPH := hide hph
  clear hph
  have q1n : (x.phase != 1) = false := by simpa using q1
  have q2 : (x.phase == 2) = false := by simp at q1 ⊢; omega
  have c4 := h.c4
  have c5 := h.c5
  have lc := h.lc
  have lg := h.lg
  have hs0 := r1.sub.1
  have FOO := hide fo
  have HR6 := hide r6
  clear fo r6 r1
  go_enter Tryz.func43, Tryz.ntmps43
  go_wp2_with fail
  go_loopw [25] (fun i wr => ∃ k : Nat, k ≤ x.cells.length ∧ i = .int .i64 k ∧ (∀ j, j < k → ¬ (Speaks (x.c j) ∧ (x.c j).color = 0 ∧ (x.phase = 2 ∨ (j : Int) < x.hand)) ∧ ∀ l, l < looked x j → ¬ White x ((x.c j).p l).key ∧ ¬ White x ((x.c j).p l).val) ∧ Ext w wr) (fun i _ => x.cells.length - (intOf i).toNat)
  case atStart => exact ⟨0, Nat.zero_le _, rfl, fun j h => by omega, Ext.refl _⟩
  case round =>
    obtain ⟨k, hk, rfl, hall, hbl⟩ := hrel
    have HA := hide hall
    clear hall
    by_cases hlt : k < x.cells.length
    · have hh := h.ext hbl
      obtain ⟨b', o, ap, kp, rfl, p0, p1, p2, p3, p4, p5, p6, p7, lp, P⟩ := hh.cell k hlt
      have HP := hide P
      have FO := hide (unhide FOO k hlt)
      clear P
      have e5 := hh.c5
      have e6 := hh.c6
      have e7 := hh.c7
      have e8 := hh.c8
      have hb' : b' < wr.heap.size := cell_lt p0
      have hb : b < wr.heap.size := cell_lt e8
      have hk0 : (0:Int) ≤ (k:Int) := by omega
      have hk1 : (k:Int) < (x.cells.length:Int) := by omega
      have hbl1 := hbl.alloc (.cells #[.int .i64 (x.c k).st, .int .i64 (x.c k).kind, .int .i64 (x.c k).weak, .int .i64 (x.c k).last, .int .i64 (x.c k).born, .int .i64 (x.c k).color, .int .i64 (x.c k).to, .slice ap (x.c k).prs.length kp] 90)
      have hz := (Ext.refl wr).alloc (.cells #[.int .i64 (x.c k).st, .int .i64 (x.c k).kind, .int .i64 (x.c k).weak, .int .i64 (x.c k).last, .int .i64 (x.c k).born, .int .i64 (x.c k).color, .int .i64 (x.c k).to, .slice ap (x.c k).prs.length kp] 90)
      cases d0 : ((x.c k).color == 0)
      · have D0 := hide (show (x.c k).color ≠ 0 by simpa using d0)
        have ST := hide (show (∀ l, l < looked x k → ¬ White x ((x.c k).p l).key ∧ ¬ White x ((x.c k).p l).val) → Hid (∀ j, j < k + 1 → ¬ (Speaks (x.c j) ∧ (x.c j).color = 0 ∧ (x.phase = 2 ∨ (j : Int) < x.hand)) ∧ ∀ l, l < looked x j → ¬ White x ((x.c j).p l).key ∧ ¬ White x ((x.c j).p l).val) from fun hn j hj => by
          by_cases e : j = k
          · subst e; exact ⟨fun hb => unhide D0 hb.2.1, hn⟩
          · exact unhide HA j (by omega))
        cases w1 : ((x.c k).last == 1)
        · cases w2 : ((x.c k).last == 2)
          · skip
            cases d2 : ((x.c k).color == 2)
            · skip
              have LK := hide (show looked x k = 0 by have e1 := unhide HPH; have e2 : ¬ (x.c k).color = 2 := (by simpa using d2); simp [looked, e1, e2])
              go_wp2_with fail
              go_loopw [7] (fun i wr2 => i = .int .i64 0 ∧ wr2 = wr.alloc (.cells #[.int .i64 (x.c k).st, .int .i64 (x.c k).kind, .int .i64 (x.c k).weak, .int .i64 (x.c k).last, .int .i64 (x.c k).born, .int .i64 (x.c k).color, .int .i64 (x.c k).to, .slice ap (x.c k).prs.length kp] 90)) (fun _ _ => 0)
              case atStart => exact ⟨rfl, rfl⟩
              case round =>
                obtain ⟨rfl, rfl⟩ := hrel
                have S := unhide ST (fun l hl => by rw [unhide LK] at hl; omega)
                go_wp2_with fail
                go_roundw
                case rel => exact ⟨k + 1, by omega, by go_num, unhide S, hbl1⟩
                case measure => simp [intOf]; omega
            · have LK := hide (show looked x k = (x.c k).prs.length by simp at d2; simp [looked, d2])
              go_wp2_with fail
              obtain ⟨WO, hWO⟩ : ∃ W : World, W = wr := ⟨_, rfl⟩
              subst hWO
              go_loopw [7] (fun i wr2 => ∃ l : Nat, l ≤ (x.c k).prs.length ∧ i = .int .i64 l ∧ (∀ j, j < l → ¬ White x ((x.c k).p j).key ∧ ¬ White x ((x.c k).p j).val) ∧ Ext w wr2 ∧ Ext (WO.alloc (.cells #[.int .i64 (x.c k).st, .int .i64 (x.c k).kind, .int .i64 (x.c k).weak, .int .i64 (x.c k).last, .int .i64 (x.c k).born, .int .i64 (x.c k).color, .int .i64 (x.c k).to, .slice ap (x.c k).prs.length kp] 90)) wr2) (fun i _ => (x.c k).prs.length - (intOf i).toNat)
              case atStart => exact ⟨0, Nat.zero_le _, rfl, fun j h => by omega, hbl1, Ext.refl _⟩
              case round =>
                obtain ⟨l, hl, rfl, hall, hx2, hy2⟩ := hrel
                have HB := hide hall
                clear hall
                clear p0 p1 p2 p3 p4 p5 p6 p7 e5 e6 e7 e8
                by_cases hl2 : l < (x.c k).prs.length
                · obtain ⟨b2, o2, rfl, q0, q1, q2, q3, q4, q5⟩ := unhide HP l (by omega)
                  have g0 := (Ext.trans hz hy2).keep q0
                  have g1 := (Ext.trans hz hy2).keep q1
                  have g2 := (Ext.trans hz hy2).keep q2
                  have g3 := (Ext.trans hz hy2).keep q3
                  have g4 := (Ext.trans hz hy2).keep q4
                  have g5 := (Ext.trans hz hy2).keep q5
                  have f7 := hy2.keep (b := WO.heap.size) (o := 7) (v := .slice (some ⟨b2, o2, none⟩) (x.c k).prs.length kp) (by simp [go_sem])
                  clear q0 q1 q2 q3 q4 q5
                  have hl0 : (0:Int) ≤ (l:Int) := by omega
                  have hl1 : (l:Int) < ((x.c k).prs.length:Int) := by omega
                  have K1 := hide ((unhide FO) l (by omega))
                  go_wp2_with fail
                  refine (l1white_any x b ((x.c k).p l).key _ (h.ext hx2) (fun e => formed_at (unhide K1).1 e)).mono ?_
                  rintro e w3 ⟨rfl, hq3⟩
                  have u7 := hq3.keep f7
                  have u3 := hq3.keep g3
                  have u4 := hq3.keep g4
                  have u5 := hq3.keep g5
                  have x3 : Ext w w3 := hx2.trans hq3
                  cases tk : whiteB x ((x.c k).p l).key
                  · go_wp2_with fail
                    refine (l1white_any x b ((x.c k).p l).val _ (h.ext x3) (fun e => formed_at (unhide K1).2 e)).mono ?_
                    rintro e w4 ⟨rfl, hq4⟩
                    cases tv : whiteB x ((x.c k).p l).val
                    · have S := hide (show ∀ j, j < l + 1 → ¬ White x ((x.c k).p j).key ∧ ¬ White x ((x.c k).p j).val from fun j hj => by
                        by_cases e : j = l
                        · subst e; exact ⟨fun hh => by rw [← whiteB_iff, tk] at hh; simp at hh, fun hh => by rw [← whiteB_iff, tv] at hh; simp at hh⟩
                        · exact unhide HB j (by omega))
                      go_wp2_with fail
                      go_roundw
                      case rel => exact ⟨l + 1, by omega, by go_num, unhide S, x3.trans hq4, Ext.trans (Ext.trans hy2 hq3) hq4⟩
                      case measure => simp [intOf]; omega
                    · have NN := hide (show ¬ R7 x from fun r => ((r (unhide MK) k hlt).2 l (by rw [unhide LK]; omega)).2 (whiteB_iff.1 tv))
                      go_wp2_with fail
                      go_ret
                      first | (exact Or.inl ⟨rfl, unhide NN, x3.trans hq4⟩) | (exact ⟨false, rfl, ⟨fun f => by simp at f, fun r => (unhide NN r).elim⟩, x3.trans hq4⟩)
                  · have NN := hide (show ¬ R7 x from fun r => ((r (unhide MK) k hlt).2 l (by rw [unhide LK]; omega)).1 (whiteB_iff.1 tk))
                    go_wp2_with fail
                    go_ret
                    first | (exact Or.inl ⟨rfl, unhide NN, x3⟩) | (exact ⟨false, rfl, ⟨fun f => by simp at f, fun r => (unhide NN r).elim⟩, x3⟩)
                · have S := unhide ST (fun l' hl' => unhide HB l' (by rw [unhide LK] at hl'; omega))
                  go_wp2_with fail
                  go_roundw
                  case rel => exact ⟨k + 1, by omega, by go_num, unhide S, hx2⟩
                  case measure => simp [intOf]; omega
          · skip
            cases d2 : ((x.c k).color == 2)
            · skip
              have LK := hide (show looked x k = 0 by have e1 := unhide HPH; have e2 : ¬ (x.c k).color = 2 := (by simpa using d2); simp [looked, e1, e2])
              go_wp2_with fail
              go_loopw [7] (fun i wr2 => i = .int .i64 0 ∧ wr2 = wr.alloc (.cells #[.int .i64 (x.c k).st, .int .i64 (x.c k).kind, .int .i64 (x.c k).weak, .int .i64 (x.c k).last, .int .i64 (x.c k).born, .int .i64 (x.c k).color, .int .i64 (x.c k).to, .slice ap (x.c k).prs.length kp] 90)) (fun _ _ => 0)
              case atStart => exact ⟨rfl, rfl⟩
              case round =>
                obtain ⟨rfl, rfl⟩ := hrel
                have S := unhide ST (fun l hl => by rw [unhide LK] at hl; omega)
                go_wp2_with fail
                go_roundw
                case rel => exact ⟨k + 1, by omega, by go_num, unhide S, hbl1⟩
                case measure => simp [intOf]; omega
            · have LK := hide (show looked x k = (x.c k).prs.length by simp at d2; simp [looked, d2])
              go_wp2_with fail
              obtain ⟨WO, hWO⟩ : ∃ W : World, W = wr := ⟨_, rfl⟩
              subst hWO
              go_loopw [7] (fun i wr2 => ∃ l : Nat, l ≤ (x.c k).prs.length ∧ i = .int .i64 l ∧ (∀ j, j < l → ¬ White x ((x.c k).p j).key ∧ ¬ White x ((x.c k).p j).val) ∧ Ext w wr2 ∧ Ext (WO.alloc (.cells #[.int .i64 (x.c k).st, .int .i64 (x.c k).kind, .int .i64 (x.c k).weak, .int .i64 (x.c k).last, .int .i64 (x.c k).born, .int .i64 (x.c k).color, .int .i64 (x.c k).to, .slice ap (x.c k).prs.length kp] 90)) wr2) (fun i _ => (x.c k).prs.length - (intOf i).toNat)
              case atStart => exact ⟨0, Nat.zero_le _, rfl, fun j h => by omega, hbl1, Ext.refl _⟩
              case round =>
                obtain ⟨l, hl, rfl, hall, hx2, hy2⟩ := hrel
                have HB := hide hall
                clear hall
                clear p0 p1 p2 p3 p4 p5 p6 p7 e5 e6 e7 e8
                by_cases hl2 : l < (x.c k).prs.length
                · obtain ⟨b2, o2, rfl, q0, q1, q2, q3, q4, q5⟩ := unhide HP l (by omega)
                  have g0 := (Ext.trans hz hy2).keep q0
                  have g1 := (Ext.trans hz hy2).keep q1
                  have g2 := (Ext.trans hz hy2).keep q2
                  have g3 := (Ext.trans hz hy2).keep q3
                  have g4 := (Ext.trans hz hy2).keep q4
                  have g5 := (Ext.trans hz hy2).keep q5
                  have f7 := hy2.keep (b := WO.heap.size) (o := 7) (v := .slice (some ⟨b2, o2, none⟩) (x.c k).prs.length kp) (by simp [go_sem])
                  clear q0 q1 q2 q3 q4 q5
                  have hl0 : (0:Int) ≤ (l:Int) := by omega
                  have hl1 : (l:Int) < ((x.c k).prs.length:Int) := by omega
                  have K1 := hide ((unhide FO) l (by omega))
                  go_wp2_with fail
                  refine (l1white_any x b ((x.c k).p l).key _ (h.ext hx2) (fun e => formed_at (unhide K1).1 e)).mono ?_
                  rintro e w3 ⟨rfl, hq3⟩
                  have u7 := hq3.keep f7
                  have u3 := hq3.keep g3
                  have u4 := hq3.keep g4
                  have u5 := hq3.keep g5
                  have x3 : Ext w w3 := hx2.trans hq3
                  cases tk : whiteB x ((x.c k).p l).key
                  · go_wp2_with fail
                    refine (l1white_any x b ((x.c k).p l).val _ (h.ext x3) (fun e => formed_at (unhide K1).2 e)).mono ?_
                    rintro e w4 ⟨rfl, hq4⟩
                    cases tv : whiteB x ((x.c k).p l).val
                    · have S := hide (show ∀ j, j < l + 1 → ¬ White x ((x.c k).p j).key ∧ ¬ White x ((x.c k).p j).val from fun j hj => by
                        by_cases e : j = l
                        · subst e; exact ⟨fun hh => by rw [← whiteB_iff, tk] at hh; simp at hh, fun hh => by rw [← whiteB_iff, tv] at hh; simp at hh⟩
                        · exact unhide HB j (by omega))
                      go_wp2_with fail
                      go_roundw
                      case rel => exact ⟨l + 1, by omega, by go_num, unhide S, x3.trans hq4, Ext.trans (Ext.trans hy2 hq3) hq4⟩
                      case measure => simp [intOf]; omega
                    · have NN := hide (show ¬ R7 x from fun r => ((r (unhide MK) k hlt).2 l (by rw [unhide LK]; omega)).2 (whiteB_iff.1 tv))
                      go_wp2_with fail
                      go_ret
                      first | (exact Or.inl ⟨rfl, unhide NN, x3.trans hq4⟩) | (exact ⟨false, rfl, ⟨fun f => by simp at f, fun r => (unhide NN r).elim⟩, x3.trans hq4⟩)
                  · have NN := hide (show ¬ R7 x from fun r => ((r (unhide MK) k hlt).2 l (by rw [unhide LK]; omega)).1 (whiteB_iff.1 tk))
                    go_wp2_with fail
                    go_ret
                    first | (exact Or.inl ⟨rfl, unhide NN, x3⟩) | (exact ⟨false, rfl, ⟨fun f => by simp at f, fun r => (unhide NN r).elim⟩, x3⟩)
                · have S := unhide ST (fun l' hl' => unhide HB l' (by rw [unhide LK] at hl'; omega))
                  go_wp2_with fail
                  go_roundw
                  case rel => exact ⟨k + 1, by omega, by go_num, unhide S, hx2⟩
                  case measure => simp [intOf]; omega
        · skip
          cases d2 : ((x.c k).color == 2)
          · skip
            have LK := hide (show looked x k = 0 by have e1 := unhide HPH; have e2 : ¬ (x.c k).color = 2 := (by simpa using d2); simp [looked, e1, e2])
            go_wp2_with fail
            go_loopw [7] (fun i wr2 => i = .int .i64 0 ∧ wr2 = wr.alloc (.cells #[.int .i64 (x.c k).st, .int .i64 (x.c k).kind, .int .i64 (x.c k).weak, .int .i64 (x.c k).last, .int .i64 (x.c k).born, .int .i64 (x.c k).color, .int .i64 (x.c k).to, .slice ap (x.c k).prs.length kp] 90)) (fun _ _ => 0)
            case atStart => exact ⟨rfl, rfl⟩
            case round =>
              obtain ⟨rfl, rfl⟩ := hrel
              have S := unhide ST (fun l hl => by rw [unhide LK] at hl; omega)
              go_wp2_with fail
              go_roundw
              case rel => exact ⟨k + 1, by omega, by go_num, unhide S, hbl1⟩
              case measure => simp [intOf]; omega
          · have LK := hide (show looked x k = (x.c k).prs.length by simp at d2; simp [looked, d2])
            go_wp2_with fail
            obtain ⟨WO, hWO⟩ : ∃ W : World, W = wr := ⟨_, rfl⟩
            subst hWO
            go_loopw [7] (fun i wr2 => ∃ l : Nat, l ≤ (x.c k).prs.length ∧ i = .int .i64 l ∧ (∀ j, j < l → ¬ White x ((x.c k).p j).key ∧ ¬ White x ((x.c k).p j).val) ∧ Ext w wr2 ∧ Ext (WO.alloc (.cells #[.int .i64 (x.c k).st, .int .i64 (x.c k).kind, .int .i64 (x.c k).weak, .int .i64 (x.c k).last, .int .i64 (x.c k).born, .int .i64 (x.c k).color, .int .i64 (x.c k).to, .slice ap (x.c k).prs.length kp] 90)) wr2) (fun i _ => (x.c k).prs.length - (intOf i).toNat)
            case atStart => exact ⟨0, Nat.zero_le _, rfl, fun j h => by omega, hbl1, Ext.refl _⟩
            case round =>
              obtain ⟨l, hl, rfl, hall, hx2, hy2⟩ := hrel
              have HB := hide hall
              clear hall
              clear p0 p1 p2 p3 p4 p5 p6 p7 e5 e6 e7 e8
              by_cases hl2 : l < (x.c k).prs.length
              · obtain ⟨b2, o2, rfl, q0, q1, q2, q3, q4, q5⟩ := unhide HP l (by omega)
                have g0 := (Ext.trans hz hy2).keep q0
                have g1 := (Ext.trans hz hy2).keep q1
                have g2 := (Ext.trans hz hy2).keep q2
                have g3 := (Ext.trans hz hy2).keep q3
                have g4 := (Ext.trans hz hy2).keep q4
                have g5 := (Ext.trans hz hy2).keep q5
                have f7 := hy2.keep (b := WO.heap.size) (o := 7) (v := .slice (some ⟨b2, o2, none⟩) (x.c k).prs.length kp) (by simp [go_sem])
                clear q0 q1 q2 q3 q4 q5
                have hl0 : (0:Int) ≤ (l:Int) := by omega
                have hl1 : (l:Int) < ((x.c k).prs.length:Int) := by omega
                have K1 := hide ((unhide FO) l (by omega))
                go_wp2_with fail
                refine (l1white_any x b ((x.c k).p l).key _ (h.ext hx2) (fun e => formed_at (unhide K1).1 e)).mono ?_
                rintro e w3 ⟨rfl, hq3⟩
                have u7 := hq3.keep f7
                have u3 := hq3.keep g3
                have u4 := hq3.keep g4
                have u5 := hq3.keep g5
                have x3 : Ext w w3 := hx2.trans hq3
                cases tk : whiteB x ((x.c k).p l).key
                · go_wp2_with fail
                  refine (l1white_any x b ((x.c k).p l).val _ (h.ext x3) (fun e => formed_at (unhide K1).2 e)).mono ?_
                  rintro e w4 ⟨rfl, hq4⟩
                  cases tv : whiteB x ((x.c k).p l).val
                  · have S := hide (show ∀ j, j < l + 1 → ¬ White x ((x.c k).p j).key ∧ ¬ White x ((x.c k).p j).val from fun j hj => by
                      by_cases e : j = l
                      · subst e; exact ⟨fun hh => by rw [← whiteB_iff, tk] at hh; simp at hh, fun hh => by rw [← whiteB_iff, tv] at hh; simp at hh⟩
                      · exact unhide HB j (by omega))
                    go_wp2_with fail
                    go_roundw
                    case rel => exact ⟨l + 1, by omega, by go_num, unhide S, x3.trans hq4, Ext.trans (Ext.trans hy2 hq3) hq4⟩
                    case measure => simp [intOf]; omega
                  · have NN := hide (show ¬ R7 x from fun r => ((r (unhide MK) k hlt).2 l (by rw [unhide LK]; omega)).2 (whiteB_iff.1 tv))
                    go_wp2_with fail
                    go_ret
                    first | (exact Or.inl ⟨rfl, unhide NN, x3.trans hq4⟩) | (exact ⟨false, rfl, ⟨fun f => by simp at f, fun r => (unhide NN r).elim⟩, x3.trans hq4⟩)
                · have NN := hide (show ¬ R7 x from fun r => ((r (unhide MK) k hlt).2 l (by rw [unhide LK]; omega)).1 (whiteB_iff.1 tk))
                  go_wp2_with fail
                  go_ret
                  first | (exact Or.inl ⟨rfl, unhide NN, x3⟩) | (exact ⟨false, rfl, ⟨fun f => by simp at f, fun r => (unhide NN r).elim⟩, x3⟩)
              · have S := unhide ST (fun l' hl' => unhide HB l' (by rw [unhide LK] at hl'; omega))
                go_wp2_with fail
                go_roundw
                case rel => exact ⟨k + 1, by omega, by go_num, unhide S, hx2⟩
                case measure => simp [intOf]; omega
      · have D0 := hide (show (x.c k).color = 0 by simpa using d0)
        have d2 : ((x.c k).color == 2) = false := by simp at d0 ⊢; omega
        by_cases bad : Speaks (x.c k) ∧ (k : Int) < x.hand
        · have NN := hide (show ¬ R7 x from fun r => (r (unhide MK) k hlt).1 ⟨bad.1, unhide D0, Or.inr bad.2⟩)
          have bh := bad.2
          cases w1 : ((x.c k).last == 1)
          · have w2 : ((x.c k).last == 2) = true := by have := bad.1; unfold Speaks at this; simp at w1 ⊢; omega
            clear bad
            go_wp2_with fail
            go_ret
            first | (exact Or.inl ⟨rfl, unhide NN, hbl1⟩) | (exact ⟨false, rfl, ⟨fun f => by simp at f, fun r => (unhide NN r).elim⟩, hbl1⟩)
          · clear bad
            go_wp2_with fail
            go_ret
            first | (exact Or.inl ⟨rfl, unhide NN, hbl1⟩) | (exact ⟨false, rfl, ⟨fun f => by simp at f, fun r => (unhide NN r).elim⟩, hbl1⟩)
        · have BD := hide bad
          have ST := hide (show (∀ l, l < looked x k → ¬ White x ((x.c k).p l).key ∧ ¬ White x ((x.c k).p l).val) → Hid (∀ j, j < k + 1 → ¬ (Speaks (x.c j) ∧ (x.c j).color = 0 ∧ (x.phase = 2 ∨ (j : Int) < x.hand)) ∧ ∀ l, l < looked x j → ¬ White x ((x.c j).p l).key ∧ ¬ White x ((x.c j).p l).val) from fun hn j hj => by
            by_cases e : j = k
            · subst e; exact ⟨fun hb => unhide BD ⟨hb.1, by have := unhide HPH; omega⟩, hn⟩
            · exact unhide HA j (by omega))
          cases w1 : ((x.c k).last == 1)
          · cases w2 : ((x.c k).last == 2)
            · skip
              have LK := hide (show looked x k = 0 by have e1 := unhide HPH; have e2 : ¬ (x.c k).color = 2 := (by simpa using d2); simp [looked, e1, e2])
              go_wp2_with fail
              go_loopw [7] (fun i wr2 => i = .int .i64 0 ∧ wr2 = wr.alloc (.cells #[.int .i64 (x.c k).st, .int .i64 (x.c k).kind, .int .i64 (x.c k).weak, .int .i64 (x.c k).last, .int .i64 (x.c k).born, .int .i64 (x.c k).color, .int .i64 (x.c k).to, .slice ap (x.c k).prs.length kp] 90)) (fun _ _ => 0)
              case atStart => exact ⟨rfl, rfl⟩
              case round =>
                obtain ⟨rfl, rfl⟩ := hrel
                have S := unhide ST (fun l hl => by rw [unhide LK] at hl; omega)
                go_wp2_with fail
                go_roundw
                case rel => exact ⟨k + 1, by omega, by go_num, unhide S, hbl1⟩
                case measure => simp [intOf]; omega
            · have nh : ¬ (k : Int) < x.hand := fun hb => unhide BD ⟨Or.inr (by simpa using w2), hb⟩
              have LK := hide (show looked x k = 0 by have e1 := unhide HPH; have e2 : ¬ (x.c k).color = 2 := (by simpa using d2); simp [looked, e1, e2])
              go_wp2_with fail
              go_loopw [7] (fun i wr2 => i = .int .i64 0 ∧ wr2 = wr.alloc (.cells #[.int .i64 (x.c k).st, .int .i64 (x.c k).kind, .int .i64 (x.c k).weak, .int .i64 (x.c k).last, .int .i64 (x.c k).born, .int .i64 (x.c k).color, .int .i64 (x.c k).to, .slice ap (x.c k).prs.length kp] 90)) (fun _ _ => 0)
              case atStart => exact ⟨rfl, rfl⟩
              case round =>
                obtain ⟨rfl, rfl⟩ := hrel
                have S := unhide ST (fun l hl => by rw [unhide LK] at hl; omega)
                go_wp2_with fail
                go_roundw
                case rel => exact ⟨k + 1, by omega, by go_num, unhide S, hbl1⟩
                case measure => simp [intOf]; omega
          · have nh : ¬ (k : Int) < x.hand := fun hb => unhide BD ⟨Or.inl (by simpa using w1), hb⟩
            have LK := hide (show looked x k = 0 by have e1 := unhide HPH; have e2 : ¬ (x.c k).color = 2 := (by simpa using d2); simp [looked, e1, e2])
            go_wp2_with fail
            go_loopw [7] (fun i wr2 => i = .int .i64 0 ∧ wr2 = wr.alloc (.cells #[.int .i64 (x.c k).st, .int .i64 (x.c k).kind, .int .i64 (x.c k).weak, .int .i64 (x.c k).last, .int .i64 (x.c k).born, .int .i64 (x.c k).color, .int .i64 (x.c k).to, .slice ap (x.c k).prs.length kp] 90)) (fun _ _ => 0)
            case atStart => exact ⟨rfl, rfl⟩
            case round =>
              obtain ⟨rfl, rfl⟩ := hrel
              have S := unhide ST (fun l hl => by rw [unhide LK] at hl; omega)
              go_wp2_with fail
              go_roundw
              case rel => exact ⟨k + 1, by omega, by go_num, unhide S, hbl1⟩
              case measure => simp [intOf]; omega
    · have Y := hide (show R7 x from fun _ i hi => unhide HA i (by omega))
      go_wp2_with fail
      go_ret
      first | (exact Or.inr ⟨rfl, unhide Y, hbl⟩) | (exact ⟨true, rfl, ⟨fun _ => unhide Y, fun _ => rfl⟩, hbl⟩)

end Go.Proofs.YtbcmjcomdjdjaaaGreat

namespace Go.Proofs.YtbcmjcomdjdjaaaGreat
open Go.RowKit
attribute [local go_sem ↓] Go.wp_at_zero Go.wp_at_succ

set_option maxRecDepth 100000 in
set_option maxHeartbeats 4000000 in
theorem l1marks_2 (x : Hp) (b : Nat) (w : World) {ar : Option Addr} {kr : Nat} {ac : Option Addr} {kc : Nat} {ag : Option Addr} {kg : Nat} (h : HAt w b x ar kr ac kc ag kg) (fo : ∀ i, i < x.cells.length → ∀ k, k < (x.c i).prs.length → Formed ((x.c i).p k).key x.cells.length ∧ Formed ((x.c i).p k).val x.cells.length) (r6 : R6 x) (r1 : R1 x) (q1 : (x.phase == 1) = false) (q2 : (x.phase == 2) = true) :
    Calls Tryz.prog 43 #[.pointer (some ⟨b, 0, none⟩)] w fun e w' => ∃ r : Bool, e = .returned (.bool r) ∧ (r = true ↔ R7 x) ∧ Ext w w' := by
  have hph : x.phase = 2 := by simpa using q2
  have MK := hide (show Marking x from Or.inr hph)
  have HPH := hide hph
  clear hph
  have q1n : (x.phase != 1) = true := by simpa using q1
  have q2n : (x.phase != 2) = false := by simpa using q2
  have c4 := h.c4
  have c5 := h.c5
  have lc := h.lc
  have lg := h.lg
  have hs0 := r1.sub.1
  have FOO := hide fo
  have HR6 := hide r6
  clear fo r6 r1
  go_enter Tryz.func43, Tryz.ntmps43
  go_wp2_with fail
  go_loopw [25] (fun i wr => ∃ k : Nat, k ≤ x.cells.length ∧ i = .int .i64 k ∧ (∀ j, j < k → ¬ (Speaks (x.c j) ∧ (x.c j).color = 0 ∧ (x.phase = 2 ∨ (j : Int) < x.hand)) ∧ ∀ l, l < looked x j → ¬ White x ((x.c j).p l).key ∧ ¬ White x ((x.c j).p l).val) ∧ Ext w wr) (fun i _ => x.cells.length - (intOf i).toNat)
  case atStart => exact ⟨0, Nat.zero_le _, rfl, fun j h => by omega, Ext.refl _⟩
  case round =>
    obtain ⟨k, hk, rfl, hall, hbl⟩ := hrel
    have HA := hide hall
    clear hall
    by_cases hlt : k < x.cells.length
    · have hh := h.ext hbl
      obtain ⟨b', o, ap, kp, rfl, p0, p1, p2, p3, p4, p5, p6, p7, lp, P⟩ := hh.cell k hlt
      have HP := hide P
      have FO := hide (unhide FOO k hlt)
      clear P
      have e5 := hh.c5
      have e6 := hh.c6
      have e7 := hh.c7
      have e8 := hh.c8
      have hb' : b' < wr.heap.size := cell_lt p0
      have hb : b < wr.heap.size := cell_lt e8
      have hk0 : (0:Int) ≤ (k:Int) := by omega
      have hk1 : (k:Int) < (x.cells.length:Int) := by omega
      have hbl1 := hbl.alloc (.cells #[.int .i64 (x.c k).st, .int .i64 (x.c k).kind, .int .i64 (x.c k).weak, .int .i64 (x.c k).last, .int .i64 (x.c k).born, .int .i64 (x.c k).color, .int .i64 (x.c k).to, .slice ap (x.c k).prs.length kp] 90)
      have hz := (Ext.refl wr).alloc (.cells #[.int .i64 (x.c k).st, .int .i64 (x.c k).kind, .int .i64 (x.c k).weak, .int .i64 (x.c k).last, .int .i64 (x.c k).born, .int .i64 (x.c k).color, .int .i64 (x.c k).to, .slice ap (x.c k).prs.length kp] 90)
      cases d0 : ((x.c k).color == 0)
      · have D0 := hide (show (x.c k).color ≠ 0 by simpa using d0)
        have ST := hide (show (∀ l, l < looked x k → ¬ White x ((x.c k).p l).key ∧ ¬ White x ((x.c k).p l).val) → Hid (∀ j, j < k + 1 → ¬ (Speaks (x.c j) ∧ (x.c j).color = 0 ∧ (x.phase = 2 ∨ (j : Int) < x.hand)) ∧ ∀ l, l < looked x j → ¬ White x ((x.c j).p l).key ∧ ¬ White x ((x.c j).p l).val) from fun hn j hj => by
          by_cases e : j = k
          · subst e; exact ⟨fun hb => unhide D0 hb.2.1, hn⟩
          · exact unhide HA j (by omega))
        cases w1 : ((x.c k).last == 1)
        · cases w2 : ((x.c k).last == 2)
          · skip
            cases d2 : ((x.c k).color == 2)
            · skip
              by_cases hg : 0 < x.gray.length
              · obtain ⟨bg, og, rfl, pg⟩ := (h.ext hbl).G 0 hg
                unfold InAt at pg
                simp only [Nat.zero_mul, Nat.add_zero] at pg
                have hbg : bg < wr.heap.size := cell_lt pg
                have hg4 : (0 : Int) < (x.gray.length : Int) := by omega
                cases d3 : (x.gray[0] == (k : Int))
                · have LK := hide (show looked x k = 0 by have e1 : ¬ (x.c k).color = 2 := (by simpa using d2); have e2 : x.gray.getD 0 0 = x.gray[0] := (by simp [hg]); have e3 : ¬ x.gray[0] = (k : Int) := (by simpa using d3); unfold looked; rw [if_neg e1, if_neg (by rw [e2]; exact fun c => e3 c.2.2)])
                  go_wp2_with fail
                  go_loopw [7] (fun i wr2 => i = .int .i64 0 ∧ wr2 = wr.alloc (.cells #[.int .i64 (x.c k).st, .int .i64 (x.c k).kind, .int .i64 (x.c k).weak, .int .i64 (x.c k).last, .int .i64 (x.c k).born, .int .i64 (x.c k).color, .int .i64 (x.c k).to, .slice ap (x.c k).prs.length kp] 90)) (fun _ _ => 0)
                  case atStart => exact ⟨rfl, rfl⟩
                  case round =>
                    obtain ⟨rfl, rfl⟩ := hrel
                    have S := unhide ST (fun l hl => by rw [unhide LK] at hl; omega)
                    go_wp2_with fail
                    go_roundw
                    case rel => exact ⟨k + 1, by omega, by go_num, unhide S, hbl1⟩
                    case measure => simp [intOf]; omega
                · obtain ⟨sN, hsN⟩ := Int.eq_ofNat_of_zero_le hs0
                  have e3 : x.gray[0] = (k : Int) := by simpa using d3
                  have LK := hide (show looked x k = sN by have e1 : ¬ (x.c k).color = 2 := (by simpa using d2); have e2 : x.gray.getD 0 0 = x.gray[0] := (by simp [hg]); unfold looked; rw [if_neg e1, if_pos ⟨unhide HPH, by omega, by rw [e2]; exact e3⟩, hsN]; simp)
                  have sle : sN ≤ (x.c k).prs.length := by
                    have e4 := ((unhide HR6).2.1 (unhide HPH)).2.2 (by omega)
                    have e5 : x.g0 = k := by simp [Hp.g0, hg, e3]
                    rw [e5, hsN] at e4
                    omega
                  rw [hsN] at e7
                  rw [e3] at pg
                  clear e3 hs0 hsN
                  go_wp2_with fail
                  obtain ⟨WO, hWO⟩ : ∃ W : World, W = wr := ⟨_, rfl⟩
                  subst hWO
                  go_loopw [7] (fun i wr2 => ∃ l : Nat, l ≤ sN ∧ i = .int .i64 l ∧ (∀ j, j < l → ¬ White x ((x.c k).p j).key ∧ ¬ White x ((x.c k).p j).val) ∧ Ext w wr2 ∧ Ext (WO.alloc (.cells #[.int .i64 (x.c k).st, .int .i64 (x.c k).kind, .int .i64 (x.c k).weak, .int .i64 (x.c k).last, .int .i64 (x.c k).born, .int .i64 (x.c k).color, .int .i64 (x.c k).to, .slice ap (x.c k).prs.length kp] 90)) wr2) (fun i _ => sN - (intOf i).toNat)
                  case atStart => exact ⟨0, Nat.zero_le _, rfl, fun j h => by omega, hbl1, Ext.refl _⟩
                  case round =>
                    obtain ⟨l, hl, rfl, hall, hx2, hy2⟩ := hrel
                    have HB := hide hall
                    clear hall
                    clear p0 p1 p2 p3 p4 p5 p6 p7 e5 e6 e7 e8
                    by_cases hl2 : l < sN
                    · obtain ⟨b2, o2, rfl, q0, q1, q2, q3, q4, q5⟩ := unhide HP l (by omega)
                      have g0 := (Ext.trans hz hy2).keep q0
                      have g1 := (Ext.trans hz hy2).keep q1
                      have g2 := (Ext.trans hz hy2).keep q2
                      have g3 := (Ext.trans hz hy2).keep q3
                      have g4 := (Ext.trans hz hy2).keep q4
                      have g5 := (Ext.trans hz hy2).keep q5
                      have f7 := hy2.keep (b := WO.heap.size) (o := 7) (v := .slice (some ⟨b2, o2, none⟩) (x.c k).prs.length kp) (by simp [go_sem])
                      clear q0 q1 q2 q3 q4 q5
                      have hl0 : (0:Int) ≤ (l:Int) := by omega
                      have hl1 : (l:Int) < ((x.c k).prs.length:Int) := by omega
                      have K1 := hide ((unhide FO) l (by omega))
                      go_wp2_with fail
                      refine (l1white_any x b ((x.c k).p l).key _ (h.ext hx2) (fun e => formed_at (unhide K1).1 e)).mono ?_
                      rintro e w3 ⟨rfl, hq3⟩
                      have u7 := hq3.keep f7
                      have u3 := hq3.keep g3
                      have u4 := hq3.keep g4
                      have u5 := hq3.keep g5
                      have x3 : Ext w w3 := hx2.trans hq3
                      cases tk : whiteB x ((x.c k).p l).key
                      · go_wp2_with fail
                        refine (l1white_any x b ((x.c k).p l).val _ (h.ext x3) (fun e => formed_at (unhide K1).2 e)).mono ?_
                        rintro e w4 ⟨rfl, hq4⟩
                        cases tv : whiteB x ((x.c k).p l).val
                        · have S := hide (show ∀ j, j < l + 1 → ¬ White x ((x.c k).p j).key ∧ ¬ White x ((x.c k).p j).val from fun j hj => by
                            by_cases e : j = l
                            · subst e; exact ⟨fun hh => by rw [← whiteB_iff, tk] at hh; simp at hh, fun hh => by rw [← whiteB_iff, tv] at hh; simp at hh⟩
                            · exact unhide HB j (by omega))
                          go_wp2_with fail
                          go_roundw
                          case rel => exact ⟨l + 1, by omega, by go_num, unhide S, x3.trans hq4, Ext.trans (Ext.trans hy2 hq3) hq4⟩
                          case measure => simp [intOf]; omega
                        · have NN := hide (show ¬ R7 x from fun r => ((r (unhide MK) k hlt).2 l (by rw [unhide LK]; omega)).2 (whiteB_iff.1 tv))
                          go_wp2_with fail
                          go_ret
                          first | (exact Or.inl ⟨rfl, unhide NN, x3.trans hq4⟩) | (exact ⟨false, rfl, ⟨fun f => by simp at f, fun r => (unhide NN r).elim⟩, x3.trans hq4⟩)
                      · have NN := hide (show ¬ R7 x from fun r => ((r (unhide MK) k hlt).2 l (by rw [unhide LK]; omega)).1 (whiteB_iff.1 tk))
                        go_wp2_with fail
                        go_ret
                        first | (exact Or.inl ⟨rfl, unhide NN, x3⟩) | (exact ⟨false, rfl, ⟨fun f => by simp at f, fun r => (unhide NN r).elim⟩, x3⟩)
                    · have S := unhide ST (fun l' hl' => unhide HB l' (by rw [unhide LK] at hl'; omega))
                      go_wp2_with fail
                      go_roundw
                      case rel => exact ⟨k + 1, by omega, by go_num, unhide S, hx2⟩
                      case measure => simp [intOf]; omega
              · have LK := hide (show looked x k = 0 by have e1 : ¬ (x.c k).color = 2 := (by simpa using d2); unfold looked; rw [if_neg e1, if_neg (by omega)])
                go_wp2_with fail
                go_loopw [7] (fun i wr2 => i = .int .i64 0 ∧ wr2 = wr.alloc (.cells #[.int .i64 (x.c k).st, .int .i64 (x.c k).kind, .int .i64 (x.c k).weak, .int .i64 (x.c k).last, .int .i64 (x.c k).born, .int .i64 (x.c k).color, .int .i64 (x.c k).to, .slice ap (x.c k).prs.length kp] 90)) (fun _ _ => 0)
                case atStart => exact ⟨rfl, rfl⟩
                case round =>
                  obtain ⟨rfl, rfl⟩ := hrel
                  have S := unhide ST (fun l hl => by rw [unhide LK] at hl; omega)
                  go_wp2_with fail
                  go_roundw
                  case rel => exact ⟨k + 1, by omega, by go_num, unhide S, hbl1⟩
                  case measure => simp [intOf]; omega
            · have LK := hide (show looked x k = (x.c k).prs.length by simp at d2; simp [looked, d2])
              go_wp2_with fail
              obtain ⟨WO, hWO⟩ : ∃ W : World, W = wr := ⟨_, rfl⟩
              subst hWO
              go_loopw [7] (fun i wr2 => ∃ l : Nat, l ≤ (x.c k).prs.length ∧ i = .int .i64 l ∧ (∀ j, j < l → ¬ White x ((x.c k).p j).key ∧ ¬ White x ((x.c k).p j).val) ∧ Ext w wr2 ∧ Ext (WO.alloc (.cells #[.int .i64 (x.c k).st, .int .i64 (x.c k).kind, .int .i64 (x.c k).weak, .int .i64 (x.c k).last, .int .i64 (x.c k).born, .int .i64 (x.c k).color, .int .i64 (x.c k).to, .slice ap (x.c k).prs.length kp] 90)) wr2) (fun i _ => (x.c k).prs.length - (intOf i).toNat)
              case atStart => exact ⟨0, Nat.zero_le _, rfl, fun j h => by omega, hbl1, Ext.refl _⟩
              case round =>
                obtain ⟨l, hl, rfl, hall, hx2, hy2⟩ := hrel
                have HB := hide hall
                clear hall
                clear p0 p1 p2 p3 p4 p5 p6 p7 e5 e6 e7 e8
                by_cases hl2 : l < (x.c k).prs.length
                · obtain ⟨b2, o2, rfl, q0, q1, q2, q3, q4, q5⟩ := unhide HP l (by omega)
                  have g0 := (Ext.trans hz hy2).keep q0
                  have g1 := (Ext.trans hz hy2).keep q1
                  have g2 := (Ext.trans hz hy2).keep q2
                  have g3 := (Ext.trans hz hy2).keep q3
                  have g4 := (Ext.trans hz hy2).keep q4
                  have g5 := (Ext.trans hz hy2).keep q5
                  have f7 := hy2.keep (b := WO.heap.size) (o := 7) (v := .slice (some ⟨b2, o2, none⟩) (x.c k).prs.length kp) (by simp [go_sem])
                  clear q0 q1 q2 q3 q4 q5
                  have hl0 : (0:Int) ≤ (l:Int) := by omega
                  have hl1 : (l:Int) < ((x.c k).prs.length:Int) := by omega
                  have K1 := hide ((unhide FO) l (by omega))
                  go_wp2_with fail
                  refine (l1white_any x b ((x.c k).p l).key _ (h.ext hx2) (fun e => formed_at (unhide K1).1 e)).mono ?_
                  rintro e w3 ⟨rfl, hq3⟩
                  have u7 := hq3.keep f7
                  have u3 := hq3.keep g3
                  have u4 := hq3.keep g4
                  have u5 := hq3.keep g5
                  have x3 : Ext w w3 := hx2.trans hq3
                  cases tk : whiteB x ((x.c k).p l).key
                  · go_wp2_with fail
                    refine (l1white_any x b ((x.c k).p l).val _ (h.ext x3) (fun e => formed_at (unhide K1).2 e)).mono ?_
                    rintro e w4 ⟨rfl, hq4⟩
                    cases tv : whiteB x ((x.c k).p l).val
                    · have S := hide (show ∀ j, j < l + 1 → ¬ White x ((x.c k).p j).key ∧ ¬ White x ((x.c k).p j).val from fun j hj => by
                        by_cases e : j = l
                        · subst e; exact ⟨fun hh => by rw [← whiteB_iff, tk] at hh; simp at hh, fun hh => by rw [← whiteB_iff, tv] at hh; simp at hh⟩
                        · exact unhide HB j (by omega))
                      go_wp2_with fail
                      go_roundw
                      case rel => exact ⟨l + 1, by omega, by go_num, unhide S, x3.trans hq4, Ext.trans (Ext.trans hy2 hq3) hq4⟩
                      case measure => simp [intOf]; omega
                    · have NN := hide (show ¬ R7 x from fun r => ((r (unhide MK) k hlt).2 l (by rw [unhide LK]; omega)).2 (whiteB_iff.1 tv))
                      go_wp2_with fail
                      go_ret
                      first | (exact Or.inl ⟨rfl, unhide NN, x3.trans hq4⟩) | (exact ⟨false, rfl, ⟨fun f => by simp at f, fun r => (unhide NN r).elim⟩, x3.trans hq4⟩)
                  · have NN := hide (show ¬ R7 x from fun r => ((r (unhide MK) k hlt).2 l (by rw [unhide LK]; omega)).1 (whiteB_iff.1 tk))
                    go_wp2_with fail
                    go_ret
                    first | (exact Or.inl ⟨rfl, unhide NN, x3⟩) | (exact ⟨false, rfl, ⟨fun f => by simp at f, fun r => (unhide NN r).elim⟩, x3⟩)
                · have S := unhide ST (fun l' hl' => unhide HB l' (by rw [unhide LK] at hl'; omega))
                  go_wp2_with fail
                  go_roundw
                  case rel => exact ⟨k + 1, by omega, by go_num, unhide S, hx2⟩
                  case measure => simp [intOf]; omega
          · skip
            cases d2 : ((x.c k).color == 2)
            · skip
              by_cases hg : 0 < x.gray.length
              · obtain ⟨bg, og, rfl, pg⟩ := (h.ext hbl).G 0 hg
                unfold InAt at pg
                simp only [Nat.zero_mul, Nat.add_zero] at pg
                have hbg : bg < wr.heap.size := cell_lt pg
                have hg4 : (0 : Int) < (x.gray.length : Int) := by omega
                cases d3 : (x.gray[0] == (k : Int))
                · have LK := hide (show looked x k = 0 by have e1 : ¬ (x.c k).color = 2 := (by simpa using d2); have e2 : x.gray.getD 0 0 = x.gray[0] := (by simp [hg]); have e3 : ¬ x.gray[0] = (k : Int) := (by simpa using d3); unfold looked; rw [if_neg e1, if_neg (by rw [e2]; exact fun c => e3 c.2.2)])
                  go_wp2_with fail
                  go_loopw [7] (fun i wr2 => i = .int .i64 0 ∧ wr2 = wr.alloc (.cells #[.int .i64 (x.c k).st, .int .i64 (x.c k).kind, .int .i64 (x.c k).weak, .int .i64 (x.c k).last, .int .i64 (x.c k).born, .int .i64 (x.c k).color, .int .i64 (x.c k).to, .slice ap (x.c k).prs.length kp] 90)) (fun _ _ => 0)
                  case atStart => exact ⟨rfl, rfl⟩
                  case round =>
                    obtain ⟨rfl, rfl⟩ := hrel
                    have S := unhide ST (fun l hl => by rw [unhide LK] at hl; omega)
                    go_wp2_with fail
                    go_roundw
                    case rel => exact ⟨k + 1, by omega, by go_num, unhide S, hbl1⟩
                    case measure => simp [intOf]; omega
                · obtain ⟨sN, hsN⟩ := Int.eq_ofNat_of_zero_le hs0
                  have e3 : x.gray[0] = (k : Int) := by simpa using d3
                  have LK := hide (show looked x k = sN by have e1 : ¬ (x.c k).color = 2 := (by simpa using d2); have e2 : x.gray.getD 0 0 = x.gray[0] := (by simp [hg]); unfold looked; rw [if_neg e1, if_pos ⟨unhide HPH, by omega, by rw [e2]; exact e3⟩, hsN]; simp)
                  have sle : sN ≤ (x.c k).prs.length := by
                    have e4 := ((unhide HR6).2.1 (unhide HPH)).2.2 (by omega)
                    have e5 : x.g0 = k := by simp [Hp.g0, hg, e3]
                    rw [e5, hsN] at e4
                    omega
                  rw [hsN] at e7
                  rw [e3] at pg
                  clear e3 hs0 hsN
                  go_wp2_with fail
                  obtain ⟨WO, hWO⟩ : ∃ W : World, W = wr := ⟨_, rfl⟩
                  subst hWO
                  go_loopw [7] (fun i wr2 => ∃ l : Nat, l ≤ sN ∧ i = .int .i64 l ∧ (∀ j, j < l → ¬ White x ((x.c k).p j).key ∧ ¬ White x ((x.c k).p j).val) ∧ Ext w wr2 ∧ Ext (WO.alloc (.cells #[.int .i64 (x.c k).st, .int .i64 (x.c k).kind, .int .i64 (x.c k).weak, .int .i64 (x.c k).last, .int .i64 (x.c k).born, .int .i64 (x.c k).color, .int .i64 (x.c k).to, .slice ap (x.c k).prs.length kp] 90)) wr2) (fun i _ => sN - (intOf i).toNat)
                  case atStart => exact ⟨0, Nat.zero_le _, rfl, fun j h => by omega, hbl1, Ext.refl _⟩
                  case round =>
                    obtain ⟨l, hl, rfl, hall, hx2, hy2⟩ := hrel
                    have HB := hide hall
                    clear hall
                    clear p0 p1 p2 p3 p4 p5 p6 p7 e5 e6 e7 e8
                    by_cases hl2 : l < sN
                    · obtain ⟨b2, o2, rfl, q0, q1, q2, q3, q4, q5⟩ := unhide HP l (by omega)
                      have g0 := (Ext.trans hz hy2).keep q0
                      have g1 := (Ext.trans hz hy2).keep q1
                      have g2 := (Ext.trans hz hy2).keep q2
                      have g3 := (Ext.trans hz hy2).keep q3
                      have g4 := (Ext.trans hz hy2).keep q4
                      have g5 := (Ext.trans hz hy2).keep q5
                      have f7 := hy2.keep (b := WO.heap.size) (o := 7) (v := .slice (some ⟨b2, o2, none⟩) (x.c k).prs.length kp) (by simp [go_sem])
                      clear q0 q1 q2 q3 q4 q5
                      have hl0 : (0:Int) ≤ (l:Int) := by omega
                      have hl1 : (l:Int) < ((x.c k).prs.length:Int) := by omega
                      have K1 := hide ((unhide FO) l (by omega))
                      go_wp2_with fail
                      refine (l1white_any x b ((x.c k).p l).key _ (h.ext hx2) (fun e => formed_at (unhide K1).1 e)).mono ?_
                      rintro e w3 ⟨rfl, hq3⟩
                      have u7 := hq3.keep f7
                      have u3 := hq3.keep g3
                      have u4 := hq3.keep g4
                      have u5 := hq3.keep g5
                      have x3 : Ext w w3 := hx2.trans hq3
                      cases tk : whiteB x ((x.c k).p l).key
                      · go_wp2_with fail
                        refine (l1white_any x b ((x.c k).p l).val _ (h.ext x3) (fun e => formed_at (unhide K1).2 e)).mono ?_
                        rintro e w4 ⟨rfl, hq4⟩
                        cases tv : whiteB x ((x.c k).p l).val
                        · have S := hide (show ∀ j, j < l + 1 → ¬ White x ((x.c k).p j).key ∧ ¬ White x ((x.c k).p j).val from fun j hj => by
                            by_cases e : j = l
                            · subst e; exact ⟨fun hh => by rw [← whiteB_iff, tk] at hh; simp at hh, fun hh => by rw [← whiteB_iff, tv] at hh; simp at hh⟩
                            · exact unhide HB j (by omega))
                          go_wp2_with fail
                          go_roundw
                          case rel => exact ⟨l + 1, by omega, by go_num, unhide S, x3.trans hq4, Ext.trans (Ext.trans hy2 hq3) hq4⟩
                          case measure => simp [intOf]; omega
                        · have NN := hide (show ¬ R7 x from fun r => ((r (unhide MK) k hlt).2 l (by rw [unhide LK]; omega)).2 (whiteB_iff.1 tv))
                          go_wp2_with fail
                          go_ret
                          first | (exact Or.inl ⟨rfl, unhide NN, x3.trans hq4⟩) | (exact ⟨false, rfl, ⟨fun f => by simp at f, fun r => (unhide NN r).elim⟩, x3.trans hq4⟩)
                      · have NN := hide (show ¬ R7 x from fun r => ((r (unhide MK) k hlt).2 l (by rw [unhide LK]; omega)).1 (whiteB_iff.1 tk))
                        go_wp2_with fail
                        go_ret
                        first | (exact Or.inl ⟨rfl, unhide NN, x3⟩) | (exact ⟨false, rfl, ⟨fun f => by simp at f, fun r => (unhide NN r).elim⟩, x3⟩)
                    · have S := unhide ST (fun l' hl' => unhide HB l' (by rw [unhide LK] at hl'; omega))
                      go_wp2_with fail
                      go_roundw
                      case rel => exact ⟨k + 1, by omega, by go_num, unhide S, hx2⟩
                      case measure => simp [intOf]; omega
              · have LK := hide (show looked x k = 0 by have e1 : ¬ (x.c k).color = 2 := (by simpa using d2); unfold looked; rw [if_neg e1, if_neg (by omega)])
                go_wp2_with fail
                go_loopw [7] (fun i wr2 => i = .int .i64 0 ∧ wr2 = wr.alloc (.cells #[.int .i64 (x.c k).st, .int .i64 (x.c k).kind, .int .i64 (x.c k).weak, .int .i64 (x.c k).last, .int .i64 (x.c k).born, .int .i64 (x.c k).color, .int .i64 (x.c k).to, .slice ap (x.c k).prs.length kp] 90)) (fun _ _ => 0)
                case atStart => exact ⟨rfl, rfl⟩
                case round =>
                  obtain ⟨rfl, rfl⟩ := hrel
                  have S := unhide ST (fun l hl => by rw [unhide LK] at hl; omega)
                  go_wp2_with fail
                  go_roundw
                  case rel => exact ⟨k + 1, by omega, by go_num, unhide S, hbl1⟩
                  case measure => simp [intOf]; omega
            · have LK := hide (show looked x k = (x.c k).prs.length by simp at d2; simp [looked, d2])
              go_wp2_with fail
              obtain ⟨WO, hWO⟩ : ∃ W : World, W = wr := ⟨_, rfl⟩
              subst hWO
              go_loopw [7] (fun i wr2 => ∃ l : Nat, l ≤ (x.c k).prs.length ∧ i = .int .i64 l ∧ (∀ j, j < l → ¬ White x ((x.c k).p j).key ∧ ¬ White x ((x.c k).p j).val) ∧ Ext w wr2 ∧ Ext (WO.alloc (.cells #[.int .i64 (x.c k).st, .int .i64 (x.c k).kind, .int .i64 (x.c k).weak, .int .i64 (x.c k).last, .int .i64 (x.c k).born, .int .i64 (x.c k).color, .int .i64 (x.c k).to, .slice ap (x.c k).prs.length kp] 90)) wr2) (fun i _ => (x.c k).prs.length - (intOf i).toNat)
              case atStart => exact ⟨0, Nat.zero_le _, rfl, fun j h => by omega, hbl1, Ext.refl _⟩
              case round =>
                obtain ⟨l, hl, rfl, hall, hx2, hy2⟩ := hrel
                have HB := hide hall
                clear hall
                clear p0 p1 p2 p3 p4 p5 p6 p7 e5 e6 e7 e8
                by_cases hl2 : l < (x.c k).prs.length
                · obtain ⟨b2, o2, rfl, q0, q1, q2, q3, q4, q5⟩ := unhide HP l (by omega)
                  have g0 := (Ext.trans hz hy2).keep q0
                  have g1 := (Ext.trans hz hy2).keep q1
                  have g2 := (Ext.trans hz hy2).keep q2
                  have g3 := (Ext.trans hz hy2).keep q3
                  have g4 := (Ext.trans hz hy2).keep q4
                  have g5 := (Ext.trans hz hy2).keep q5
                  have f7 := hy2.keep (b := WO.heap.size) (o := 7) (v := .slice (some ⟨b2, o2, none⟩) (x.c k).prs.length kp) (by simp [go_sem])
                  clear q0 q1 q2 q3 q4 q5
                  have hl0 : (0:Int) ≤ (l:Int) := by omega
                  have hl1 : (l:Int) < ((x.c k).prs.length:Int) := by omega
                  have K1 := hide ((unhide FO) l (by omega))
                  go_wp2_with fail
                  refine (l1white_any x b ((x.c k).p l).key _ (h.ext hx2) (fun e => formed_at (unhide K1).1 e)).mono ?_
                  rintro e w3 ⟨rfl, hq3⟩
                  have u7 := hq3.keep f7
                  have u3 := hq3.keep g3
                  have u4 := hq3.keep g4
                  have u5 := hq3.keep g5
                  have x3 : Ext w w3 := hx2.trans hq3
                  cases tk : whiteB x ((x.c k).p l).key
                  · go_wp2_with fail
                    refine (l1white_any x b ((x.c k).p l).val _ (h.ext x3) (fun e => formed_at (unhide K1).2 e)).mono ?_
                    rintro e w4 ⟨rfl, hq4⟩
                    cases tv : whiteB x ((x.c k).p l).val
                    · have S := hide (show ∀ j, j < l + 1 → ¬ White x ((x.c k).p j).key ∧ ¬ White x ((x.c k).p j).val from fun j hj => by
                        by_cases e : j = l
                        · subst e; exact ⟨fun hh => by rw [← whiteB_iff, tk] at hh; simp at hh, fun hh => by rw [← whiteB_iff, tv] at hh; simp at hh⟩
                        · exact unhide HB j (by omega))
                      go_wp2_with fail
                      go_roundw
                      case rel => exact ⟨l + 1, by omega, by go_num, unhide S, x3.trans hq4, Ext.trans (Ext.trans hy2 hq3) hq4⟩
                      case measure => simp [intOf]; omega
                    · have NN := hide (show ¬ R7 x from fun r => ((r (unhide MK) k hlt).2 l (by rw [unhide LK]; omega)).2 (whiteB_iff.1 tv))
                      go_wp2_with fail
                      go_ret
                      first | (exact Or.inl ⟨rfl, unhide NN, x3.trans hq4⟩) | (exact ⟨false, rfl, ⟨fun f => by simp at f, fun r => (unhide NN r).elim⟩, x3.trans hq4⟩)
                  · have NN := hide (show ¬ R7 x from fun r => ((r (unhide MK) k hlt).2 l (by rw [unhide LK]; omega)).1 (whiteB_iff.1 tk))
                    go_wp2_with fail
                    go_ret
                    first | (exact Or.inl ⟨rfl, unhide NN, x3⟩) | (exact ⟨false, rfl, ⟨fun f => by simp at f, fun r => (unhide NN r).elim⟩, x3⟩)
                · have S := unhide ST (fun l' hl' => unhide HB l' (by rw [unhide LK] at hl'; omega))
                  go_wp2_with fail
                  go_roundw
                  case rel => exact ⟨k + 1, by omega, by go_num, unhide S, hx2⟩
                  case measure => simp [intOf]; omega
        · skip
          cases d2 : ((x.c k).color == 2)
          · skip
            by_cases hg : 0 < x.gray.length
            · obtain ⟨bg, og, rfl, pg⟩ := (h.ext hbl).G 0 hg
              unfold InAt at pg
              simp only [Nat.zero_mul, Nat.add_zero] at pg
              have hbg : bg < wr.heap.size := cell_lt pg
              have hg4 : (0 : Int) < (x.gray.length : Int) := by omega
              cases d3 : (x.gray[0] == (k : Int))
              · have LK := hide (show looked x k = 0 by have e1 : ¬ (x.c k).color = 2 := (by simpa using d2); have e2 : x.gray.getD 0 0 = x.gray[0] := (by simp [hg]); have e3 : ¬ x.gray[0] = (k : Int) := (by simpa using d3); unfold looked; rw [if_neg e1, if_neg (by rw [e2]; exact fun c => e3 c.2.2)])
                go_wp2_with fail
                go_loopw [7] (fun i wr2 => i = .int .i64 0 ∧ wr2 = wr.alloc (.cells #[.int .i64 (x.c k).st, .int .i64 (x.c k).kind, .int .i64 (x.c k).weak, .int .i64 (x.c k).last, .int .i64 (x.c k).born, .int .i64 (x.c k).color, .int .i64 (x.c k).to, .slice ap (x.c k).prs.length kp] 90)) (fun _ _ => 0)
                case atStart => exact ⟨rfl, rfl⟩
                case round =>
                  obtain ⟨rfl, rfl⟩ := hrel
                  have S := unhide ST (fun l hl => by rw [unhide LK] at hl; omega)
                  go_wp2_with fail
                  go_roundw
                  case rel => exact ⟨k + 1, by omega, by go_num, unhide S, hbl1⟩
                  case measure => simp [intOf]; omega
              · obtain ⟨sN, hsN⟩ := Int.eq_ofNat_of_zero_le hs0
                have e3 : x.gray[0] = (k : Int) := by simpa using d3
                have LK := hide (show looked x k = sN by have e1 : ¬ (x.c k).color = 2 := (by simpa using d2); have e2 : x.gray.getD 0 0 = x.gray[0] := (by simp [hg]); unfold looked; rw [if_neg e1, if_pos ⟨unhide HPH, by omega, by rw [e2]; exact e3⟩, hsN]; simp)
                have sle : sN ≤ (x.c k).prs.length := by
                  have e4 := ((unhide HR6).2.1 (unhide HPH)).2.2 (by omega)
                  have e5 : x.g0 = k := by simp [Hp.g0, hg, e3]
                  rw [e5, hsN] at e4
                  omega
                rw [hsN] at e7
                rw [e3] at pg
                clear e3 hs0 hsN
                go_wp2_with fail
                obtain ⟨WO, hWO⟩ : ∃ W : World, W = wr := ⟨_, rfl⟩
                subst hWO
                go_loopw [7] (fun i wr2 => ∃ l : Nat, l ≤ sN ∧ i = .int .i64 l ∧ (∀ j, j < l → ¬ White x ((x.c k).p j).key ∧ ¬ White x ((x.c k).p j).val) ∧ Ext w wr2 ∧ Ext (WO.alloc (.cells #[.int .i64 (x.c k).st, .int .i64 (x.c k).kind, .int .i64 (x.c k).weak, .int .i64 (x.c k).last, .int .i64 (x.c k).born, .int .i64 (x.c k).color, .int .i64 (x.c k).to, .slice ap (x.c k).prs.length kp] 90)) wr2) (fun i _ => sN - (intOf i).toNat)
                case atStart => exact ⟨0, Nat.zero_le _, rfl, fun j h => by omega, hbl1, Ext.refl _⟩
                case round =>
                  obtain ⟨l, hl, rfl, hall, hx2, hy2⟩ := hrel
                  have HB := hide hall
                  clear hall
                  clear p0 p1 p2 p3 p4 p5 p6 p7 e5 e6 e7 e8
                  by_cases hl2 : l < sN
                  · obtain ⟨b2, o2, rfl, q0, q1, q2, q3, q4, q5⟩ := unhide HP l (by omega)
                    have g0 := (Ext.trans hz hy2).keep q0
                    have g1 := (Ext.trans hz hy2).keep q1
                    have g2 := (Ext.trans hz hy2).keep q2
                    have g3 := (Ext.trans hz hy2).keep q3
                    have g4 := (Ext.trans hz hy2).keep q4
                    have g5 := (Ext.trans hz hy2).keep q5
                    have f7 := hy2.keep (b := WO.heap.size) (o := 7) (v := .slice (some ⟨b2, o2, none⟩) (x.c k).prs.length kp) (by simp [go_sem])
                    clear q0 q1 q2 q3 q4 q5
                    have hl0 : (0:Int) ≤ (l:Int) := by omega
                    have hl1 : (l:Int) < ((x.c k).prs.length:Int) := by omega
                    have K1 := hide ((unhide FO) l (by omega))
                    go_wp2_with fail
                    refine (l1white_any x b ((x.c k).p l).key _ (h.ext hx2) (fun e => formed_at (unhide K1).1 e)).mono ?_
                    rintro e w3 ⟨rfl, hq3⟩
                    have u7 := hq3.keep f7
                    have u3 := hq3.keep g3
                    have u4 := hq3.keep g4
                    have u5 := hq3.keep g5
                    have x3 : Ext w w3 := hx2.trans hq3
                    cases tk : whiteB x ((x.c k).p l).key
                    · go_wp2_with fail
                      refine (l1white_any x b ((x.c k).p l).val _ (h.ext x3) (fun e => formed_at (unhide K1).2 e)).mono ?_
                      rintro e w4 ⟨rfl, hq4⟩
                      cases tv : whiteB x ((x.c k).p l).val
                      · have S := hide (show ∀ j, j < l + 1 → ¬ White x ((x.c k).p j).key ∧ ¬ White x ((x.c k).p j).val from fun j hj => by
                          by_cases e : j = l
                          · subst e; exact ⟨fun hh => by rw [← whiteB_iff, tk] at hh; simp at hh, fun hh => by rw [← whiteB_iff, tv] at hh; simp at hh⟩
                          · exact unhide HB j (by omega))
                        go_wp2_with fail
                        go_roundw
                        case rel => exact ⟨l + 1, by omega, by go_num, unhide S, x3.trans hq4, Ext.trans (Ext.trans hy2 hq3) hq4⟩
                        case measure => simp [intOf]; omega
                      · have NN := hide (show ¬ R7 x from fun r => ((r (unhide MK) k hlt).2 l (by rw [unhide LK]; omega)).2 (whiteB_iff.1 tv))
                        go_wp2_with fail
                        go_ret
                        first | (exact Or.inl ⟨rfl, unhide NN, x3.trans hq4⟩) | (exact ⟨false, rfl, ⟨fun f => by simp at f, fun r => (unhide NN r).elim⟩, x3.trans hq4⟩)
                    · have NN := hide (show ¬ R7 x from fun r => ((r (unhide MK) k hlt).2 l (by rw [unhide LK]; omega)).1 (whiteB_iff.1 tk))
                      go_wp2_with fail
                      go_ret
                      first | (exact Or.inl ⟨rfl, unhide NN, x3⟩) | (exact ⟨false, rfl, ⟨fun f => by simp at f, fun r => (unhide NN r).elim⟩, x3⟩)
                  · have S := unhide ST (fun l' hl' => unhide HB l' (by rw [unhide LK] at hl'; omega))
                    go_wp2_with fail
                    go_roundw
                    case rel => exact ⟨k + 1, by omega, by go_num, unhide S, hx2⟩
                    case measure => simp [intOf]; omega
            · have LK := hide (show looked x k = 0 by have e1 : ¬ (x.c k).color = 2 := (by simpa using d2); unfold looked; rw [if_neg e1, if_neg (by omega)])
              go_wp2_with fail
              go_loopw [7] (fun i wr2 => i = .int .i64 0 ∧ wr2 = wr.alloc (.cells #[.int .i64 (x.c k).st, .int .i64 (x.c k).kind, .int .i64 (x.c k).weak, .int .i64 (x.c k).last, .int .i64 (x.c k).born, .int .i64 (x.c k).color, .int .i64 (x.c k).to, .slice ap (x.c k).prs.length kp] 90)) (fun _ _ => 0)
              case atStart => exact ⟨rfl, rfl⟩
              case round =>
                obtain ⟨rfl, rfl⟩ := hrel
                have S := unhide ST (fun l hl => by rw [unhide LK] at hl; omega)
                go_wp2_with fail
                go_roundw
                case rel => exact ⟨k + 1, by omega, by go_num, unhide S, hbl1⟩
                case measure => simp [intOf]; omega
          · have LK := hide (show looked x k = (x.c k).prs.length by simp at d2; simp [looked, d2])
            go_wp2_with fail
            obtain ⟨WO, hWO⟩ : ∃ W : World, W = wr := ⟨_, rfl⟩
            subst hWO
            go_loopw [7] (fun i wr2 => ∃ l : Nat, l ≤ (x.c k).prs.length ∧ i = .int .i64 l ∧ (∀ j, j < l → ¬ White x ((x.c k).p j).key ∧ ¬ White x ((x.c k).p j).val) ∧ Ext w wr2 ∧ Ext (WO.alloc (.cells #[.int .i64 (x.c k).st, .int .i64 (x.c k).kind, .int .i64 (x.c k).weak, .int .i64 (x.c k).last, .int .i64 (x.c k).born, .int .i64 (x.c k).color, .int .i64 (x.c k).to, .slice ap (x.c k).prs.length kp] 90)) wr2) (fun i _ => (x.c k).prs.length - (intOf i).toNat)
            case atStart => exact ⟨0, Nat.zero_le _, rfl, fun j h => by omega, hbl1, Ext.refl _⟩
            case round =>
              obtain ⟨l, hl, rfl, hall, hx2, hy2⟩ := hrel
              have HB := hide hall
              clear hall
              clear p0 p1 p2 p3 p4 p5 p6 p7 e5 e6 e7 e8
              by_cases hl2 : l < (x.c k).prs.length
              · obtain ⟨b2, o2, rfl, q0, q1, q2, q3, q4, q5⟩ := unhide HP l (by omega)
                have g0 := (Ext.trans hz hy2).keep q0
                have g1 := (Ext.trans hz hy2).keep q1
                have g2 := (Ext.trans hz hy2).keep q2
                have g3 := (Ext.trans hz hy2).keep q3
                have g4 := (Ext.trans hz hy2).keep q4
                have g5 := (Ext.trans hz hy2).keep q5
                have f7 := hy2.keep (b := WO.heap.size) (o := 7) (v := .slice (some ⟨b2, o2, none⟩) (x.c k).prs.length kp) (by simp [go_sem])
                clear q0 q1 q2 q3 q4 q5
                have hl0 : (0:Int) ≤ (l:Int) := by omega
                have hl1 : (l:Int) < ((x.c k).prs.length:Int) := by omega
                have K1 := hide ((unhide FO) l (by omega))
                go_wp2_with fail
                refine (l1white_any x b ((x.c k).p l).key _ (h.ext hx2) (fun e => formed_at (unhide K1).1 e)).mono ?_
                rintro e w3 ⟨rfl, hq3⟩
                have u7 := hq3.keep f7
                have u3 := hq3.keep g3
                have u4 := hq3.keep g4
                have u5 := hq3.keep g5
                have x3 : Ext w w3 := hx2.trans hq3
                cases tk : whiteB x ((x.c k).p l).key
                · go_wp2_with fail
                  refine (l1white_any x b ((x.c k).p l).val _ (h.ext x3) (fun e => formed_at (unhide K1).2 e)).mono ?_
                  rintro e w4 ⟨rfl, hq4⟩
                  cases tv : whiteB x ((x.c k).p l).val
                  · have S := hide (show ∀ j, j < l + 1 → ¬ White x ((x.c k).p j).key ∧ ¬ White x ((x.c k).p j).val from fun j hj => by
                      by_cases e : j = l
                      · subst e; exact ⟨fun hh => by rw [← whiteB_iff, tk] at hh; simp at hh, fun hh => by rw [← whiteB_iff, tv] at hh; simp at hh⟩
                      · exact unhide HB j (by omega))
                    go_wp2_with fail
                    go_roundw
                    case rel => exact ⟨l + 1, by omega, by go_num, unhide S, x3.trans hq4, Ext.trans (Ext.trans hy2 hq3) hq4⟩
                    case measure => simp [intOf]; omega
                  · have NN := hide (show ¬ R7 x from fun r => ((r (unhide MK) k hlt).2 l (by rw [unhide LK]; omega)).2 (whiteB_iff.1 tv))
                    go_wp2_with fail
                    go_ret
                    first | (exact Or.inl ⟨rfl, unhide NN, x3.trans hq4⟩) | (exact ⟨false, rfl, ⟨fun f => by simp at f, fun r => (unhide NN r).elim⟩, x3.trans hq4⟩)
                · have NN := hide (show ¬ R7 x from fun r => ((r (unhide MK) k hlt).2 l (by rw [unhide LK]; omega)).1 (whiteB_iff.1 tk))
                  go_wp2_with fail
                  go_ret
                  first | (exact Or.inl ⟨rfl, unhide NN, x3⟩) | (exact ⟨false, rfl, ⟨fun f => by simp at f, fun r => (unhide NN r).elim⟩, x3⟩)
              · have S := unhide ST (fun l' hl' => unhide HB l' (by rw [unhide LK] at hl'; omega))
                go_wp2_with fail
                go_roundw
                case rel => exact ⟨k + 1, by omega, by go_num, unhide S, hx2⟩
                case measure => simp [intOf]; omega
      · have D0 := hide (show (x.c k).color = 0 by simpa using d0)
        have d2 : ((x.c k).color == 2) = false := by simp at d0 ⊢; omega
        by_cases bad : Speaks (x.c k) ∧ True
        · have NN := hide (show ¬ R7 x from fun r => (r (unhide MK) k hlt).1 ⟨bad.1, unhide D0, Or.inl (unhide HPH)⟩)
          
          cases w1 : ((x.c k).last == 1)
          · have w2 : ((x.c k).last == 2) = true := by have := bad.1; unfold Speaks at this; simp at w1 ⊢; omega
            clear bad
            go_wp2_with fail
            go_ret
            first | (exact Or.inl ⟨rfl, unhide NN, hbl1⟩) | (exact ⟨false, rfl, ⟨fun f => by simp at f, fun r => (unhide NN r).elim⟩, hbl1⟩)
          · clear bad
            go_wp2_with fail
            go_ret
            first | (exact Or.inl ⟨rfl, unhide NN, hbl1⟩) | (exact ⟨false, rfl, ⟨fun f => by simp at f, fun r => (unhide NN r).elim⟩, hbl1⟩)
        · have BD := hide bad
          have ST := hide (show (∀ l, l < looked x k → ¬ White x ((x.c k).p l).key ∧ ¬ White x ((x.c k).p l).val) → Hid (∀ j, j < k + 1 → ¬ (Speaks (x.c j) ∧ (x.c j).color = 0 ∧ (x.phase = 2 ∨ (j : Int) < x.hand)) ∧ ∀ l, l < looked x j → ¬ White x ((x.c j).p l).key ∧ ¬ White x ((x.c j).p l).val) from fun hn j hj => by
            by_cases e : j = k
            · subst e; exact ⟨fun hb => unhide BD ⟨hb.1, trivial⟩, hn⟩
            · exact unhide HA j (by omega))
          have w1 : ((x.c k).last == 1) = false := by have := unhide BD; unfold Speaks at this; simp at this ⊢; omega
          have w2 : ((x.c k).last == 2) = false := by have := unhide BD; unfold Speaks at this; simp at this ⊢; omega
          by_cases hg : 0 < x.gray.length
          · obtain ⟨bg, og, rfl, pg⟩ := (h.ext hbl).G 0 hg
            unfold InAt at pg
            simp only [Nat.zero_mul, Nat.add_zero] at pg
            have hbg : bg < wr.heap.size := cell_lt pg
            have hg4 : (0 : Int) < (x.gray.length : Int) := by omega
            cases d3 : (x.gray[0] == (k : Int))
            · have LK := hide (show looked x k = 0 by have e1 : ¬ (x.c k).color = 2 := (by simpa using d2); have e2 : x.gray.getD 0 0 = x.gray[0] := (by simp [hg]); have e3 : ¬ x.gray[0] = (k : Int) := (by simpa using d3); unfold looked; rw [if_neg e1, if_neg (by rw [e2]; exact fun c => e3 c.2.2)])
              go_wp2_with fail
              go_loopw [7] (fun i wr2 => i = .int .i64 0 ∧ wr2 = wr.alloc (.cells #[.int .i64 (x.c k).st, .int .i64 (x.c k).kind, .int .i64 (x.c k).weak, .int .i64 (x.c k).last, .int .i64 (x.c k).born, .int .i64 (x.c k).color, .int .i64 (x.c k).to, .slice ap (x.c k).prs.length kp] 90)) (fun _ _ => 0)
              case atStart => exact ⟨rfl, rfl⟩
              case round =>
                obtain ⟨rfl, rfl⟩ := hrel
                have S := unhide ST (fun l hl => by rw [unhide LK] at hl; omega)
                go_wp2_with fail
                go_roundw
                case rel => exact ⟨k + 1, by omega, by go_num, unhide S, hbl1⟩
                case measure => simp [intOf]; omega
            · obtain ⟨sN, hsN⟩ := Int.eq_ofNat_of_zero_le hs0
              have e3 : x.gray[0] = (k : Int) := by simpa using d3
              have LK := hide (show looked x k = sN by have e1 : ¬ (x.c k).color = 2 := (by simpa using d2); have e2 : x.gray.getD 0 0 = x.gray[0] := (by simp [hg]); unfold looked; rw [if_neg e1, if_pos ⟨unhide HPH, by omega, by rw [e2]; exact e3⟩, hsN]; simp)
              have sle : sN ≤ (x.c k).prs.length := by
                have e4 := ((unhide HR6).2.1 (unhide HPH)).2.2 (by omega)
                have e5 : x.g0 = k := by simp [Hp.g0, hg, e3]
                rw [e5, hsN] at e4
                omega
              rw [hsN] at e7
              rw [e3] at pg
              clear e3 hs0 hsN
              go_wp2_with fail
              obtain ⟨WO, hWO⟩ : ∃ W : World, W = wr := ⟨_, rfl⟩
              subst hWO
              go_loopw [7] (fun i wr2 => ∃ l : Nat, l ≤ sN ∧ i = .int .i64 l ∧ (∀ j, j < l → ¬ White x ((x.c k).p j).key ∧ ¬ White x ((x.c k).p j).val) ∧ Ext w wr2 ∧ Ext (WO.alloc (.cells #[.int .i64 (x.c k).st, .int .i64 (x.c k).kind, .int .i64 (x.c k).weak, .int .i64 (x.c k).last, .int .i64 (x.c k).born, .int .i64 (x.c k).color, .int .i64 (x.c k).to, .slice ap (x.c k).prs.length kp] 90)) wr2) (fun i _ => sN - (intOf i).toNat)
              case atStart => exact ⟨0, Nat.zero_le _, rfl, fun j h => by omega, hbl1, Ext.refl _⟩
              case round =>
                obtain ⟨l, hl, rfl, hall, hx2, hy2⟩ := hrel
                have HB := hide hall
                clear hall
                clear p0 p1 p2 p3 p4 p5 p6 p7 e5 e6 e7 e8
                by_cases hl2 : l < sN
                · obtain ⟨b2, o2, rfl, q0, q1, q2, q3, q4, q5⟩ := unhide HP l (by omega)
                  have g0 := (Ext.trans hz hy2).keep q0
                  have g1 := (Ext.trans hz hy2).keep q1
                  have g2 := (Ext.trans hz hy2).keep q2
                  have g3 := (Ext.trans hz hy2).keep q3
                  have g4 := (Ext.trans hz hy2).keep q4
                  have g5 := (Ext.trans hz hy2).keep q5
                  have f7 := hy2.keep (b := WO.heap.size) (o := 7) (v := .slice (some ⟨b2, o2, none⟩) (x.c k).prs.length kp) (by simp [go_sem])
                  clear q0 q1 q2 q3 q4 q5
                  have hl0 : (0:Int) ≤ (l:Int) := by omega
                  have hl1 : (l:Int) < ((x.c k).prs.length:Int) := by omega
                  have K1 := hide ((unhide FO) l (by omega))
                  go_wp2_with fail
                  refine (l1white_any x b ((x.c k).p l).key _ (h.ext hx2) (fun e => formed_at (unhide K1).1 e)).mono ?_
                  rintro e w3 ⟨rfl, hq3⟩
                  have u7 := hq3.keep f7
                  have u3 := hq3.keep g3
                  have u4 := hq3.keep g4
                  have u5 := hq3.keep g5
                  have x3 : Ext w w3 := hx2.trans hq3
                  cases tk : whiteB x ((x.c k).p l).key
                  · go_wp2_with fail
                    refine (l1white_any x b ((x.c k).p l).val _ (h.ext x3) (fun e => formed_at (unhide K1).2 e)).mono ?_
                    rintro e w4 ⟨rfl, hq4⟩
                    cases tv : whiteB x ((x.c k).p l).val
                    · have S := hide (show ∀ j, j < l + 1 → ¬ White x ((x.c k).p j).key ∧ ¬ White x ((x.c k).p j).val from fun j hj => by
                        by_cases e : j = l
                        · subst e; exact ⟨fun hh => by rw [← whiteB_iff, tk] at hh; simp at hh, fun hh => by rw [← whiteB_iff, tv] at hh; simp at hh⟩
                        · exact unhide HB j (by omega))
                      go_wp2_with fail
                      go_roundw
                      case rel => exact ⟨l + 1, by omega, by go_num, unhide S, x3.trans hq4, Ext.trans (Ext.trans hy2 hq3) hq4⟩
                      case measure => simp [intOf]; omega
                    · have NN := hide (show ¬ R7 x from fun r => ((r (unhide MK) k hlt).2 l (by rw [unhide LK]; omega)).2 (whiteB_iff.1 tv))
                      go_wp2_with fail
                      go_ret
                      first | (exact Or.inl ⟨rfl, unhide NN, x3.trans hq4⟩) | (exact ⟨false, rfl, ⟨fun f => by simp at f, fun r => (unhide NN r).elim⟩, x3.trans hq4⟩)
                  · have NN := hide (show ¬ R7 x from fun r => ((r (unhide MK) k hlt).2 l (by rw [unhide LK]; omega)).1 (whiteB_iff.1 tk))
                    go_wp2_with fail
                    go_ret
                    first | (exact Or.inl ⟨rfl, unhide NN, x3⟩) | (exact ⟨false, rfl, ⟨fun f => by simp at f, fun r => (unhide NN r).elim⟩, x3⟩)
                · have S := unhide ST (fun l' hl' => unhide HB l' (by rw [unhide LK] at hl'; omega))
                  go_wp2_with fail
                  go_roundw
                  case rel => exact ⟨k + 1, by omega, by go_num, unhide S, hx2⟩
                  case measure => simp [intOf]; omega
          · have LK := hide (show looked x k = 0 by have e1 : ¬ (x.c k).color = 2 := (by simpa using d2); unfold looked; rw [if_neg e1, if_neg (by omega)])
            go_wp2_with fail
            go_loopw [7] (fun i wr2 => i = .int .i64 0 ∧ wr2 = wr.alloc (.cells #[.int .i64 (x.c k).st, .int .i64 (x.c k).kind, .int .i64 (x.c k).weak, .int .i64 (x.c k).last, .int .i64 (x.c k).born, .int .i64 (x.c k).color, .int .i64 (x.c k).to, .slice ap (x.c k).prs.length kp] 90)) (fun _ _ => 0)
            case atStart => exact ⟨rfl, rfl⟩
            case round =>
              obtain ⟨rfl, rfl⟩ := hrel
              have S := unhide ST (fun l hl => by rw [unhide LK] at hl; omega)
              go_wp2_with fail
              go_roundw
              case rel => exact ⟨k + 1, by omega, by go_num, unhide S, hbl1⟩
              case measure => simp [intOf]; omega
    · have Y := hide (show R7 x from fun _ i hi => unhide HA i (by omega))
      go_wp2_with fail
      go_ret
      first | (exact Or.inr ⟨rfl, unhide Y, hbl⟩) | (exact ⟨true, rfl, ⟨fun _ => unhide Y, fun _ => rfl⟩, hbl⟩)

end Go.Proofs.YtbcmjcomdjdjaaaGreat

namespace Go.Proofs.YtbcmjcomdjdjaaaGreat
open Go.RowKit
attribute [local go_sem ↓] Go.wp_at_zero Go.wp_at_succ

theorem formed_of_R4 {x : Hp} (r : R4 x) : ∀ i, i < x.cells.length → ∀ k, k < (x.c i).prs.length → Formed ((x.c i).p k).key x.cells.length ∧ Formed ((x.c i).p k).val x.cells.length := fun i hi k hk => by
  have hp := (r.2 i hi).2 k hk
  by_cases d : Doomed x i
  · exact hp.1 d
  · exact ⟨(hp.2 d).1.1, (hp.2 d).2.1⟩

theorem l1marks_any (x : Hp) (b : Nat) (w : World) {ar : Option Addr} {kr : Nat} {ac : Option Addr} {kc : Nat} {ag : Option Addr} {kg : Nat} (h : HAt w b x ar kr ac kc ag kg) (r1 : R1 x) (r4 : R4 x) (r6 : R6 x) :
    Calls Tryz.prog 43 #[.pointer (some ⟨b, 0, none⟩)] w fun e w' => ∃ r : Bool, e = .returned (.bool r) ∧ (r = true ↔ R7 x) ∧ Ext w w' := by
  cases q1 : (x.phase == 1)
  · cases q2 : (x.phase == 2)
    · have Y := hide (show R7 x from fun m => by rcases m with m | m <;> simp [m] at q1 q2)
      have q1n : (x.phase != 1) = true := by simpa using q1
      have q2n : (x.phase != 2) = true := by simpa using q2
      have c5 := h.c5
      clear h r1 r4 r6
      go_enter Tryz.func43, Tryz.ntmps43
      go_wp2_with fail
      go_ret
      first | (exact Or.inr ⟨rfl, unhide Y, Ext.refl _⟩) | (exact ⟨true, rfl, ⟨fun _ => unhide Y, fun _ => rfl⟩, Ext.refl _⟩)
    · exact l1marks_2 x b w h (formed_of_R4 r4) r6 r1 q1 q2
  · exact l1marks_1 x b w h (formed_of_R4 r4) r6 r1 q1
end Go.Proofs.YtbcmjcomdjdjaaaGreat
