import Derived.Test.YtkabcfhemljnbaaGreatQa
import Derived.Test.YtkabcfhemljnbaaGreatRes
import Derived.Test.YtkabcfhemljnbaaGreatLj
import Derived.Test.YtkabcfhemljnbaaGreatLx
import Derived.Laws.Pointers
namespace Go.Proofs.YtkabcfhemljnbaaGreat
open Go.RowKit
attribute [local go_sem ↓] Go.wp_at_zero Go.wp_at_succ

/-- the Phase that is on ends, the next begins -/
def turnH (x : Hp) : Hp := if x.phase = 5 then toPh x 6 x.cells.length else if x.phase = 6 then { toPh x 0 0 with rounds := if x.rounds < 1000000000 then x.rounds + 1 else x.rounds } else toPh x (x.phase + 1) 0
theorem SAt.phased {B : Nat} {w : World} {b : Nat} {x : Hp} {ar : Option Addr} {kr : Nat} {v4 v8 : Value} {br bc bn : Nat} {pb : Nat → Nat} {pa : Nat → Option Addr} {pk : Nat → Nat} {kn hd : Nat} {vf : Value} {F : List Int} {vk : Value} {K : List Nat} {role : Nat → Nat} (h : SAt B w b x ar kr v4 v8 br bc bn pb pa pk kn hd vf F vk K role) (p hn : Int) :
    SAt B (((w.setCell ⟨b, 6, none⟩ (iv hn)).setCell ⟨b, 7, none⟩ (iv 0)).setCell ⟨b, 5, none⟩ (iv p)) b (toPh x p hn) ar kr v4 v8 br bc bn pb pa pk kn hd vf F vk K role := by
  refine h.boxed (x' := toPh x p hn) (Only.setCell (S := fun q => q = b) (Only.setCell (S := fun q => q = b) (Only.setCell (S := fun q => q = b) (Only.refl _ w) (p := ⟨b, 6, none⟩) rfl _) (p := ⟨b, 7, none⟩) rfl _) (p := ⟨b, 5, none⟩) rfl _) (((h.sb.nb.set _ _).set _ _).set _ _) rfl rfl rfl (((h.sb.bx.set6 hn).set7 0).set5 p) (fun k hk => ?_)
  rw [cell_other _ (.inr (by omega)), cell_other _ (.inr (by omega)), cell_other _ (.inr (by omega))]
set_option maxRecDepth 100000 in
set_option maxHeartbeats 600000 in
theorem turn_low {B : Nat} {w : World} {b : Nat} {x : Hp} {ar : Option Addr} {kr : Nat} {v4 v8 : Value} {br bc bn : Nat} {pb : Nat → Nat} {pa : Nat → Option Addr} {pk : Nat → Nat} {kn hd : Nat} {vf : Value} {F : List Int} {vk : Value} {K : List Nat} {role : Nat → Nat} (h : SAt B w b x ar kr v4 v8 br bc bn pb pa pk kn hd vf F vk K role) (p : Int) (hp : x.phase = p) (h5 : (p == 5) = false) (h6 : (p == 6) = false) (hr : 0 ≤ p ∧ p ≤ 6) (a : World) (ha : a.heap.size ≤ B) (hx : Ext a w) :
    Calls Tryz.prog 130 #[.pointer (some ⟨b, 0, none⟩)] w fun e w' => e = .returned (nowV (p + 1) b) ∧ Hid (SAt B w' b (toPh x (p + 1) 0) ar kr v4 v8 br bc bn pb pa pk kn hd vf F vk K role) ∧ Ext a w' := by
  have H := hide h
  have c5 := h.sb.bx.2.2.2.2.2.1
  have c6 := h.sb.bx.2.2.2.2.2.2.1
  have c7 := h.sb.bx.2.2.2.2.2.2.2.1
  rw [hp] at c5
  have f5 := h.sb.nb.2 5
  have f6 := h.sb.nb.2 6
  have f7 := h.sb.nb.2 7
  have lo := h.sb.lo.1
  have wp : wrap64 (p + 1) = p + 1 := by unfold wrap64; omega
  have FN := hide (h.phased (p + 1) 0)
  have XN := hide (((hx.setCell (p := ⟨b, 6, none⟩) (show a.heap.size ≤ b by omega) (iv 0)).setCell (p := ⟨b, 7, none⟩) (show a.heap.size ≤ b by omega) (iv 0)).setCell (p := ⟨b, 5, none⟩) (show a.heap.size ≤ b by omega) (iv (p + 1)))
  have hr2 : 0 ≤ p + 1 ∧ p + 1 ≤ 6 := ⟨by omega, by simp at h6; omega⟩
  clear h hp
  go_enter Tryz.func130, Tryz.ntmps130
  go_wp2_with fail
  refine (now_any (p + 1) b _ ((unhide FN).sb.bx.2.2.2.2.2.1) hr2).mono ?_
  rintro e w2 ⟨rfl, hw2⟩
  subst hw2
  go_wp2_with fail
  go_ret
  exact ⟨rfl, unhide FN, unhide XN⟩
set_option maxRecDepth 100000 in
set_option maxHeartbeats 600000 in
theorem turn_5 {B : Nat} {w : World} {b : Nat} {x : Hp} {ar : Option Addr} {kr : Nat} {v4 v8 : Value} {br bc bn : Nat} {pb : Nat → Nat} {pa : Nat → Option Addr} {pk : Nat → Nat} {kn hd : Nat} {vf : Value} {F : List Int} {vk : Value} {K : List Nat} {role : Nat → Nat} (h : SAt B w b x ar kr v4 v8 br bc bn pb pa pk kn hd vf F vk K role) (hp : x.phase = 5) (a : World) (ha : a.heap.size ≤ B) (hx : Ext a w) :
    Calls Tryz.prog 130 #[.pointer (some ⟨b, 0, none⟩)] w fun e w' => e = .returned (nowV 6 b) ∧ Hid (SAt B w' b (toPh x 6 x.cells.length) ar kr v4 v8 br bc bn pb pa pk kn hd vf F vk K role) ∧ Ext a w' := by
  have H := hide h
  have c5 := h.sb.bx.2.2.2.2.2.1
  have c6 := h.sb.bx.2.2.2.2.2.2.1
  have c7 := h.sb.bx.2.2.2.2.2.2.2.1
  have c13 := h.sb.n13
  rw [hp] at c5
  have f5 := h.sb.nb.2 5
  have f6 := h.sb.nb.2 6
  have f7 := h.sb.nb.2 7
  have lo := h.sb.lo.1
  have FN := hide (show SAt B ((((w.setCell ⟨b, 6, none⟩ (iv 0)).setCell ⟨b, 7, none⟩ (iv 0)).setCell ⟨b, 6, none⟩ (iv x.cells.length)).setCell ⟨b, 5, none⟩ (iv 6)) b (toPh x 6 x.cells.length) ar kr v4 v8 br bc bn pb pa pk kn hd vf F vk K role by
    refine h.boxed (x' := toPh x 6 x.cells.length) (Only.setCell (S := fun q => q = b) (Only.setCell (S := fun q => q = b) (Only.setCell (S := fun q => q = b) (Only.setCell (S := fun q => q = b) (Only.refl _ w) (p := ⟨b, 6, none⟩) rfl _) (p := ⟨b, 7, none⟩) rfl _) (p := ⟨b, 6, none⟩) rfl _) (p := ⟨b, 5, none⟩) rfl _) ((((h.sb.nb.set _ _).set _ _).set _ _).set _ _) rfl rfl rfl ((((h.sb.bx.set6 0).set7 0).set6 x.cells.length).set5 6) (fun k hk => ?_)
    rw [cell_other _ (.inr (by omega)), cell_other _ (.inr (by omega)), cell_other _ (.inr (by omega)), cell_other _ (.inr (by omega))])
  have XN := hide ((((hx.setCell (p := ⟨b, 6, none⟩) (show a.heap.size ≤ b by omega) (iv 0)).setCell (p := ⟨b, 7, none⟩) (show a.heap.size ≤ b by omega) (iv 0)).setCell (p := ⟨b, 6, none⟩) (show a.heap.size ≤ b by omega) (iv x.cells.length)).setCell (p := ⟨b, 5, none⟩) (show a.heap.size ≤ b by omega) (iv 6))
  clear h hp
  go_enter Tryz.func130, Tryz.ntmps130
  go_wp2_with fail
  refine (now_any 6 b _ ((unhide FN).sb.bx.2.2.2.2.2.1) (by omega)).mono ?_
  rintro e w2 ⟨rfl, hw2⟩
  subst hw2
  go_wp2_with fail
  go_ret
  exact ⟨rfl, unhide FN, unhide XN⟩
set_option maxRecDepth 100000 in
set_option maxHeartbeats 600000 in
theorem turn_6 {B : Nat} {w : World} {b : Nat} {x : Hp} {ar : Option Addr} {kr : Nat} {v4 v8 : Value} {br bc bn : Nat} {pb : Nat → Nat} {pa : Nat → Option Addr} {pk : Nat → Nat} {kn hd : Nat} {vf : Value} {F : List Int} {vk : Value} {K : List Nat} {role : Nat → Nat} (h : SAt B w b x ar kr v4 v8 br bc bn pb pa pk kn hd vf F vk K role) (hp : x.phase = 6) (hr : 0 ≤ x.rounds ∧ x.rounds ≤ 1000000000) (a : World) (ha : a.heap.size ≤ B) (hx : Ext a w) :
    Calls Tryz.prog 130 #[.pointer (some ⟨b, 0, none⟩)] w fun e w' => e = .returned (nowV 0 b) ∧ Hid (SAt B w' b { toPh x 0 0 with rounds := if x.rounds < 1000000000 then x.rounds + 1 else x.rounds } ar kr v4 v8 br bc bn pb pa pk kn hd vf F vk K role) ∧ Ext a w' := by
  have H := hide h
  have c5 := h.sb.bx.2.2.2.2.2.1
  have c6 := h.sb.bx.2.2.2.2.2.2.1
  have c7 := h.sb.bx.2.2.2.2.2.2.2.1
  have c11 := h.sb.bx.2.2.2.2.2.2.2.2.2.2.2.1
  rw [hp] at c5
  have f5 := h.sb.nb.2 5
  have f6 := h.sb.nb.2 6
  have f7 := h.sb.nb.2 7
  have f11 := h.sb.nb.2 11
  have lo := h.sb.lo.1
  obtain ⟨r, er⟩ : ∃ r, r = if x.rounds < 1000000000 then x.rounds + 1 else x.rounds := ⟨_, rfl⟩
  have wr : wrap64 (x.rounds + 1) = x.rounds + 1 := by unfold wrap64; omega
  have ER := hide (show ∀ v, (v = x.rounds + 1 ∧ x.rounds + 1 ≤ 1000000000) ∨ (v = 1000000000 ∧ 1000000000 ≤ x.rounds + 1) → v = r from fun v hv => by rw [er]; split <;> omega)
  rw [← er]
  have FN := hide (show SAt B ((((w.setCell ⟨b, 6, none⟩ (iv 0)).setCell ⟨b, 7, none⟩ (iv 0)).setCell ⟨b, 5, none⟩ (iv 0)).setCell ⟨b, 11, none⟩ (iv r)) b { toPh x 0 0 with rounds := r } ar kr v4 v8 br bc bn pb pa pk kn hd vf F vk K role by
    refine h.boxed (x' := { toPh x 0 0 with rounds := r }) (Only.setCell (S := fun q => q = b) (Only.setCell (S := fun q => q = b) (Only.setCell (S := fun q => q = b) (Only.setCell (S := fun q => q = b) (Only.refl _ w) (p := ⟨b, 6, none⟩) rfl _) (p := ⟨b, 7, none⟩) rfl _) (p := ⟨b, 5, none⟩) rfl _) (p := ⟨b, 11, none⟩) rfl _) ((((h.sb.nb.set _ _).set _ _).set _ _).set _ _) rfl rfl rfl ((((h.sb.bx.set6 0).set7 0).set5 0).set11 r) (fun k hk => ?_)
    rw [cell_other _ (.inr (by omega)), cell_other _ (.inr (by omega)), cell_other _ (.inr (by omega)), cell_other _ (.inr (by omega))])
  have XN := hide ((((hx.setCell (p := ⟨b, 6, none⟩) (show a.heap.size ≤ b by omega) (iv 0)).setCell (p := ⟨b, 7, none⟩) (show a.heap.size ≤ b by omega) (iv 0)).setCell (p := ⟨b, 5, none⟩) (show a.heap.size ≤ b by omega) (iv 0)).setCell (p := ⟨b, 11, none⟩) (show a.heap.size ≤ b by omega) (iv r))
  clear h hp er
  go_enter Tryz.func130, Tryz.ntmps130
  go_wp2_with fail
  all_goals
    first
    | (have e1 : (1000000000 : Int) = r := unhide ER _ (.inr ⟨rfl, by omega⟩); rw [e1])
    | (have e1 : x.rounds + 1 = r := unhide ER _ (.inl ⟨rfl, by omega⟩); rw [e1])
    | (have e1 : min (x.rounds + 1) 1000000000 = r := unhide ER _ (by omega); rw [e1])
    refine (now_any 0 b _ ((unhide FN).sb.bx.2.2.2.2.2.1) (by omega)).mono ?_
    rintro e w2 ⟨rfl, hw2⟩
    subst hw2
    go_wp2_with fail
    go_ret
    exact ⟨rfl, unhide FN, unhide XN⟩
end Go.Proofs.YtkabcfhemljnbaaGreat

namespace Go.Proofs.YtkabcfhemljnbaaGreat
open Go.RowKit
attribute [local go_sem ↓] Go.wp_at_zero Go.wp_at_succ

theorem sspeaks_any (c : Cl) (bn i bc : Nat) (w : World) (m1 : w.cell? ⟨bn, i * 2 + 1, none⟩ = some (.pointer (some ⟨bc, i * 8, none⟩))) (s : S7 w bc (i * 8) c) :
    Calls Tryz.prog 151 #[ndp bn i] w fun e w' => e = .returned (.bool (spkB c)) ∧ w' = w := by
  have s3 := s.2.2.2.1
  cases q1 : (c.last == 1)
  · have E := hide (show spkB c = (c.last == 2) by simp [spkB, q1])
    go_enter Tryz.func151, Tryz.ntmps151
    go_wp2_with fail
    go_ret
    exact ⟨by rw [unhide E]; rfl, rfl⟩
  · have E := hide (show spkB c = true by simp [spkB, q1])
    go_enter Tryz.func151, Tryz.ntmps151
    go_wp2_with fail
    go_ret
    exact ⟨by rw [unhide E]; rfl, rfl⟩
theorem SAt.hand {B : Nat} {w : World} {b : Nat} {x : Hp} {ar : Option Addr} {kr : Nat} {v4 v8 : Value} {br bc bn : Nat} {pb : Nat → Nat} {pa : Nat → Option Addr} {pk : Nat → Nat} {kn hd : Nat} {vf : Value} {F : List Int} {vk : Value} {K : List Nat} {role : Nat → Nat} (h : SAt B w b x ar kr v4 v8 br bc bn pb pa pk kn hd vf F vk K role) (hn : Int) :
    SAt B (w.setCell ⟨b, 6, none⟩ (iv hn)) b { x with hand := hn } ar kr v4 v8 br bc bn pb pa pk kn hd vf F vk K role := by
  refine h.boxed (x' := { x with hand := hn }) (Only.setCell (S := fun q => q = b) (Only.refl _ w) (p := ⟨b, 6, none⟩) rfl _) (h.sb.nb.set _ _) rfl rfl rfl (h.sb.bx.set6 hn) (fun k hk => cell_other _ (.inr (by omega)))
set_option maxRecDepth 100000 in
set_option maxHeartbeats 600000 in
theorem roots_end {B : Nat} {w : World} {b : Nat} {x : Hp} {ar : Option Addr} {kr : Nat} {v4 v8 : Value} {br bc bn : Nat} {pb : Nat → Nat} {pa : Nat → Option Addr} {pk : Nat → Nat} {kn hd : Nat} {vf : Value} {F : List Int} {vk : Value} {K : List Nat} {role : Nat → Nat} (h : SAt B w b x ar kr v4 v8 br bc bn pb pa pk kn hd vf F vk K role) (hp : x.phase = 1) (he : x.hand = x.cells.length) (a : World) (ha : a.heap.size ≤ B) (hx : Ext a w) :
    Calls Tryz.prog 231 #[.agg #[.pointer (some ⟨b, 0, none⟩)]] w fun e w' => e = .returned (nowV (unit1 x).phase b) ∧ Hid (SAt B w' b (unit1 x) ar kr v4 v8 br bc bn pb pa pk kn hd vf F vk K role) ∧ Ext a w' := by
  have E := hide (show unit1 x = toPh x (1 + 1) 0 by unfold unit1; rw [if_pos he]; rfl)
  have H := hide h
  have HP := hide hp
  have XA := (Ext.refl w).alloc (.cells #[.pointer (some ⟨b, 0, none⟩)] 193)
  have QA := hide (atHand_none x.hand b x.cells.length kn (some ⟨bn, 0, none⟩) _ (XA.keep h.sb.bx.2.2.2.2.2.2.1) (XA.keep h.sb.n13) (by simpa using he))
  have XA2 := hide XA
  have hbw : b < w.heap.size := h.sb.nb.1
  clear h hp he XA
  go_enter Tryz.func231, Tryz.ntmps231
  go_wp2_with fail
  refine (unhide QA).mono ?_
  rintro e w1 ⟨rfl, x1⟩
  have r0 : w1.cell? ⟨w.heap.size, 0, none⟩ = some (.pointer (some ⟨b, 0, none⟩)) := x1.keep (by simp [go_sem])
  have X1 := hide ((unhide XA2).trans x1)
  go_wp2_with fail
  refine (turn_low ((unhide H).ext (unhide X1)) 1 (unhide HP) rfl rfl (by omega) a ha (hx.trans (unhide X1))).mono ?_
  rintro e w2 ⟨rfl, h2, x2⟩
  go_wp2_with fail
  go_ret
  exact ⟨by rw [unhide E]; rfl, by rw [unhide E]; exact unhide h2, x2⟩
end Go.Proofs.YtkabcfhemljnbaaGreat

namespace Go.Proofs.YtkabcfhemljnbaaGreat
open Go.RowKit
attribute [local go_sem ↓] Go.wp_at_zero Go.wp_at_succ

set_option maxRecDepth 100000 in
set_option maxHeartbeats 600000 in
theorem roots_cell {B : Nat} {w : World} {b : Nat} {x : Hp} {ar : Option Addr} {kr : Nat} {v4 v8 : Value} {br bc bn : Nat} {pb : Nat → Nat} {pa : Nat → Option Addr} {pk : Nat → Nat} {kn hd : Nat} {vf : Value} {F : List Int} {vk : Value} {K : List Nat} {role : Nat → Nat} (h : SAt B w b x ar kr v4 v8 br bc bn pb pa pk kn hd vf F vk K role) (s : Snd x) (hp : x.phase = 1) (i : Nat) (hi : x.hand = (i : Int)) (hin : i < x.cells.length) (a : World) (ha : a.heap.size ≤ B) (hx : Ext a w) :
    Calls Tryz.prog 231 #[.agg #[.pointer (some ⟨b, 0, none⟩)]] w fun e w' => e = .returned (nowV (unit1 x).phase b) ∧ Hid (SAt B w' b (unit1 x) ar kr v4 v8 br bc bn pb pa pk kn hd vf F vk K role) ∧ Ext a w' := by
  have ei : x.hand.toNat = i := by omega
  have EU := hide (show unit1 x = { (if spkB (x.c i) = true then shadeH x i else x) with hand := (i : Int) + 1 } by unfold unit1; rw [if_neg (by omega), ei, hi])
  have H := hide h
  have EP := hide (show (unit1 x).phase = 1 by rw [unhide EU]; split; exact ((shade_same x i).2.2.2.2.2.1).trans hp; exact hp)
  have n8 := s.ok.n8
  have XA := (Ext.refl w).alloc (.cells #[.pointer (some ⟨b, 0, none⟩)] 193)
  have c6 := h.sb.bx.2.2.2.2.2.2.1
  rw [hi] at c6
  have QA := hide (atHand_some b x.cells.length kn bn i _ (XA.keep c6) (XA.keep h.sb.n13) hin)
  have GF := hide ((gray_fit s.ok).2 i hin)
  have XA2 := hide XA
  have hbw : b < w.heap.size := h.sb.nb.1
  have lo := h.sb.lo.1
  have HI := hide hi
  clear h hp XA s ei hi c6
  go_enter Tryz.func231, Tryz.ntmps231
  go_wp2_with fail
  refine (unhide QA).mono ?_
  rintro e w1 ⟨rfl, x1⟩
  have r0 : w1.cell? ⟨w.heap.size, 0, none⟩ = some (.pointer (some ⟨b, 0, none⟩)) := x1.keep (by simp [go_sem])
  have X1 := hide ((unhide XA2).trans x1)
  have H1 := hide ((unhide H).ext (unhide X1))
  have QS := hide (sspeaks_any (x.c i) bn i bc w1 ((unhide H1).sb.nd i hin).2 ((unhide H1).rw.s i hin))
  clear x1 XA2 QA
  go_wp2_with fail
  refine (unhide QS).mono ?_
  rintro e w2 ⟨rfl, hw2⟩
  subst hw2
  cases q : spkB (x.c i)
  · have E := hide (show unit1 x = { x with hand := (i : Int) + 1 } by rw [unhide EU, q]; rfl)
    have c6 : w2.cell? ⟨b, 6, none⟩ = some (iv i) := by have := (unhide H1).sb.bx.2.2.2.2.2.2.1; rw [unhide HI] at this; exact this
    have f6 := (unhide H1).sb.nb.2 6
    have hb1 : b < w2.heap.size := cell_lt c6
    have hb2 : w.heap.size < w2.heap.size := cell_lt r0
    have FN := hide ((unhide H1).hand ((i : Int) + 1))
    have XN := hide ((hx.trans (unhide X1)).setCell (p := ⟨b, 6, none⟩) (show a.heap.size ≤ b by omega) (iv ((i : Int) + 1)))
    go_wp2_with fail
    go_ret
    exact ⟨by rw [unhide EP]; rfl, by rw [unhide E]; exact unhide FN, unhide XN⟩
  · have E := hide (show unit1 x = { shadeH x i with hand := (i : Int) + 1 } by rw [unhide EU, q]; rfl)
    go_wp2_with fail
    refine (sshade_fr i _ (unhide H1) hin (unhide GF) a ha (hx.trans (unhide X1))).mono ?_
    rintro e w3 ⟨rfl, h3, x3, fr⟩
    have hb2 : w.heap.size < w2.heap.size := cell_lt r0
    have hn : 0 < x.cells.length := by omega
    have hbc : bc < w.heap.size := ((unhide H).rw.nc hn).1.1
    have r3 : w3.cell? ⟨w.heap.size, 0, none⟩ = some (.pointer (some ⟨b, 0, none⟩)) := (World.cell?_of_block (a := ⟨w.heap.size, 0, none⟩) (unhide fr w.heap.size hb2 (by omega) (by omega))).trans r0
    have c6 : w3.cell? ⟨b, 6, none⟩ = some (iv i) := by have := (unhide h3).sb.bx.2.2.2.2.2.2.1; rw [(shade_same x i).2.2.2.2.2.2.1, unhide HI] at this; exact this
    have f6 := (unhide h3).sb.nb.2 6
    have hb1 : b < w3.heap.size := cell_lt c6
    have hb3 : w.heap.size < w3.heap.size := cell_lt r3
    have FN := hide ((unhide h3).hand ((i : Int) + 1))
    have XN := hide (x3.setCell (p := ⟨b, 6, none⟩) (show a.heap.size ≤ b by omega) (iv ((i : Int) + 1)))
    clear r0 fr
    go_wp2_with fail
    go_ret
    exact ⟨by rw [unhide EP]; rfl, by rw [unhide E]; exact unhide FN, unhide XN⟩
end Go.Proofs.YtkabcfhemljnbaaGreat

namespace Go.Proofs.YtkabcfhemljnbaaGreat
open Go.RowKit
attribute [local go_sem ↓] Go.wp_at_zero Go.wp_at_succ

/-! Words that are followed in the store. -/
theorem slead_lt {x : Hp} (r2 : R2 x) (i : Nat) (hi : i < x.cells.length) : lead x i < x.cells.length := by
  unfold lead
  split
  · rename_i h
    have hs : (x.c i).st = 2 := by simpa using h
    have := r2.1 i hi
    unfold CellOk MovedOk at this
    omega
  · exact hi
set_option maxRecDepth 100000 in
theorem sfollow_some {B : Nat} {w : World} {b : Nat} {x : Hp} {ar : Option Addr} {kr : Nat} {v4 v8 : Value} {br bc bn : Nat} {pb : Nat → Nat} {pa : Nat → Option Addr} {pk : Nat → Nat} {kn hd : Nat} {vf : Value} {F : List Int} {vk : Value} {K : List Nat} {role : Nat → Nat} (h : SAt B w b x ar kr v4 v8 br bc bn pb pa pk kn hd vf F vk K role) (r2 : R2 x) (i : Nat) (hi : i < x.cells.length) :
    Calls Tryz.prog 106 #[.pointer (some ⟨b, 0, none⟩), .agg #[iv 2, iv 0, iv i]] w fun e w' => e = .returned (ndp bn (lead x i)) ∧ Ext w w' := by
  have x1 := (Ext.refl w).alloc (.cells #[iv 2, iv 0, iv i] 90)
  have n13 := h.sb.n13
  obtain ⟨m0, m1⟩ := h.sb.nd i hi
  obtain ⟨p0, _, _, _, _, _, p6⟩ := h.rw.s i hi
  have QF := hide (fun W (e : Ext w W) => find_some ⟨2, 0, (i : Int)⟩ b x.cells.length bn 0 kn i W (by simp) (e.keep n13) hi)
  cases ts : ((x.c i).st == 2)
  · have L := hide (show lead x i = i by simp only [lead, ts]; simp)
    clear h r2 m0
    go_enter Tryz.func106, Tryz.ntmps106
    go_wp2_with fail
    refine (unhide QF _ x1).mono ?_
    rintro e w1 ⟨rfl, hq⟩
    rw [Nat.zero_add]
    have x2 := x1.trans hq
    have m1' := x2.keep m1
    have p0' := x2.keep p0
    clear m1 p0 n13 p6
    go_wp2_with fail
    go_ret
    exact ⟨by rw [unhide L]; rfl, x2⟩
  · have hs : (x.c i).st = 2 := by simpa using ts
    obtain ⟨t, ht⟩ : ∃ t : Nat, (x.c i).to = (t : Int) := ⟨(x.c i).to.toNat, by
      have := r2.1 i hi
      unfold CellOk MovedOk at this
      omega⟩
    have hti : t < i := by
      have := r2.1 i hi
      unfold CellOk MovedOk at this
      omega
    have L := hide (show lead x i = t by simp only [lead, ts]; simp [ht])
    rw [ht] at p6
    have t0 : (0 : Int) ≤ (t : Int) := by omega
    have t1 : (t : Int) < (x.cells.length : Int) := by omega
    clear h r2 m0 ht hs
    go_enter Tryz.func106, Tryz.ntmps106
    go_wp2_with fail
    refine (unhide QF _ x1).mono ?_
    rintro e w1 ⟨rfl, hq⟩
    rw [Nat.zero_add]
    have x2 := x1.trans hq
    have m1' := x2.keep m1
    have p0' := x2.keep p0
    have p6' := x2.keep p6
    have d13 := x2.keep n13
    clear m1 p0 n13 p6
    go_wp2_with fail
    go_quiet (fail)
    go_wp2_with fail
    go_ret
    exact ⟨by rw [unhide L]; rfl, x2.drewN _⟩
theorem sword_any (bn o : Nat) (pl : Int) (w : World) (m0 : w.cell? ⟨bn, o, none⟩ = some (iv pl)) :
    Calls Tryz.prog 241 #[.pointer (some ⟨bn, o, none⟩)] w fun e w' => e = .returned (.agg #[iv 2, iv 0, iv pl]) ∧ Ext w w' := by
  have hb : bn < w.heap.size := cell_lt m0
  go_enter Tryz.func241, Tryz.ntmps241
  go_wp2_with fail
  refine bodyPost_ret (v := .agg #[iv 2, iv 0, iv pl]) (by simp [results, Tryz.results241, go_sem]) rfl ⟨rfl, ?_⟩
  repeat (first | refine Ext.setCell ?_ (Nat.le_refl _) _ | exact (Ext.refl w).alloc _)
theorem sres_num (y : Wd) (b : Nat) (w : World) (k2 : (y.k == 2) = false) :
    Calls Tryz.prog 243 #[.pointer (some ⟨b, 0, none⟩), y.v] w fun e w' => e = .returned y.v ∧ Ext w w' := by
  have x1 := ((Ext.refl w).alloc (.cells #[iv y.k, iv y.n, iv y.a] 90)).alloc (.cells #[iv 0, iv 0, iv 0] 90)
  go_enter Tryz.func243, Tryz.ntmps243
  go_wp2_with fail
  refine (follow_none y b _ k2).mono ?_
  rintro e w1 ⟨rfl, hq⟩
  have x2 := x1.trans hq
  have z1 : w.heap.size + 1 < w1.heap.size := by have := hq.size; simp at this; omega
  have z0 : w.heap.size < w1.heap.size := by omega
  have hc1 := (bcell hq).1
  have hf1 := (bcell hq).2
  have v0 := hq.keep (b := w.heap.size) (o := 0) (v := iv y.k) (by simp [go_sem])
  have v1 := hq.keep (b := w.heap.size) (o := 1) (v := iv y.n) (by simp [go_sem])
  have v2 := hq.keep (b := w.heap.size) (o := 2) (v := iv y.a) (by simp [go_sem])
  have r0 := hq.keep (b := w.heap.size + 1) (o := 0) (v := iv 0) (by simp [go_sem])
  have r1 := hq.keep (b := w.heap.size + 1) (o := 1) (v := iv 0) (by simp [go_sem])
  have r2 := hq.keep (b := w.heap.size + 1) (o := 2) (v := iv 0) (by simp [go_sem])
  clear hq
  go_wp2_with fail
  refine bodyPost_ret (v := y.v) (by simp [results, Tryz.results243, go_sem, r0, r1, r2]) rfl ⟨rfl, ?_⟩
  repeat (first | refine Ext.setCell ?_ (by show w.heap.size ≤ w.heap.size + 1; omega) _ | exact x2)
set_option maxRecDepth 100000 in
theorem sres_at {B : Nat} {w : World} {b : Nat} {x : Hp} {ar : Option Addr} {kr : Nat} {v4 v8 : Value} {br bc bn : Nat} {pb : Nat → Nat} {pa : Nat → Option Addr} {pk : Nat → Nat} {kn hd : Nat} {vf : Value} {F : List Int} {vk : Value} {K : List Nat} {role : Nat → Nat} (h : SAt B w b x ar kr v4 v8 br bc bn pb pa pk kn hd vf F vk K role) (q2 : R2 x) (i : Nat) (hi : i < x.cells.length) :
    Calls Tryz.prog 243 #[.pointer (some ⟨b, 0, none⟩), .agg #[iv 2, iv 0, iv i]] w fun e w' => e = .returned (.agg #[iv 2, iv 0, iv (lead x i)]) ∧ Ext w w' := by
  have x1 := ((Ext.refl w).alloc (.cells #[iv 2, iv 0, iv i] 90)).alloc (.cells #[iv 0, iv 0, iv 0] 90)
  have HV := hide h
  have M0 := hide (h.sb.nd (lead x i) (slead_lt q2 i hi)).1
  clear h
  go_enter Tryz.func243, Tryz.ntmps243
  go_wp2_with fail
  refine (sfollow_some ((unhide HV).ext x1) q2 i hi).mono ?_
  rintro e w1 ⟨rfl, hq⟩
  have x2 := x1.trans hq
  have QH := hide hq
  clear hq
  go_wp2_with fail
  refine (sword_any bn (lead x i * 2) (lead x i) _ (x2.keep (unhide M0))).mono ?_
  rintro e w2 ⟨rfl, hq2⟩
  have x3 := x2.trans hq2
  have hq := (unhide QH).trans hq2
  have z1 : w.heap.size + 1 < w2.heap.size := by have := hq.size; simp at this; omega
  have hc1 := (bcell hq).1
  have hf1 := (bcell hq).2
  have r0 := hq.keep (b := w.heap.size + 1) (o := 0) (v := iv 0) (by simp [go_sem])
  have r1 := hq.keep (b := w.heap.size + 1) (o := 1) (v := iv 0) (by simp [go_sem])
  have r2 := hq.keep (b := w.heap.size + 1) (o := 2) (v := iv 0) (by simp [go_sem])
  clear hq hq2
  go_wp2_with fail
  refine bodyPost_ret (v := .agg #[iv 2, iv 0, iv (lead x i)]) (by simp [results, Tryz.results243, go_sem, r0, r1, r2]) rfl ⟨rfl, ?_⟩
  repeat (first | refine Ext.setCell ?_ (by show w.heap.size ≤ w.heap.size + 1; omega) _ | exact x3)
/-- what a word leads to, as the document says it -/
theorem sres_any {B : Nat} {w : World} {b : Nat} {x : Hp} {ar : Option Addr} {kr : Nat} {v4 v8 : Value} {br bc bn : Nat} {pb : Nat → Nat} {pa : Nat → Option Addr} {pk : Nat → Nat} {kn hd : Nat} {vf : Value} {F : List Int} {vk : Value} {K : List Nat} {role : Nat → Nat} (h : SAt B w b x ar kr v4 v8 br bc bn pb pa pk kn hd vf F vk K role) (q2 : R2 x) (y : Wd) (hy : Formed y x.cells.length) :
    Calls Tryz.prog 243 #[.pointer (some ⟨b, 0, none⟩), y.v] w fun e w' => e = .returned (resW x y).v ∧ Ext w w' := by
  cases q : (y.k == 2)
  · have e : resW x y = y := by
      unfold resW; rw [if_neg]; intro h; simp [h.1] at q
    rw [e]
    exact sres_num y b w q
  · have hk : y.k = 2 := by simpa using q
    obtain ⟨k, n, a⟩ := y
    simp only at hk
    subst hk
    unfold Formed at hy
    simp only at hy
    obtain ⟨i, rfl⟩ : ∃ i : Nat, a = (i : Int) := ⟨a.toNat, by omega⟩
    obtain rfl : n = 0 := by omega
    have hi : i < x.cells.length := by omega
    have ei : ((i : Int)).toNat = i := by omega
    have e : resW x ⟨2, 0, i⟩ = ⟨2, 0, lead x i⟩ := by
      unfold resW lead
      simp only [ei]
      by_cases h2 : (x.c i).st = 2
      · have ht : 0 ≤ (x.c i).to := by
          have := q2.1 i hi
          unfold CellOk MovedOk at this
          omega
        have et : (((x.c i).to.toNat : Nat) : Int) = (x.c i).to := by omega
        rw [if_pos ⟨trivial, h2⟩, if_pos (by simpa using h2), et]
      · rw [if_neg (fun h => h2 h.2), if_neg (by simpa using h2)]
    rw [e]
    exact sres_at h q2 i hi
end Go.Proofs.YtkabcfhemljnbaaGreat

namespace Go.Proofs.YtkabcfhemljnbaaGreat
open Go.RowKit
attribute [local go_sem ↓] Go.wp_at_zero Go.wp_at_succ

/-- a cell has moved -/
theorem SAt.move {B : Nat} {w w' : World} {b : Nat} {x : Hp} {ar : Option Addr} {kr : Nat} {v4 v8 : Value} {br bc bn : Nat} {pb : Nat → Nat} {pa : Nat → Option Addr} {pk : Nat → Nat} {kn hd : Nat} {vf : Value} {F : List Int} {vk : Value} {K : List Nat} {role : Nat → Nat} (h : SAt B w b x ar kr v4 v8 br bc bn pb pa pk kn hd vf F vk K role) (t f : Nat) (htf : t ≠ f) (ht : t < x.cells.length) (hf : f < x.cells.length) (o : Only (fun q => q = bc) w w') (nf : Nf1 bc w') (hs : S7 w' bc (t * 8) (x.c f)) (h7 : w'.cell? ⟨bc, t * 8 + 7, none⟩ = some (.slice (pa f) (x.c f).prs.length (pk f))) (gs : S7 w' bc (f * 8) (mvC t)) (g7 : w'.cell? ⟨bc, f * 8 + 7, none⟩ = some (.slice none 0 0))
    (ho : ∀ q, q < x.cells.length → q ≠ t → q ≠ f → ∀ k, k < 8 → w'.cell? ⟨bc, q * 8 + k, none⟩ = w.cell? ⟨bc, q * 8 + k, none⟩) :
    ∃ pb' pa' pk' role', SAt B w' b { x with cells := (x.cells.set t (x.c f)).set f (mvC t) } ar kr v4 v8 br bc bn pb' pa' pk' kn hd vf F vk K role' := by
  have hc : ∀ q, ({ x with cells := (x.cells.set t (x.c f)).set f (mvC t) } : Hp).c q = if q = f then mvC t else if q = t then x.c f else x.c q := fun q => by
    have h1 := Hp.c_set { x with cells := x.cells.set t (x.c f) } f (mvC t) (by simpa using hf) q
    have h2 := Hp.c_set x t (x.c f) ht q
    have e : ({ x with cells := (x.cells.set t (x.c f)).set f (mvC t) } : Hp) = { ({ x with cells := x.cells.set t (x.c f) } : Hp) with cells := ({ x with cells := x.cells.set t (x.c f) } : Hp).cells.set f (mvC t) } := rfl
    rw [e, h1]
    by_cases e1 : q = f
    · rw [if_pos e1, if_pos e1]
    · rw [if_neg e1, if_neg e1]; exact h2
  refine ⟨_, _, _, _, h.turned ((x.cells.set t (x.c f)).set f (mvC t)) (by simp) (fun q => if q = t then f else q) (fun q => if q = f then none else if q = t then pa f else pa q) (fun q => if q = f then 0 else if q = t then pk f else pk q) (fun d => if 0 < (x.c f).prs.length ∧ d = pb f then 6 + t else role d) (by omega) o nf (fun q hq => ?_) (fun q hq => ?_) (fun q hq hl => ?_) (fun d hb => ?_)⟩
  · rw [hc q]
    by_cases e1 : q = f
    · subst e1; rw [if_pos rfl]; exact gs
    · rw [if_neg e1]
      by_cases e2 : q = t
      · subst e2; rw [if_pos rfl]; exact hs
      · rw [if_neg e2]; exact (h.rw.s q hq).of fun j hj => ho q hq e2 e1 j (by omega)
  · rw [hc q]
    by_cases e1 : q = f
    · subst e1; simp only [if_true]; exact g7
    · simp only [if_neg e1]
      by_cases e2 : q = t
      · subst e2; simp only [if_true]; exact h7
      · simp only [if_neg e2]; rw [ho q hq e2 e1 7 (by omega)]; exact h.rw.p7 q hq
  · rw [hc q] at hl ⊢
    by_cases e1 : q = f
    · rw [if_pos e1] at hl; simp [mvC] at hl
    · rw [if_neg e1] at hl ⊢
      simp only [if_neg e1]
      by_cases e2 : q = t
      · rw [if_pos e2] at hl
        simp only [if_pos e2]
        exact ⟨hf, trivial, trivial, by rw [if_pos ⟨hl, trivial⟩, e2]⟩
      · rw [if_neg e2] at hl
        simp only [if_neg e2]
        refine ⟨hq, trivial, trivial, ?_⟩
        rw [if_neg (fun e => ?_)]
        · exact h.sp.p q hq hl
        · have r1 := h.sp.p q hq hl
          have r2 := h.sp.p f hf e.1
          rw [e.2] at r1; omega
  · by_cases e : 0 < (x.c f).prs.length ∧ d = pb f
    · have r2 := h.sp.p f hf e.1
      rw [← e.2] at r2; omega
    · rw [if_neg e]
theorem smove_world {B : Nat} {w : World} {b : Nat} {x : Hp} {ar : Option Addr} {kr : Nat} {v4 v8 : Value} {br bc bn : Nat} {pb : Nat → Nat} {pa : Nat → Option Addr} {pk : Nat → Nat} {kn hd : Nat} {vf : Value} {F : List Int} {vk : Value} {K : List Nat} {role : Nat → Nat} (h : SAt B w b x ar kr v4 v8 br bc bn pb pa pk kn hd vf F vk K role) (t f : Nat) (htf : t ≠ f) (ht : t < x.cells.length) (hf : f < x.cells.length) :
    ∃ pb' pa' pk' role', SAt B (wipeW (cellW w bc (t * 8) (x.c f) (.slice (pa f) (x.c f).prs.length (pk f))) bc (f * 8) 2 t) b (mvdH x t f) ar kr v4 v8 br bc bn pb' pa' pk' kn hd vf F vk K role' := by
  have hn : 0 < x.cells.length := by omega
  obtain ⟨k1, k2⟩ := cellW_same w bc (t * 8) (x.c f) (x.c t) (.slice (pa f) (x.c f).prs.length (pk f)) _ (h.rw.s t ht) (h.rw.p7 t ht)
  have o1 := cellW_other w bc (t * 8) (x.c f) (.slice (pa f) (x.c f).prs.length (pk f))
  have s2 : S7 (cellW w bc (t * 8) (x.c f) (.slice (pa f) (x.c f).prs.length (pk f))) bc (f * 8) (x.c f) := (h.rw.s f hf).of fun j hj => o1 _ (by omega)
  have s7 := (o1 (f * 8 + 7) (by omega)).trans (h.rw.p7 f hf)
  obtain ⟨m1, m2⟩ := wipe_same (cellW w bc (t * 8) (x.c f) (.slice (pa f) (x.c f).prs.length (pk f))) bc (f * 8) 2 t _ _ s2 s7
  have o2 := wipe_other (cellW w bc (t * 8) (x.c f) (.slice (pa f) (x.c f).prs.length (pk f))) bc (f * 8) 2 t
  refine h.move t f htf ht hf ((cellW_only _ _ _ _ _).trans (wipe_only _ _ _ _ _)) (wipe_nf (cellW_nf (h.rw.nc hn).1 _ _ _) _ _ _) ?_ ?_ m1 m2 (fun q hq h1 h2 k hk => ?_)
  · exact k1.of fun j hj => o2 _ (by omega)
  · rw [o2 _ (by omega)]; exact k2
  · rw [o2 _ (by omega), o1 _ (by omega)]
/-- j of the registers have followed -/
def rgR (x : Hp) (t f j : Nat) : Hp := { x with regs := (x.regs.take j).map (mvW t f) ++ x.regs.drop j }
theorem rgR_at (x : Hp) (t f j : Nat) (hj : j < x.regs.length) : ∃ h : j < (rgR x t f j).regs.length, (rgR x t f j).regs[j] = x.regs[j] := by
  have hl : j < (rgR x t f j).regs.length := by simp [rgR]; omega
  refine ⟨hl, ?_⟩
  simp only [rgR]
  rw [List.getElem_append_right (by simp; omega)]
  simp [Nat.min_eq_left (Nat.le_of_lt hj)]
theorem rgR_succ (x : Hp) (t f j : Nat) (hj : j < x.regs.length) : ({ rgR x t f j with regs := (rgR x t f j).regs.set j (mvW t f x.regs[j]) } : Hp) = rgR x t f (j + 1) := by
  have : (rgR x t f j).regs.set j (mvW t f x.regs[j]) = (rgR x t f (j + 1)).regs := by
    simp only [rgR]
    rw [List.set_append_right _ _ (by simp; omega), List.take_succ_eq_append_getElem hj, List.map_append]
    simp only [List.length_map, List.length_take, Nat.min_eq_left (Nat.le_of_lt hj), Nat.sub_self]
    have hd := List.drop_eq_getElem_cons hj
    rw [hd]
    simp only [List.set_cons_zero, List.map_cons, List.map_nil, List.append_assoc, List.singleton_append]
  rw [this]; rfl
theorem rgR_same (x : Hp) (t f j : Nat) (hj : j < x.regs.length) (h : mvW t f x.regs[j] = x.regs[j]) : rgR x t f (j + 1) = rgR x t f j := by
  rw [← rgR_succ x t f j hj, h]
  obtain ⟨hl, e⟩ := rgR_at x t f j hj
  rw [← e]; simp
theorem rgR_zero (x : Hp) (t f : Nat) : rgR x t f 0 = x := by simp [rgR]
theorem rgR_all (x : Hp) (t f : Nat) : mvdH (rgR x t f x.regs.length) t f = moveH x t f := by simp [rgR, mvdH, moveH, Hp.c]
end Go.Proofs.YtkabcfhemljnbaaGreat

namespace Go.Proofs.YtkabcfhemljnbaaGreat
open Go.RowKit
theorem ptr_nil (bn o : Nat) (w : World) : (binOp .eql 103 (.pointer none) (.pointer (some ⟨bn, o, none⟩))).run Tryz.prog w = .ok (.bool false) w := by kernel_rfl
theorem psame_block {P : Program} (w : World) (bn p q : Nat) : (sameAddr ⟨bn, p, none⟩ ⟨bn, q, none⟩).run P w = .ok (p == q) w := by
  have : ((⟨bn, p, none⟩ : Addr) == ⟨bn, q, none⟩) = (p == q) := by
    rw [Bool.eq_iff_iff]; simp
  simp [sameAddr, this]
theorem pequalIn {P : Program} (w : World) (d : Nat) (t e : TypeId) (i : TypeInfo) (ht : P.underlying t = some (.pointer e)) (hi : P.info? e = some i) (hs : i.size ≠ 0) (bn p q : Nat) :
    (Op.equalIn (d + 1) t (.pointer (some ⟨bn, p, none⟩)) (.pointer (some ⟨bn, q, none⟩))).run P w = .ok (p == q) w := by
  simp [Op.equalIn, run_underlying ht, sizeOf, typeInfo, hi, hs, psame_block]
theorem infoNodeP : (Tryz.prog.info? 99).map (fun i => i.size) = some 2 := by kernel_rfl
theorem ptr_eq (bn p q : Nat) (w : World) : (binOp .eql 103 (.pointer (some ⟨bn, p, none⟩)) (.pointer (some ⟨bn, q, none⟩))).run Tryz.prog w = .ok (.bool (p == q)) w := by
  obtain ⟨i, hi, hs⟩ : ∃ i, Tryz.prog.info? 99 = some i ∧ i.size = 2 := by
    have := infoNodeP
    cases h : Tryz.prog.info? 99 with
    | none => rw [h] at this; simp at this
    | some i => rw [h] at this; simp at this; exact ⟨i, rfl, this⟩
  have he : (Op.equalIn 10000 103 (.pointer (some ⟨bn, p, none⟩)) (.pointer (some ⟨bn, q, none⟩))).run Tryz.prog w = .ok (p == q) w := by
    exact pequalIn w 9999 103 99 i Tryz.underlying103 hi (by omega) bn p q
  simp only [binOp]
  simp [Op.equal, Op.maxDepth, he]
theorem ptr_no (bn p q : Nat) (w : World) (h : ¬ p = q) : (binOp .eql 103 (.pointer (some ⟨bn, p, none⟩)) (.pointer (some ⟨bn, q, none⟩))).run Tryz.prog w = .ok (.bool false) w := by
  rw [ptr_eq, beq_eq_false_iff_ne.2 h]
theorem ptr_yes (bn p : Nat) (w : World) : (binOp .eql 103 (.pointer (some ⟨bn, p, none⟩)) (.pointer (some ⟨bn, p, none⟩))).run Tryz.prog w = .ok (.bool true) w := by
  rw [ptr_eq]; simp
end Go.Proofs.YtkabcfhemljnbaaGreat
