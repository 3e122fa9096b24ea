import Derived.Test.YtbcmjcomdjdjaaaGreatDn4
import Derived.Test.YtbcmjcomdjdjaaaGreatRes
import Derived.Test.YtbcmjcomdjdjaaaGreatImpT
import Derived.Test.YtbcmjcomdjdjaaaGreatTo2
import Derived.Test.YtbcmjcomdjdjaaaGreatSz
import Derived.Test.YtbcmjcomdjdjaaaGreatEq
import Derived.Deep.RegionWith
namespace Go.Proofs.YtbcmjcomdjdjaaaGreat
open Go.RowKit
attribute [local go_sem ↓] Go.wp_at_zero Go.wp_at_succ

set_option maxRecDepth 100000 in
set_option maxHeartbeats 2000000 in
theorem implNextDue_any (x : Hp) (w : World) {ar : Option Addr} {kr : Nat} {ac : Option Addr} {kc : Nat} {ag : Option Addr} {kg : Nat} (hR : SlW w (.slice ar x.regs.length kr) x.regs) (hC : SlC w (.slice ac x.cells.length kc) x.cells) (hG : SlI w (.slice ag x.gray.length kg) x.gray) (hcap : CapAt w x ac) :
    Calls Tryz.prog 12 #[x.v (.slice ar x.regs.length kr) (.slice ac x.cells.length kc) (.slice ag x.gray.length kg)] w fun e w' => ∃ r : Int, Hid (e = .returned (.int .i64 r)) ∧ Hid (DueIs x r) ∧ Ext w w' := by
  have x1 := (Ext.refl w).alloc (.cells #[iv x.room, iv x.used, iv x.born, .slice ar x.regs.length kr, .slice ac x.cells.length kc, iv x.phase, iv x.hand, iv x.sub, .slice ag x.gray.length kg, iv x.per, iv x.start, iv x.rounds, iv x.forced] 32)
  have S1 := hide (SlW.ext x1 hR)
  have S2 := hide (SlC.ext x1 hC)
  have S3 := hide (SlI.ext x1 hG)
  have S4 := hide (hcap.extS hC x1)
  clear hR hC hG hcap
  go_enter Tryz.func12, Tryz.ntmps12
  go_wp2_with fail
  refine (sound_any x _ (unhide S1) (unhide S2) (unhide S3) (unhide S4)).mono ?_
  rintro e w2 ⟨hq, hor⟩
  have x2 := x1.trans hq
  rcases unhide hor with ⟨hn, rfl⟩ | ⟨hok, b, an, kn, rfl, hv, han⟩
  · have N := hide (show DueIs x (-1) from .inr ⟨hn, rfl⟩)
    clear hor hn
    go_wp2_with fail
    go_ret
    exact ⟨-1, rfl, unhide N, x2⟩
  · obtain ⟨bn, on, rfl⟩ := unhide han
    have OK := hide hok
    have V := hide hv
    clear hor hok hv han
    go_wp2_with fail
    refine (nextDue_any x b _ bn on (unhide V) (unhide OK).n8).mono ?_
    rintro e w3 ⟨v, rfl, hr, hq3⟩
    have x3 := x2.trans hq3
    rcases hr with ⟨rfl, hd⟩ | ⟨y, rfl, hd, hy⟩
    · have D := hide (show DueIs x (-1) from .inl ⟨unhide OK, hd⟩)
      clear hd
      go_wp2_with fail
      go_ret
      exact ⟨-1, rfl, unhide D, x3⟩
    · have D := hide (show DueIs x y from .inl ⟨unhide OK, hd⟩)
      obtain ⟨bn', on', bc', oc', e2, e3, m0, _⟩ := ((unhide V).ext hq3).N y hy
      cases e2
      clear hd e3
      go_wp2_with fail
      go_ret
      exact ⟨y, rfl, unhide D, x3⟩
end Go.Proofs.YtbcmjcomdjdjaaaGreat

namespace Go.Proofs.YtbcmjcomdjdjaaaGreat
open Go.RowKit

theorem CapAt.of {B : Nat} {w : World} {x : Hp} {ac : Option Addr} {kc : Nat} (h : SlCF B w (.slice ac x.cells.length kc) x.cells) : CapAt w x ac := fun i hi bc oc ad l c ha hc => by
  obtain ⟨ad', cap', hv, _, hx⟩ := h.1
  obtain ⟨b', o', e, vp, _, _, _, _, _, _, _, p7, hP, hF⟩ := hx i hi
  simp only [Value.slice.injEq] at hv
  rw [← hv.1, ha] at e
  cases e
  rw [p7] at hc
  cases hc
  obtain ⟨ad2, cap2, hv2, _, hx2⟩ := hP
  simp only [Value.slice.injEq] at hv2
  rcases Nat.eq_zero_or_pos l with h0 | h0
  · exact .inr h0
  · obtain ⟨b2, o2, e2, _⟩ := hx2 0 (by omega)
    rw [← hv2.1] at e2
    exact .inl (hF.1.1 b2 o2 l c (by rw [e2])).2

theorem slW_form {w : World} {v : Value} {xs : List Wd} (h : SlW w v xs) : ∃ a k, v = .slice a xs.length k := let ⟨a, k, e, _⟩ := h; ⟨a, k, e⟩
theorem slC_form {w : World} {v : Value} {xs : List Cl} (h : SlC w v xs) : ∃ a k, v = .slice a xs.length k := let ⟨a, k, e, _⟩ := h; ⟨a, k, e⟩
theorem slI_form {w : World} {v : Value} {xs : List Int} (h : SlI w v xs) : ∃ a k, v = .slice a xs.length k := let ⟨a, k, e, _⟩ := h; ⟨a, k, e⟩
end Go.Proofs.YtbcmjcomdjdjaaaGreat

namespace Go.Proofs.YtbcmjcomdjdjaaaGreat
open Go.RowKit
attribute [local go_sem ↓] Go.wp_at_zero Go.wp_at_succ

set_option maxRecDepth 100000 in
set_option maxHeartbeats 4000000 in
theorem ndLaw_any (x : Hp) (vr vc vg : Value) (w : World) (hR : SlW w vr x.regs) (hC : SlC w vc x.cells) (hG : SlI w vg x.gray) :
    Calls Tryz.prog 4 #[x.v vr vc vg] w fun e w' => e = .returned (.bool true) ∧ Ext w w' := by
  have x0 := (Ext.refl w).alloc (.cells #[iv x.room, iv x.used, iv x.born, vr, vc, iv x.phase, iv x.hand, iv x.sub, vg, iv x.per, iv x.start, iv x.rounds, iv x.forced] 26)
  have S := hide (And.intro (SlW.ext x0 hR) (And.intro (SlC.ext x0 hC) (SlI.ext x0 hG)))
  obtain ⟨ar, kr, rfl⟩ := slW_form hR
  obtain ⟨ac, kc, rfl⟩ := slC_form hC
  obtain ⟨ag, kg, rfl⟩ := slI_form hG
  clear hR hC hG
  go_enter Tryz.func4, Tryz.ntmps4
  go_wp2_with fail
  refine (szHeap_any x _ _ _ 1048576 _ (unhide S).1 (unhide S).2.1 (unhide S).2.2 (by omega) (by omega)).mono ?_
  rintro e w1 ⟨r, rfl, hr, q1⟩
  have x1 := x0.trans q1
  have hc1 := (bcell q1).1
  rcases hr with ⟨hr0, hr1⟩ | hr
  rotate_left
  · subst hr
    clear hc1
    go_wp2_with fail
    go_ret
    exact ⟨rfl, x1⟩
  have hr2 : ¬ r < 0 := by omega
  have n1 : x.regs.length ≤ 1048576 := by omega
  have n2 : x.cells.length ≤ 1048576 := by omega
  have n3 : prsum x.cells ≤ 1048576 := by omega
  have n4 : x.gray.length ≤ 1048576 := by omega
  clear hr1
  go_wp2_with fail
  refine (toHeap_any x _ _ _ _ (SlW.ext q1 (unhide S).1) (SlC.ext q1 (unhide S).2.1) (SlI.ext q1 (unhide S).2.2) n1 n2 n3 n4).mono ?_
  rintro e w2 ⟨vr2, vc2, vg2, rfl, hF2, q2⟩
  obtain ⟨ar2, kr2, rfl⟩ := slW_form hF2.1.1
  obtain ⟨ac2, kc2, rfl⟩ := slC_form hF2.2.1.sl
  obtain ⟨ag2, kg2, rfl⟩ := slI_form hF2.2.2.1
  have H2 := hide hF2
  clear hF2
  go_wp2_with fail
  refine (specNextDue_any x _ (unhide H2).1.1 (unhide H2).2.1.sl (unhide H2).2.2.1).mono ?_
  rintro e w3 ⟨n, rfl, ok3, q3⟩
  have OK3 := hide (unhide ok3)
  have e13 : Ext w1 w3 := q2.trans q3
  have hc3 := (bcell e13).1
  have z3 : w.heap.size < w1.heap.size := by have := q1.size; simp at this; omega
  clear ok3
  go_wp2_with fail
  have eS : Ext (w.alloc (.cells #[iv x.room, iv x.used, iv x.born, .slice ar x.regs.length kr, .slice ac x.cells.length kc, iv x.phase, iv x.hand, iv x.sub, .slice ag x.gray.length kg, iv x.per, iv x.start, iv x.rounds, iv x.forced] 26)) w3 := q1.trans e13
  refine (toHeap_any x _ _ _ _ (SlW.ext eS (unhide S).1) (SlC.ext eS (unhide S).2.1) (SlI.ext eS (unhide S).2.2) n1 n2 n3 n4).mono ?_
  rintro e w4 ⟨vr4, vc4, vg4, rfl, hF4, q4⟩
  obtain ⟨ar4, kr4, rfl⟩ := slW_form hF4.1.1
  obtain ⟨ac4, kc4, rfl⟩ := slC_form hF4.2.1.sl
  obtain ⟨ag4, kg4, rfl⟩ := slI_form hF4.2.2.1
  have H4 := hide hF4
  clear hF4
  go_wp2_with fail
  have xA : Ext w4 (w4.alloc (.cells #[iv x.room, iv x.used, iv x.born, .slice ar4 x.regs.length kr4, .slice ac4 x.cells.length kc4, iv x.phase, iv x.hand, iv x.sub, .slice ag4 x.gray.length kg4, iv x.per, iv x.start, iv x.rounds, iv x.forced] 32)) := (Ext.refl w4).alloc _
  refine (implNextDue_any x _ (SlW.ext xA (unhide H4).1.1) (SlC.ext xA (unhide H4).2.1.sl) (SlI.ext xA (unhide H4).2.2.1) (CapAt.of ((unhide H4).2.1.ext xA))).mono ?_
  rintro e w5 ⟨n5, rfl, ok5, q5⟩
  obtain rfl : n5 = n := DueIs.uniq (unhide ok5) (unhide OK3)
  have e45 : Ext w4 w5 := xA.trans q5
  have e35 : Ext w3 w5 := q4.trans e45
  have eS5 : Ext (w.alloc (.cells #[iv x.room, iv x.used, iv x.born, .slice ar x.regs.length kr, .slice ac x.cells.length kc, iv x.phase, iv x.hand, iv x.sub, .slice ag x.gray.length kg, iv x.per, iv x.start, iv x.rounds, iv x.forced] 26)) w5 := eS.trans e35
  have Z := hide (And.intro (x1.trans (e13.trans e35)) (And.intro ((unhide H4).ext e45) (And.intro (SlW.ext eS5 (unhide S).1) (And.intro (SlC.ext eS5 (unhide S).2.1) (SlI.ext eS5 (unhide S).2.2)))))
  have hb0 : w.heap.size < w5.heap.size := by have := eS5.size; simp at this; omega
  have hb4 : w4.heap.size < w5.heap.size := by have := q5.size; simp at this; omega
  have u0 : w5.cell? ⟨w4.heap.size, 0, none⟩ = some (iv x.room) := q5.keep (by simp [go_sem])
  have u1 : w5.cell? ⟨w4.heap.size, 1, none⟩ = some (iv x.used) := q5.keep (by simp [go_sem])
  have u2 : w5.cell? ⟨w4.heap.size, 2, none⟩ = some (iv x.born) := q5.keep (by simp [go_sem])
  have u3 : w5.cell? ⟨w4.heap.size, 3, none⟩ = some (.slice ar4 x.regs.length kr4) := q5.keep (by simp [go_sem])
  have u4 : w5.cell? ⟨w4.heap.size, 4, none⟩ = some (.slice ac4 x.cells.length kc4) := q5.keep (by simp [go_sem])
  have u5 : w5.cell? ⟨w4.heap.size, 5, none⟩ = some (iv x.phase) := q5.keep (by simp [go_sem])
  have u6 : w5.cell? ⟨w4.heap.size, 6, none⟩ = some (iv x.hand) := q5.keep (by simp [go_sem])
  have u7 : w5.cell? ⟨w4.heap.size, 7, none⟩ = some (iv x.sub) := q5.keep (by simp [go_sem])
  have u8 : w5.cell? ⟨w4.heap.size, 8, none⟩ = some (.slice ag4 x.gray.length kg4) := q5.keep (by simp [go_sem])
  have u9 : w5.cell? ⟨w4.heap.size, 9, none⟩ = some (iv x.per) := q5.keep (by simp [go_sem])
  have u10 : w5.cell? ⟨w4.heap.size, 10, none⟩ = some (iv x.start) := q5.keep (by simp [go_sem])
  have u11 : w5.cell? ⟨w4.heap.size, 11, none⟩ = some (iv x.rounds) := q5.keep (by simp [go_sem])
  have u12 : w5.cell? ⟨w4.heap.size, 12, none⟩ = some (iv x.forced) := q5.keep (by simp [go_sem])
  have t0 : w5.cell? ⟨w.heap.size, 0, none⟩ = some (iv x.room) := eS5.keep (by simp [go_sem])
  have t1 : w5.cell? ⟨w.heap.size, 1, none⟩ = some (iv x.used) := eS5.keep (by simp [go_sem])
  have t2 : w5.cell? ⟨w.heap.size, 2, none⟩ = some (iv x.born) := eS5.keep (by simp [go_sem])
  have t3 : w5.cell? ⟨w.heap.size, 3, none⟩ = some (.slice ar x.regs.length kr) := eS5.keep (by simp [go_sem])
  have t4 : w5.cell? ⟨w.heap.size, 4, none⟩ = some (.slice ac x.cells.length kc) := eS5.keep (by simp [go_sem])
  have t5 : w5.cell? ⟨w.heap.size, 5, none⟩ = some (iv x.phase) := eS5.keep (by simp [go_sem])
  have t6 : w5.cell? ⟨w.heap.size, 6, none⟩ = some (iv x.hand) := eS5.keep (by simp [go_sem])
  have t7 : w5.cell? ⟨w.heap.size, 7, none⟩ = some (iv x.sub) := eS5.keep (by simp [go_sem])
  have t8 : w5.cell? ⟨w.heap.size, 8, none⟩ = some (.slice ag x.gray.length kg) := eS5.keep (by simp [go_sem])
  have t9 : w5.cell? ⟨w.heap.size, 9, none⟩ = some (iv x.per) := eS5.keep (by simp [go_sem])
  have t10 : w5.cell? ⟨w.heap.size, 10, none⟩ = some (iv x.start) := eS5.keep (by simp [go_sem])
  have t11 : w5.cell? ⟨w.heap.size, 11, none⟩ = some (iv x.rounds) := eS5.keep (by simp [go_sem])
  have t12 : w5.cell? ⟨w.heap.size, 12, none⟩ = some (iv x.forced) := eS5.keep (by simp [go_sem])
  have hnn : (n5 != n5) = false := by simp
  clear H2 H4 S OK3 ok5 hc1 hc3 x0 x1 q1 q2 q3 q4 q5 xA e13 e45 e35 eS eS5 z3
  go_wp2_with fail
  go_region_with (first | (go_at_call 8; refine (toHeap_any x _ _ _ _ (SlW.ext ((Ext.refl w5).drew) (unhide Z).2.2.1) (SlC.ext ((Ext.refl w5).drew) (unhide Z).2.2.2.1) (SlI.ext ((Ext.refl w5).drew) (unhide Z).2.2.2.2) n1 n2 n3 n4).mono ?_; rintro e w6 ⟨vr6, vc6, vg6, rfl, hF6, q6⟩; have F6 := hide (And.intro hF6 (Ext.trans ((Ext.refl w5).drew) q6)); clear hF6; have hc6 := (bcell q6).1; clear q6; simp only [World.size_drew] at hc6) | (go_at_call 10; refine (eqHeap_same x _ _ _ _ _ _ _ (SlW.ext (unhide F6).2 (unhide Z).2.1.1.1) (unhide F6).1.1.1 (SlC.ext (unhide F6).2 (unhide Z).2.1.2.1.sl) (unhide F6).1.2.1.sl (SlI.ext (unhide F6).2 (unhide Z).2.1.2.2.1) (unhide F6).1.2.2.1).mono ?_; rintro e w7 ⟨rfl, q7⟩))
  all_goals
    go_wp2_with fail
    go_ret
    exact ⟨rfl, ((unhide Z).1.trans (unhide F6).2).trans q7⟩
end Go.Proofs.YtbcmjcomdjdjaaaGreat
