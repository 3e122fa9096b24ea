import Derived.Test.YtkabcfhemljnbaaGreatQes
import Derived.Test.YtkabcfhemljnbaaGreatSq
import Derived.Deep.RegionWith
import Derived.Test.YtkabcfhemljnbaaGreatRes
import Derived.Test.YtkabcfhemljnbaaGreatTo3
import Derived.Test.YtkabcfhemljnbaaGreatPu
import Derived.Test.YtkabcfhemljnbaaGreatHc
import Derived.Test.YtkabcfhemljnbaaGreatEq
import Derived.Deep.DeepCutAuto
import Derived.Test.YtkabcfhemljnbaaGreatLm
import Derived.SizedLaws
import Derived.OpenShut
import Derived.Deep.Slices
namespace Go.Proofs.YtkabcfhemljnbaaGreat
open Go.RowKit
attribute [local go_sem ↓] Go.wp_at_zero Go.wp_at_succ

set_option maxRecDepth 100000 in
set_option maxHeartbeats 4000000 in
theorem implStep_any (x : Hp) (n : Int) (w : World) {ar : Option Addr} {kr : Nat} {ac : Option Addr} {kc : Nat} {ag : Option Addr} {kg : Nat} (hR : SlW w (.slice ar x.regs.length kr) x.regs) (hC : SlC w (.slice ac x.cells.length kc) x.cells) (hG : SlI w (.slice ag x.gray.length kg) x.gray) (hcap : CapAt w x ac) :
    Calls Tryz.prog 36 #[x.v (.slice ar x.regs.length kr) (.slice ac x.cells.length kc) (.slice ag x.gray.length kg), .int .i64 n] w fun e w' => ∃ (y : Hp) (k : Nat) (ar : Option Addr) (kr : Nat) (ac : Option Addr) (kc : Nat) (ag : Option Addr) (kg : Nat), Hid (e = .returned (stpV y k (.slice ar y.regs.length kr) (.slice ac y.cells.length kc) (.slice ag y.gray.length kg))) ∧ Hid (StIs x n y k) ∧ Hid (HA w.heap.size w'.heap.size w' y ar kr ac kc ag kg) ∧ Ext w w' := by
  have x1 : Ext w ((w.alloc (.cells #[iv x.room, iv x.used, iv x.born, .slice ar x.regs.length kr, .slice ac x.cells.length kc, iv x.phase, iv x.hand, iv x.sub, .slice ag x.gray.length kg, iv x.per, iv x.start, iv x.rounds, iv x.forced] 33)).alloc (.cells #[iv 0, iv 0, iv 0, .slice none 0 0, .slice none 0 0, iv 0, iv 0, iv 0, .slice none 0 0, iv 0, iv 0, iv 0, iv 0, iv 0] 50)) := ((Ext.refl w).alloc _).alloc _
  have S1 := hide (SlW.ext x1 hR)
  have S2 := hide (SlC.ext x1 hC)
  have S3 := hide (SlI.ext x1 hG)
  have S4 := hide (hcap.extS hC x1)
  have hs2 : ((w.alloc (.cells #[iv x.room, iv x.used, iv x.born, .slice ar x.regs.length kr, .slice ac x.cells.length kc, iv x.phase, iv x.hand, iv x.sub, .slice ag x.gray.length kg, iv x.per, iv x.start, iv x.rounds, iv x.forced] 33)).alloc (.cells #[iv 0, iv 0, iv 0, .slice none 0 0, .slice none 0 0, iv 0, iv 0, iv 0, .slice none 0 0, iv 0, iv 0, iv 0, iv 0, iv 0] 50)).heap.size = w.heap.size + 2 := by simp
  clear hR hC hG hcap
  go_enter Tryz.func36, Tryz.ntmps36
  go_wp2_with fail
  refine (sound_any x _ (unhide S1) (unhide S2) (unhide S3) (unhide S4)).mono ?_
  rintro e w2 ⟨hq, hor⟩
  have x2 := x1.trans hq
  have RC := hide (show ∀ o v, ((w.alloc (.cells #[iv x.room, iv x.used, iv x.born, .slice ar x.regs.length kr, .slice ac x.cells.length kc, iv x.phase, iv x.hand, iv x.sub, .slice ag x.gray.length kg, iv x.per, iv x.start, iv x.rounds, iv x.forced] 33)).alloc (.cells #[iv 0, iv 0, iv 0, .slice none 0 0, .slice none 0 0, iv 0, iv 0, iv 0, .slice none 0 0, iv 0, iv 0, iv 0, iv 0, iv 0] 50)).cell? ⟨w.heap.size + 1, o, none⟩ = some v → w2.cell? ⟨w.heap.size + 1, o, none⟩ = some v from fun o v h => hq.keep h)
  have RCF := hide (show ∀ o, w2.frozen? ⟨w.heap.size + 1, o, none⟩ = false from fun o => ((bcell hq).2 (w.heap.size + 1) o (by rw [hs2]; omega)).trans (by simp [go_sem]))
  have hz2 : w.heap.size + 2 ≤ w2.heap.size := by have := hq.size; omega
  have rc := unhide RC
  have rcF := unhide RCF
  have r0 := rc 0 (iv 0) (by simp [go_sem])
  have r1 := rc 1 (iv 0) (by simp [go_sem])
  have r2 := rc 2 (iv 0) (by simp [go_sem])
  have r3 := rc 3 (.slice none 0 0) (by simp [go_sem])
  have r4 := rc 4 (.slice none 0 0) (by simp [go_sem])
  have r5 := rc 5 (iv 0) (by simp [go_sem])
  have r6 := rc 6 (iv 0) (by simp [go_sem])
  have r7 := rc 7 (iv 0) (by simp [go_sem])
  have r8 := rc 8 (.slice none 0 0) (by simp [go_sem])
  have r9 := rc 9 (iv 0) (by simp [go_sem])
  have r10 := rc 10 (iv 0) (by simp [go_sem])
  have r11 := rc 11 (iv 0) (by simp [go_sem])
  have r12 := rc 12 (iv 0) (by simp [go_sem])
  have r13 := rc 13 (iv 0) (by simp [go_sem])
  have f0 := rcF 0
  have f1 := rcF 1
  have f2 := rcF 2
  have f3 := rcF 3
  have f4 := rcF 4
  have f5 := rcF 5
  have f6 := rcF 6
  have f7 := rcF 7
  have f8 := rcF 8
  have f9 := rcF 9
  have f10 := rcF 10
  have f11 := rcF 11
  have f12 := rcF 12
  have f13 := rcF 13
  have hr0 : w.heap.size + 1 < w2.heap.size := cell_lt r0
  clear hq rc rcF
  rcases unhide hor with ⟨hn, rfl⟩ | ⟨hok, b, an, kn, rfl, hv, han⟩
  · have N := hide (show StIs x n Hp0 0 from .inr ⟨fun h => hn h.1, rfl, rfl⟩)
    clear hor hn
    go_wp2_with fail
    refine bodyPost_ret (v := stpV Hp0 0 (.slice none 0 0) (.slice none 0 0) (.slice none 0 0)) (by simp [results, Tryz.results36, go_sem, Hp0, r0, r1, r2, r3, r4, r5, r6, r7, r8, r9, r10, r11, r12, r13]) rfl ⟨Hp0, 0, none, 0, none, 0, none, 0, rfl, unhide N, HA.zero _ _ _, ?_⟩
    refine (fun (F : Only (fun q => q = w.heap.size + 1) w2 _) => F.ext x2 (fun q hq e => by omega)) ?_
    repeat (first | refine Only.setCell ?_ (by simp) _ | exact Only.refl _ _)
  · have OK := hide hok
    have V := hide hv
    clear hor hok hv han
    go_wp2_with fail
    by_cases hin : 0 ≤ n ∧ n ≤ 100000
    · obtain ⟨m, hm⟩ : ∃ m : Nat, n = (m : Int) := ⟨n.toNat, by omega⟩
      subst hm
      have hm1 : m ≤ 100000 := by omega
      refine (within_in (m : Int) 0 100000 _ (by omega) (by omega)).mono ?_
      rintro e w3 ⟨rfl, rfl⟩
      have OKS := hide (show StOk x (m : Int) from ⟨unhide OK, by omega, by omega⟩)
      have GF := hide (gray_fit (unhide OK))
      have SN := hide (unhide OK).snd
      clear hin
      go_wp2_with fail
      refine (owned_any x b _ (unhide V) (unhide OK).all.1 (unhide OK).all.2.1 (unhide OK).r5 (unhide GF).1).mono ?_
      rintro e w4 ⟨s, rfl, hs, x4⟩
      have ST := hide ((unhide hs).soq (unhide SN))
      clear hs
      go_wp2_with fail
      refine (step_any m (unhide ST) (by omega) (unhide SN) hm1 w3 (Nat.le_refl _) x4).mono ?_
      rintro e w5 ⟨k, rfl, st, h5, x5⟩
      have SY := hide (show Snd (itU k (stepH x m)) from (show Snd (stepH x m) by unfold stepH; split; exact (unhide SN).begin (by rename_i h; exact h.1); exact unhide SN).itU k)
      have IS := hide (show StIs x (m : Int) (itU k (stepH x m)) k from .inl ⟨unhide OKS, by simpa using unhide st, by simp⟩)
      obtain ⟨y, hy⟩ : ∃ y, y = itU k (stepH x m) := ⟨_, rfl⟩
      rw [← hy] at h5 SY IS
      have QT := hide (told_soq (unhide h5) (unhide SY) x5.size)
      clear hy st ST
      go_wp2_with fail
      refine (unhide QT).mono ?_
      rintro e w6 ⟨br, kr4, bcN, bgN, pb, pa, pk, rfl, h6, x6⟩
      have X36 := x5.trans x6
      have X6 := x2.trans X36
      have e0 := X36.keep r0
      have e1 := X36.keep r1
      have e2 := X36.keep r2
      have e3 := X36.keep r3
      have e4 := X36.keep r4
      have e5 := X36.keep r5
      have e6 := X36.keep r6
      have e7 := X36.keep r7
      have e8 := X36.keep r8
      have e9 := X36.keep r9
      have e10 := X36.keep r10
      have e11 := X36.keep r11
      have e12 := X36.keep r12
      have e13 := X36.keep r13
      have g0 := ((bcell X36).2 (w.heap.size + 1) 0 hr0).trans f0
      have g1 := ((bcell X36).2 (w.heap.size + 1) 1 hr0).trans f1
      have g2 := ((bcell X36).2 (w.heap.size + 1) 2 hr0).trans f2
      have g3 := ((bcell X36).2 (w.heap.size + 1) 3 hr0).trans f3
      have g4 := ((bcell X36).2 (w.heap.size + 1) 4 hr0).trans f4
      have g5 := ((bcell X36).2 (w.heap.size + 1) 5 hr0).trans f5
      have g6 := ((bcell X36).2 (w.heap.size + 1) 6 hr0).trans f6
      have g7 := ((bcell X36).2 (w.heap.size + 1) 7 hr0).trans f7
      have g8 := ((bcell X36).2 (w.heap.size + 1) 8 hr0).trans f8
      have g9 := ((bcell X36).2 (w.heap.size + 1) 9 hr0).trans f9
      have g10 := ((bcell X36).2 (w.heap.size + 1) 10 hr0).trans f10
      have g11 := ((bcell X36).2 (w.heap.size + 1) 11 hr0).trans f11
      have g12 := ((bcell X36).2 (w.heap.size + 1) 12 hr0).trans f12
      have g13 := ((bcell X36).2 (w.heap.size + 1) 13 hr0).trans f13
      have hr4 : w.heap.size + 1 < w6.heap.size := cell_lt e0
      have RW := hide (show ∀ W, Only (fun q => q = w.heap.size + 1) w6 W → HA w.heap.size W.heap.size W y (some ⟨br, 0, none⟩) kr4 (some ⟨bcN, 0, none⟩) y.cells.length (some ⟨bgN, 0, none⟩) y.gray.length from fun W o => by
        have := ((unhide h6).only o (fun q h1 h2 e => by omega)).grow (Nat.le_trans (Nat.le_refl _) o.size) (show w.heap.size ≤ w3.heap.size by omega)
        exact .inr ⟨_, _, _, _, _, _, rfl, rfl, rfl, this⟩)
      clear h6 r0 r1 r2 r3 r4 r5 r6 r7 r8 r9 r10 r11 r12 r13 f0 f1 f2 f3 f4 f5 f6 f7 f8 f9 f10 f11 f12 f13
      go_wp2_with fail
      refine bodyPost_ret (v := stpV y k (.slice (some ⟨br, 0, none⟩) y.regs.length kr4) (.slice (some ⟨bcN, 0, none⟩) y.cells.length y.cells.length) (.slice (some ⟨bgN, 0, none⟩) y.gray.length y.gray.length)) (by simp [results, Tryz.results36, go_sem, e0, e1, e2, e3, e4, e5, e6, e7, e8, e9, e10, e11, e12, e13]) rfl ⟨y, k, _, _, _, _, _, _, rfl, unhide IS, ?_⟩
      refine (fun (F : Only (fun q => q = w.heap.size + 1) w6 _) => ⟨unhide RW _ F, F.ext X6 (fun q hq e => by omega)⟩) ?_
      repeat (first | refine Only.setCell ?_ (by simp) _ | exact Only.refl _ _)
    · refine (within_out n 0 100000 _ (by omega)).mono ?_
      rintro e w3 ⟨rfl, rfl⟩
      have N := hide (show StIs x n Hp0 0 from .inr ⟨fun h => hin ⟨h.2.1, h.2.2⟩, rfl, rfl⟩)
      go_wp2_with fail
      refine bodyPost_ret (v := stpV Hp0 0 (.slice none 0 0) (.slice none 0 0) (.slice none 0 0)) (by simp [results, Tryz.results36, go_sem, Hp0, r0, r1, r2, r3, r4, r5, r6, r7, r8, r9, r10, r11, r12, r13]) rfl ⟨Hp0, 0, none, 0, none, 0, none, 0, rfl, unhide N, HA.zero _ _ _, ?_⟩
      refine (fun (F : Only (fun q => q = w.heap.size + 1) w3 _) => F.ext x2 (fun q hq e => by omega)) ?_
      repeat (first | refine Only.setCell ?_ (by simp) _ | exact Only.refl _ _)
end Go.Proofs.YtkabcfhemljnbaaGreat

namespace Go.Proofs.YtkabcfhemljnbaaGreat
open Go.RowKit

theorem CapAt.of {B : Nat} {w : World} {x : Hp} {ac : Option Addr} {kc : Nat} (h : SlCF B w (.slice ac x.cells.length kc) x.cells) : CapAt w x ac := fun i hi bc oc ad l c ha hc => by
  obtain ⟨ad', cap', hv, _, hx⟩ := h.1
  obtain ⟨b', o', e, vp, _, _, _, _, _, _, _, p7, hP, hF⟩ := hx i hi
  simp only [Value.slice.injEq] at hv
  rw [← hv.1, ha] at e
  cases e
  rw [p7] at hc
  cases hc
  obtain ⟨ad2, cap2, hv2, _, hx2⟩ := hP
  simp only [Value.slice.injEq] at hv2
  rcases Nat.eq_zero_or_pos l with h0 | h0
  · exact .inr h0
  · obtain ⟨b2, o2, e2, _⟩ := hx2 0 (by omega)
    rw [← hv2.1] at e2
    exact .inl (hF.1.1 b2 o2 l c (by rw [e2])).2

theorem slW_form {w : World} {v : Value} {xs : List Wd} (h : SlW w v xs) : ∃ a k, v = .slice a xs.length k := let ⟨a, k, e, _⟩ := h; ⟨a, k, e⟩
theorem slC_form {w : World} {v : Value} {xs : List Cl} (h : SlC w v xs) : ∃ a k, v = .slice a xs.length k := let ⟨a, k, e, _⟩ := h; ⟨a, k, e⟩
theorem slI_form {w : World} {v : Value} {xs : List Int} (h : SlI w v xs) : ∃ a k, v = .slice a xs.length k := let ⟨a, k, e, _⟩ := h; ⟨a, k, e⟩
end Go.Proofs.YtkabcfhemljnbaaGreat

namespace Go.Proofs.YtkabcfhemljnbaaGreat
open Go.RowKit
attribute [local go_sem ↓] Go.wp_at_zero Go.wp_at_succ

set_option maxRecDepth 100000 in
set_option maxHeartbeats 4000000 in
theorem stLaw_any (x : Hp) (at_ : Int) (vr vc vg : Value) (w : World) (hR : SlW w vr x.regs) (hC : SlC w vc x.cells) (hG : SlI w vg x.gray) :
    Calls Tryz.prog 9 #[x.v vr vc vg, .int .i64 at_] w fun e w' => e = .returned (.bool true) ∧ Ext w w' := by
  have x0 := (Ext.refl w).alloc (.cells #[iv x.room, iv x.used, iv x.born, vr, vc, iv x.phase, iv x.hand, iv x.sub, vg, iv x.per, iv x.start, iv x.rounds, iv x.forced] 26)
  have S := hide (And.intro (SlW.ext x0 hR) (And.intro (SlC.ext x0 hC) (SlI.ext x0 hG)))
  obtain ⟨ar, kr, rfl⟩ := slW_form hR
  obtain ⟨ac, kc, rfl⟩ := slC_form hC
  obtain ⟨ag, kg, rfl⟩ := slI_form hG
  clear hR hC hG
  go_enter Tryz.func9, Tryz.ntmps9
  go_wp2_with fail
  refine (szHeap_any x _ _ _ 1048576 _ (unhide S).1 (unhide S).2.1 (unhide S).2.2 (by omega) (by omega)).mono ?_
  rintro e w1 ⟨r, rfl, hr, q1⟩
  have x1 := x0.trans q1
  have hc1 := (bcell q1).1
  rcases hr with ⟨hr0, hr1⟩ | hr
  rotate_left
  · subst hr
    clear hc1
    go_wp2_with fail
    go_ret
    exact ⟨rfl, x1⟩
  have hr2 : ¬ r < 0 := by omega
  have n1 : x.regs.length ≤ 1048576 := by omega
  have n2 : x.cells.length ≤ 1048576 := by omega
  have n3 : prsum x.cells ≤ 1048576 := by omega
  have n4 : x.gray.length ≤ 1048576 := by omega
  clear hr1
  go_wp2_with fail
  refine (toHeap_any x _ _ _ _ (SlW.ext q1 (unhide S).1) (SlC.ext q1 (unhide S).2.1) (SlI.ext q1 (unhide S).2.2) n1 n2 n3 n4).mono ?_
  rintro e w2 ⟨vr2, vc2, vg2, rfl, hF2, q2⟩
  obtain ⟨ar2, kr2, rfl⟩ := slW_form hF2.1.1
  obtain ⟨ac2, kc2, rfl⟩ := slC_form hF2.2.1.sl
  obtain ⟨ag2, kg2, rfl⟩ := slI_form hF2.2.2.1
  have H2 := hide hF2
  clear hF2
  go_wp2_with fail
  refine (specStep_any x at_ _ (unhide H2).1.1 (unhide H2).2.1.sl (unhide H2).2.2.1).mono ?_
  rintro e w3 ⟨y, k3, ar3, kr3, ac3, kc3, ag3, kg3, rfl, is3, ok3, q3⟩
  have IS := hide (unhide is3)
  have B3 := hide (unhide ok3)
  obtain ⟨W, hW⟩ : ∃ W, W = w3.alloc (.cells #[iv y.room, iv y.used, iv y.born, (.slice ar3 y.regs.length kr3), (.slice ac3 y.cells.length kc3), iv y.phase, iv y.hand, iv y.sub, (.slice ag3 y.gray.length kg3), iv y.per, iv y.start, iv y.rounds, iv y.forced, iv k3] 50) := ⟨_, rfl⟩
  have e3W : Ext w3 W := by rw [hW]; exact (Ext.refl w3).alloc _
  have hWs : W.heap.size = w3.heap.size + 1 := by rw [hW]; simp
  have G3 := hide (show SBx W w3.heap.size y k3 (.slice ar3 y.regs.length kr3) (.slice ac3 y.cells.length kc3) (.slice ag3 y.gray.length kg3) by rw [hW]; exact SBx.new w3 y k3 _ _ _ _)
  have e13 : Ext w1 w3 := q2.trans q3
  obtain ⟨t0, t1, t2, t3, t4, t5, t6, t7, t8, t9, t10, t11, t12⟩ := (HBox.new w x (.slice ar x.regs.length kr) (.slice ac x.cells.length kc) (.slice ag x.gray.length kg) 26).ext (q1.trans e13)
  have hb3 : w.heap.size < w3.heap.size := cell_lt t0
  clear ok3 is3 hc1
  go_wp2_with fail
  clear t0 t1 t2 t3 t4 t5 t6 t7 t8 t9 t10 t11 t12
  have eS : Ext (w.alloc (.cells #[iv x.room, iv x.used, iv x.born, (.slice ar x.regs.length kr), (.slice ac x.cells.length kc), iv x.phase, iv x.hand, iv x.sub, (.slice ag x.gray.length kg), iv x.per, iv x.start, iv x.rounds, iv x.forced] 26)) W := (q1.trans e13).trans e3W
  rw [← hW]
  clear hW
  refine (toHeap_any x _ _ _ _ (SlW.ext eS (unhide S).1) (SlC.ext eS (unhide S).2.1) (SlI.ext eS (unhide S).2.2) n1 n2 n3 n4).mono ?_
  rintro e w4 ⟨vr4, vc4, vg4, rfl, hF4, q4⟩
  obtain ⟨ar4, kr4, rfl⟩ := slW_form hF4.1.1
  obtain ⟨ac4, kc4, rfl⟩ := slC_form hF4.2.1.sl
  obtain ⟨ag4, kg4, rfl⟩ := slI_form hF4.2.2.1
  have H4 := hide hF4
  clear hF4
  go_wp2_with fail
  have xA : Ext w4 (w4.alloc (.cells #[iv x.room, iv x.used, iv x.born, (.slice ar4 x.regs.length kr4), (.slice ac4 x.cells.length kc4), iv x.phase, iv x.hand, iv x.sub, (.slice ag4 x.gray.length kg4), iv x.per, iv x.start, iv x.rounds, iv x.forced] 33)) := (Ext.refl w4).alloc _
  refine (implStep_any x at_ _ (SlW.ext xA (unhide H4).1.1) (SlC.ext xA (unhide H4).2.1.sl) (SlI.ext xA (unhide H4).2.2.1) (CapAt.of ((unhide H4).2.1.ext xA))).mono ?_
  rintro e w5 ⟨y5, k5, ar5, kr5, ac5, kc5, ag5, kg5, rfl, is5, ok5, q5⟩
  obtain ⟨rfl, rfl⟩ : y5 = y ∧ k5 = k3 := (unhide is5).uniq (unhide IS)
  have hS5 : w4.heap.size < w5.heap.size := by have := q5.size; simp at this; omega
  have B5 := hide (show HA (w4.heap.size + 1) w5.heap.size w5 y5 ar5 kr5 ac5 kc5 ag5 kg5 by have := unhide ok5; simpa using this)
  have e45 : Ext w4 w5 := xA.trans q5
  have e35 : Ext W w5 := q4.trans e45
  have b3 := hide ((unhide B3).ext (e3W.trans e35))
  obtain ⟨⟨c3a, c3b, c3c, c3d, c3e, c3f, c3g, c3h, c3i, c3j, c3k, c3l, c3m⟩, c3n⟩ := (unhide G3).ext e35
  have h35 : w3.heap.size < w5.heap.size := cell_lt c3a
  have eS5 : Ext (w.alloc (.cells #[iv x.room, iv x.used, iv x.born, (.slice ar x.regs.length kr), (.slice ac x.cells.length kc), iv x.phase, iv x.hand, iv x.sub, (.slice ag x.gray.length kg), iv x.per, iv x.start, iv x.rounds, iv x.forced] 26)) w5 := eS.trans e35
  have XB := hide ((HBox.new w4 x (.slice ar4 x.regs.length kr4) (.slice ac4 x.cells.length kc4) (.slice ag4 x.gray.length kg4) 33).ext q5)
  have TB := hide ((HBox.new w x (.slice ar x.regs.length kr) (.slice ac x.cells.length kc) (.slice ag x.gray.length kg) 26).ext eS5)
  have HS5 := hide eS5
  have s34 := hide (And.intro q4.size eS.size)
  have X5 := hide (x1.trans ((e13.trans e3W).trans e35))
  have xg := (Ext.refl w5).alloc (.cells #[iv y5.room, iv y5.used, iv y5.born, (.slice ar5 y5.regs.length kr5), (.slice ac5 y5.cells.length kc5), iv y5.phase, iv y5.hand, iv y5.sub, (.slice ag5 y5.gray.length kg5), iv y5.per, iv y5.start, iv y5.rounds, iv y5.forced, iv k5] 50)
  have G5 := hide (SBx.new w5 y5 k5 (.slice ar5 y5.regs.length kr5) (.slice ac5 y5.cells.length kc5) (.slice ag5 y5.gray.length kg5) 50)
  have h45 : w4.heap.size + 1 ≤ w5.heap.size := by omega
  clear ok5 is5 xA q5 q4 q3 q2 q1 x0 x1 e13 eS eS5
  go_wp2_with fail
  refine (eqStepped_same y5 k5 _ _ _ _ _ _ _ (SlW.ext xg (unhide B5).rd.1) (SlW.ext xg (unhide b3).1) (SlC.ext xg (unhide B5).rd.2.1) (SlC.ext xg (unhide b3).2.1) (SlI.ext xg (unhide B5).rd.2.2) (SlI.ext xg (unhide b3).2.2)).mono ?_
  rintro e w6 ⟨rfl, q6⟩
  have G6 := hide ((unhide G5).ext q6)
  have q6 := xg.trans q6
  clear c3a c3b c3c c3d c3e c3f c3g c3h c3i c3j c3k c3l c3m c3n xg G5
  obtain ⟨t0, t1, t2, t3, t4, t5, t6, t7, t8, t9, t10, t11, t12⟩ := (unhide TB).ext q6
  obtain ⟨p4a, p4b, p4c, p4d, p4e, p4f, p4g, p4h, p4i, p4j, p4k, p4l, p4m⟩ := (unhide XB).ext q6
  have hb0 : w.heap.size < w6.heap.size := cell_lt t0
  have hb4 : w4.heap.size < w6.heap.size := cell_lt p4a
  have HS6 := hide ((unhide HS5).trans q6)
  have Z := hide (And.intro ((unhide H4).ext (e45.trans q6)) (And.intro (SlW.ext (unhide HS6) (unhide S).1) (And.intro (SlC.ext (unhide HS6) (unhide S).2.1) (SlI.ext (unhide HS6) (unhide S).2.2))))
  go_wp2_with fail
  go_cut [35] (fun s wx => s = .bool false ∧ Hid (Ext w6 wx))
  case first =>
    go_region_with (first | (go_at_call 14; refine (toHeap_any x _ _ _ _ (SlW.ext ((Ext.refl w6).drew) (unhide Z).2.1) (SlC.ext ((Ext.refl w6).drew) (unhide Z).2.2.1) (SlI.ext ((Ext.refl w6).drew) (unhide Z).2.2.2) n1 n2 n3 n4).mono ?_; rintro e w7 ⟨vr7, vc7, vg7, rfl, hF7, q7⟩; have F7 := hide (And.intro hF7 (Ext.trans ((Ext.refl w6).drew) q7)); clear hF7; have hc7 := (bcell q7).1; clear q7; simp only [World.size_drew] at hc7) | (go_at_call 17; refine (eqHeap_same x _ _ _ _ _ _ _ (SlW.ext (unhide F7).2 (unhide Z).1.1.1) (unhide F7).1.1.1 (SlC.ext (unhide F7).2 (unhide Z).1.2.1.sl) (unhide F7).1.2.1.sl (SlI.ext (unhide F7).2 (unhide Z).1.2.2.1) (unhide F7).1.2.2.1).mono ?_; rintro e w8 ⟨rfl, q8⟩))
    all_goals
      go_wp2_with fail
      go_meet
      exact ⟨rfl, (unhide F7).2.trans q8⟩
  case rest =>
    obtain ⟨rfl, qc⟩ := hcut
    have x6 := q6.trans (unhide qc)
    clear t0 t1 t2 t3 t4 t5 t6 t7 t8 t9 t10 t11 t12 p4a p4b p4c p4d p4e p4f p4g p4h p4i p4j p4k p4l p4m hb0 hb4 q6
    obtain ⟨p4a, p4b, p4c, p4d, p4e, p4f, p4g, p4h, p4i, p4j, p4k, p4l, p4m⟩ := (unhide XB).ext x6
    have x4c := e45.trans x6
    have OPN := hide (show OpSl (fun q => W.heap.size ≤ q ∧ q < w4.heap.size) wc 3 ar4 x.regs.length ∧ OpC (fun q => W.heap.size ≤ q ∧ q < w4.heap.size) wc ac4 x.cells ∧ OpSl (fun q => W.heap.size ≤ q ∧ q < w4.heap.size) wc 1 ag4 x.gray.length ∧ (∀ b o b' o', ar4 = some ⟨b, o, none⟩ → ac4 = some ⟨b', o', none⟩ → b ≠ b') from
      ⟨(opW (unhide H4).1 (fun b h1 h2 => ⟨h1, h2⟩)).ext x4c, (opC (unhide H4).2.1 (fun b h1 h2 => ⟨h1, h2⟩)).ext x4c, (opI (unhide H4).2.2.1 (unhide H4).2.2.2.1 (fun b h1 h2 => ⟨h1, h2⟩)).ext x4c, fun b o b' o' e1 e2 => (unhide H4).2.2.2.2 b o _ _ b' o' _ _ (by rw [e1]) (by rw [e2])⟩)
    go_wp2_with fail
    refine (markHeap_wr (fun q => W.heap.size ≤ q ∧ q < w4.heap.size) x ar4 ac4 ag4 kr4 kc4 kg4 _ n1 n2 n3 n4 (fun q hq => Nat.lt_of_lt_of_le hq.2 x4c.size) (unhide OPN).1 (unhide OPN).2.1 (unhide OPN).2.2.1 (unhide OPN).2.2.2).mono ?_
    rintro e w9 ⟨k1, rfl, hk1, wm, hxm, hwr⟩
    have hk2 : ¬ k1 < 0 := by omega
    have B9 := hide (show HA (w4.heap.size + 1) w5.heap.size w9 y5 ar5 kr5 ac5 kc5 ag5 kg5 from (((unhide B5).ext x6).ext hxm).only hwr.o (fun q h1 h2 hs => by have := hs.2; omega))
    have E39 := hide (show Ext W w9 from hwr.o.ext ((e35.trans x6).trans hxm) (fun q hq hs => by have := hs.1; omega))
    have b9 := hide ((unhide B3).ext (e3W.trans (unhide E39)))
    obtain ⟨⟨c3a, c3b, c3c, c3d, c3e, c3f, c3g, c3h, c3i, c3j, c3k, c3l, c3m⟩, c3n⟩ := (unhide G3).ext (unhide E39)
    have h39 : w3.heap.size < w9.heap.size := cell_lt c3a
    have G9 := hide (show SBx w9 w5.heap.size y5 k5 (.slice ar5 y5.regs.length kr5) (.slice ac5 y5.cells.length kc5) (.slice ag5 y5.gray.length kg5) from (((unhide G6).ext (unhide qc)).ext hxm).only hwr.o (fun hs => by have := hs.2; omega))
    obtain ⟨⟨g5a, g5b, g5c, g5d, g5e, g5f, g5g, g5h, g5i, g5j, g5k, g5l, g5m⟩, g5n⟩ := unhide G9
    have h59 : w5.heap.size < w9.heap.size := cell_lt g5a
    have HS9 := hide (show Ext (w.alloc (.cells #[iv x.room, iv x.used, iv x.born, (.slice ar x.regs.length kr), (.slice ac x.cells.length kc), iv x.phase, iv x.hand, iv x.sub, (.slice ag x.gray.length kg), iv x.per, iv x.start, iv x.rounds, iv x.forced] 26)) w9 from hwr.o.ext (((unhide HS5).trans x6).trans hxm) (fun q hq hs => by have := (unhide s34).2; have := hs.1; omega))
    have X9 := hide (show Ext w w9 from hwr.o.ext (((unhide X5).trans x6).trans hxm) (fun q hq hs => by have := (unhide s34).2; simp at this; have := hs.1; omega))
    clear p4a p4b p4c p4d p4e p4f p4g p4h p4i p4j p4k p4l p4m OPN hwr hxm
    go_wp2_with fail
    refine (eqStepped_same y5 k5 _ _ _ _ _ _ _ (unhide B9).rd.1 (unhide b9).1 (unhide B9).rd.2.1 (unhide b9).2.1 (unhide B9).rd.2.2 (unhide b9).2.2).mono ?_
    rintro e w10 ⟨rfl, q10⟩
    have B10 := hide ((unhide B9).ext q10)
    have G10 := hide ((unhide G9).ext q10)
    clear c3a c3b c3c c3d c3e c3f c3g c3h c3i c3j c3k c3l c3m c3n g5a g5b g5c g5d g5e g5f g5g g5h g5i g5j g5k g5l g5m g5n
    obtain ⟨⟨g5a, g5b, g5c, g5d, g5e, g5f, g5g, g5h, g5i, g5j, g5k, g5l, g5m⟩, g5n⟩ := unhide G10
    have h510 : w5.heap.size < w10.heap.size := cell_lt g5a
    go_wp2_with fail
    refine (markStep (unhide B10) (by omega)).mono ?_
    rintro e w11 ⟨m, rfl, hb11, w10b, hx10, ho11⟩
    have B11 := hide hb11
    have hm0 : ¬ m < 0 := by have := hb11.nn; omega
    have E311 := hide (show Ext W w11 from ho11.ext (((unhide E39).trans q10).trans hx10) (fun q hq hs => by have := (unhide s34).1; omega))
    have HS11 := hide (show Ext (w.alloc (.cells #[iv x.room, iv x.used, iv x.born, (.slice ar x.regs.length kr), (.slice ac x.cells.length kc), iv x.phase, iv x.hand, iv x.sub, (.slice ag x.gray.length kg), iv x.per, iv x.start, iv x.rounds, iv x.forced] 26)) w11 from ho11.ext (((unhide HS9).trans q10).trans hx10) (fun q hq hs => by have := (unhide s34).2; have := (unhide s34).1; omega))
    have X11 := hide (show Ext w w11 from ho11.ext (((unhide X9).trans q10).trans hx10) (fun q hq hs => by have := (unhide s34).2; simp at this; have := (unhide s34).1; omega))
    have G511 := hide (show SBx w11 w5.heap.size y5 k5 (.slice ar5 y5.regs.length kr5) (.slice ac5 y5.cells.length kc5) (.slice ag5 y5.gray.length kg5) from ((unhide G10).ext hx10).only ho11 (fun hs => by have := hs.2; omega))
    clear g5a g5b g5c g5d g5e g5f g5g g5h g5i g5j g5k g5l g5m g5n
    obtain ⟨⟨g5a, g5b, g5c, g5d, g5e, g5f, g5g, g5h, g5i, g5j, g5k, g5l, g5m⟩, g5n⟩ := unhide G511
    have h511 : w5.heap.size < w11.heap.size := cell_lt g5a
    clear hb11 ho11 B10 B9 b9 HS9 X9 q10
    go_wp2_with fail
    refine (heldStep (unhide B11)).mono ?_
    rintro e w12 ⟨rfl, q11⟩
    have hnn : (m != m) = false := by simp
    have HS12 := hide ((unhide HS11).trans q11)
    obtain ⟨t0, t1, t2, t3, t4, t5, t6, t7, t8, t9, t10, t11, t12⟩ := (HBox.new w x (.slice ar x.regs.length kr) (.slice ac x.cells.length kc) (.slice ag x.gray.length kg) 26).ext (unhide HS12)
    clear g5a g5b g5c g5d g5e g5f g5g g5h g5i g5j g5k g5l g5m g5n
    go_wp2_with fail
    refine (toHeap_any x _ _ _ _ (SlW.ext (unhide HS12) (unhide S).1) (SlC.ext (unhide HS12) (unhide S).2.1) (SlI.ext (unhide HS12) (unhide S).2.2) n1 n2 n3 n4).mono ?_
    rintro e w13 ⟨vr12, vc12, vg12, rfl, hF12, q12⟩
    obtain ⟨ar12, kr12, rfl⟩ := slW_form hF12.1.1
    obtain ⟨ac12, kc12, rfl⟩ := slC_form hF12.2.1.sl
    obtain ⟨ag12, kg12, rfl⟩ := slI_form hF12.2.2.1
    have H12 := hide hF12
    clear hF12 t0 t1 t2 t3 t4 t5 t6 t7 t8 t9 t10 t11 t12
    go_wp2_with fail
    refine (implStep_any x at_ _ (unhide H12).1.1 (unhide H12).2.1.sl (unhide H12).2.2.1 (CapAt.of (unhide H12).2.1)).mono ?_
    rintro e w14 ⟨y14, k14, ar14, kr14, ac14, kc14, ag14, kg14, rfl, is14, ok14, q13⟩
    obtain ⟨rfl, rfl⟩ : y14 = y5 ∧ k14 = k5 := (unhide is14).uniq (unhide IS)
    have B14 := hide (unhide ok14)
    have e14 := (q11.trans q12).trans q13
    have b14 := hide ((unhide B3).ext ((e3W.trans (unhide E311)).trans e14))
    obtain ⟨⟨c3a, c3b, c3c, c3d, c3e, c3f, c3g, c3h, c3i, c3j, c3k, c3l, c3m⟩, c3n⟩ := ((unhide G3).ext (unhide E311)).ext e14
    have h314 : w3.heap.size < w14.heap.size := cell_lt c3a
    have xh := (Ext.refl w14).alloc (.cells #[iv y14.room, iv y14.used, iv y14.born, (.slice ar14 y14.regs.length kr14), (.slice ac14 y14.cells.length kc14), iv y14.phase, iv y14.hand, iv y14.sub, (.slice ag14 y14.gray.length kg14), iv y14.per, iv y14.start, iv y14.rounds, iv y14.forced, iv k14] 50)
    clear ok14 is14
    go_wp2_with fail
    refine (eqStepped_same y14 k14 _ _ _ _ _ _ _ (SlW.ext xh (unhide B14).rd.1) (SlW.ext xh (unhide b14).1) (SlC.ext xh (unhide B14).rd.2.1) (SlC.ext xh (unhide b14).2.1) (SlI.ext xh (unhide B14).rd.2.2) (SlI.ext xh (unhide b14).2.2)).mono ?_
    rintro e w15 ⟨rfl, q14⟩
    have e15 := (e14.trans xh).trans q14
    have B15 := hide ((unhide B11).ext e15)
    have FIN := hide ((unhide X11).trans e15)
    obtain ⟨⟨g5a, g5b, g5c, g5d, g5e, g5f, g5g, g5h, g5i, g5j, g5k, g5l, g5m⟩, g5n⟩ := (unhide G511).ext e15
    have h515 : w5.heap.size < w15.heap.size := cell_lt g5a
    clear c3a c3b c3c c3d c3e c3f c3g c3h c3i c3j c3k c3l c3m c3n
    go_wp2_with fail
    refine (heldStep (unhide B15)).mono ?_
    rintro e w16 ⟨rfl, q15⟩
    go_wp2_with fail
    go_ret
    exact ⟨rfl, (unhide FIN).trans q15⟩
end Go.Proofs.YtkabcfhemljnbaaGreat

namespace Go.Proofs.YtkabcfhemljnbaaGreat
open Go.RowKit Go.Deep

/-! An argument that is read: the heap that it holds. -/
section
variable {H : Type} {enc : TypeId × Value → H} {w : World} {base : Nat} {spare : Nat → Bool} {held : Bool}

theorem cells3 : Tryz.prog.cellsOf 3 = 1 := by kernel_rfl
theorem cells2 : Tryz.prog.cellsOf 2 = 1 := by kernel_rfl
theorem cellsW : Tryz.prog.cellsOf 125 = 3 := by kernel_rfl
theorem cellsP : Tryz.prog.cellsOf 180 = 6 := by kernel_rfl
theorem cellsC : Tryz.prog.cellsOf 118 = 8 := by kernel_rfl
theorem cellsH : Tryz.prog.cellsOf 26 = 13 := by kernel_rfl
theorem cellsSW : Tryz.prog.cellsOf 22 = 1 := by kernel_rfl
theorem cellsSP : Tryz.prog.cellsOf 116 = 1 := by kernel_rfl
theorem cellsSC : Tryz.prog.cellsOf 23 = 1 := by kernel_rfl
theorem cellsSI : Tryz.prog.cellsOf 24 = 1 := by kernel_rfl
theorem bytesW : Tryz.prog.bytesOf 125 = 24 := by kernel_rfl
theorem bytesP : Tryz.prog.bytesOf 180 = 48 := by kernel_rfl
theorem bytesC : Tryz.prog.bytesOf 118 = 80 := by kernel_rfl
theorem bytesI : Tryz.prog.bytesOf 3 = 8 := by kernel_rfl

theorem rd_int {fuel : Nat} {cs : List Value} {x : DataW H × List MemPlace} (h : DataW.trod enc Tryz.prog w base spare held fuel 3 cs = some x) : ∃ n : Int, cs = [iv n] := by
  obtain ⟨n, e, _⟩ := DataW.trod_int Tryz.underlying3 h
  exact ⟨n, e⟩
theorem rd_int64 {fuel : Nat} {cs : List Value} {x : DataW H × List MemPlace} (h : DataW.trod enc Tryz.prog w base spare held fuel 2 cs = some x) : ∃ n : Int, cs = [iv n] := by
  obtain ⟨n, e, _⟩ := DataW.trod_int Tryz.underlying2 h
  exact ⟨n, e⟩
/-- a field of a struct that is read -/
theorem rd_field {n : Nat} {fs : Array Field} {cs : List Value} {xs : List (DataW H × List MemPlace)} (hl : xs.length = fs.size) (hf : ∀ (i : Nat) (f : Field), fs[i]? = some f → DataW.trod enc Tryz.prog w base spare held n f.type ((cs.drop f.offset).take (Tryz.prog.cellsOf f.type)) = xs[i]?)
    (i ty off sz : Nat) (h : (fs[i]?).map (fun f => (f.type, f.offset)) = some (ty, off)) (hc : Tryz.prog.cellsOf ty = sz) : ∃ y, DataW.trod enc Tryz.prog w base spare held n ty ((cs.drop off).take sz) = some y ∧ xs[i]? = some y := by
  obtain ⟨f, h1, h2⟩ := Option.map_eq_some_iff.1 h
  cases h2
  have := hf i f h1
  rw [hc] at this
  have hi : i < fs.size := (Array.getElem?_eq_some_iff.1 h1).1
  exact ⟨xs[i], by rw [this]; simp, by simp⟩

theorem len1 {α : Type} {l : List α} {n : Nat} (h : l.length = n + 1) : ∃ a r, l = a :: r ∧ r.length = n := by
  cases l with
  | nil => simp at h
  | cons a r => exact ⟨a, r, rfl, by simpa using h⟩
theorem len3 {α : Type} {l : List α} (h : l.length = 3) : ∃ a b c, l = [a, b, c] := by
  obtain ⟨a, r1, rfl, h1⟩ := len1 h
  obtain ⟨b, r2, rfl, h2⟩ := len1 h1
  obtain ⟨c, r3, rfl, h3⟩ := len1 h2
  exact ⟨a, b, c, by rw [List.length_eq_zero_iff.1 h3]⟩
theorem len5 {α : Type} {l : List α} (h : l.length = 5) : ∃ a b c d e, l = [a, b, c, d, e] := by
  obtain ⟨a, r1, rfl, h1⟩ := len1 h
  obtain ⟨b, r2, rfl, h2⟩ := len1 h1
  obtain ⟨c, d, e, rfl⟩ := len3 h2
  exact ⟨a, b, c, d, e, rfl⟩
theorem len6 {α : Type} {l : List α} (h : l.length = 6) : ∃ a b c d e f, l = [a, b, c, d, e, f] := by
  obtain ⟨a, r1, rfl, h1⟩ := len1 h
  obtain ⟨b, c, d, e, f, rfl⟩ := len5 h1
  exact ⟨a, b, c, d, e, f, rfl⟩
theorem len8 {α : Type} {l : List α} (h : l.length = 8) : ∃ a b c d e f g i, l = [a, b, c, d, e, f, g, i] := by
  obtain ⟨a, r1, rfl, h1⟩ := len1 h
  obtain ⟨b, r2, rfl, h2⟩ := len1 h1
  obtain ⟨c, d, e, f, g, i, rfl⟩ := len6 h2
  exact ⟨a, b, c, d, e, f, g, i, rfl⟩
theorem len13 {α : Type} {l : List α} (h : l.length = 13) : ∃ a b c d e f g i j k m n o, l = [a, b, c, d, e, f, g, i, j, k, m, n, o] := by
  obtain ⟨a, r1, rfl, h1⟩ := len1 h
  obtain ⟨b, r2, rfl, h2⟩ := len1 h1
  obtain ⟨c, r3, rfl, h3⟩ := len1 h2
  obtain ⟨d, r4, rfl, h4⟩ := len1 h3
  obtain ⟨e, r5, rfl, h5⟩ := len1 h4
  obtain ⟨f, g, i, j, k, m, n, o, rfl⟩ := len8 h5
  exact ⟨a, b, c, d, e, f, g, i, j, k, m, n, o, rfl⟩

theorem rd_word {fuel : Nat} {cs : List Value} {x : DataW H × List MemPlace} (h : DataW.trod enc Tryz.prog w base spare held fuel 125 cs = some x) : ∃ y : Wd, cs = [iv y.k, iv y.n, iv y.a] := by
  obtain ⟨xs, n, _, _, hl, hs, hf⟩ := DataW.trod_struct Tryz.underlying125 h
  rw [cellsW] at hl
  obtain ⟨a, b, c, rfl⟩ := len3 hl
  obtain ⟨_, f0, _⟩ := rd_field hs hf 0 3 0 1 rfl cells3
  obtain ⟨_, f1, _⟩ := rd_field hs hf 1 2 1 1 rfl cells2
  obtain ⟨_, f2, _⟩ := rd_field hs hf 2 3 2 1 rfl cells3
  obtain ⟨k, e0⟩ := rd_int f0
  obtain ⟨m, e1⟩ := rd_int64 f1
  obtain ⟨p, e2⟩ := rd_int f2
  simp at e0 e1 e2
  exact ⟨⟨k, m, p⟩, by rw [e0, e1, e2]⟩

theorem rd_pair {fuel : Nat} {cs : List Value} {x : DataW H × List MemPlace} (h : DataW.trod enc Tryz.prog w base spare held fuel 180 cs = some x) : ∃ y : Pr, cs = [iv y.key.k, iv y.key.n, iv y.key.a, iv y.val.k, iv y.val.n, iv y.val.a] := by
  obtain ⟨xs, n, _, _, hl, hs, hf⟩ := DataW.trod_struct Tryz.underlying180 h
  rw [cellsP] at hl
  obtain ⟨a, b, c, d, e, f, rfl⟩ := len6 hl
  obtain ⟨_, f0, _⟩ := rd_field hs hf 0 125 0 3 rfl cellsW
  obtain ⟨_, f1, _⟩ := rd_field hs hf 1 125 3 3 rfl cellsW
  obtain ⟨k, e0⟩ := rd_word f0
  obtain ⟨v, e1⟩ := rd_word f1
  simp at e0 e1
  obtain ⟨rfl, rfl, rfl⟩ := e0
  obtain ⟨rfl, rfl, rfl⟩ := e1
  exact ⟨⟨k, v⟩, rfl⟩

theorem weightsAll_mem {P : Program} {e : TypeId} : ∀ {l : List (DataW H)} {d : DataW H} {k : Nat}, d ∈ l → k ∈ d.weights P e → k ∈ DataW.weightsAll P e l
  | a :: r, d, k, hd, hk => by
    simp only [DataW.weightsAll, List.mem_append]
    rcases List.mem_cons.1 hd with rfl | h
    · exact .inl hk
    · exact .inr (weightsAll_mem h hk)
theorem choose_list {α : Type} (z0 : α) {n : Nat} {q : Nat → α → Prop} (h : ∀ i, i < n → ∃ z, q i z) : ∃ f : Nat → α, ∀ i, i < n → q i (f i) :=
  ⟨fun i => if hi : i < n then Classical.choose (h i hi) else z0, fun i hi => by simp only [dif_pos hi]; exact Classical.choose_spec (h i hi)⟩

/-- a slice whose elements are read -/
theorem rd_slice {α : Type} (z0 : α) {t e sz by_ : Nat} {at_ : Nat → Nat → α → Prop} {fuel : Nat} {cs : List Value} {x : DataW H × List MemPlace} (ht : Tryz.prog.underlying t = some (.slice e)) (hsz : Tryz.prog.cellsOf e = sz) (hs0 : 0 < sz) (hby : Tryz.prog.bytesOf e = by_) (hb8 : 8 ≤ by_)
    (h : DataW.trod enc Tryz.prog w base (fun _ => true) held fuel t cs = some x) (hw : ∀ n ∈ x.1.weights Tryz.prog t, n ≤ reachBytes)
    (rd : ∀ fuel cs y, DataW.trod enc Tryz.prog w base (fun _ => true) held fuel e cs = some y → (∀ n ∈ y.1.weights Tryz.prog e, n ≤ reachBytes) → ∀ b o, (∀ i, i < sz → w.cell? ⟨b, o + i, none⟩ = cs[i]?) → ∃ z : α, at_ b o z) :
    ∃ (v : Value) (xs : List α), cs = [v] ∧ SlOf at_ sz v xs := by
  rcases open_slice ht h with ⟨rfl, _⟩ | ⟨a, len, cap, m, n, D, Pl, rfl, _, hlc, _, hm, rfl, hx⟩
  · exact ⟨_, [], rfl, SlOf.nil⟩
  simp only [if_true] at hm
  subst hm
  have hlen : len ≤ 35184372088832 := by
    have := hw ((((List.range len).map D).length + ((List.range (m - len)).map fun j => D (len + j)).length) * Tryz.prog.bytesOf e) (by simp [DataW.weights, ht])
    rw [hby] at this
    simp at this
    unfold reachBytes at this
    have h2 : len * 8 ≤ (len + (m - len)) * by_ := Nat.mul_le_mul (by omega) hb8
    omega
  have wel : ∀ i, i < len → ∀ n ∈ (D i).weights Tryz.prog e, n ≤ reachBytes := fun i hi k hk => by
    refine hw k ?_
    simp only [DataW.weights, ht]
    refine List.mem_cons_of_mem _ (List.mem_append_left _ ?_)
    exact weightsAll_mem (List.mem_map.2 ⟨i, by simpa using hi, rfl⟩) hk
  have hel : ∀ i, i < len → ∃ (z : α), ∃ b o, a = ⟨b, o, none⟩ ∧ at_ b (o + i * sz) z := fun i hi => by
    obtain ⟨cs', h1, h2⟩ := hx i (by omega)
    obtain ⟨_, hl', hc'⟩ := World.cells?_some h1
    rw [hsz] at hc' hl'
    obtain ⟨b, o, spot⟩ := a
    have c0 := hc' 0 hs0
    have hspot : spot = none := by
      obtain ⟨v0, hv0⟩ : ∃ v0, cs'[0]? = some v0 := ⟨_, List.getElem?_eq_getElem (by omega)⟩
      obtain ⟨cs0, g1, _⟩ := hx 0 (by omega)
      obtain ⟨_, gl, gc⟩ := World.cells?_some g1
      rw [hsz] at gl gc
      obtain ⟨u0, hu0⟩ : ∃ u0, cs0[0]? = some u0 := ⟨_, List.getElem?_eq_getElem (by omega)⟩
      have := gc 0 hs0
      rw [hu0] at this
      simpa [Addr.add] using World.cell?_spot this
    subst hspot
    obtain ⟨z, hz⟩ := rd n cs' (D i, Pl i) h2 (wel i hi) b (o + i * sz) (fun j hj => by
      have := hc' j hj
      rw [Go.WideShapes.add_plain, Go.WideShapes.add_plain] at this
      rw [← this])
    exact ⟨z, b, o, rfl, hz⟩
  obtain ⟨f, hf⟩ := choose_list z0 hel
  refine ⟨_, (List.range len).map f, rfl, some a, m, by simp, by simpa using hlen, fun i hi => ?_⟩
  simp at hi
  obtain ⟨b, o, e1, e2⟩ := hf i hi
  exact ⟨b, o, by rw [e1], by simpa using e2⟩

theorem rd_words {fuel : Nat} {cs : List Value} {x : DataW H × List MemPlace} (h : DataW.trod enc Tryz.prog w base (fun _ => true) held fuel 22 cs = some x) (hw : ∀ n ∈ x.1.weights Tryz.prog 22, n ≤ reachBytes) : ∃ (v : Value) (xs : List Wd), cs = [v] ∧ SlW w v xs :=
  rd_slice (at_ := WdAt w) ⟨0, 0, 0⟩ Tryz.underlying22 cellsW (by omega) bytesW (by omega) h hw fun _ _ _ h _ b o hc => by
    obtain ⟨y, rfl⟩ := rd_word h
    exact ⟨y, hc 0 (by omega), hc 1 (by omega), hc 2 (by omega)⟩
theorem rd_pairs {fuel : Nat} {cs : List Value} {x : DataW H × List MemPlace} (h : DataW.trod enc Tryz.prog w base (fun _ => true) held fuel 116 cs = some x) (hw : ∀ n ∈ x.1.weights Tryz.prog 116, n ≤ reachBytes) : ∃ (v : Value) (xs : List Pr), cs = [v] ∧ SlP w v xs :=
  rd_slice (at_ := PrAt w) ⟨⟨0, 0, 0⟩, ⟨0, 0, 0⟩⟩ Tryz.underlying116 cellsP (by omega) bytesP (by omega) h hw fun _ _ _ h _ b o hc => by
    obtain ⟨y, rfl⟩ := rd_pair h
    exact ⟨y, hc 0 (by omega), hc 1 (by omega), hc 2 (by omega), hc 3 (by omega), hc 4 (by omega), hc 5 (by omega)⟩
theorem rd_ints {fuel : Nat} {cs : List Value} {x : DataW H × List MemPlace} (h : DataW.trod enc Tryz.prog w base (fun _ => true) held fuel 24 cs = some x) (hw : ∀ n ∈ x.1.weights Tryz.prog 24, n ≤ reachBytes) : ∃ (v : Value) (xs : List Int), cs = [v] ∧ SlI w v xs :=
  rd_slice (at_ := InAt w) 0 Tryz.underlying24 cells3 (by omega) bytesI (by omega) h hw fun _ _ _ h _ b o hc => by
    obtain ⟨y, rfl⟩ := rd_int h
    exact ⟨y, hc 0 (by omega)⟩

theorem weights_field {fs : Array Field} {t : TypeId} {xs : List (DataW H × List MemPlace)} (ht : Tryz.prog.underlying t = some (.struct fs)) (i ty off : Nat) (h : (fs[i]?).map (fun f => (f.type, f.offset)) = some (ty, off)) {y : DataW H × List MemPlace} (hy : xs[i]? = some y)
    (hw : ∀ n ∈ (DataW.agg (xs.map (·.1))).weights Tryz.prog t, n ≤ reachBytes) : ∀ n ∈ y.1.weights Tryz.prog ty, n ≤ reachBytes := fun n hn => by
  refine hw n ?_
  simp only [DataW.weights, ht]
  obtain ⟨f, h1, h2⟩ := Option.map_eq_some_iff.1 h
  cases h2
  exact DataW.weights_mem_each (j := i) (by simp [h1]) (by simp [hy]) n hn

theorem rd_cell {fuel : Nat} {cs : List Value} {x : DataW H × List MemPlace} (h : DataW.trod enc Tryz.prog w base (fun _ => true) held fuel 118 cs = some x) (hw : ∀ n ∈ x.1.weights Tryz.prog 118, n ≤ reachBytes) :
    ∃ (y : Cl) (vp : Value), cs = [iv y.st, iv y.kind, iv y.weak, iv y.last, iv y.born, iv y.color, iv y.to, vp] ∧ SlP w vp y.prs := by
  obtain ⟨xs, n, _, rfl, hl, hs, hf⟩ := DataW.trod_struct Tryz.underlying118 h
  rw [cellsC] at hl
  obtain ⟨a, b, c, d, e, f, g, i, rfl⟩ := len8 hl
  obtain ⟨_, f0, _⟩ := rd_field hs hf 0 3 0 1 rfl cells3
  obtain ⟨_, f1, _⟩ := rd_field hs hf 1 3 1 1 rfl cells3
  obtain ⟨_, f2, _⟩ := rd_field hs hf 2 3 2 1 rfl cells3
  obtain ⟨_, f3, _⟩ := rd_field hs hf 3 3 3 1 rfl cells3
  obtain ⟨_, f4, _⟩ := rd_field hs hf 4 3 4 1 rfl cells3
  obtain ⟨_, f5, _⟩ := rd_field hs hf 5 3 5 1 rfl cells3
  obtain ⟨_, f6, _⟩ := rd_field hs hf 6 3 6 1 rfl cells3
  obtain ⟨_, f7, g7⟩ := rd_field hs hf 7 116 7 1 rfl cellsSP
  obtain ⟨n0, e0⟩ := rd_int f0
  obtain ⟨n1, e1⟩ := rd_int f1
  obtain ⟨n2, e2⟩ := rd_int f2
  obtain ⟨n3, e3⟩ := rd_int f3
  obtain ⟨n4, e4⟩ := rd_int f4
  obtain ⟨n5, e5⟩ := rd_int f5
  obtain ⟨n6, e6⟩ := rd_int f6
  obtain ⟨vp, ps, e7, hp⟩ := rd_pairs f7 (weights_field Tryz.underlying118 7 116 7 rfl g7 hw)
  simp at e0 e1 e2 e3 e4 e5 e6 e7
  exact ⟨⟨n0, n1, n2, n3, n4, n5, n6, ps⟩, vp, by rw [e0, e1, e2, e3, e4, e5, e6, e7], hp⟩
theorem rd_cells {fuel : Nat} {cs : List Value} {x : DataW H × List MemPlace} (h : DataW.trod enc Tryz.prog w base (fun _ => true) held fuel 23 cs = some x) (hw : ∀ n ∈ x.1.weights Tryz.prog 23, n ≤ reachBytes) : ∃ (v : Value) (xs : List Cl), cs = [v] ∧ SlC w v xs :=
  rd_slice (at_ := ClAt w) Cl0 Tryz.underlying23 cellsC (by omega) bytesC (by omega) h hw fun _ _ _ h hw b o hc => by
    obtain ⟨y, vp, rfl, hp⟩ := rd_cell h hw
    exact ⟨y, vp, hc 0 (by omega), hc 1 (by omega), hc 2 (by omega), hc 3 (by omega), hc 4 (by omega), hc 5 (by omega), hc 6 (by omega), hc 7 (by omega), hp⟩

theorem rd_heap {fuel : Nat} {cs : List Value} {x : DataW H × List MemPlace} (h : DataW.trod enc Tryz.prog w base (fun _ => true) held fuel 26 cs = some x) (hw : ∀ n ∈ x.1.weights Tryz.prog 26, n ≤ reachBytes) :
    ∃ (y : Hp) (vr vc vg : Value), cs = [iv y.room, iv y.used, iv y.born, vr, vc, iv y.phase, iv y.hand, iv y.sub, vg, iv y.per, iv y.start, iv y.rounds, iv y.forced] ∧ SlW w vr y.regs ∧ SlC w vc y.cells ∧ SlI w vg y.gray := by
  obtain ⟨xs, n, _, rfl, hl, hs, hf⟩ := DataW.trod_struct Tryz.underlying26 h
  rw [cellsH] at hl
  obtain ⟨a0, a1, a2, a3, a4, a5, a6, a7, a8, a9, a10, a11, a12, rfl⟩ := len13 hl
  obtain ⟨_, f0, _⟩ := rd_field hs hf 0 3 0 1 rfl cells3
  obtain ⟨_, f1, _⟩ := rd_field hs hf 1 3 1 1 rfl cells3
  obtain ⟨_, f2, _⟩ := rd_field hs hf 2 3 2 1 rfl cells3
  obtain ⟨_, f3, g3⟩ := rd_field hs hf 3 22 3 1 rfl cellsSW
  obtain ⟨_, f4, g4⟩ := rd_field hs hf 4 23 4 1 rfl cellsSC
  obtain ⟨_, f5, _⟩ := rd_field hs hf 5 3 5 1 rfl cells3
  obtain ⟨_, f6, _⟩ := rd_field hs hf 6 3 6 1 rfl cells3
  obtain ⟨_, f7, _⟩ := rd_field hs hf 7 3 7 1 rfl cells3
  obtain ⟨_, f8, g8⟩ := rd_field hs hf 8 24 8 1 rfl cellsSI
  obtain ⟨_, f9, _⟩ := rd_field hs hf 9 3 9 1 rfl cells3
  obtain ⟨_, f10, _⟩ := rd_field hs hf 10 3 10 1 rfl cells3
  obtain ⟨_, f11, _⟩ := rd_field hs hf 11 3 11 1 rfl cells3
  obtain ⟨_, f12, _⟩ := rd_field hs hf 12 3 12 1 rfl cells3
  obtain ⟨n0, e0⟩ := rd_int f0
  obtain ⟨n1, e1⟩ := rd_int f1
  obtain ⟨n2, e2⟩ := rd_int f2
  obtain ⟨n5, e5⟩ := rd_int f5
  obtain ⟨n6, e6⟩ := rd_int f6
  obtain ⟨n7, e7⟩ := rd_int f7
  obtain ⟨n9, e9⟩ := rd_int f9
  obtain ⟨n10, e10⟩ := rd_int f10
  obtain ⟨n11, e11⟩ := rd_int f11
  obtain ⟨n12, e12⟩ := rd_int f12
  obtain ⟨vr, rs, e3, hr⟩ := rd_words f3 (weights_field Tryz.underlying26 3 22 3 rfl g3 hw)
  obtain ⟨vc, ks, e4, hc⟩ := rd_cells f4 (weights_field Tryz.underlying26 4 23 4 rfl g4 hw)
  obtain ⟨vg, gs, e8, hg⟩ := rd_ints f8 (weights_field Tryz.underlying26 8 24 8 rfl g8 hw)
  simp at e0 e1 e2 e3 e4 e5 e6 e7 e8 e9 e10 e11 e12
  exact ⟨⟨n0, n1, n2, rs, ks, n5, n6, n7, gs, n9, n10, n11, n12⟩, vr, vc, vg, by rw [e0, e1, e2, e3, e4, e5, e6, e7, e8, e9, e10, e11, e12], hr, hc, hg⟩
end
end Go.Proofs.YtkabcfhemljnbaaGreat
