import Derived.Test.YtkabcfhemljnbaaGreatNb6
import Derived.Test.YtkabcfhemljnbaaGreatL2u
import Derived.Test.YtkabcfhemljnbaaGreatSg
import Derived.Test.YtkabcfhemljnbaaGreatBo2
import Derived.Test.YtkabcfhemljnbaaGreatImpT
import Derived.Test.YtkabcfhemljnbaaGreatTo2
import Derived.Test.YtkabcfhemljnbaaGreatSz
import Derived.Test.YtkabcfhemljnbaaGreatEq
import Derived.Deep.RegionWith
import Derived.Deep.DeepCutAuto
namespace Go.Proofs.YtkabcfhemljnbaaGreat
open Go.RowKit
attribute [local go_sem ↓] Go.wp_at_zero Go.wp_at_succ


set_option maxRecDepth 100000 in
set_option maxHeartbeats 2000000 in
theorem implShape_any (x : Hp) (w : World) {ar : Option Addr} {kr : Nat} {ac : Option Addr} {kc : Nat} {ag : Option Addr} {kg : Nat} (hR : SlW w (.slice ar x.regs.length kr) x.regs) (hC : SlC w (.slice ac x.cells.length kc) x.cells) (hG : SlI w (.slice ag x.gray.length kg) x.gray) (hcap : CapAt w x ac) :
    Calls Tryz.prog 28 #[x.v (.slice ar x.regs.length kr) (.slice ac x.cells.length kc) (.slice ag x.gray.length kg)] w fun e w' => ∃ vr vn, Hid (e = .returned (.agg #[vr, vn])) ∧ Hid (IAns x w.heap.size w' vr vn) ∧ Ext w w' := by
  have x1 := ((Ext.refl w).alloc (.cells #[iv x.room, iv x.used, iv x.born, .slice ar x.regs.length kr, .slice ac x.cells.length kc, iv x.phase, iv x.hand, iv x.sub, .slice ag x.gray.length kg, iv x.per, iv x.start, iv x.rounds, iv x.forced] 33)).alloc (.cells #[.slice none 0 0, .slice none 0 0] 43)
  have S1 := hide (SlW.ext x1 hR)
  have S2 := hide (SlC.ext x1 hC)
  have S3 := hide (SlI.ext x1 hG)
  have S4 := hide (hcap.extS hC x1)
  clear hR hC hG hcap
  go_enter Tryz.func28, Tryz.ntmps28
  go_wp2_with fail
  refine (sound_any x _ (unhide S1) (unhide S2) (unhide S3) (unhide S4)).mono ?_
  rintro e w2 ⟨hq, hor⟩
  have x2 := x1.trans hq
  have r0 := hq.keep (b := w.heap.size + 1) (o := 0) (v := .slice none 0 0) (by simp [go_sem])
  have r1 := hq.keep (b := w.heap.size + 1) (o := 1) (v := .slice none 0 0) (by simp [go_sem])
  have rf0 : w2.frozen? ⟨w.heap.size + 1, 0, none⟩ = false := ((bcell hq).2 (w.heap.size + 1) 0 (by simp)).trans (by simp [go_sem])
  have rf1 : w2.frozen? ⟨w.heap.size + 1, 1, none⟩ = false := ((bcell hq).2 (w.heap.size + 1) 1 (by simp)).trans (by simp [go_sem])
  have z2 : w.heap.size + 1 < w2.heap.size := cell_lt r0
  rcases unhide hor with ⟨hn, rfl⟩ | ⟨hok, b, an, kn, rfl, hv, han⟩
  · have N := hide hn
    clear hor hn
    go_wp2_with fail
    refine bodyPost_ret (v := .agg #[.slice none 0 0, .slice none 0 0]) (by simp [results, Tryz.results28, go_sem, r0, r1]) rfl ⟨_, _, rfl, .inl ⟨unhide N, rfl, rfl⟩, ?_⟩
    repeat (first | exact x2 | refine Ext.setCell ?_ (by show w.heap.size ≤ w.heap.size + 1; omega) _)
  · obtain ⟨bn, on, rfl⟩ := unhide han
    have OK := hide hok
    have V := hide hv
    clear hor hok hv han
    go_wp2_with fail
    refine (shape_any x b _ bn on (unhide V) (unhide OK)).mono ?_
    rintro e w3 ⟨vr, vn, rfl, hg, hq3⟩
    have x3 := x2.trans hq3
    have FIN := hide (show ∀ W, Only (fun q => q = w.heap.size + 1) w3 W → IAns x w.heap.size W vr vn from fun W hW => .inr ⟨unhide OK, ((unhide hg).only hW (fun q h e => by omega)).less x2.size⟩)
    obtain ⟨br, nr, bq, nn, rfl, rfl⟩ : ∃ br nr bq nn, vr = .slice (some ⟨br, 0, none⟩) nr nr ∧ vn = .slice (some ⟨bq, 0, none⟩) nn nn := by
      obtain ⟨N, O, br, bq, pb, f, oj, h1, h2, h3, h4, _⟩ := unhide hg
      exact ⟨br, _, bq, _, h3, h4⟩
    have r0 := hq3.keep r0
    have r1 := hq3.keep r1
    have rf0 : w3.frozen? ⟨w.heap.size + 1, 0, none⟩ = false := ((bcell hq3).2 (w.heap.size + 1) 0 z2).trans rf0
    have rf1 : w3.frozen? ⟨w.heap.size + 1, 1, none⟩ = false := ((bcell hq3).2 (w.heap.size + 1) 1 z2).trans rf1
    have z3 : w.heap.size + 1 < w3.heap.size := cell_lt r0
    clear hg hq3
    go_wp2_with fail
    refine bodyPost_ret (v := .agg #[.slice (some ⟨br, 0, none⟩) nr nr, .slice (some ⟨bq, 0, none⟩) nn nn]) (by simp [results, Tryz.results28, go_sem, r0, r1]) rfl ⟨_, _, rfl, ?_⟩
    refine (fun (F : Only (fun q => q = w.heap.size + 1) w3 _) => ⟨unhide FIN _ F, F.ext x3 (fun q hq e => by omega)⟩) ?_
    repeat (first | refine Only.setCell ?_ (by simp) _ | exact Only.refl _ _)

set_option maxRecDepth 100000 in
set_option maxHeartbeats 2000000 in
theorem specShape_any (x : Hp) (w : World) {ar : Option Addr} {kr : Nat} {ac : Option Addr} {kc : Nat} {ag : Option Addr} {kg : Nat} (hR : SlW w (.slice ar x.regs.length kr) x.regs) (hC : SlC w (.slice ac x.cells.length kc) x.cells) (hG : SlI w (.slice ag x.gray.length kg) x.gray) :
    Calls Tryz.prog 27 #[x.v (.slice ar x.regs.length kr) (.slice ac x.cells.length kc) (.slice ag x.gray.length kg)] w fun e w' => ∃ vr vn, Hid (e = .returned (.agg #[vr, vn])) ∧ Hid (SAns x w' vr vn) ∧ Ext w w' := by
  have x1 := ((Ext.refl w).alloc (.cells #[iv x.room, iv x.used, iv x.born, .slice ar x.regs.length kr, .slice ac x.cells.length kc, iv x.phase, iv x.hand, iv x.sub, .slice ag x.gray.length kg, iv x.per, iv x.start, iv x.rounds, iv x.forced] 33)).alloc (.cells #[.slice none 0 0, .slice none 0 0] 43)
  have S1 := hide (SlW.ext x1 hR)
  have S2 := hide (SlC.ext x1 hC)
  have S3 := hide (SlI.ext x1 hG)
  have HB := hide (hat_box x w hR hC hG)
  clear hR hC hG
  go_enter Tryz.func27, Tryz.ntmps27
  go_wp2_with fail
  refine (specHeapOk_any x _ (unhide S1) (unhide S2) (unhide S3)).mono ?_
  rintro e w2 ⟨n, rfl, hok2, hq⟩
  have x2 := x1.trans hq
  have r0 := hq.keep (b := w.heap.size + 1) (o := 0) (v := .slice none 0 0) (by simp [go_sem])
  have r1 := hq.keep (b := w.heap.size + 1) (o := 1) (v := .slice none 0 0) (by simp [go_sem])
  have rf0 : w2.frozen? ⟨w.heap.size + 1, 0, none⟩ = false := ((bcell hq).2 (w.heap.size + 1) 0 (by simp)).trans (by simp [go_sem])
  have rf1 : w2.frozen? ⟨w.heap.size + 1, 1, none⟩ = false := ((bcell hq).2 (w.heap.size + 1) 1 (by simp)).trans (by simp [go_sem])
  have z2 : w.heap.size + 1 < w2.heap.size := cell_lt r0
  have OK2 := hide hok2
  have H2 := hide (((unhide HB).ext ((Ext.refl _).alloc (.cells #[.slice none 0 0, .slice none 0 0] 43))).ext hq)
  clear hok2 hq
  cases t : (n == 0)
  · have t2 : (n != 0) = true := by simpa using t
    have N := hide (show ¬ OkIs x 0 from fun h => by have := OkIs.uniq h (unhide OK2); simp at t; omega)
    go_wp2_with fail
    refine bodyPost_ret (v := .agg #[.slice none 0 0, .slice none 0 0]) (by simp [results, Tryz.results27, go_sem, r0, r1]) rfl ⟨_, _, rfl, .inl ⟨unhide N, rfl, rfl⟩, ?_⟩
    repeat (first | exact x2 | refine Ext.setCell ?_ (by show w.heap.size ≤ w.heap.size + 1; omega) _)
  · have t2 : (n != 0) = false := by simpa using t
    have Y := hide (show OkIs x 0 by have := unhide OK2; simp at t; rw [t] at this; exact this)
    go_wp2_with fail
    refine (l2shape_any x w.heap.size _ (unhide H2) (unhide Y)).mono ?_
    rintro e w3 ⟨vr, vn, rfl, hg, hq3⟩
    have x3 := x2.trans hq3
    obtain ⟨N, hN, hrd⟩ := unhide hg
    have FIN := hide (show ∀ W, Only (fun q => q = w.heap.size + 1) w3 W → SAns x W vr vn from fun W hW => .inr ⟨unhide Y, N, hN, hrd W (hW.mono (fun q e => by omega))⟩)
    obtain ⟨ad1, c1, rfl, _, _⟩ := (hrd w3 (Only.refl _ _)).1
    obtain ⟨ad2, c2, rfl, _, _⟩ := (hrd w3 (Only.refl _ _)).2
    have r0 := hq3.keep r0
    have r1 := hq3.keep r1
    have rf0 : w3.frozen? ⟨w.heap.size + 1, 0, none⟩ = false := ((bcell hq3).2 (w.heap.size + 1) 0 z2).trans rf0
    have rf1 : w3.frozen? ⟨w.heap.size + 1, 1, none⟩ = false := ((bcell hq3).2 (w.heap.size + 1) 1 z2).trans rf1
    have z3 : w.heap.size + 1 < w3.heap.size := cell_lt r0
    clear hg hq3 hrd
    go_wp2_with fail
    refine bodyPost_ret (v := .agg #[.slice ad1 (gR x N).length c1, .slice ad2 (gL x N).length c2]) (by simp [results, Tryz.results27, go_sem, r0, r1]) rfl ⟨_, _, rfl, ?_⟩
    refine (fun (F : Only (fun q => q = w.heap.size + 1) w3 _) => ⟨unhide FIN _ F, F.ext x3 (fun q hq e => by omega)⟩) ?_
    repeat (first | refine Only.setCell ?_ (by simp) _ | exact Only.refl _ _)
end Go.Proofs.YtkabcfhemljnbaaGreat

namespace Go.Proofs.YtkabcfhemljnbaaGreat
open Go.RowKit

theorem CapAt.of {B : Nat} {w : World} {x : Hp} {ac : Option Addr} {kc : Nat} (h : SlCF B w (.slice ac x.cells.length kc) x.cells) : CapAt w x ac := fun i hi bc oc ad l c ha hc => by
  obtain ⟨ad', cap', hv, _, hx⟩ := h.1
  obtain ⟨b', o', e, vp, _, _, _, _, _, _, _, p7, hP, hF⟩ := hx i hi
  simp only [Value.slice.injEq] at hv
  rw [← hv.1, ha] at e
  cases e
  rw [p7] at hc
  cases hc
  obtain ⟨ad2, cap2, hv2, _, hx2⟩ := hP
  simp only [Value.slice.injEq] at hv2
  rcases Nat.eq_zero_or_pos l with h0 | h0
  · exact .inr h0
  · obtain ⟨b2, o2, e2, _⟩ := hx2 0 (by omega)
    rw [← hv2.1] at e2
    exact .inl (hF.1.1 b2 o2 l c (by rw [e2])).2

theorem slW_form {w : World} {v : Value} {xs : List Wd} (h : SlW w v xs) : ∃ a k, v = .slice a xs.length k := let ⟨a, k, e, _⟩ := h; ⟨a, k, e⟩
theorem slC_form {w : World} {v : Value} {xs : List Cl} (h : SlC w v xs) : ∃ a k, v = .slice a xs.length k := let ⟨a, k, e, _⟩ := h; ⟨a, k, e⟩
theorem slI_form {w : World} {v : Value} {xs : List Int} (h : SlI w v xs) : ∃ a k, v = .slice a xs.length k := let ⟨a, k, e, _⟩ := h; ⟨a, k, e⟩
end Go.Proofs.YtkabcfhemljnbaaGreat

namespace Go.Proofs.YtkabcfhemljnbaaGreat
open Go.RowKit
attribute [local go_sem ↓] Go.wp_at_zero Go.wp_at_succ

/-- a graph's box -/
def GBx (w : World) (B : Nat) (vr vn : Value) : Prop := w.cell? ⟨B, 0, none⟩ = some vr ∧ w.cell? ⟨B, 1, none⟩ = some vn
theorem GBx.ext {w w' : World} {B : Nat} {vr vn : Value} (h : GBx w B vr vn) (e : Ext w w') : GBx w' B vr vn := ⟨e.keep h.1, e.keep h.2⟩
theorem GBx.only {S : Nat → Prop} {w w' : World} {B : Nat} {vr vn : Value} (h : GBx w B vr vn) (e : Only S w w') (hs : ¬ S B) : GBx w' B vr vn := ⟨e.keep hs h.1, e.keep hs h.2⟩
theorem GBx.new (w : World) (vr vn : Value) (t : TypeId) : GBx (w.alloc (.cells #[vr, vn] t)) w.heap.size vr vn := by
  refine ⟨?_, ?_⟩ <;> simp [go_sem]

set_option maxRecDepth 100000 in
set_option maxHeartbeats 4000000 in
theorem shapeLaw_any (x : Hp) (vr vc vg : Value) (w : World) (hR : SlW w vr x.regs) (hC : SlC w vc x.cells) (hG : SlI w vg x.gray) :
    Calls Tryz.prog 7 #[x.v vr vc vg] w fun e w' => e = .returned (.bool true) ∧ Ext w w' := by
  obtain ⟨R, L, hia, hsa⟩ := gans x
  have IA := hide hia
  have SA := hide hsa
  have x0 := (Ext.refl w).alloc (.cells #[iv x.room, iv x.used, iv x.born, vr, vc, iv x.phase, iv x.hand, iv x.sub, vg, iv x.per, iv x.start, iv x.rounds, iv x.forced] 26)
  have S := hide (And.intro (SlW.ext x0 hR) (And.intro (SlC.ext x0 hC) (SlI.ext x0 hG)))
  obtain ⟨ar, kr, rfl⟩ := slW_form hR
  obtain ⟨ac, kc, rfl⟩ := slC_form hC
  obtain ⟨ag, kg, rfl⟩ := slI_form hG
  clear hR hC hG hia hsa
  go_enter Tryz.func7, Tryz.ntmps7
  go_wp2_with fail
  refine (szHeap_any x _ _ _ 1048576 _ (unhide S).1 (unhide S).2.1 (unhide S).2.2 (by omega) (by omega)).mono ?_
  rintro e w1 ⟨r, rfl, hr, q1⟩
  have x1 := x0.trans q1
  have hc1 := (bcell q1).1
  rcases hr with ⟨hr0, hr1⟩ | hr
  rotate_left
  · subst hr
    clear hc1
    go_wp2_with fail
    go_ret
    exact ⟨rfl, x1⟩
  have hr2 : ¬ r < 0 := by omega
  have n1 : x.regs.length ≤ 1048576 := by omega
  have n2 : x.cells.length ≤ 1048576 := by omega
  have n3 : prsum x.cells ≤ 1048576 := by omega
  have n4 : x.gray.length ≤ 1048576 := by omega
  clear hr1
  go_wp2_with fail
  refine (toHeap_any x _ _ _ _ (SlW.ext q1 (unhide S).1) (SlC.ext q1 (unhide S).2.1) (SlI.ext q1 (unhide S).2.2) n1 n2 n3 n4).mono ?_
  rintro e w2 ⟨vr2, vc2, vg2, rfl, hF2, q2⟩
  obtain ⟨ar2, kr2, rfl⟩ := slW_form hF2.1.1
  obtain ⟨ac2, kc2, rfl⟩ := slC_form hF2.2.1.sl
  obtain ⟨ag2, kg2, rfl⟩ := slI_form hF2.2.2.1
  have H2 := hide hF2
  clear hF2
  go_wp2_with fail
  refine (specShape_any x _ (unhide H2).1.1 (unhide H2).2.1.sl (unhide H2).2.2.1).mono ?_
  rintro e w3 ⟨vr3, vn3, rfl, ok3, q3⟩
  have B3 := hide (unhide SA _ _ _ (unhide ok3))
  obtain ⟨r3, rc3, rfl, _, _⟩ := (unhide B3).1
  obtain ⟨s3, sc3, rfl, _, _⟩ := (unhide B3).2
  obtain ⟨W, hW⟩ : ∃ W, W = w3.alloc (.cells #[(.slice r3 R.length rc3), (.slice s3 L.length sc3)] 43) := ⟨_, rfl⟩
  have e3W : Ext w3 W := by rw [hW]; exact (Ext.refl w3).alloc _
  have hWs : W.heap.size = w3.heap.size + 1 := by rw [hW]; simp
  have G3 := hide (show GBx W w3.heap.size (.slice r3 R.length rc3) (.slice s3 L.length sc3) by rw [hW]; exact GBx.new w3 (.slice r3 R.length rc3) (.slice s3 L.length sc3) _)
  have e13 : Ext w1 w3 := q2.trans q3
  obtain ⟨t0, t1, t2, t3, t4, t5, t6, t7, t8, t9, t10, t11, t12⟩ := (HBox.new w x (.slice ar x.regs.length kr) (.slice ac x.cells.length kc) (.slice ag x.gray.length kg) 26).ext (q1.trans e13)
  have hb3 : w.heap.size < w3.heap.size := cell_lt t0
  clear ok3 hc1
  go_wp2_with fail
  clear t0 t1 t2 t3 t4 t5 t6 t7 t8 t9 t10 t11 t12
  have eS : Ext (w.alloc (.cells #[iv x.room, iv x.used, iv x.born, .slice ar x.regs.length kr, .slice ac x.cells.length kc, iv x.phase, iv x.hand, iv x.sub, .slice ag x.gray.length kg, iv x.per, iv x.start, iv x.rounds, iv x.forced] 26)) W := (q1.trans e13).trans e3W
  rw [← hW]
  clear hW
  refine (toHeap_any x _ _ _ _ (SlW.ext eS (unhide S).1) (SlC.ext eS (unhide S).2.1) (SlI.ext eS (unhide S).2.2) n1 n2 n3 n4).mono ?_
  rintro e w4 ⟨vr4, vc4, vg4, rfl, hF4, q4⟩
  obtain ⟨ar4, kr4, rfl⟩ := slW_form hF4.1.1
  obtain ⟨ac4, kc4, rfl⟩ := slC_form hF4.2.1.sl
  obtain ⟨ag4, kg4, rfl⟩ := slI_form hF4.2.2.1
  have H4 := hide hF4
  clear hF4
  go_wp2_with fail
  have xA : Ext w4 (w4.alloc (.cells #[iv x.room, iv x.used, iv x.born, .slice ar4 x.regs.length kr4, .slice ac4 x.cells.length kc4, iv x.phase, iv x.hand, iv x.sub, .slice ag4 x.gray.length kg4, iv x.per, iv x.start, iv x.rounds, iv x.forced] 33)) := (Ext.refl w4).alloc _
  refine (implShape_any x _ (SlW.ext xA (unhide H4).1.1) (SlC.ext xA (unhide H4).2.1.sl) (SlI.ext xA (unhide H4).2.2.1) (CapAt.of ((unhide H4).2.1.ext xA))).mono ?_
  rintro e w5 ⟨vr5, vn5, rfl, ok5, q5⟩
  have hS5 : w4.heap.size < w5.heap.size := by have := q5.size; simp at this; omega
  have B5 := hide (show GOwn x (w4.heap.size + 1) w5.heap.size w5 vr5 vn5 R L by have := unhide IA _ _ _ _ (unhide ok5); simpa using this)
  obtain ⟨r5, rc5, rfl, _, _⟩ := (unhide B5).rd.1
  obtain ⟨s5, sc5, rfl, _, _⟩ := (unhide B5).rd.2
  have e45 : Ext w4 w5 := xA.trans q5
  have e35 : Ext W w5 := q4.trans e45
  have b3 := hide (show SlW w5 (.slice r3 R.length rc3) R ∧ SlN w5 (.slice s3 L.length sc3) L from ⟨SlW.ext (e3W.trans e35) (unhide B3).1, SlN.ext (e3W.trans e35) (unhide B3).2⟩)
  obtain ⟨c30, c31⟩ := (unhide G3).ext e35
  have h35 : w3.heap.size < w5.heap.size := cell_lt c30
  have eS5 : Ext (w.alloc (.cells #[iv x.room, iv x.used, iv x.born, .slice ar x.regs.length kr, .slice ac x.cells.length kc, iv x.phase, iv x.hand, iv x.sub, .slice ag x.gray.length kg, iv x.per, iv x.start, iv x.rounds, iv x.forced] 26)) w5 := eS.trans e35
  have XB := hide ((HBox.new w4 x (.slice ar4 x.regs.length kr4) (.slice ac4 x.cells.length kc4) (.slice ag4 x.gray.length kg4) 33).ext q5)
  have TB := hide ((HBox.new w x (.slice ar x.regs.length kr) (.slice ac x.cells.length kc) (.slice ag x.gray.length kg) 26).ext eS5)
  have HS5 := hide eS5
  have s34 := hide (And.intro q4.size eS.size)
  have X5 := hide (x1.trans ((e13.trans e3W).trans e35))
  have xg := (Ext.refl w5).alloc (.cells #[(.slice r5 R.length rc5), (.slice s5 L.length sc5)] 43)
  have G5 := hide (GBx.new w5 (.slice r5 R.length rc5) (.slice s5 L.length sc5) 43)
  have h45 : w4.heap.size + 1 ≤ w5.heap.size := by omega
  clear ok5 xA q5 q4 q3 q2 q1 x0 x1 e13 eS eS5
  go_wp2_with fail
  refine (eqGraph_same R L _ _ _ _ _ (SlW.ext xg (unhide B5).rd.1) (SlW.ext xg (unhide b3).1) (SlN.ext xg (unhide B5).rd.2) (SlN.ext xg (unhide b3).2)).mono ?_
  rintro e w6 ⟨rfl, q6⟩
  have G6 := hide ((unhide G5).ext q6)
  have q6 := xg.trans q6
  have G36 := hide (((unhide G3).ext e35).ext q6)
  clear c30 c31 xg G5
  obtain ⟨t0, t1, t2, t3, t4, t5, t6, t7, t8, t9, t10, t11, t12⟩ := (unhide TB).ext q6
  obtain ⟨y0, y1, y2, y3, y4, y5, y6, y7, y8, y9, y10, y11, y12⟩ := (unhide XB).ext q6
  have hb0 : w.heap.size < w6.heap.size := cell_lt t0
  have hb4 : w4.heap.size < w6.heap.size := cell_lt y0
  have HS6 := hide ((unhide HS5).trans q6)
  have Z := hide (And.intro ((unhide H4).ext (e45.trans q6)) (And.intro (SlW.ext (unhide HS6) (unhide S).1) (And.intro (SlC.ext (unhide HS6) (unhide S).2.1) (SlI.ext (unhide HS6) (unhide S).2.2))))
  go_wp2_with fail
  go_cut [31] (fun s wx => s = .bool false ∧ Hid (Ext w6 wx))
  case first =>
    go_region_with (first | (go_at_call 14; refine (toHeap_any x _ _ _ _ (SlW.ext ((Ext.refl w6).drew) (unhide Z).2.1) (SlC.ext ((Ext.refl w6).drew) (unhide Z).2.2.1) (SlI.ext ((Ext.refl w6).drew) (unhide Z).2.2.2) n1 n2 n3 n4).mono ?_; rintro e w7 ⟨vr7, vc7, vg7, rfl, hF7, q7⟩; have F7 := hide (And.intro hF7 (Ext.trans ((Ext.refl w6).drew) q7)); clear hF7; have hc7 := (bcell q7).1; clear q7; simp only [World.size_drew] at hc7) | (go_at_call 17; refine (eqHeap_same x _ _ _ _ _ _ _ (SlW.ext (unhide F7).2 (unhide Z).1.1.1) (unhide F7).1.1.1 (SlC.ext (unhide F7).2 (unhide Z).1.2.1.sl) (unhide F7).1.2.1.sl (SlI.ext (unhide F7).2 (unhide Z).1.2.2.1) (unhide F7).1.2.2.1).mono ?_; rintro e w8 ⟨rfl, q8⟩))
    all_goals
      go_wp2_with fail
      go_meet
      exact ⟨rfl, (unhide F7).2.trans q8⟩
  case rest =>
    obtain ⟨rfl, qc⟩ := hcut
    have x6 := q6.trans (unhide qc)
    clear t0 t1 t2 t3 t4 t5 t6 t7 t8 t9 t10 t11 t12 y0 y1 y2 y3 y4 y5 y6 y7 y8 y9 y10 y11 y12 hb0 hb4 q6
    obtain ⟨y0, y1, y2, y3, y4, y5, y6, y7, y8, y9, y10, y11, y12⟩ := (unhide XB).ext x6
    have x4c := e45.trans x6
    have OPN := hide (show OpSl (fun q => W.heap.size ≤ q ∧ q < w4.heap.size) wc 3 ar4 x.regs.length ∧ OpC (fun q => W.heap.size ≤ q ∧ q < w4.heap.size) wc ac4 x.cells ∧ OpSl (fun q => W.heap.size ≤ q ∧ q < w4.heap.size) wc 1 ag4 x.gray.length ∧ (∀ b o b' o', ar4 = some ⟨b, o, none⟩ → ac4 = some ⟨b', o', none⟩ → b ≠ b') from
      ⟨(opW (unhide H4).1 (fun b h1 h2 => ⟨h1, h2⟩)).ext x4c, (opC (unhide H4).2.1 (fun b h1 h2 => ⟨h1, h2⟩)).ext x4c, (opI (unhide H4).2.2.1 (unhide H4).2.2.2.1 (fun b h1 h2 => ⟨h1, h2⟩)).ext x4c, fun b o b' o' e1 e2 => (unhide H4).2.2.2.2 b o _ _ b' o' _ _ (by rw [e1]) (by rw [e2])⟩)
    go_wp2_with fail
    refine (markHeap_wr (fun q => W.heap.size ≤ q ∧ q < w4.heap.size) x ar4 ac4 ag4 kr4 kc4 kg4 _ n1 n2 n3 n4 (fun q hq => Nat.lt_of_lt_of_le hq.2 x4c.size) (unhide OPN).1 (unhide OPN).2.1 (unhide OPN).2.2.1 (unhide OPN).2.2.2).mono ?_
    rintro e w9 ⟨k1, rfl, hk1, wm, hxm, hwr⟩
    have hk2 : ¬ k1 < 0 := by omega
    have B9 := hide (show GOwn x (w4.heap.size + 1) w5.heap.size w9 (.slice r5 R.length rc5) (.slice s5 L.length sc5) R L from (((unhide B5).ext x6).ext hxm).only hwr.o (fun q h1 hs => by have := hs.2; omega))
    have E39 := hide (show Ext W w9 from hwr.o.ext ((e35.trans x6).trans hxm) (fun q hq hs => by have := hs.1; omega))
    have b9 := hide (show SlW w9 (.slice r3 R.length rc3) R ∧ SlN w9 (.slice s3 L.length sc3) L from ⟨SlW.ext (e3W.trans (unhide E39)) (unhide B3).1, SlN.ext (e3W.trans (unhide E39)) (unhide B3).2⟩)
    obtain ⟨c30, c31⟩ := (unhide G3).ext (unhide E39)
    have h39 : w3.heap.size < w9.heap.size := cell_lt c30
    obtain ⟨c50, c51⟩ : GBx w9 w5.heap.size (.slice r5 R.length rc5) (.slice s5 L.length sc5) := (((unhide G6).ext (unhide qc)).ext hxm).only hwr.o (fun hs => by have := hs.2; omega)
    have h59 : w5.heap.size < w9.heap.size := cell_lt c50
    have HS9 := hide (show Ext (w.alloc (.cells #[iv x.room, iv x.used, iv x.born, .slice ar x.regs.length kr, .slice ac x.cells.length kc, iv x.phase, iv x.hand, iv x.sub, .slice ag x.gray.length kg, iv x.per, iv x.start, iv x.rounds, iv x.forced] 26)) w9 from hwr.o.ext (((unhide HS5).trans x6).trans hxm) (fun q hq hs => by have := (unhide s34).2; have := hs.1; omega))
    have X9 := hide (show Ext w w9 from hwr.o.ext (((unhide X5).trans x6).trans hxm) (fun q hq hs => by have := (unhide s34).2; simp at this; have := hs.1; omega))
    clear y0 y1 y2 y3 y4 y5 y6 y7 y8 y9 y10 y11 y12 OPN hwr hxm
    go_wp2_with fail
    refine (eqGraph_same R L _ _ _ _ _ (unhide B9).rd.1 (unhide b9).1 (unhide B9).rd.2 (unhide b9).2).mono ?_
    rintro e w10 ⟨rfl, q10⟩
    have B10 := hide ((unhide B9).ext q10)
    have d30 := q10.keep c30
    have d31 := q10.keep c31
    have d50 := q10.keep c50
    have d51 := q10.keep c51
    clear c30 c31 c50 c51
    go_wp2_with fail
    refine (markG (unhide B10) (by have := q10.size; omega)).mono ?_
    rintro e w11 ⟨m, rfl, hb11, w10b, hx10, ho11⟩
    have B11 := hide hb11
    have hm0 : ¬ m < 0 := by have := hb11.nn; omega
    have E311 := hide (show Ext W w11 from ho11.ext (((unhide E39).trans q10).trans hx10) (fun q hq hs => by have := (unhide s34).1; omega))
    have HS11 := hide (show Ext (w.alloc (.cells #[iv x.room, iv x.used, iv x.born, .slice ar x.regs.length kr, .slice ac x.cells.length kc, iv x.phase, iv x.hand, iv x.sub, .slice ag x.gray.length kg, iv x.per, iv x.start, iv x.rounds, iv x.forced] 26)) w11 from ho11.ext (((unhide HS9).trans q10).trans hx10) (fun q hq hs => by have := (unhide s34).2; have := (unhide s34).1; omega))
    have X11 := hide (show Ext w w11 from ho11.ext (((unhide X9).trans q10).trans hx10) (fun q hq hs => by have := (unhide s34).2; simp at this; have := (unhide s34).1; omega))
    have G511 := hide (show GBx w11 w5.heap.size (.slice r5 R.length rc5) (.slice s5 L.length sc5) from ((GBx.ext ⟨d50, d51⟩ hx10).only ho11 (fun hs => by have := hs.2; omega)))
    obtain ⟨c50, c51⟩ := unhide G511
    have h511 : w5.heap.size < w11.heap.size := cell_lt c50
    clear hb11 ho11 B10 B9 b9 HS9 X9 q10 d30 d31 d50 d51
    go_wp2_with fail
    refine (heldG (unhide B11)).mono ?_
    rintro e w12 ⟨rfl, q11⟩
    have hnn : (m != m) = false := by simp
    have HS12 := hide ((unhide HS11).trans q11)
    obtain ⟨t0, t1, t2, t3, t4, t5, t6, t7, t8, t9, t10, t11, t12⟩ := (HBox.new w x (.slice ar x.regs.length kr) (.slice ac x.cells.length kc) (.slice ag x.gray.length kg) 26).ext (unhide HS12)
    clear c50 c51
    go_wp2_with fail
    refine (toHeap_any x _ _ _ _ (SlW.ext (unhide HS12) (unhide S).1) (SlC.ext (unhide HS12) (unhide S).2.1) (SlI.ext (unhide HS12) (unhide S).2.2) n1 n2 n3 n4).mono ?_
    rintro e w13 ⟨vr12, vc12, vg12, rfl, hF12, q12⟩
    obtain ⟨ar12, kr12, rfl⟩ := slW_form hF12.1.1
    obtain ⟨ac12, kc12, rfl⟩ := slC_form hF12.2.1.sl
    obtain ⟨ag12, kg12, rfl⟩ := slI_form hF12.2.2.1
    have H12 := hide hF12
    clear hF12 t0 t1 t2 t3 t4 t5 t6 t7 t8 t9 t10 t11 t12
    go_wp2_with fail
    refine (implShape_any x _ (unhide H12).1.1 (unhide H12).2.1.sl (unhide H12).2.2.1 (CapAt.of (unhide H12).2.1)).mono ?_
    rintro e w14 ⟨vr14, vn14, rfl, ok14, q13⟩
    have B14 := hide (unhide IA _ _ _ _ (unhide ok14))
    obtain ⟨r14, rc14, rfl, _, _⟩ := (unhide B14).rd.1
    obtain ⟨s14, sc14, rfl, _, _⟩ := (unhide B14).rd.2
    have e14 := (q11.trans q12).trans q13
    have b14 := hide (show SlW w14 (.slice r3 R.length rc3) R ∧ SlN w14 (.slice s3 L.length sc3) L from ⟨SlW.ext ((e3W.trans (unhide E311)).trans e14) (unhide B3).1, SlN.ext ((e3W.trans (unhide E311)).trans e14) (unhide B3).2⟩)
    obtain ⟨c30, c31⟩ := ((unhide G3).ext (unhide E311)).ext e14
    have h314 : w3.heap.size < w14.heap.size := cell_lt c30
    have xh := (Ext.refl w14).alloc (.cells #[(.slice r14 R.length rc14), (.slice s14 L.length sc14)] 43)
    clear ok14
    go_wp2_with fail
    refine (eqGraph_same R L _ _ _ _ _ (SlW.ext xh (unhide B14).rd.1) (SlW.ext xh (unhide b14).1) (SlN.ext xh (unhide B14).rd.2) (SlN.ext xh (unhide b14).2)).mono ?_
    rintro e w15 ⟨rfl, q14⟩
    have e15 := (e14.trans xh).trans q14
    have B15 := hide ((unhide B11).ext e15)
    have FIN := hide ((unhide X11).trans e15)
    obtain ⟨c50, c51⟩ := (unhide G511).ext e15
    have h515 : w5.heap.size < w15.heap.size := cell_lt c50
    clear c30 c31
    go_wp2_with fail
    refine (heldG (unhide B15)).mono ?_
    rintro e w16 ⟨rfl, q15⟩
    go_wp2_with fail
    go_ret
    exact ⟨rfl, (unhide FIN).trans q15⟩
end Go.Proofs.YtkabcfhemljnbaaGreat
