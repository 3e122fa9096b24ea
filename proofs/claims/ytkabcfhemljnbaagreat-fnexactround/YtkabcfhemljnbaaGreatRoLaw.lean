import Derived.Test.YtkabcfhemljnbaaGreatSh4
import Derived.Test.YtkabcfhemljnbaaGreatTc
import Derived.Test.YtkabcfhemljnbaaGreatRd
import Derived.Test.YtkabcfhemljnbaaGreatHc
import Derived.Test.YtkabcfhemljnbaaGreatTo3
import Derived.Deep.RegionWith
import Derived.Deep.DeepCutAuto
namespace Go.Proofs.YtkabcfhemljnbaaGreat
open Go.RowKit
attribute [local go_sem ↓] Go.wp_at_zero Go.wp_at_succ

set_option maxRecDepth 100000 in
set_option maxHeartbeats 4000000 in
theorem roLaw_any (x : Hp) (vr vc vg : Value) (w : World) (hR : SlW w vr x.regs) (hC : SlC w vc x.cells) (hG : SlI w vg x.gray) :
    Calls Tryz.prog 11 #[x.v vr vc vg] w fun e w' => e = .returned (.bool true) ∧ Ext w w' := by
  have x0 := (Ext.refl w).alloc (.cells #[iv x.room, iv x.used, iv x.born, vr, vc, iv x.phase, iv x.hand, iv x.sub, vg, iv x.per, iv x.start, iv x.rounds, iv x.forced] 26)
  have S := hide (And.intro (SlW.ext x0 hR) (And.intro (SlC.ext x0 hC) (SlI.ext x0 hG)))
  obtain ⟨ar, kr, rfl⟩ := slW_form hR
  obtain ⟨ac, kc, rfl⟩ := slC_form hC
  obtain ⟨ag, kg, rfl⟩ := slI_form hG
  clear hR hC hG
  go_enter Tryz.func11, Tryz.ntmps11
  go_wp2_with fail
  refine (szHeap_any x _ _ _ 1048576 _ (unhide S).1 (unhide S).2.1 (unhide S).2.2 (by omega) (by omega)).mono ?_
  rintro e w1 ⟨r, rfl, hr, q1⟩
  have x1 := x0.trans q1
  have hc1 := (bcell q1).1
  rcases hr with ⟨hr0, hr1⟩ | hr
  rotate_left
  · subst hr
    clear hc1
    go_wp2_with fail
    go_ret
    exact ⟨rfl, x1⟩
  have hr2 : ¬ r < 0 := by omega
  have n1 : x.regs.length ≤ 1048576 := by omega
  have n2 : x.cells.length ≤ 1048576 := by omega
  have n3 : prsum x.cells ≤ 1048576 := by omega
  have n4 : x.gray.length ≤ 1048576 := by omega
  clear hr1
  go_wp2_with fail
  refine (toHeap_any x _ _ _ _ (SlW.ext q1 (unhide S).1) (SlC.ext q1 (unhide S).2.1) (SlI.ext q1 (unhide S).2.2) n1 n2 n3 n4).mono ?_
  rintro e w2 ⟨vr2, vc2, vg2, rfl, hF2, q2⟩
  obtain ⟨ar2, kr2, rfl⟩ := slW_form hF2.1.1
  obtain ⟨ac2, kc2, rfl⟩ := slC_form hF2.2.1.sl
  obtain ⟨ag2, kg2, rfl⟩ := slI_form hF2.2.2.1
  have H2 := hide hF2
  clear hF2
  go_wp2_with fail
  refine (specRound_any x _ (unhide H2).1.1 (unhide H2).2.1.sl (unhide H2).2.2.1).mono ?_
  rintro e w3 ⟨y, ar3, kr3, ac3, kc3, ag3, kg3, rfl, is3, ok3, q3⟩
  have IS := hide (unhide is3)
  have B3 := hide (unhide ok3)
  obtain ⟨W, hW⟩ : ∃ W, W = w3.alloc (.cells #[iv y.room, iv y.used, iv y.born, (.slice ar3 y.regs.length kr3), (.slice ac3 y.cells.length kc3), iv y.phase, iv y.hand, iv y.sub, (.slice ag3 y.gray.length kg3), iv y.per, iv y.start, iv y.rounds, iv y.forced] 33) := ⟨_, rfl⟩
  have e3W : Ext w3 W := by rw [hW]; exact (Ext.refl w3).alloc _
  have hWs : W.heap.size = w3.heap.size + 1 := by rw [hW]; simp
  have G3 := hide (show HBox W w3.heap.size y (.slice ar3 y.regs.length kr3) (.slice ac3 y.cells.length kc3) (.slice ag3 y.gray.length kg3) by rw [hW]; exact HBox.new w3 y _ _ _ _)
  have e13 : Ext w1 w3 := q2.trans q3
  obtain ⟨t0, t1, t2, t3, t4, t5, t6, t7, t8, t9, t10, t11, t12⟩ := (HBox.new w x (.slice ar x.regs.length kr) (.slice ac x.cells.length kc) (.slice ag x.gray.length kg) 26).ext (q1.trans e13)
  have hb3 : w.heap.size < w3.heap.size := cell_lt t0
  clear ok3 is3 hc1
  go_wp2_with fail
  clear t0 t1 t2 t3 t4 t5 t6 t7 t8 t9 t10 t11 t12
  have eS : Ext (w.alloc (.cells #[iv x.room, iv x.used, iv x.born, (.slice ar x.regs.length kr), (.slice ac x.cells.length kc), iv x.phase, iv x.hand, iv x.sub, (.slice ag x.gray.length kg), iv x.per, iv x.start, iv x.rounds, iv x.forced] 26)) W := (q1.trans e13).trans e3W
  rw [← hW]
  clear hW
  refine (toHeap_any x _ _ _ _ (SlW.ext eS (unhide S).1) (SlC.ext eS (unhide S).2.1) (SlI.ext eS (unhide S).2.2) n1 n2 n3 n4).mono ?_
  rintro e w4 ⟨vr4, vc4, vg4, rfl, hF4, q4⟩
  obtain ⟨ar4, kr4, rfl⟩ := slW_form hF4.1.1
  obtain ⟨ac4, kc4, rfl⟩ := slC_form hF4.2.1.sl
  obtain ⟨ag4, kg4, rfl⟩ := slI_form hF4.2.2.1
  have H4 := hide hF4
  clear hF4
  go_wp2_with fail
  have xA : Ext w4 (w4.alloc (.cells #[iv x.room, iv x.used, iv x.born, (.slice ar4 x.regs.length kr4), (.slice ac4 x.cells.length kc4), iv x.phase, iv x.hand, iv x.sub, (.slice ag4 x.gray.length kg4), iv x.per, iv x.start, iv x.rounds, iv x.forced] 33)) := (Ext.refl w4).alloc _
  refine (implRound_any x _ (SlW.ext xA (unhide H4).1.1) (SlC.ext xA (unhide H4).2.1.sl) (SlI.ext xA (unhide H4).2.2.1) (CapAt.of ((unhide H4).2.1.ext xA))).mono ?_
  rintro e w5 ⟨y5, ar5, kr5, ac5, kc5, ag5, kg5, rfl, is5, ok5, q5⟩
  obtain rfl : y5 = y := (unhide is5).uniq (unhide IS)
  have hS5 : w4.heap.size < w5.heap.size := by have := q5.size; simp at this; omega
  have B5 := hide (show HA (w4.heap.size + 1) w5.heap.size w5 y5 ar5 kr5 ac5 kc5 ag5 kg5 by have := unhide ok5; simpa using this)
  have e45 : Ext w4 w5 := xA.trans q5
  have e35 : Ext W w5 := q4.trans e45
  have b3 := hide ((unhide B3).ext (e3W.trans e35))
  obtain ⟨c3a, c3b, c3c, c3d, c3e, c3f, c3g, c3h, c3i, c3j, c3k, c3l, c3m⟩ := (unhide G3).ext e35
  have h35 : w3.heap.size < w5.heap.size := cell_lt c3a
  have eS5 : Ext (w.alloc (.cells #[iv x.room, iv x.used, iv x.born, (.slice ar x.regs.length kr), (.slice ac x.cells.length kc), iv x.phase, iv x.hand, iv x.sub, (.slice ag x.gray.length kg), iv x.per, iv x.start, iv x.rounds, iv x.forced] 26)) w5 := eS.trans e35
  have XB := hide ((HBox.new w4 x (.slice ar4 x.regs.length kr4) (.slice ac4 x.cells.length kc4) (.slice ag4 x.gray.length kg4) 33).ext q5)
  have TB := hide ((HBox.new w x (.slice ar x.regs.length kr) (.slice ac x.cells.length kc) (.slice ag x.gray.length kg) 26).ext eS5)
  have HS5 := hide eS5
  have s34 := hide (And.intro q4.size eS.size)
  have X5 := hide (x1.trans ((e13.trans e3W).trans e35))
  have xg := (Ext.refl w5).alloc (.cells #[iv y5.room, iv y5.used, iv y5.born, (.slice ar5 y5.regs.length kr5), (.slice ac5 y5.cells.length kc5), iv y5.phase, iv y5.hand, iv y5.sub, (.slice ag5 y5.gray.length kg5), iv y5.per, iv y5.start, iv y5.rounds, iv y5.forced] 33)
  have G5 := hide (HBox.new w5 y5 (.slice ar5 y5.regs.length kr5) (.slice ac5 y5.cells.length kc5) (.slice ag5 y5.gray.length kg5) 33)
  have h45 : w4.heap.size + 1 ≤ w5.heap.size := by omega
  clear ok5 is5 xA q5 q4 q3 q2 q1 x0 x1 e13 eS eS5
  go_wp2_with fail
  refine (eqHeap_same y5 _ _ _ _ _ _ _ (SlW.ext xg (unhide B5).rd.1) (SlW.ext xg (unhide b3).1) (SlC.ext xg (unhide B5).rd.2.1) (SlC.ext xg (unhide b3).2.1) (SlI.ext xg (unhide B5).rd.2.2) (SlI.ext xg (unhide b3).2.2)).mono ?_
  rintro e w6 ⟨rfl, q6⟩
  have G6 := hide ((unhide G5).ext q6)
  have q6 := xg.trans q6
  clear c3a c3b c3c c3d c3e c3f c3g c3h c3i c3j c3k c3l c3m xg G5
  obtain ⟨t0, t1, t2, t3, t4, t5, t6, t7, t8, t9, t10, t11, t12⟩ := (unhide TB).ext q6
  obtain ⟨p4a, p4b, p4c, p4d, p4e, p4f, p4g, p4h, p4i, p4j, p4k, p4l, p4m⟩ := (unhide XB).ext q6
  have hb0 : w.heap.size < w6.heap.size := cell_lt t0
  have hb4 : w4.heap.size < w6.heap.size := cell_lt p4a
  have HS6 := hide ((unhide HS5).trans q6)
  have Z := hide (And.intro ((unhide H4).ext (e45.trans q6)) (And.intro (SlW.ext (unhide HS6) (unhide S).1) (And.intro (SlC.ext (unhide HS6) (unhide S).2.1) (SlI.ext (unhide HS6) (unhide S).2.2))))
  go_wp2_with fail
  go_cut [31] (fun s wx => s = .bool false ∧ Hid (Ext w6 wx))
  case first =>
    go_region_with (first | (go_at_call 14; refine (toHeap_any x _ _ _ _ (SlW.ext ((Ext.refl w6).drew) (unhide Z).2.1) (SlC.ext ((Ext.refl w6).drew) (unhide Z).2.2.1) (SlI.ext ((Ext.refl w6).drew) (unhide Z).2.2.2) n1 n2 n3 n4).mono ?_; rintro e w7 ⟨vr7, vc7, vg7, rfl, hF7, q7⟩; have F7 := hide (And.intro hF7 (Ext.trans ((Ext.refl w6).drew) q7)); clear hF7; have hc7 := (bcell q7).1; clear q7; simp only [World.size_drew] at hc7) | (go_at_call 17; refine (eqHeap_same x _ _ _ _ _ _ _ (SlW.ext (unhide F7).2 (unhide Z).1.1.1) (unhide F7).1.1.1 (SlC.ext (unhide F7).2 (unhide Z).1.2.1.sl) (unhide F7).1.2.1.sl (SlI.ext (unhide F7).2 (unhide Z).1.2.2.1) (unhide F7).1.2.2.1).mono ?_; rintro e w8 ⟨rfl, q8⟩))
    all_goals
      go_wp2_with fail
      go_meet
      exact ⟨rfl, (unhide F7).2.trans q8⟩
  case rest =>
    obtain ⟨rfl, qc⟩ := hcut
    have x6 := q6.trans (unhide qc)
    clear t0 t1 t2 t3 t4 t5 t6 t7 t8 t9 t10 t11 t12 p4a p4b p4c p4d p4e p4f p4g p4h p4i p4j p4k p4l p4m hb0 hb4 q6
    obtain ⟨p4a, p4b, p4c, p4d, p4e, p4f, p4g, p4h, p4i, p4j, p4k, p4l, p4m⟩ := (unhide XB).ext x6
    have x4c := e45.trans x6
    have OPN := hide (show OpSl (fun q => W.heap.size ≤ q ∧ q < w4.heap.size) wc 3 ar4 x.regs.length ∧ OpC (fun q => W.heap.size ≤ q ∧ q < w4.heap.size) wc ac4 x.cells ∧ OpSl (fun q => W.heap.size ≤ q ∧ q < w4.heap.size) wc 1 ag4 x.gray.length ∧ (∀ b o b' o', ar4 = some ⟨b, o, none⟩ → ac4 = some ⟨b', o', none⟩ → b ≠ b') from
      ⟨(opW (unhide H4).1 (fun b h1 h2 => ⟨h1, h2⟩)).ext x4c, (opC (unhide H4).2.1 (fun b h1 h2 => ⟨h1, h2⟩)).ext x4c, (opI (unhide H4).2.2.1 (unhide H4).2.2.2.1 (fun b h1 h2 => ⟨h1, h2⟩)).ext x4c, fun b o b' o' e1 e2 => (unhide H4).2.2.2.2 b o _ _ b' o' _ _ (by rw [e1]) (by rw [e2])⟩)
    go_wp2_with fail
    refine (markHeap_wr (fun q => W.heap.size ≤ q ∧ q < w4.heap.size) x ar4 ac4 ag4 kr4 kc4 kg4 _ n1 n2 n3 n4 (fun q hq => Nat.lt_of_lt_of_le hq.2 x4c.size) (unhide OPN).1 (unhide OPN).2.1 (unhide OPN).2.2.1 (unhide OPN).2.2.2).mono ?_
    rintro e w9 ⟨k1, rfl, hk1, wm, hxm, hwr⟩
    have hk2 : ¬ k1 < 0 := by omega
    have B9 := hide (show HA (w4.heap.size + 1) w5.heap.size w9 y5 ar5 kr5 ac5 kc5 ag5 kg5 from (((unhide B5).ext x6).ext hxm).only hwr.o (fun q h1 h2 hs => by have := hs.2; omega))
    have E39 := hide (show Ext W w9 from hwr.o.ext ((e35.trans x6).trans hxm) (fun q hq hs => by have := hs.1; omega))
    have b9 := hide ((unhide B3).ext (e3W.trans (unhide E39)))
    obtain ⟨c3a, c3b, c3c, c3d, c3e, c3f, c3g, c3h, c3i, c3j, c3k, c3l, c3m⟩ := (unhide G3).ext (unhide E39)
    have h39 : w3.heap.size < w9.heap.size := cell_lt c3a
    have G9 := hide (show HBox w9 w5.heap.size y5 (.slice ar5 y5.regs.length kr5) (.slice ac5 y5.cells.length kc5) (.slice ag5 y5.gray.length kg5) from (((unhide G6).ext (unhide qc)).ext hxm).only hwr.o (fun hs => by have := hs.2; omega))
    obtain ⟨g5a, g5b, g5c, g5d, g5e, g5f, g5g, g5h, g5i, g5j, g5k, g5l, g5m⟩ := unhide G9
    have h59 : w5.heap.size < w9.heap.size := cell_lt g5a
    have HS9 := hide (show Ext (w.alloc (.cells #[iv x.room, iv x.used, iv x.born, (.slice ar x.regs.length kr), (.slice ac x.cells.length kc), iv x.phase, iv x.hand, iv x.sub, (.slice ag x.gray.length kg), iv x.per, iv x.start, iv x.rounds, iv x.forced] 26)) w9 from hwr.o.ext (((unhide HS5).trans x6).trans hxm) (fun q hq hs => by have := (unhide s34).2; have := hs.1; omega))
    have X9 := hide (show Ext w w9 from hwr.o.ext (((unhide X5).trans x6).trans hxm) (fun q hq hs => by have := (unhide s34).2; simp at this; have := hs.1; omega))
    clear p4a p4b p4c p4d p4e p4f p4g p4h p4i p4j p4k p4l p4m OPN hwr hxm
    go_wp2_with fail
    refine (eqHeap_same y5 _ _ _ _ _ _ _ (unhide B9).rd.1 (unhide b9).1 (unhide B9).rd.2.1 (unhide b9).2.1 (unhide B9).rd.2.2 (unhide b9).2.2).mono ?_
    rintro e w10 ⟨rfl, q10⟩
    have B10 := hide ((unhide B9).ext q10)
    have G10 := hide ((unhide G9).ext q10)
    clear c3a c3b c3c c3d c3e c3f c3g c3h c3i c3j c3k c3l c3m g5a g5b g5c g5d g5e g5f g5g g5h g5i g5j g5k g5l g5m
    obtain ⟨g5a, g5b, g5c, g5d, g5e, g5f, g5g, g5h, g5i, g5j, g5k, g5l, g5m⟩ := unhide G10
    have h510 : w5.heap.size < w10.heap.size := cell_lt g5a
    go_wp2_with fail
    refine (markHA (unhide B10) (by omega)).mono ?_
    rintro e w11 ⟨m, rfl, hb11, w10b, hx10, ho11⟩
    have B11 := hide hb11
    have hm0 : ¬ m < 0 := by have := hb11.nn; omega
    have E311 := hide (show Ext W w11 from ho11.ext (((unhide E39).trans q10).trans hx10) (fun q hq hs => by have := (unhide s34).1; omega))
    have HS11 := hide (show Ext (w.alloc (.cells #[iv x.room, iv x.used, iv x.born, (.slice ar x.regs.length kr), (.slice ac x.cells.length kc), iv x.phase, iv x.hand, iv x.sub, (.slice ag x.gray.length kg), iv x.per, iv x.start, iv x.rounds, iv x.forced] 26)) w11 from ho11.ext (((unhide HS9).trans q10).trans hx10) (fun q hq hs => by have := (unhide s34).2; have := (unhide s34).1; omega))
    have X11 := hide (show Ext w w11 from ho11.ext (((unhide X9).trans q10).trans hx10) (fun q hq hs => by have := (unhide s34).2; simp at this; have := (unhide s34).1; omega))
    have G511 := hide (show HBox w11 w5.heap.size y5 (.slice ar5 y5.regs.length kr5) (.slice ac5 y5.cells.length kc5) (.slice ag5 y5.gray.length kg5) from ((unhide G10).ext hx10).only ho11 (fun hs => by have := hs.2; omega))
    clear g5a g5b g5c g5d g5e g5f g5g g5h g5i g5j g5k g5l g5m
    obtain ⟨g5a, g5b, g5c, g5d, g5e, g5f, g5g, g5h, g5i, g5j, g5k, g5l, g5m⟩ := unhide G511
    have h511 : w5.heap.size < w11.heap.size := cell_lt g5a
    clear hb11 ho11 B10 B9 b9 HS9 X9 q10
    go_wp2_with fail
    refine (heldHA (unhide B11)).mono ?_
    rintro e w12 ⟨rfl, q11⟩
    have hnn : (m != m) = false := by simp
    have HS12 := hide ((unhide HS11).trans q11)
    obtain ⟨t0, t1, t2, t3, t4, t5, t6, t7, t8, t9, t10, t11, t12⟩ := (HBox.new w x (.slice ar x.regs.length kr) (.slice ac x.cells.length kc) (.slice ag x.gray.length kg) 26).ext (unhide HS12)
    clear g5a g5b g5c g5d g5e g5f g5g g5h g5i g5j g5k g5l g5m
    go_wp2_with fail
    refine (toHeap_any x _ _ _ _ (SlW.ext (unhide HS12) (unhide S).1) (SlC.ext (unhide HS12) (unhide S).2.1) (SlI.ext (unhide HS12) (unhide S).2.2) n1 n2 n3 n4).mono ?_
    rintro e w13 ⟨vr12, vc12, vg12, rfl, hF12, q12⟩
    obtain ⟨ar12, kr12, rfl⟩ := slW_form hF12.1.1
    obtain ⟨ac12, kc12, rfl⟩ := slC_form hF12.2.1.sl
    obtain ⟨ag12, kg12, rfl⟩ := slI_form hF12.2.2.1
    have H12 := hide hF12
    clear hF12 t0 t1 t2 t3 t4 t5 t6 t7 t8 t9 t10 t11 t12
    go_wp2_with fail
    refine (implRound_any x _ (unhide H12).1.1 (unhide H12).2.1.sl (unhide H12).2.2.1 (CapAt.of (unhide H12).2.1)).mono ?_
    rintro e w14 ⟨y14, ar14, kr14, ac14, kc14, ag14, kg14, rfl, is14, ok14, q13⟩
    obtain rfl : y14 = y5 := (unhide is14).uniq (unhide IS)
    have B14 := hide (unhide ok14)
    have e14 := (q11.trans q12).trans q13
    have b14 := hide ((unhide B3).ext ((e3W.trans (unhide E311)).trans e14))
    obtain ⟨c3a, c3b, c3c, c3d, c3e, c3f, c3g, c3h, c3i, c3j, c3k, c3l, c3m⟩ := ((unhide G3).ext (unhide E311)).ext e14
    have h314 : w3.heap.size < w14.heap.size := cell_lt c3a
    have xh := (Ext.refl w14).alloc (.cells #[iv y14.room, iv y14.used, iv y14.born, (.slice ar14 y14.regs.length kr14), (.slice ac14 y14.cells.length kc14), iv y14.phase, iv y14.hand, iv y14.sub, (.slice ag14 y14.gray.length kg14), iv y14.per, iv y14.start, iv y14.rounds, iv y14.forced] 33)
    clear ok14 is14
    go_wp2_with fail
    refine (eqHeap_same y14 _ _ _ _ _ _ _ (SlW.ext xh (unhide B14).rd.1) (SlW.ext xh (unhide b14).1) (SlC.ext xh (unhide B14).rd.2.1) (SlC.ext xh (unhide b14).2.1) (SlI.ext xh (unhide B14).rd.2.2) (SlI.ext xh (unhide b14).2.2)).mono ?_
    rintro e w15 ⟨rfl, q14⟩
    have e15 := (e14.trans xh).trans q14
    have B15 := hide ((unhide B11).ext e15)
    have FIN := hide ((unhide X11).trans e15)
    obtain ⟨g5a, g5b, g5c, g5d, g5e, g5f, g5g, g5h, g5i, g5j, g5k, g5l, g5m⟩ := (unhide G511).ext e15
    have h515 : w5.heap.size < w15.heap.size := cell_lt g5a
    clear c3a c3b c3c c3d c3e c3f c3g c3h c3i c3j c3k c3l c3m
    go_wp2_with fail
    refine (heldHA (unhide B15)).mono ?_
    rintro e w16 ⟨rfl, q15⟩
    go_wp2_with fail
    go_ret
    exact ⟨rfl, (unhide FIN).trans q15⟩
end Go.Proofs.YtkabcfhemljnbaaGreat
