import Derived.Test.YtkabcfhemljnbaaGreatEq
namespace Go.Proofs.YtkabcfhemljnbaaGreat
open Go.RowKit
attribute [local go_sem ↓] Go.wp_at_zero Go.wp_at_succ

set_option maxRecDepth 100000 in
set_option maxHeartbeats 4000000 in
theorem specShade_any (x : Hp) (at_ : Int) (w : World) {ar : Option Addr} {kr : Nat} {ac : Option Addr} {kc : Nat} {ag : Option Addr} {kg : Nat} (hR : SlW w (.slice ar x.regs.length kr) x.regs) (hC : SlC w (.slice ac x.cells.length kc) x.cells) (hG : SlI w (.slice ag x.gray.length kg) x.gray) :
    Calls Tryz.prog 32 #[x.v (.slice ar x.regs.length kr) (.slice ac x.cells.length kc) (.slice ag x.gray.length kg), .int .i64 at_] w fun e w' => ∃ y ar kr ac kc ag kg, Hid (e = .returned (y.v (.slice ar y.regs.length kr) (.slice ac y.cells.length kc) (.slice ag y.gray.length kg))) ∧ Hid (ShIs x at_ y) ∧ Hid (HRd w' y ar kr ac kc ag kg) ∧ Ext w w' := by
  have x1 : Ext w ((w.alloc (.cells #[iv x.room, iv x.used, iv x.born, .slice ar x.regs.length kr, .slice ac x.cells.length kc, iv x.phase, iv x.hand, iv x.sub, .slice ag x.gray.length kg, iv x.per, iv x.start, iv x.rounds, iv x.forced] 33)).alloc (.cells #[iv 0, iv 0, iv 0, .slice none 0 0, .slice none 0 0, iv 0, iv 0, iv 0, .slice none 0 0, iv 0, iv 0, iv 0, iv 0] 33)) := ((Ext.refl w).alloc _).alloc _
  have S1 := hide (SlW.ext x1 hR)
  have S2 := hide (SlC.ext x1 hC)
  have S3 := hide (SlI.ext x1 hG)
  have HB := hide ((HBox.new w x (.slice ar x.regs.length kr) (.slice ac x.cells.length kc) (.slice ag x.gray.length kg) 33).ext ((Ext.refl _).alloc (.cells #[iv 0, iv 0, iv 0, .slice none 0 0, .slice none 0 0, iv 0, iv 0, iv 0, .slice none 0 0, iv 0, iv 0, iv 0, iv 0] 33)))
  have hs2 : ((w.alloc (.cells #[iv x.room, iv x.used, iv x.born, .slice ar x.regs.length kr, .slice ac x.cells.length kc, iv x.phase, iv x.hand, iv x.sub, .slice ag x.gray.length kg, iv x.per, iv x.start, iv x.rounds, iv x.forced] 33)).alloc (.cells #[iv 0, iv 0, iv 0, .slice none 0 0, .slice none 0 0, iv 0, iv 0, iv 0, .slice none 0 0, iv 0, iv 0, iv 0, iv 0] 33)).heap.size = w.heap.size + 2 := by simp
  clear hR hC hG
  go_enter Tryz.func32, Tryz.ntmps32
  go_wp2_with fail
  refine (specHeapOk_any x _ (unhide S1) (unhide S2) (unhide S3)).mono ?_
  rintro e w2 ⟨n, rfl, hok2, hq⟩
  have x2 := x1.trans hq
  have OK2 := hide hok2
  have B2 := hide ((unhide HB).ext hq)
  have RC := hide (show ∀ o v, ((w.alloc (.cells #[iv x.room, iv x.used, iv x.born, .slice ar x.regs.length kr, .slice ac x.cells.length kc, iv x.phase, iv x.hand, iv x.sub, .slice ag x.gray.length kg, iv x.per, iv x.start, iv x.rounds, iv x.forced] 33)).alloc (.cells #[iv 0, iv 0, iv 0, .slice none 0 0, .slice none 0 0, iv 0, iv 0, iv 0, .slice none 0 0, iv 0, iv 0, iv 0, iv 0] 33)).cell? ⟨w.heap.size + 1, o, none⟩ = some v → w2.cell? ⟨w.heap.size + 1, o, none⟩ = some v from fun o v h => hq.keep h)
  have RCF := hide (show ∀ o, w2.frozen? ⟨w.heap.size + 1, o, none⟩ = false from fun o => ((bcell hq).2 (w.heap.size + 1) o (by rw [hs2]; omega)).trans (by simp [go_sem]))
  have hz2 : w.heap.size + 2 ≤ w2.heap.size := by have := hq.size; omega
  have Q1 := hide (show SlW w2 (.slice ar x.regs.length kr) x.regs ∧ SlC w2 (.slice ac x.cells.length kc) x.cells ∧ SlI w2 (.slice ag x.gray.length kg) x.gray from ⟨SlW.ext hq (unhide S1), SlC.ext hq (unhide S2), SlI.ext hq (unhide S3)⟩)
  have rc := unhide RC
  have rcF := unhide RCF
  have r0 := rc 0 (iv 0) (by simp [go_sem])
  have r1 := rc 1 (iv 0) (by simp [go_sem])
  have r2 := rc 2 (iv 0) (by simp [go_sem])
  have r3 := rc 3 (.slice none 0 0) (by simp [go_sem])
  have r4 := rc 4 (.slice none 0 0) (by simp [go_sem])
  have r5 := rc 5 (iv 0) (by simp [go_sem])
  have r6 := rc 6 (iv 0) (by simp [go_sem])
  have r7 := rc 7 (iv 0) (by simp [go_sem])
  have r8 := rc 8 (.slice none 0 0) (by simp [go_sem])
  have r9 := rc 9 (iv 0) (by simp [go_sem])
  have r10 := rc 10 (iv 0) (by simp [go_sem])
  have r11 := rc 11 (iv 0) (by simp [go_sem])
  have r12 := rc 12 (iv 0) (by simp [go_sem])
  have f0 := rcF 0
  have f1 := rcF 1
  have f2 := rcF 2
  have f3 := rcF 3
  have f4 := rcF 4
  have f5 := rcF 5
  have f6 := rcF 6
  have f7 := rcF 7
  have f8 := rcF 8
  have f9 := rcF 9
  have f10 := rcF 10
  have f11 := rcF 11
  have f12 := rcF 12
  have hr0 : w.heap.size + 1 < w2.heap.size := cell_lt r0
  clear hok2 hq rc rcF
  cases t : (n == 0)
  · have t2 : (n != 0) = true := by simpa using t
    have N := hide (show ShIs x at_ Hp0 from .inr ⟨fun h => by have := OkIs.uniq h.1 (unhide OK2); simp at t; omega, rfl⟩)
    go_wp2_with fail
    refine bodyPost_ret (v := Hp0.v (.slice none 0 0) (.slice none 0 0) (.slice none 0 0)) (by simp [results, Tryz.results32, go_sem, Hp0, r0, r1, r2, r3, r4, r5, r6, r7, r8, r9, r10, r11, r12]) rfl ⟨Hp0, none, 0, none, 0, none, 0, rfl, unhide N, HRd.zero _, ?_⟩
    refine (fun (F : Only (fun q => q = w.heap.size + 1) w2 _) => F.ext x2 (fun q hq e => by omega)) ?_
    repeat (first | refine Only.setCell ?_ (by simp) _ | exact Only.refl _ _)
  · have t2 : (n != 0) = false := by simpa using t
    have Y := hide (show OkIs x 0 by have := unhide OK2; simp at t; rw [t] at this; exact this)
    have b4 := (unhide B2).2.2.2.2.1
    have hb0 : w.heap.size < w2.heap.size := cell_lt b4
    by_cases ha0 : at_ < 0
    · have N := hide (show ShIs x at_ Hp0 from .inr ⟨fun h => by have := h.2.1; omega, rfl⟩)
      go_wp2_with fail
      refine bodyPost_ret (v := Hp0.v (.slice none 0 0) (.slice none 0 0) (.slice none 0 0)) (by simp [results, Tryz.results32, go_sem, Hp0, r0, r1, r2, r3, r4, r5, r6, r7, r8, r9, r10, r11, r12]) rfl ⟨Hp0, none, 0, none, 0, none, 0, rfl, unhide N, HRd.zero _, ?_⟩
      refine (fun (F : Only (fun q => q = w.heap.size + 1) w2 _) => F.ext x2 (fun q hq e => by omega)) ?_
      repeat (first | refine Only.setCell ?_ (by simp) _ | exact Only.refl _ _)
    · by_cases ha1 : at_ < x.cells.length
      · obtain ⟨i, hi⟩ : ∃ i : Nat, at_ = (i : Int) := ⟨at_.toNat, by omega⟩
        subst hi
        have hin : i < x.cells.length := by omega
        obtain ⟨bc0, oc0, hac, hst⟩ : ∃ bc oc, ac = some ⟨bc, oc, none⟩ ∧ w2.cell? ⟨bc, oc + i * 8, none⟩ = some (iv (x.c i).st) := by
          obtain ⟨ad, cap, e, _, hx⟩ := (unhide Q1).2.1
          obtain ⟨b2, o2, e2, vp, q, _⟩ := hx i hin
          simp only [Value.slice.injEq] at e
          rw [Hp.c_eq x i hin] at q
          exact ⟨b2, o2, e.1.trans e2, q⟩
        subst hac
        have i0 : (0:Int) ≤ (i:Int) := by omega
        have nge : ¬ ((x.cells.length : Int) ≤ (i : Int)) := by omega
        cases q3 : ((x.c i).st == 1)
        · have q3n : ((x.c i).st != 1) = true := by simpa using q3
          have N := hide (show ShIs x (i : Int) Hp0 from .inr ⟨fun h => by have := h.2.2.2; simp at this; simp [this] at q3, rfl⟩)
          go_wp2_with fail
          refine bodyPost_ret (v := Hp0.v (.slice none 0 0) (.slice none 0 0) (.slice none 0 0)) (by simp [results, Tryz.results32, go_sem, Hp0, r0, r1, r2, r3, r4, r5, r6, r7, r8, r9, r10, r11, r12]) rfl ⟨Hp0, none, 0, none, 0, none, 0, rfl, unhide N, HRd.zero _, ?_⟩
          refine (fun (F : Only (fun q => q = w.heap.size + 1) w2 _) => F.ext x2 (fun q hq e => by omega)) ?_
          repeat (first | refine Only.setCell ?_ (by simp) _ | exact Only.refl _ _)
        · have q3n : ((x.c i).st != 1) = false := by simpa using q3
          have OKS := hide (show ShOk x (i : Int) from ⟨unhide Y, by omega, by omega, by simpa using q3⟩)
          obtain ⟨b0, b1, b2, b3, b4', b5, b6, b7, b8, b9, b10, b11, b12⟩ := unhide B2
          obtain ⟨R1x, R2x, _, _⟩ := (unhide Y).all
          have hg4 := (gray_fit (unhide Y)).1
          have n8 := (unhide Y).n8
          have hrg : 0 < x.regs.length ∧ x.regs.length ≤ 100 := by rw [R1x.regs]; omega
          have P2 := hide (unhide Y).p200
          clear b4' R1x R2x
          go_wp2_with fail
          refine (l1copy_any x _ (unhide Q1).1 (unhide Q1).2.1 (unhide Q1).2.2 hrg.1 hrg.2 n8 (unhide P2) (by omega)).mono ?_
          rintro e w3 ⟨g, rfl, hg, q3⟩
          obtain ⟨ar3, kr3, ac3, kc3, vg3, br, bc, pb, pa, pk, role, hG3⟩ := unhide hg
          obtain ⟨ag3, kg3, hvg⟩ : ∃ a k, vg3 = .slice a x.gray.length k := hG3.gr.form
          subst hvg
          have G3 := hide hG3
          clear hg hG3 b0 b1 b2 b3 b5 b6 b7 b8 b9 b10 b11 b12 b4 hst
          go_wp2_with fail
          refine (l3shade_any ⟨2, 0, i⟩ _ (unhide G3) (fun _ => ⟨i0, ha1⟩) n8 (by omega) w2 (Nat.le_refl _) q3 q3.size).mono ?_
          rintro e w4 ⟨rfl, h4, x4⟩
          obtain ⟨y, hy⟩ : ∃ y, y = sshH x ⟨2, 0, i⟩ := ⟨_, rfl⟩
          have IS := hide (show ShIs x (i : Int) y from .inl ⟨unhide OKS, by rw [hy]; exact ssh_is (unhide OKS)⟩)
          have LN := hide (show y.regs = x.regs ∧ y.cells.length = x.cells.length ∧ y.gray.length ≤ x.gray.length + 1 ∧ ∀ q, (y.c q).prs = (x.c q).prs by rw [hy, ssh_is (unhide OKS)]; exact ⟨(shadeH_len x _).1, (shadeH_len x _).2.1, (shadeH_len x _).2.2, shadeH_prs x _ (by simpa using hin)⟩)
          rw [← hy] at h4
          obtain ⟨ag4, kg4, role4, hG4⟩ := unhide h4
          have RD := hide (show ∀ W, Only (fun q => q = w.heap.size + 1) w4 W → HRd W y ar3 kr3 ac3 kc3 ag4 kg4 from fun W o => (hG4.low o (fun q e => by omega)).rd (by rw [(unhide LN).1]; omega) (by rw [(unhide LN).2.1]; omega) (fun q hq => by rw [(unhide LN).2.2.2 q]; exact unhide P2 q (by rw [(unhide LN).2.1] at hq; exact hq)) (by have := (unhide LN).2.2.1; omega))
          obtain ⟨d0, d1, d2, d3, d4, d5, d6, d7, d8, d9, d10, d11, d12⟩ := hG4.bx
          have X4 := x2.trans x4
          have hgw : w2.heap.size ≤ g := hG4.lo
          have hg4s : g < w4.heap.size := cell_lt d0
          have ng : ¬ g = w.heap.size + 1 := by omega
          have ng2 : ¬ w.heap.size + 1 = g := by omega
          have e0 := x4.keep r0
          have e1 := x4.keep r1
          have e2 := x4.keep r2
          have e3 := x4.keep r3
          have e4 := x4.keep r4
          have e5 := x4.keep r5
          have e6 := x4.keep r6
          have e7 := x4.keep r7
          have e8 := x4.keep r8
          have e9 := x4.keep r9
          have e10 := x4.keep r10
          have e11 := x4.keep r11
          have e12 := x4.keep r12
          have g0 := ((bcell x4).2 (w.heap.size + 1) 0 hr0).trans f0
          have g1 := ((bcell x4).2 (w.heap.size + 1) 1 hr0).trans f1
          have g2 := ((bcell x4).2 (w.heap.size + 1) 2 hr0).trans f2
          have g3 := ((bcell x4).2 (w.heap.size + 1) 3 hr0).trans f3
          have g4 := ((bcell x4).2 (w.heap.size + 1) 4 hr0).trans f4
          have g5 := ((bcell x4).2 (w.heap.size + 1) 5 hr0).trans f5
          have g6 := ((bcell x4).2 (w.heap.size + 1) 6 hr0).trans f6
          have g7 := ((bcell x4).2 (w.heap.size + 1) 7 hr0).trans f7
          have g8 := ((bcell x4).2 (w.heap.size + 1) 8 hr0).trans f8
          have g9 := ((bcell x4).2 (w.heap.size + 1) 9 hr0).trans f9
          have g10 := ((bcell x4).2 (w.heap.size + 1) 10 hr0).trans f10
          have g11 := ((bcell x4).2 (w.heap.size + 1) 11 hr0).trans f11
          have g12 := ((bcell x4).2 (w.heap.size + 1) 12 hr0).trans f12
          have hr4 : w.heap.size + 1 < w4.heap.size := cell_lt e0
          clear h4 hG4 hy r0 r1 r2 r3 r4 r5 r6 r7 r8 r9 r10 r11 r12 f0 f1 f2 f3 f4 f5 f6 f7 f8 f9 f10 f11 f12
          go_wp2_with fail
          refine bodyPost_ret (v := y.v (.slice ar3 y.regs.length kr3) (.slice ac3 y.cells.length kc3) (.slice ag4 y.gray.length kg4)) (by simp [results, Tryz.results32, go_sem, e0, e1, e2, e3, e4, e5, e6, e7, e8, e9, e10, e11, e12]) rfl ⟨y, ar3, kr3, ac3, kc3, ag4, kg4, rfl, unhide IS, ?_⟩
          refine (fun (F : Only (fun q => q = w.heap.size + 1) w4 _) => ⟨unhide RD _ F, F.ext X4 (fun q hq e => by omega)⟩) ?_
          repeat (first | refine Only.setCell ?_ (by simp) _ | exact Only.refl _ _)
      · have ha2 : (x.cells.length : Int) ≤ at_ := by omega
        have N := hide (show ShIs x at_ Hp0 from .inr ⟨fun h => by have := h.2.2.1; omega, rfl⟩)
        go_wp2_with fail
        refine bodyPost_ret (v := Hp0.v (.slice none 0 0) (.slice none 0 0) (.slice none 0 0)) (by simp [results, Tryz.results32, go_sem, Hp0, r0, r1, r2, r3, r4, r5, r6, r7, r8, r9, r10, r11, r12]) rfl ⟨Hp0, none, 0, none, 0, none, 0, rfl, unhide N, HRd.zero _, ?_⟩
        refine (fun (F : Only (fun q => q = w.heap.size + 1) w2 _) => F.ext x2 (fun q hq e => by omega)) ?_
        repeat (first | refine Only.setCell ?_ (by simp) _ | exact Only.refl _ _)
end Go.Proofs.YtkabcfhemljnbaaGreat
