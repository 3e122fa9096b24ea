import Derived.Test.YtkabcfhemljnbaaGreatSa
import Derived.Test.YtkabcfhemljnbaaGreatLc
import Derived.Test.YtkabcfhemljnbaaGreatLe
import Derived.Test.YtkabcfhemljnbaaGreatSpecL
import Derived.Test.YtkabcfhemljnbaaGreatOw
import Derived.Test.YtkabcfhemljnbaaGreatTd
namespace Go.Proofs.YtkabcfhemljnbaaGreat
open Go.RowKit
attribute [local go_sem ↓] Go.wp_at_zero Go.wp_at_succ

/-- a heap that can be read -/
def HRd (w : World) (y : Hp) (ar : Option Addr) (kr : Nat) (ac : Option Addr) (kc : Nat) (ag : Option Addr) (kg : Nat) : Prop := SlW w (.slice ar y.regs.length kr) y.regs ∧ SlC w (.slice ac y.cells.length kc) y.cells ∧ SlI w (.slice ag y.gray.length kg) y.gray
theorem HRd.ext {w w' : World} {y : Hp} {ar : Option Addr} {kr : Nat} {ac : Option Addr} {kc : Nat} {ag : Option Addr} {kg : Nat} (h : HRd w y ar kr ac kc ag kg) (e : Ext w w') : HRd w' y ar kr ac kc ag kg := ⟨SlW.ext e h.1, SlC.ext e h.2.1, SlI.ext e h.2.2⟩
theorem HRd.zero (w : World) : HRd w Hp0 none 0 none 0 none 0 := ⟨SlOf.nil, SlOf.nil, SlOf.nil⟩
theorem ssh_is {x : Hp} {at_ : Int} (h : ShOk x at_) : sshH x ⟨2, 0, at_⟩ = shadeH x at_.toNat := by
  obtain ⟨_, h0, h1, h2⟩ := h
  have e : ((at_.toNat : Nat) : Int) = at_ := by omega
  have hb : sshB x ⟨2, 0, at_⟩ = shadeB x at_.toNat := by simp [sshB, shadeB, whB, h2]
  unfold sshH shadeH
  rw [hb]
  by_cases q : shadeB x at_.toNat = true
  · rw [if_pos q, if_pos q]; simp [e]
  · rw [if_neg q, if_neg q]
theorem shadeH_len (x : Hp) (i : Nat) : (shadeH x i).regs = x.regs ∧ (shadeH x i).cells.length = x.cells.length ∧ (shadeH x i).gray.length ≤ x.gray.length + 1 := by
  unfold shadeH; split <;> simp
theorem shadeH_prs (x : Hp) (i : Nat) (hi : i < x.cells.length) (q : Nat) : ((shadeH x i).c q).prs = (x.c q).prs := by
  unfold shadeH; split
  · have := Hp.c_set x i (grayC (x.c i)) hi q
    have e : ({ x with cells := x.cells.set i (grayC (x.c i)), gray := x.gray ++ [(i : Int)] } : Hp).c q = ({ x with cells := x.cells.set i (grayC (x.c i)) } : Hp).c q := rfl
    rw [e, this]
    by_cases h : q = i
    · rw [if_pos h, h]; rfl
    · rw [if_neg h]
  · rfl
theorem GAt.low {S : Nat → Prop} {B : Nat} {w w' : World} {g : Nat} {x : Hp} {ar : Option Addr} {kr : Nat} {ac : Option Addr} {kc : Nat} {vg : Value} {br bc : Nat} {pb : Nat → Nat} {pa : Nat → Option Addr} {pk : Nat → Nat} {role : Nat → Nat} (h : GAt B w g x ar kr ac kc vg br bc pb pa pk role) (o : Only S w w') (hS : ∀ q, S q → q < B) : GAt B w' g x ar kr ac kc vg br bc pb pa pk role :=
  ⟨h.bx.only o (fun s => by have := hS _ s; have := h.lo; omega), nf1_block h.nf (o.block g h.nf.1 (fun s => by have := hS _ s; have := h.lo; omega)) o.size, h.lo, h.ha, h.hc, h.rw.only o (fun hl s => by have := hS _ s; have := (h.rw.nr hl).2; omega) (fun hl s => by have := hS _ s; have := (h.rw.nc hl).2; omega) (fun q hq hl s => by have := hS _ s; have := (h.rw.pl q hq hl).2.2.2; omega), h.gr.block (fun q hq => o.block q (h.gr.lt q hq).2 (fun s => by have := hS _ s; have := (h.gr.lt q hq).1; omega)), h.sp, h.kl⟩
theorem GAt.rd {B : Nat} {w : World} {g : Nat} {x : Hp} {ar : Option Addr} {kr : Nat} {ac : Option Addr} {kc : Nat} {ag : Option Addr} {kg : Nat} {br bc : Nat} {pb : Nat → Nat} {pa : Nat → Option Addr} {pk : Nat → Nat} {role : Nat → Nat} (h : GAt B w g x ar kr ac kc (.slice ag x.gray.length kg) br bc pb pa pk role) (n1 : x.regs.length ≤ 1048576) (n2 : x.cells.length ≤ 1048576) (n3 : ∀ q, q < x.cells.length → (x.c q).prs.length ≤ 200) (n4 : x.gray.length ≤ 1048576) : HRd w x ar kr ac kc ag kg := by
  refine ⟨h.rw.slW kr h.ha n1, h.rw.slC kc h.hc n2 n3, ⟨ag, kg, rfl, by omega, fun i hi => ?_⟩⟩
  obtain ⟨gb, go, e, c, _⟩ := h.gr.at i hi
  exact ⟨gb, go, e, by rw [Nat.mul_one]; exact c⟩

set_option maxRecDepth 100000 in
set_option maxHeartbeats 4000000 in
theorem specShade_any (x : Hp) (at_ : Int) (w : World) {ar : Option Addr} {kr : Nat} {ac : Option Addr} {kc : Nat} {ag : Option Addr} {kg : Nat} (hR : SlW w (.slice ar x.regs.length kr) x.regs) (hC : SlC w (.slice ac x.cells.length kc) x.cells) (hG : SlI w (.slice ag x.gray.length kg) x.gray) :
    Calls Tryz.prog 32 #[x.v (.slice ar x.regs.length kr) (.slice ac x.cells.length kc) (.slice ag x.gray.length kg), .int .i64 at_] w fun e w' => ∃ y ar kr ac kc ag kg, Hid (e = .returned (y.v (.slice ar y.regs.length kr) (.slice ac y.cells.length kc) (.slice ag y.gray.length kg))) ∧ Hid (ShIs x at_ y) ∧ Hid (HRd w' y ar kr ac kc ag kg) ∧ Ext w w' := by
  have x1 : Ext w ((w.alloc (.cells #[iv x.room, iv x.used, iv x.born, .slice ar x.regs.length kr, .slice ac x.cells.length kc, iv x.phase, iv x.hand, iv x.sub, .slice ag x.gray.length kg, iv x.per, iv x.start, iv x.rounds, iv x.forced] 33)).alloc (.cells #[iv 0, iv 0, iv 0, .slice none 0 0, .slice none 0 0, iv 0, iv 0, iv 0, .slice none 0 0, iv 0, iv 0, iv 0, iv 0] 33)) := ((Ext.refl w).alloc _).alloc _
  have S1 := hide (SlW.ext x1 hR)
  have S2 := hide (SlC.ext x1 hC)
  have S3 := hide (SlI.ext x1 hG)
  have HB := hide ((HBox.new w x (.slice ar x.regs.length kr) (.slice ac x.cells.length kc) (.slice ag x.gray.length kg) 33).ext ((Ext.refl _).alloc (.cells #[iv 0, iv 0, iv 0, .slice none 0 0, .slice none 0 0, iv 0, iv 0, iv 0, .slice none 0 0, iv 0, iv 0, iv 0, iv 0] 33)))
  have hs2 : ((w.alloc (.cells #[iv x.room, iv x.used, iv x.born, .slice ar x.regs.length kr, .slice ac x.cells.length kc, iv x.phase, iv x.hand, iv x.sub, .slice ag x.gray.length kg, iv x.per, iv x.start, iv x.rounds, iv x.forced] 33)).alloc (.cells #[iv 0, iv 0, iv 0, .slice none 0 0, .slice none 0 0, iv 0, iv 0, iv 0, .slice none 0 0, iv 0, iv 0, iv 0, iv 0] 33)).heap.size = w.heap.size + 2 := by simp
  clear hR hC hG
  go_enter Tryz.func32, Tryz.ntmps32
  go_wp2_with fail
  refine (specHeapOk_any x _ (unhide S1) (unhide S2) (unhide S3)).mono ?_
  rintro e w2 ⟨n, rfl, hok2, hq⟩
  have x2 := x1.trans hq
  have OK2 := hide hok2
  have B2 := hide ((unhide HB).ext hq)
  have RC := hide (show ∀ o v, ((w.alloc (.cells #[iv x.room, iv x.used, iv x.born, .slice ar x.regs.length kr, .slice ac x.cells.length kc, iv x.phase, iv x.hand, iv x.sub, .slice ag x.gray.length kg, iv x.per, iv x.start, iv x.rounds, iv x.forced] 33)).alloc (.cells #[iv 0, iv 0, iv 0, .slice none 0 0, .slice none 0 0, iv 0, iv 0, iv 0, .slice none 0 0, iv 0, iv 0, iv 0, iv 0] 33)).cell? ⟨w.heap.size + 1, o, none⟩ = some v → w2.cell? ⟨w.heap.size + 1, o, none⟩ = some v from fun o v h => hq.keep h)
  have RCF := hide (show ∀ o, w2.frozen? ⟨w.heap.size + 1, o, none⟩ = false from fun o => ((bcell hq).2 (w.heap.size + 1) o (by rw [hs2]; omega)).trans (by simp [go_sem]))
  have hz2 : w.heap.size + 2 ≤ w2.heap.size := by have := hq.size; omega
  have Q1 := hide (show SlW w2 (.slice ar x.regs.length kr) x.regs ∧ SlC w2 (.slice ac x.cells.length kc) x.cells ∧ SlI w2 (.slice ag x.gray.length kg) x.gray from ⟨SlW.ext hq (unhide S1), SlC.ext hq (unhide S2), SlI.ext hq (unhide S3)⟩)
  have rc := unhide RC
  have rcF := unhide RCF
  have r0 := rc 0 (iv 0) (by simp [go_sem])
  have r1 := rc 1 (iv 0) (by simp [go_sem])
  have r2 := rc 2 (iv 0) (by simp [go_sem])
  have r3 := rc 3 (.slice none 0 0) (by simp [go_sem])
  have r4 := rc 4 (.slice none 0 0) (by simp [go_sem])
  have r5 := rc 5 (iv 0) (by simp [go_sem])
  have r6 := rc 6 (iv 0) (by simp [go_sem])
  have r7 := rc 7 (iv 0) (by simp [go_sem])
  have r8 := rc 8 (.slice none 0 0) (by simp [go_sem])
  have r9 := rc 9 (iv 0) (by simp [go_sem])
  have r10 := rc 10 (iv 0) (by simp [go_sem])
  have r11 := rc 11 (iv 0) (by simp [go_sem])
  have r12 := rc 12 (iv 0) (by simp [go_sem])
  have f0 := rcF 0
  have f1 := rcF 1
  have f2 := rcF 2
  have f3 := rcF 3
  have f4 := rcF 4
  have f5 := rcF 5
  have f6 := rcF 6
  have f7 := rcF 7
  have f8 := rcF 8
  have f9 := rcF 9
  have f10 := rcF 10
  have f11 := rcF 11
  have f12 := rcF 12
  have hr0 : w.heap.size + 1 < w2.heap.size := cell_lt r0
  clear hok2 hq rc rcF
  cases t : (n == 0)
  · have t2 : (n != 0) = true := by simpa using t
    have N := hide (show ShIs x at_ Hp0 from .inr ⟨fun h => by have := OkIs.uniq h.1 (unhide OK2); simp at t; omega, rfl⟩)
    go_wp2_with fail
    refine bodyPost_ret (v := Hp0.v (.slice none 0 0) (.slice none 0 0) (.slice none 0 0)) (by simp [results, Tryz.results32, go_sem, Hp0, r0, r1, r2, r3, r4, r5, r6, r7, r8, r9, r10, r11, r12]) rfl ⟨Hp0, none, 0, none, 0, none, 0, rfl, unhide N, HRd.zero _, ?_⟩
    refine (fun (F : Only (fun q => q = w.heap.size + 1) w2 _) => F.ext x2 (fun q hq e => by omega)) ?_
    repeat (first | refine Only.setCell ?_ (by simp) _ | exact Only.refl _ _)
  · have t2 : (n != 0) = false := by simpa using t
    have Y := hide (show OkIs x 0 by have := unhide OK2; simp at t; rw [t] at this; exact this)
    have b4 := (unhide B2).2.2.2.2.1
    have hb0 : w.heap.size < w2.heap.size := cell_lt b4
    by_cases ha0 : at_ < 0
    · have N := hide (show ShIs x at_ Hp0 from .inr ⟨fun h => by have := h.2.1; omega, rfl⟩)
      go_wp2_with fail
      refine bodyPost_ret (v := Hp0.v (.slice none 0 0) (.slice none 0 0) (.slice none 0 0)) (by simp [results, Tryz.results32, go_sem, Hp0, r0, r1, r2, r3, r4, r5, r6, r7, r8, r9, r10, r11, r12]) rfl ⟨Hp0, none, 0, none, 0, none, 0, rfl, unhide N, HRd.zero _, ?_⟩
      refine (fun (F : Only (fun q => q = w.heap.size + 1) w2 _) => F.ext x2 (fun q hq e => by omega)) ?_
      repeat (first | refine Only.setCell ?_ (by simp) _ | exact Only.refl _ _)
    · by_cases ha1 : at_ < x.cells.length
      · obtain ⟨i, hi⟩ : ∃ i : Nat, at_ = (i : Int) := ⟨at_.toNat, by omega⟩
        subst hi
        have hin : i < x.cells.length := by omega
        obtain ⟨bc0, oc0, hac, hst⟩ : ∃ bc oc, ac = some ⟨bc, oc, none⟩ ∧ w2.cell? ⟨bc, oc + i * 8, none⟩ = some (iv (x.c i).st) := by
          obtain ⟨ad, cap, e, _, hx⟩ := (unhide Q1).2.1
          obtain ⟨b2, o2, e2, vp, q, _⟩ := hx i hin
          simp only [Value.slice.injEq] at e
          rw [Hp.c_eq x i hin] at q
          exact ⟨b2, o2, e.1.trans e2, q⟩
        subst hac
        have i0 : (0:Int) ≤ (i:Int) := by omega
        have nge : ¬ ((x.cells.length : Int) ≤ (i : Int)) := by omega
        cases q3 : ((x.c i).st == 1)
        · have q3n : ((x.c i).st != 1) = true := by simpa using q3
          have N := hide (show ShIs x (i : Int) Hp0 from .inr ⟨fun h => by have := h.2.2.2; simp at this; simp [this] at q3, rfl⟩)
          go_wp2_with fail
          refine bodyPost_ret (v := Hp0.v (.slice none 0 0) (.slice none 0 0) (.slice none 0 0)) (by simp [results, Tryz.results32, go_sem, Hp0, r0, r1, r2, r3, r4, r5, r6, r7, r8, r9, r10, r11, r12]) rfl ⟨Hp0, none, 0, none, 0, none, 0, rfl, unhide N, HRd.zero _, ?_⟩
          refine (fun (F : Only (fun q => q = w.heap.size + 1) w2 _) => F.ext x2 (fun q hq e => by omega)) ?_
          repeat (first | refine Only.setCell ?_ (by simp) _ | exact Only.refl _ _)
        · have q3n : ((x.c i).st != 1) = false := by simpa using q3
          have OKS := hide (show ShOk x (i : Int) from ⟨unhide Y, by omega, by omega, by simpa using q3⟩)
          obtain ⟨b0, b1, b2, b3, b4', b5, b6, b7, b8, b9, b10, b11, b12⟩ := unhide B2
          obtain ⟨R1x, R2x, _, _⟩ := (unhide Y).all
          have hg4 := (gray_fit (unhide Y)).1
          have n8 := (unhide Y).n8
          have hrg : 0 < x.regs.length ∧ x.regs.length ≤ 100 := by rw [R1x.regs]; omega
          have P2 := hide (unhide Y).p200
          clear b4' R1x R2x
          go_wp2_with fail
          refine (l1copy_any x _ (unhide Q1).1 (unhide Q1).2.1 (unhide Q1).2.2 hrg.1 hrg.2 n8 (unhide P2) (by omega)).mono ?_
          rintro e w3 ⟨g, rfl, hg, q3⟩
          obtain ⟨ar3, kr3, ac3, kc3, vg3, br, bc, pb, pa, pk, role, hG3⟩ := unhide hg
          obtain ⟨ag3, kg3, hvg⟩ : ∃ a k, vg3 = .slice a x.gray.length k := hG3.gr.form
          subst hvg
          have G3 := hide hG3
          clear hg hG3 b0 b1 b2 b3 b5 b6 b7 b8 b9 b10 b11 b12 b4 hst
          go_wp2_with fail
          refine (l3shade_any ⟨2, 0, i⟩ _ (unhide G3) (fun _ => ⟨i0, ha1⟩) n8 (by omega) w2 (Nat.le_refl _) q3 q3.size).mono ?_
          rintro e w4 ⟨rfl, h4, x4⟩
          obtain ⟨y, hy⟩ : ∃ y, y = sshH x ⟨2, 0, i⟩ := ⟨_, rfl⟩
          have IS := hide (show ShIs x (i : Int) y from .inl ⟨unhide OKS, by rw [hy]; exact ssh_is (unhide OKS)⟩)
          have LN := hide (show y.regs = x.regs ∧ y.cells.length = x.cells.length ∧ y.gray.length ≤ x.gray.length + 1 ∧ ∀ q, (y.c q).prs = (x.c q).prs by rw [hy, ssh_is (unhide OKS)]; exact ⟨(shadeH_len x _).1, (shadeH_len x _).2.1, (shadeH_len x _).2.2, shadeH_prs x _ (by simpa using hin)⟩)
          rw [← hy] at h4
          obtain ⟨ag4, kg4, role4, hG4⟩ := unhide h4
          have RD := hide (show ∀ W, Only (fun q => q = w.heap.size + 1) w4 W → HRd W y ar3 kr3 ac3 kc3 ag4 kg4 from fun W o => (hG4.low o (fun q e => by omega)).rd (by rw [(unhide LN).1]; omega) (by rw [(unhide LN).2.1]; omega) (fun q hq => by rw [(unhide LN).2.2.2 q]; exact unhide P2 q (by rw [(unhide LN).2.1] at hq; exact hq)) (by have := (unhide LN).2.2.1; omega))
          obtain ⟨d0, d1, d2, d3, d4, d5, d6, d7, d8, d9, d10, d11, d12⟩ := hG4.bx
          have X4 := x2.trans x4
          have hgw : w2.heap.size ≤ g := hG4.lo
          have hg4s : g < w4.heap.size := cell_lt d0
          have ng : ¬ g = w.heap.size + 1 := by omega
          have ng2 : ¬ w.heap.size + 1 = g := by omega
          have e0 := x4.keep r0
          have e1 := x4.keep r1
          have e2 := x4.keep r2
          have e3 := x4.keep r3
          have e4 := x4.keep r4
          have e5 := x4.keep r5
          have e6 := x4.keep r6
          have e7 := x4.keep r7
          have e8 := x4.keep r8
          have e9 := x4.keep r9
          have e10 := x4.keep r10
          have e11 := x4.keep r11
          have e12 := x4.keep r12
          have g0 := ((bcell x4).2 (w.heap.size + 1) 0 hr0).trans f0
          have g1 := ((bcell x4).2 (w.heap.size + 1) 1 hr0).trans f1
          have g2 := ((bcell x4).2 (w.heap.size + 1) 2 hr0).trans f2
          have g3 := ((bcell x4).2 (w.heap.size + 1) 3 hr0).trans f3
          have g4 := ((bcell x4).2 (w.heap.size + 1) 4 hr0).trans f4
          have g5 := ((bcell x4).2 (w.heap.size + 1) 5 hr0).trans f5
          have g6 := ((bcell x4).2 (w.heap.size + 1) 6 hr0).trans f6
          have g7 := ((bcell x4).2 (w.heap.size + 1) 7 hr0).trans f7
          have g8 := ((bcell x4).2 (w.heap.size + 1) 8 hr0).trans f8
          have g9 := ((bcell x4).2 (w.heap.size + 1) 9 hr0).trans f9
          have g10 := ((bcell x4).2 (w.heap.size + 1) 10 hr0).trans f10
          have g11 := ((bcell x4).2 (w.heap.size + 1) 11 hr0).trans f11
          have g12 := ((bcell x4).2 (w.heap.size + 1) 12 hr0).trans f12
          have hr4 : w.heap.size + 1 < w4.heap.size := cell_lt e0
          clear h4 hG4 hy r0 r1 r2 r3 r4 r5 r6 r7 r8 r9 r10 r11 r12 f0 f1 f2 f3 f4 f5 f6 f7 f8 f9 f10 f11 f12
          go_wp2_with fail
          refine bodyPost_ret (v := y.v (.slice ar3 y.regs.length kr3) (.slice ac3 y.cells.length kc3) (.slice ag4 y.gray.length kg4)) (by simp [results, Tryz.results32, go_sem, e0, e1, e2, e3, e4, e5, e6, e7, e8, e9, e10, e11, e12]) rfl ⟨y, ar3, kr3, ac3, kc3, ag4, kg4, rfl, unhide IS, ?_⟩
          refine (fun (F : Only (fun q => q = w.heap.size + 1) w4 _) => ⟨unhide RD _ F, F.ext X4 (fun q hq e => by omega)⟩) ?_
          repeat (first | refine Only.setCell ?_ (by simp) _ | exact Only.refl _ _)
      · have ha2 : (x.cells.length : Int) ≤ at_ := by omega
        have N := hide (show ShIs x at_ Hp0 from .inr ⟨fun h => by have := h.2.2.1; omega, rfl⟩)
        go_wp2_with fail
        refine bodyPost_ret (v := Hp0.v (.slice none 0 0) (.slice none 0 0) (.slice none 0 0)) (by simp [results, Tryz.results32, go_sem, Hp0, r0, r1, r2, r3, r4, r5, r6, r7, r8, r9, r10, r11, r12]) rfl ⟨Hp0, none, 0, none, 0, none, 0, rfl, unhide N, HRd.zero _, ?_⟩
        refine (fun (F : Only (fun q => q = w.heap.size + 1) w2 _) => F.ext x2 (fun q hq e => by omega)) ?_
        repeat (first | refine Only.setCell ?_ (by simp) _ | exact Only.refl _ _)
end Go.Proofs.YtkabcfhemljnbaaGreat

namespace Go.Proofs.YtkabcfhemljnbaaGreat
open Go.RowKit
attribute [local go_sem ↓] Go.wp_at_zero Go.wp_at_succ

theorem HRow.grow {B C U V : Nat} {w : World} {x : Hp} {br kr bc kc bg kg : Nat} {pb : Nat → Nat} {pa : Nat → Option Addr} {pk : Nat → Nat} (h : HRow B U w x br kr bc kc bg kg pb pa pk) (hU : U ≤ V) (hC : C ≤ B) : HRow C V w x br kr bc kc bg kg pb pa pk :=
  ⟨h.r, h.s, h.p, h.g, h.p7, fun q hq hl => let ⟨a, b, c, d, e⟩ := h.pl q hq hl; ⟨a, b, c, Nat.le_trans hC d, Nat.lt_of_lt_of_le e hU⟩, h.nr, h.nc, h.ng, h.d, h.dp, ⟨⟨Nat.le_trans hC h.b.1.1, Nat.lt_of_lt_of_le h.b.1.2 hU⟩, ⟨Nat.le_trans hC h.b.2.1.1, Nat.lt_of_lt_of_le h.b.2.1.2 hU⟩, ⟨Nat.le_trans hC h.b.2.2.1, Nat.lt_of_lt_of_le h.b.2.2.2 hU⟩⟩, h.l⟩
/-- a heap as an answer: the zero one, or rows of its own in blocks from B on below U -/
def HA (B U : Nat) (w : World) (y : Hp) (ar : Option Addr) (kr : Nat) (ac : Option Addr) (kc : Nat) (ag : Option Addr) (kg : Nat) : Prop := (y = Hp0 ∧ ar = none ∧ kr = 0 ∧ ac = none ∧ kc = 0 ∧ ag = none ∧ kg = 0) ∨ ∃ br bc bg pb pa pk, ar = some ⟨br, 0, none⟩ ∧ ac = some ⟨bc, 0, none⟩ ∧ ag = some ⟨bg, 0, none⟩ ∧ HRow B U w y br kr bc kc bg kg pb pa pk
theorem HA.zero (B U : Nat) (w : World) : HA B U w Hp0 none 0 none 0 none 0 := .inl ⟨rfl, rfl, rfl, rfl, rfl, rfl, rfl⟩
theorem OkIs.r16 {x : Hp} (h : OkIs x 0) : 0 < x.regs.length ∧ x.regs.length ≤ 100 := by have := h.all.1.regs; omega

set_option maxRecDepth 100000 in
set_option maxHeartbeats 4000000 in
theorem implShade_any (x : Hp) (at_ : Int) (w : World) {ar : Option Addr} {kr : Nat} {ac : Option Addr} {kc : Nat} {ag : Option Addr} {kg : Nat} (hR : SlW w (.slice ar x.regs.length kr) x.regs) (hC : SlC w (.slice ac x.cells.length kc) x.cells) (hG : SlI w (.slice ag x.gray.length kg) x.gray) (hcap : CapAt w x ac) :
    Calls Tryz.prog 33 #[x.v (.slice ar x.regs.length kr) (.slice ac x.cells.length kc) (.slice ag x.gray.length kg), .int .i64 at_] w fun e w' => ∃ y ar kr ac kc ag kg, Hid (e = .returned (y.v (.slice ar y.regs.length kr) (.slice ac y.cells.length kc) (.slice ag y.gray.length kg))) ∧ Hid (ShIs x at_ y) ∧ Hid (HA w.heap.size w'.heap.size w' y ar kr ac kc ag kg) ∧ Ext w w' := by
  have x1 : Ext w ((w.alloc (.cells #[iv x.room, iv x.used, iv x.born, .slice ar x.regs.length kr, .slice ac x.cells.length kc, iv x.phase, iv x.hand, iv x.sub, .slice ag x.gray.length kg, iv x.per, iv x.start, iv x.rounds, iv x.forced] 33)).alloc (.cells #[iv 0, iv 0, iv 0, .slice none 0 0, .slice none 0 0, iv 0, iv 0, iv 0, .slice none 0 0, iv 0, iv 0, iv 0, iv 0] 33)) := ((Ext.refl w).alloc _).alloc _
  have S1 := hide (SlW.ext x1 hR)
  have S2 := hide (SlC.ext x1 hC)
  have S3 := hide (SlI.ext x1 hG)
  have S4 := hide (hcap.extS hC x1)
  have hs2 : ((w.alloc (.cells #[iv x.room, iv x.used, iv x.born, .slice ar x.regs.length kr, .slice ac x.cells.length kc, iv x.phase, iv x.hand, iv x.sub, .slice ag x.gray.length kg, iv x.per, iv x.start, iv x.rounds, iv x.forced] 33)).alloc (.cells #[iv 0, iv 0, iv 0, .slice none 0 0, .slice none 0 0, iv 0, iv 0, iv 0, .slice none 0 0, iv 0, iv 0, iv 0, iv 0] 33)).heap.size = w.heap.size + 2 := by simp
  clear hR hC hG hcap
  go_enter Tryz.func33, Tryz.ntmps33
  go_wp2_with fail
  refine (sound_any x _ (unhide S1) (unhide S2) (unhide S3) (unhide S4)).mono ?_
  rintro e w2 ⟨hq, hor⟩
  have x2 := x1.trans hq
  have RC := hide (show ∀ o v, ((w.alloc (.cells #[iv x.room, iv x.used, iv x.born, .slice ar x.regs.length kr, .slice ac x.cells.length kc, iv x.phase, iv x.hand, iv x.sub, .slice ag x.gray.length kg, iv x.per, iv x.start, iv x.rounds, iv x.forced] 33)).alloc (.cells #[iv 0, iv 0, iv 0, .slice none 0 0, .slice none 0 0, iv 0, iv 0, iv 0, .slice none 0 0, iv 0, iv 0, iv 0, iv 0] 33)).cell? ⟨w.heap.size + 1, o, none⟩ = some v → w2.cell? ⟨w.heap.size + 1, o, none⟩ = some v from fun o v h => hq.keep h)
  have RCF := hide (show ∀ o, w2.frozen? ⟨w.heap.size + 1, o, none⟩ = false from fun o => ((bcell hq).2 (w.heap.size + 1) o (by rw [hs2]; omega)).trans (by simp [go_sem]))
  have hz2 : w.heap.size + 2 ≤ w2.heap.size := by have := hq.size; omega
  have rc := unhide RC
  have rcF := unhide RCF
  have r0 := rc 0 (iv 0) (by simp [go_sem])
  have r1 := rc 1 (iv 0) (by simp [go_sem])
  have r2 := rc 2 (iv 0) (by simp [go_sem])
  have r3 := rc 3 (.slice none 0 0) (by simp [go_sem])
  have r4 := rc 4 (.slice none 0 0) (by simp [go_sem])
  have r5 := rc 5 (iv 0) (by simp [go_sem])
  have r6 := rc 6 (iv 0) (by simp [go_sem])
  have r7 := rc 7 (iv 0) (by simp [go_sem])
  have r8 := rc 8 (.slice none 0 0) (by simp [go_sem])
  have r9 := rc 9 (iv 0) (by simp [go_sem])
  have r10 := rc 10 (iv 0) (by simp [go_sem])
  have r11 := rc 11 (iv 0) (by simp [go_sem])
  have r12 := rc 12 (iv 0) (by simp [go_sem])
  have f0 := rcF 0
  have f1 := rcF 1
  have f2 := rcF 2
  have f3 := rcF 3
  have f4 := rcF 4
  have f5 := rcF 5
  have f6 := rcF 6
  have f7 := rcF 7
  have f8 := rcF 8
  have f9 := rcF 9
  have f10 := rcF 10
  have f11 := rcF 11
  have f12 := rcF 12
  have hr0 : w.heap.size + 1 < w2.heap.size := cell_lt r0
  clear hq rc rcF
  rcases unhide hor with ⟨hn, rfl⟩ | ⟨hok, b, an, kn, rfl, hv, han⟩
  · have N := hide (show ShIs x at_ Hp0 from .inr ⟨fun h => hn h.1, rfl⟩)
    clear hor hn
    go_wp2_with fail
    refine bodyPost_ret (v := Hp0.v (.slice none 0 0) (.slice none 0 0) (.slice none 0 0)) (by simp [results, Tryz.results33, go_sem, Hp0, r0, r1, r2, r3, r4, r5, r6, r7, r8, r9, r10, r11, r12]) rfl ⟨Hp0, none, 0, none, 0, none, 0, rfl, unhide N, HA.zero _ _ _, ?_⟩
    refine (fun (F : Only (fun q => q = w.heap.size + 1) w2 _) => F.ext x2 (fun q hq e => by omega)) ?_
    repeat (first | refine Only.setCell ?_ (by simp) _ | exact Only.refl _ _)
  · obtain ⟨bn, on, rfl⟩ := unhide han
    have OK := hide hok
    have V := hide hv
    have n13 := hv.n13
    have n8 := hok.n8
    clear hor hok hv han
    go_wp2_with fail
    by_cases hin : 0 ≤ at_ ∧ at_ < x.cells.length
    · obtain ⟨i, hi⟩ : ∃ i : Nat, at_ = (i : Int) := ⟨at_.toNat, by omega⟩
      subst hi
      have hil : i < x.cells.length := by omega
      refine (within_in (i : Int) 0 ((x.cells.length : Int) - 1) _ (by omega) (by omega)).mono ?_
      rintro e w3 ⟨rfl, rfl⟩
      obtain ⟨bn', on', bc, oc, e2, e3, m0, m1⟩ := (unhide V).N i hil
      cases e2
      subst e3
      obtain ⟨bc', oc', ap, kp, e4, C⟩ := (unhide V).H.cell i hil
      cases e4
      have p0 := C.p0
      have i0 : (0:Int) ≤ (i:Int) := by omega
      have i1 : (i:Int) < (x.cells.length:Int) := by omega
      clear C
      cases q3 : ((x.c i).st == 1)
      · have q3n : ((x.c i).st != 1) = true := by simpa using q3
        have N := hide (show ShIs x (i : Int) Hp0 from .inr ⟨fun h => by have := h.2.2.2; simp at this; simp [this] at q3, rfl⟩)
        go_wp2_with fail
        refine bodyPost_ret (v := Hp0.v (.slice none 0 0) (.slice none 0 0) (.slice none 0 0)) (by simp [results, Tryz.results33, go_sem, Hp0, r0, r1, r2, r3, r4, r5, r6, r7, r8, r9, r10, r11, r12]) rfl ⟨Hp0, none, 0, none, 0, none, 0, rfl, unhide N, HA.zero _ _ _, ?_⟩
        refine (fun (F : Only (fun q => q = w.heap.size + 1) w3 _) => F.ext x2 (fun q hq e => by omega)) ?_
        repeat (first | refine Only.setCell ?_ (by simp) _ | exact Only.refl _ _)
      · have q3n : ((x.c i).st != 1) = false := by simpa using q3
        have OKS := hide (show ShOk x (i : Int) from ⟨unhide OK, by omega, by omega, by simpa using q3⟩)
        have GF := hide (gray_fit (unhide OK))
        clear m0
        go_wp2_with fail
        refine (owned_any x b _ (unhide V) (unhide OK).all.1 (unhide OK).all.2.1 (unhide OK).r5 (unhide GF).1).mono ?_
        rintro e w4 ⟨s, rfl, hs, x4⟩
        obtain ⟨ar4, kr4, a4, n4, k4, a8, n8', k8, br, bcS, bnS, pb, pa, pk, knS, hd, vf, F, vk, role, hst, _, _⟩ := unhide hs
        have ST := hide hst
        have s13 := hst.sb.n13
        clear hs hst m1 p0 n13
        go_wp2_with fail
        refine (sshade_any i _ (unhide ST) hil ((unhide GF).2 i hil) w3 (Nat.le_refl _) x4).mono ?_
        rintro e w5 ⟨rfl, h5, x5⟩
        have S5 := hide (unhide h5)
        have LN := hide (shadeH_len x i)
        have LP := hide (shadeH_prs x i hil)
        have GG := hide (show ∀ g, g ∈ (shadeH x i).gray → 0 ≤ g ∧ g < (shadeH x i).cells.length from fun g hg => by
          have hx := (unhide OK).r5.2.2
          rw [(unhide LN).2.1]
          unfold shadeH at hg
          split at hg
          · rcases List.mem_append.1 hg with h | h
            · exact hx g h
            · rw [List.mem_singleton] at h; omega
          · exact hx g hg)
        have IS := hide (show ShIs x (i : Int) (shadeH x i) from .inl ⟨unhide OKS, by simp⟩)
        have hg4 := (unhide GF).1
        have BN := hide (show (shadeH x i).regs.length ≤ 100 ∧ (shadeH x i).cells.length ≤ 8000 ∧ (shadeH x i).gray.length ≤ 8000 ∧ ∀ q, q < (shadeH x i).cells.length → ((shadeH x i).c q).prs.length ≤ 200 from ⟨by rw [(unhide LN).1]; exact (unhide OK).r16.2, by rw [(unhide LN).2.1]; exact n8, by have := (unhide LN).2.2; omega, fun q hq => by rw [unhide LP q]; exact (unhide OK).p200 q (by rw [(unhide LN).2.1] at hq; exact hq)⟩)
        have hr5 : 0 < (shadeH x i).regs.length := by rw [(unhide LN).1]; exact (unhide OK).r16.1
        obtain ⟨y, hy⟩ : ∃ y, y = shadeH x i := ⟨_, rfl⟩
        rw [← hy] at S5 GG IS BN hr5
        clear h5 hy s13 LN LP
        go_wp2_with fail
        refine (told_any _ (unhide S5) (unhide GG) hr5 (unhide BN) x5.size).mono ?_
        rintro e w6 ⟨bcN, bgN, rfl, h6, x6⟩
        have X36 := x5.trans x6
        have X6 := x2.trans X36
        have e0 := X36.keep r0
        have e1 := X36.keep r1
        have e2 := X36.keep r2
        have e3 := X36.keep r3
        have e4 := X36.keep r4
        have e5 := X36.keep r5
        have e6 := X36.keep r6
        have e7 := X36.keep r7
        have e8 := X36.keep r8
        have e9 := X36.keep r9
        have e10 := X36.keep r10
        have e11 := X36.keep r11
        have e12 := X36.keep r12
        have g0 := ((bcell X36).2 (w.heap.size + 1) 0 hr0).trans f0
        have g1 := ((bcell X36).2 (w.heap.size + 1) 1 hr0).trans f1
        have g2 := ((bcell X36).2 (w.heap.size + 1) 2 hr0).trans f2
        have g3 := ((bcell X36).2 (w.heap.size + 1) 3 hr0).trans f3
        have g4 := ((bcell X36).2 (w.heap.size + 1) 4 hr0).trans f4
        have g5 := ((bcell X36).2 (w.heap.size + 1) 5 hr0).trans f5
        have g6 := ((bcell X36).2 (w.heap.size + 1) 6 hr0).trans f6
        have g7 := ((bcell X36).2 (w.heap.size + 1) 7 hr0).trans f7
        have g8 := ((bcell X36).2 (w.heap.size + 1) 8 hr0).trans f8
        have g9 := ((bcell X36).2 (w.heap.size + 1) 9 hr0).trans f9
        have g10 := ((bcell X36).2 (w.heap.size + 1) 10 hr0).trans f10
        have g11 := ((bcell X36).2 (w.heap.size + 1) 11 hr0).trans f11
        have g12 := ((bcell X36).2 (w.heap.size + 1) 12 hr0).trans f12
        have hr4 : w.heap.size + 1 < w6.heap.size := cell_lt e0
        have RW := hide (show ∀ W, Only (fun q => q = w.heap.size + 1) w6 W → HA w.heap.size W.heap.size W y (some ⟨br, 0, none⟩) kr4 (some ⟨bcN, 0, none⟩) y.cells.length (some ⟨bgN, 0, none⟩) y.gray.length from fun W o => by
          have := ((unhide h6).only o (fun q h1 h2 e => by omega)).grow (Nat.le_trans (Nat.le_refl _) o.size) (show w.heap.size ≤ w3.heap.size by omega)
          exact .inr ⟨_, _, _, _, _, _, rfl, rfl, rfl, this⟩)
        clear h6 r0 r1 r2 r3 r4 r5 r6 r7 r8 r9 r10 r11 r12 f0 f1 f2 f3 f4 f5 f6 f7 f8 f9 f10 f11 f12
        go_wp2_with fail
        refine bodyPost_ret (v := y.v (.slice (some ⟨br, 0, none⟩) y.regs.length kr4) (.slice (some ⟨bcN, 0, none⟩) y.cells.length y.cells.length) (.slice (some ⟨bgN, 0, none⟩) y.gray.length y.gray.length)) (by simp [results, Tryz.results33, go_sem, e0, e1, e2, e3, e4, e5, e6, e7, e8, e9, e10, e11, e12]) rfl ⟨y, _, _, _, _, _, _, rfl, unhide IS, ?_⟩
        refine (fun (F : Only (fun q => q = w.heap.size + 1) w6 _) => ⟨unhide RW _ F, F.ext X6 (fun q hq e => by omega)⟩) ?_
        repeat (first | refine Only.setCell ?_ (by simp) _ | exact Only.refl _ _)
    · refine (within_out at_ 0 ((x.cells.length : Int) - 1) _ (by omega)).mono ?_
      rintro e w3 ⟨rfl, rfl⟩
      have N := hide (show ShIs x at_ Hp0 from .inr ⟨fun h => hin ⟨h.2.1, h.2.2.1⟩, rfl⟩)
      go_wp2_with fail
      refine bodyPost_ret (v := Hp0.v (.slice none 0 0) (.slice none 0 0) (.slice none 0 0)) (by simp [results, Tryz.results33, go_sem, Hp0, r0, r1, r2, r3, r4, r5, r6, r7, r8, r9, r10, r11, r12]) rfl ⟨Hp0, none, 0, none, 0, none, 0, rfl, unhide N, HA.zero _ _ _, ?_⟩
      refine (fun (F : Only (fun q => q = w.heap.size + 1) w3 _) => F.ext x2 (fun q hq e => by omega)) ?_
      repeat (first | refine Only.setCell ?_ (by simp) _ | exact Only.refl _ _)
end Go.Proofs.YtkabcfhemljnbaaGreat

namespace Go.Proofs.YtkabcfhemljnbaaGreat
open Go.RowKit
attribute [local go_sem ↓] Go.wp_at_zero Go.wp_at_succ

/-! A heap as an answer: read, marked, held. -/
theorem HA.rd {B U : Nat} {w : World} {y : Hp} {ar : Option Addr} {kr : Nat} {ac : Option Addr} {kc : Nat} {ag : Option Addr} {kg : Nat} (h : HA B U w y ar kr ac kc ag kg) : HRd w y ar kr ac kc ag kg := by
  rcases h with ⟨rfl, rfl, rfl, rfl, rfl, rfl, rfl⟩ | ⟨br, bc, bg, pb, pa, pk, rfl, rfl, rfl, h⟩
  · exact HRd.zero w
  · exact ⟨h.r, h.cs, h.g⟩
theorem HA.ext {B U : Nat} {w w' : World} {y : Hp} {ar : Option Addr} {kr : Nat} {ac : Option Addr} {kc : Nat} {ag : Option Addr} {kg : Nat} (h : HA B U w y ar kr ac kc ag kg) (e : Ext w w') : HA B U w' y ar kr ac kc ag kg := by
  rcases h with h | ⟨br, bc, bg, pb, pa, pk, h1, h2, h3, h⟩
  · exact .inl h
  · exact .inr ⟨br, bc, bg, pb, pa, pk, h1, h2, h3, h.ext e⟩
theorem HA.only {S : Nat → Prop} {B U : Nat} {w w' : World} {y : Hp} {ar : Option Addr} {kr : Nat} {ac : Option Addr} {kc : Nat} {ag : Option Addr} {kg : Nat} (h : HA B U w y ar kr ac kc ag kg) (e : Only S w w') (hs : ∀ q, B ≤ q → q < U → ¬ S q) : HA B U w' y ar kr ac kc ag kg := by
  rcases h with h | ⟨br, bc, bg, pb, pa, pk, h1, h2, h3, h⟩
  · exact .inl h
  · exact .inr ⟨br, bc, bg, pb, pa, pk, h1, h2, h3, h.only e hs⟩
/-- it is marked: m is the number behind the marks -/
def HAm (w : World) (y : Hp) (ar : Option Addr) (kr : Nat) (ac : Option Addr) (kc : Nat) (ag : Option Addr) (kg : Nat) (m : Int) : Prop := (y = Hp0 ∧ ar = none ∧ kr = 0 ∧ ac = none ∧ kc = 0 ∧ ag = none ∧ kg = 0 ∧ m = 1) ∨ ∃ br bc bg pb pa pk, ar = some ⟨br, 0, none⟩ ∧ ac = some ⟨bc, 0, none⟩ ∧ ag = some ⟨bg, 0, none⟩ ∧ (y.regs.length ≤ 100 ∧ y.cells.length ≤ 8000 ∧ y.gray.length ≤ 8000 ∧ ∀ q, q < y.cells.length → (y.c q).prs.length ≤ 200) ∧ HMd w br y.regs.length bc y.cells.length bg y.gray.length (fun q => (y.c q).prs.length) pb pa pk ∧ m = Kc (fun q => (y.c q).prs.length) (1 + 3 * y.regs.length) y.cells.length + y.gray.length
theorem HAm.ext {w w' : World} {y : Hp} {ar : Option Addr} {kr : Nat} {ac : Option Addr} {kc : Nat} {ag : Option Addr} {kg : Nat} {m : Int} (h : HAm w y ar kr ac kc ag kg m) (e : Ext w w') : HAm w' y ar kr ac kc ag kg m := by
  rcases h with h | ⟨br, bc, bg, pb, pa, pk, h1, h2, h3, h4, h, h5⟩
  · exact .inl h
  · exact .inr ⟨br, bc, bg, pb, pa, pk, h1, h2, h3, h4, h.ext e, h5⟩
theorem HAm.nn {w : World} {y : Hp} {ar : Option Addr} {kr : Nat} {ac : Option Addr} {kc : Nat} {ag : Option Addr} {kg : Nat} {m : Int} (h : HAm w y ar kr ac kc ag kg m) : 0 ≤ m := by
  rcases h with h | ⟨br, bc, bg, pb, pa, pk, h1, h2, h3, h4, h, h5⟩
  · have := h.2.2.2.2.2.2.2; omega
  · have := (Kc_bd (len := fun q => (y.c q).prs.length) (k0 := 1 + 3 * y.regs.length) (by omega) y.cells.length (fun p hp => h4.2.2.2 p hp)).1
    omega
set_option maxRecDepth 100000 in
set_option maxHeartbeats 2000000 in
theorem markHeap_zero (w : World) :
    Calls Tryz.prog 18 #[Hp0.v (.slice none 0 0) (.slice none 0 0) (.slice none 0 0), .int .i64 1] w fun e w' => e = .returned (.int .i64 1) ∧ Ext w w' := by
  have x1 := (Ext.refl w).alloc (.cells #[iv 0, iv 0, iv 0, .slice none 0 0, .slice none 0 0, iv 0, iv 0, iv 0, .slice none 0 0, iv 0, iv 0, iv 0, iv 0] 33)
  simp only [Hp0]
  go_enter Tryz.func18, Tryz.ntmps18
  go_wp2_with fail
  refine (markWordS_z0 none 0 1 _).mono ?_
  rintro e w1 ⟨rfl, rfl⟩
  go_wp2_with fail
  refine (markCellS_z0 none 0 1 _).mono ?_
  rintro e w1 ⟨rfl, rfl⟩
  go_wp2_with fail
  refine (markIntS_z0 none 0 1 _).mono ?_
  rintro e w1 ⟨rfl, rfl⟩
  go_wp2_with fail
  go_ret
  exact ⟨rfl, x1⟩
set_option maxRecDepth 100000 in
set_option maxHeartbeats 2000000 in
theorem heldHeap_zero (w : World) :
    Calls Tryz.prog 34 #[Hp0.v (.slice none 0 0) (.slice none 0 0) (.slice none 0 0), .int .i64 1] w fun e w' => e = .returned (.int .i64 1) ∧ Ext w w' := by
  have x1 := (Ext.refl w).alloc (.cells #[iv 0, iv 0, iv 0, .slice none 0 0, .slice none 0 0, iv 0, iv 0, iv 0, .slice none 0 0, iv 0, iv 0, iv 0, iv 0] 33)
  simp only [Hp0]
  go_enter Tryz.func34, Tryz.ntmps34
  go_wp2_with fail
  refine (heldWordS_z0 none 0 1 _).mono ?_
  rintro e w1 ⟨rfl, rfl⟩
  go_wp2_with fail
  refine (heldCellS_z0 none 0 1 _).mono ?_
  rintro e w1 ⟨rfl, rfl⟩
  go_wp2_with fail
  refine (heldIntS_z0 none 0 1 _).mono ?_
  rintro e w1 ⟨rfl, rfl⟩
  go_wp2_with fail
  go_ret
  exact ⟨rfl, x1⟩
theorem markHA {B U : Nat} {w : World} {y : Hp} {ar : Option Addr} {kr : Nat} {ac : Option Addr} {kc : Nat} {ag : Option Addr} {kg : Nat} (h : HA B U w y ar kr ac kc ag kg) (hU : U ≤ w.heap.size) :
    Calls Tryz.prog 18 #[y.v (.slice ar y.regs.length kr) (.slice ac y.cells.length kc) (.slice ag y.gray.length kg), .int .i64 1] w fun e w' => ∃ m, e = .returned (.int .i64 m) ∧ HAm w' y ar kr ac kc ag kg m ∧ ∃ w1, Ext w w1 ∧ Only (fun q => B ≤ q ∧ q < U) w1 w' := by
  rcases h with ⟨rfl, rfl, rfl, rfl, rfl, rfl, rfl⟩ | ⟨br, bc, bg, pb, pa, pk, rfl, rfl, rfl, h⟩
  · exact (markHeap_zero w).mono fun e w' ⟨he, hx⟩ => ⟨1, he, .inl ⟨rfl, rfl, rfl, rfl, rfl, rfl, rfl, rfl⟩, w', hx, Only.refl _ _⟩
  · exact (markHeap_any y y B U w h hU).mono fun e w' ⟨he, hm, hx⟩ => ⟨_, he, .inr ⟨br, bc, bg, pb, pa, pk, rfl, rfl, rfl, h.l, hm, rfl⟩, hx⟩
theorem heldHA {w : World} {y : Hp} {ar : Option Addr} {kr : Nat} {ac : Option Addr} {kc : Nat} {ag : Option Addr} {kg : Nat} {m : Int} (h : HAm w y ar kr ac kc ag kg m) :
    Calls Tryz.prog 34 #[y.v (.slice ar y.regs.length kr) (.slice ac y.cells.length kc) (.slice ag y.gray.length kg), .int .i64 1] w fun e w' => e = .returned (.int .i64 m) ∧ Ext w w' := by
  rcases h with ⟨rfl, rfl, rfl, rfl, rfl, rfl, rfl, rfl⟩ | ⟨br, bc, bg, pb, pa, pk, rfl, rfl, rfl, l, h, rfl⟩
  · exact heldHeap_zero w
  · exact heldHeap_any y w br y.regs.length kr bc y.cells.length kc bg y.gray.length kg (fun q => (y.c q).prs.length) pb pa pk l.1 l.2.1 l.2.2.1 l.2.2.2 h
end Go.Proofs.YtkabcfhemljnbaaGreat
