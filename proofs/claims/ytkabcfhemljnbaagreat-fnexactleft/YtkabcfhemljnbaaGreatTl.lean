import Derived.Test.YtkabcfhemljnbaaGreatLi
import Derived.Test.YtkabcfhemljnbaaGreatSr
namespace Go.Proofs.YtkabcfhemljnbaaGreat
open Go.RowKit
attribute [local go_sem ↓] Go.wp_at_zero Go.wp_at_succ

set_option maxRecDepth 100000 in
set_option maxHeartbeats 2000000 in
theorem implLeft_any (x : Hp) (w : World) {ar : Option Addr} {kr : Nat} {ac : Option Addr} {kc : Nat} {ag : Option Addr} {kg : Nat} (hR : SlW w (.slice ar x.regs.length kr) x.regs) (hC : SlC w (.slice ac x.cells.length kc) x.cells) (hG : SlI w (.slice ag x.gray.length kg) x.gray) (hcap : CapAt w x ac) :
    Calls Tryz.prog 41 #[x.v (.slice ar x.regs.length kr) (.slice ac x.cells.length kc) (.slice ag x.gray.length kg)] w fun e w' => ∃ k : Nat, e = .returned (.int .i64 k) ∧ LeIs x k ∧ Ext w w' := by
  have x1 : Ext w (w.alloc (.cells #[iv x.room, iv x.used, iv x.born, .slice ar x.regs.length kr, .slice ac x.cells.length kc, iv x.phase, iv x.hand, iv x.sub, .slice ag x.gray.length kg, iv x.per, iv x.start, iv x.rounds, iv x.forced] 33)) := (Ext.refl w).alloc _
  have S1 := hide (SlW.ext x1 hR)
  have S2 := hide (SlC.ext x1 hC)
  have S3 := hide (SlI.ext x1 hG)
  have S4 := hide (hcap.extS hC x1)
  clear hR hC hG hcap
  go_enter Tryz.func41, Tryz.ntmps41
  go_wp2_with fail
  refine (sound_any x _ (unhide S1) (unhide S2) (unhide S3) (unhide S4)).mono ?_
  rintro e w2 ⟨hq, hor⟩
  have x2 := x1.trans hq
  clear hq
  rcases unhide hor with ⟨hn, rfl⟩ | ⟨hok, b, an, kn, rfl, hv, han⟩
  · have N := hide (show LeIs x 0 from .inr ⟨fun h => hn h, rfl⟩)
    clear hor hn
    go_wp2_with fail
    go_ret
    exact ⟨0, rfl, unhide N, x2⟩
  · have OK := hide hok
    have V := hide hv
    have GF := hide (gray_fit hok)
    have SN := hide hok.snd
    clear hor hok hv han
    go_wp2_with fail
    refine (owned_any x b _ (unhide V) (unhide OK).all.1 (unhide OK).all.2.1 (unhide OK).r5 (unhide GF).1).mono ?_
    rintro e w4 ⟨s, rfl, hs, x4⟩
    have ST := hide ((unhide hs).soq (unhide SN))
    clear hs
    go_wp2_with fail
    refine (finish_any (unhide ST) (by omega) (unhide SN) w2 (Nat.le_refl _) x4).mono ?_
    rintro e w5 ⟨k, rfl, st, h5, x5⟩
    have IS := hide (show LeIs x k from .inl ⟨unhide OK, unhide st⟩)
    clear st ST
    go_wp2_with fail
    go_ret
    exact ⟨k, rfl, unhide IS, x2.trans x5⟩
set_option maxRecDepth 100000 in
set_option maxHeartbeats 2000000 in
theorem specLeft_any (x : Hp) (w : World) {ar : Option Addr} {kr : Nat} {ac : Option Addr} {kc : Nat} {ag : Option Addr} {kg : Nat} (hR : SlW w (.slice ar x.regs.length kr) x.regs) (hC : SlC w (.slice ac x.cells.length kc) x.cells) (hG : SlI w (.slice ag x.gray.length kg) x.gray) :
    Calls Tryz.prog 40 #[x.v (.slice ar x.regs.length kr) (.slice ac x.cells.length kc) (.slice ag x.gray.length kg)] w fun e w' => ∃ k : Nat, e = .returned (.int .i64 k) ∧ LeIs x k ∧ Ext w w' := by
  have x1 : Ext w (w.alloc (.cells #[iv x.room, iv x.used, iv x.born, .slice ar x.regs.length kr, .slice ac x.cells.length kc, iv x.phase, iv x.hand, iv x.sub, .slice ag x.gray.length kg, iv x.per, iv x.start, iv x.rounds, iv x.forced] 33)) := (Ext.refl w).alloc _
  have S1 := hide (SlW.ext x1 hR)
  have S2 := hide (SlC.ext x1 hC)
  have S3 := hide (SlI.ext x1 hG)
  have HB := hide (HBox.new w x (.slice ar x.regs.length kr) (.slice ac x.cells.length kc) (.slice ag x.gray.length kg) 33)
  clear hR hC hG
  go_enter Tryz.func40, Tryz.ntmps40
  go_wp2_with fail
  refine (specHeapOk_any x _ (unhide S1) (unhide S2) (unhide S3)).mono ?_
  rintro e w2 ⟨n, rfl, hok2, hq⟩
  have x2 := x1.trans hq
  have OK2 := hide hok2
  have B2 := hide ((unhide HB).ext hq)
  have Q1 := hide (show SlW w2 (.slice ar x.regs.length kr) x.regs ∧ SlC w2 (.slice ac x.cells.length kc) x.cells ∧ SlI w2 (.slice ag x.gray.length kg) x.gray from ⟨SlW.ext hq (unhide S1), SlC.ext hq (unhide S2), SlI.ext hq (unhide S3)⟩)
  clear hok2 hq
  cases t : (n == 0)
  · have t2 : (n != 0) = true := by simpa using t
    have N := hide (show LeIs x 0 from .inr ⟨fun h => by have := OkIs.uniq h (unhide OK2); simp at t; omega, rfl⟩)
    go_wp2_with fail
    go_ret
    exact ⟨0, rfl, unhide N, x2⟩
  · have t2 : (n != 0) = false := by simpa using t
    have Y := hide (show OkIs x 0 by have := unhide OK2; simp at t; rw [t] at this; exact this)
    obtain ⟨b0, b1, b2, b3, b4, b5, b6, b7, b8, b9, b10, b11, b12⟩ := unhide B2
    have hb0 : w.heap.size < w2.heap.size := cell_lt b4
    obtain ⟨R1x, R2x, _, _⟩ := (unhide Y).all
    have hg4 := (gray_fit (unhide Y)).1
    have n8 := (unhide Y).n8
    have hrg : 0 < x.regs.length ∧ x.regs.length ≤ 100 := by rw [R1x.regs]; omega
    have P2 := hide (unhide Y).p200
    clear R1x R2x
    go_wp2_with fail
    refine (l1copy_any x _ (unhide Q1).1 (unhide Q1).2.1 (unhide Q1).2.2 hrg.1 hrg.2 n8 (unhide P2) (by omega)).mono ?_
    rintro e w3 ⟨g, rfl, hg, q3⟩
    obtain ⟨ar3, kr3, ac3, kc3, vg3, br, bc, pb, pa, pk, role, hG3⟩ := unhide hg
    have G3 := hide hG3
    clear hg hG3 b0 b1 b2 b3 b4 b5 b6 b7 b8 b9 b10 b11 b12
    go_wp2_with fail
    refine (l3out_any w2.heap.size g x _ ⟨_, _, _, _, _, _, _, _, _, _, _, unhide G3⟩ (OkIs.snd (unhide Y)) w2 (Nat.le_refl _) q3).mono ?_
    rintro e w4 ⟨k, rfl, en4, h4, x4⟩
    have IS := hide (show LeIs x k from .inl ⟨unhide Y, unhide en4⟩)
    clear en4 h4
    go_wp2_with fail
    go_ret
    exact ⟨k, rfl, unhide IS, x2.trans x4⟩
end Go.Proofs.YtkabcfhemljnbaaGreat
