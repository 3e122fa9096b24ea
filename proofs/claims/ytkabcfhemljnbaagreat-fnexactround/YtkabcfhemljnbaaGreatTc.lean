import Derived.Test.YtkabcfhemljnbaaGreatLi
import Derived.Test.YtkabcfhemljnbaaGreatSr
namespace Go.Proofs.YtkabcfhemljnbaaGreat
open Go.RowKit
attribute [local go_sem ↓] Go.wp_at_zero Go.wp_at_succ

set_option maxRecDepth 100000 in
set_option maxHeartbeats 4000000 in
theorem implRound_any (x : Hp) (w : World) {ar : Option Addr} {kr : Nat} {ac : Option Addr} {kc : Nat} {ag : Option Addr} {kg : Nat} (hR : SlW w (.slice ar x.regs.length kr) x.regs) (hC : SlC w (.slice ac x.cells.length kc) x.cells) (hG : SlI w (.slice ag x.gray.length kg) x.gray) (hcap : CapAt w x ac) :
    Calls Tryz.prog 43 #[x.v (.slice ar x.regs.length kr) (.slice ac x.cells.length kc) (.slice ag x.gray.length kg)] w fun e w' => ∃ y ar kr ac kc ag kg, Hid (e = .returned (y.v (.slice ar y.regs.length kr) (.slice ac y.cells.length kc) (.slice ag y.gray.length kg))) ∧ Hid (RoIs x y) ∧ Hid (HA w.heap.size w'.heap.size w' y ar kr ac kc ag kg) ∧ Ext w w' := by
  have x1 : Ext w ((w.alloc (.cells #[iv x.room, iv x.used, iv x.born, .slice ar x.regs.length kr, .slice ac x.cells.length kc, iv x.phase, iv x.hand, iv x.sub, .slice ag x.gray.length kg, iv x.per, iv x.start, iv x.rounds, iv x.forced] 33)).alloc (.cells #[iv 0, iv 0, iv 0, .slice none 0 0, .slice none 0 0, iv 0, iv 0, iv 0, .slice none 0 0, iv 0, iv 0, iv 0, iv 0] 33)) := ((Ext.refl w).alloc _).alloc _
  have S1 := hide (SlW.ext x1 hR)
  have S2 := hide (SlC.ext x1 hC)
  have S3 := hide (SlI.ext x1 hG)
  have S4 := hide (hcap.extS hC x1)
  have hs2 : ((w.alloc (.cells #[iv x.room, iv x.used, iv x.born, .slice ar x.regs.length kr, .slice ac x.cells.length kc, iv x.phase, iv x.hand, iv x.sub, .slice ag x.gray.length kg, iv x.per, iv x.start, iv x.rounds, iv x.forced] 33)).alloc (.cells #[iv 0, iv 0, iv 0, .slice none 0 0, .slice none 0 0, iv 0, iv 0, iv 0, .slice none 0 0, iv 0, iv 0, iv 0, iv 0] 33)).heap.size = w.heap.size + 2 := by simp
  clear hR hC hG hcap
  go_enter Tryz.func43, Tryz.ntmps43
  go_wp2_with fail
  refine (sound_any x _ (unhide S1) (unhide S2) (unhide S3) (unhide S4)).mono ?_
  rintro e w2 ⟨hq, hor⟩
  have x2 := x1.trans hq
  have RC := hide (show ∀ o v, ((w.alloc (.cells #[iv x.room, iv x.used, iv x.born, .slice ar x.regs.length kr, .slice ac x.cells.length kc, iv x.phase, iv x.hand, iv x.sub, .slice ag x.gray.length kg, iv x.per, iv x.start, iv x.rounds, iv x.forced] 33)).alloc (.cells #[iv 0, iv 0, iv 0, .slice none 0 0, .slice none 0 0, iv 0, iv 0, iv 0, .slice none 0 0, iv 0, iv 0, iv 0, iv 0] 33)).cell? ⟨w.heap.size + 1, o, none⟩ = some v → w2.cell? ⟨w.heap.size + 1, o, none⟩ = some v from fun o v h => hq.keep h)
  have RCF := hide (show ∀ o, w2.frozen? ⟨w.heap.size + 1, o, none⟩ = false from fun o => ((bcell hq).2 (w.heap.size + 1) o (by rw [hs2]; omega)).trans (by simp [go_sem]))
  have hz2 : w.heap.size + 2 ≤ w2.heap.size := by have := hq.size; omega
  have rc := unhide RC
  have rcF := unhide RCF
  have r0 := rc 0 (iv 0) (by simp [go_sem])
  have r1 := rc 1 (iv 0) (by simp [go_sem])
  have r2 := rc 2 (iv 0) (by simp [go_sem])
  have r3 := rc 3 (.slice none 0 0) (by simp [go_sem])
  have r4 := rc 4 (.slice none 0 0) (by simp [go_sem])
  have r5 := rc 5 (iv 0) (by simp [go_sem])
  have r6 := rc 6 (iv 0) (by simp [go_sem])
  have r7 := rc 7 (iv 0) (by simp [go_sem])
  have r8 := rc 8 (.slice none 0 0) (by simp [go_sem])
  have r9 := rc 9 (iv 0) (by simp [go_sem])
  have r10 := rc 10 (iv 0) (by simp [go_sem])
  have r11 := rc 11 (iv 0) (by simp [go_sem])
  have r12 := rc 12 (iv 0) (by simp [go_sem])
  have f0 := rcF 0
  have f1 := rcF 1
  have f2 := rcF 2
  have f3 := rcF 3
  have f4 := rcF 4
  have f5 := rcF 5
  have f6 := rcF 6
  have f7 := rcF 7
  have f8 := rcF 8
  have f9 := rcF 9
  have f10 := rcF 10
  have f11 := rcF 11
  have f12 := rcF 12
  have hr0 : w.heap.size + 1 < w2.heap.size := cell_lt r0
  clear hq rc rcF
  rcases unhide hor with ⟨hn, rfl⟩ | ⟨hok, b, an, kn, rfl, hv, han⟩
  · have N := hide (show RoIs x Hp0 from .inr ⟨fun h => hn h, rfl⟩)
    clear hor hn
    go_wp2_with fail
    refine bodyPost_ret (v := Hp0.v (.slice none 0 0) (.slice none 0 0) (.slice none 0 0)) (by simp [results, Tryz.results43, go_sem, Hp0, r0, r1, r2, r3, r4, r5, r6, r7, r8, r9, r10, r11, r12]) rfl ⟨Hp0, none, 0, none, 0, none, 0, rfl, unhide N, HA.zero _ _ _, ?_⟩
    refine (fun (F : Only (fun q => q = w.heap.size + 1) w2 _) => F.ext x2 (fun q hq e => by omega)) ?_
    repeat (first | refine Only.setCell ?_ (by simp) _ | exact Only.refl _ _)
  · have OK := hide hok
    have V := hide hv
    have GF := hide (gray_fit hok)
    have SN := hide hok.snd
    clear hor hok hv han
    go_wp2_with fail
    refine (owned_any x b _ (unhide V) (unhide OK).all.1 (unhide OK).all.2.1 (unhide OK).r5 (unhide GF).1).mono ?_
    rintro e w4 ⟨s, rfl, hs, x4⟩
    have ST := hide ((unhide hs).soq (unhide SN))
    clear hs
    go_wp2_with fail
    refine (round_any (unhide ST) (by omega) (unhide SN) w2 (Nat.le_refl _) x4).mono ?_
    rintro e w5 ⟨z, y, rfl, st, h5, x5⟩
    have SY := hide (show Snd y from ((unhide st).2.snd (((unhide st).1.snd (unhide SN)).1.begin ((unhide st).1.snd (unhide SN)).2)).1)
    have IS := hide (show RoIs x y from .inl ⟨unhide OK, z, (unhide st).1, (unhide st).2⟩)
    have QT := hide (told_soq (unhide h5) (unhide SY) x5.size)
    clear st ST
    go_wp2_with fail
    refine (unhide QT).mono ?_
    rintro e w6 ⟨br, kr4, bcN, bgN, pb, pa, pk, rfl, h6, x6⟩
    have X36 := x5.trans x6
    have X6 := x2.trans X36
    have e0 := X36.keep r0
    have e1 := X36.keep r1
    have e2 := X36.keep r2
    have e3 := X36.keep r3
    have e4 := X36.keep r4
    have e5 := X36.keep r5
    have e6 := X36.keep r6
    have e7 := X36.keep r7
    have e8 := X36.keep r8
    have e9 := X36.keep r9
    have e10 := X36.keep r10
    have e11 := X36.keep r11
    have e12 := X36.keep r12
    have g0 := ((bcell X36).2 (w.heap.size + 1) 0 hr0).trans f0
    have g1 := ((bcell X36).2 (w.heap.size + 1) 1 hr0).trans f1
    have g2 := ((bcell X36).2 (w.heap.size + 1) 2 hr0).trans f2
    have g3 := ((bcell X36).2 (w.heap.size + 1) 3 hr0).trans f3
    have g4 := ((bcell X36).2 (w.heap.size + 1) 4 hr0).trans f4
    have g5 := ((bcell X36).2 (w.heap.size + 1) 5 hr0).trans f5
    have g6 := ((bcell X36).2 (w.heap.size + 1) 6 hr0).trans f6
    have g7 := ((bcell X36).2 (w.heap.size + 1) 7 hr0).trans f7
    have g8 := ((bcell X36).2 (w.heap.size + 1) 8 hr0).trans f8
    have g9 := ((bcell X36).2 (w.heap.size + 1) 9 hr0).trans f9
    have g10 := ((bcell X36).2 (w.heap.size + 1) 10 hr0).trans f10
    have g11 := ((bcell X36).2 (w.heap.size + 1) 11 hr0).trans f11
    have g12 := ((bcell X36).2 (w.heap.size + 1) 12 hr0).trans f12
    have hr4 : w.heap.size + 1 < w6.heap.size := cell_lt e0
    have RW := hide (show ∀ W, Only (fun q => q = w.heap.size + 1) w6 W → HA w.heap.size W.heap.size W y (some ⟨br, 0, none⟩) kr4 (some ⟨bcN, 0, none⟩) y.cells.length (some ⟨bgN, 0, none⟩) y.gray.length from fun W o => by
      have := ((unhide h6).only o (fun q h1 h2 e => by omega)).grow (Nat.le_trans (Nat.le_refl _) o.size) (show w.heap.size ≤ w2.heap.size by omega)
      exact .inr ⟨_, _, _, _, _, _, rfl, rfl, rfl, this⟩)
    clear h6 r0 r1 r2 r3 r4 r5 r6 r7 r8 r9 r10 r11 r12 f0 f1 f2 f3 f4 f5 f6 f7 f8 f9 f10 f11 f12
    go_wp2_with fail
    refine bodyPost_ret (v := y.v (.slice (some ⟨br, 0, none⟩) y.regs.length kr4) (.slice (some ⟨bcN, 0, none⟩) y.cells.length y.cells.length) (.slice (some ⟨bgN, 0, none⟩) y.gray.length y.gray.length)) (by simp [results, Tryz.results43, go_sem, e0, e1, e2, e3, e4, e5, e6, e7, e8, e9, e10, e11, e12]) rfl ⟨y, _, _, _, _, _, _, rfl, unhide IS, ?_⟩
    refine (fun (F : Only (fun q => q = w.heap.size + 1) w6 _) => ⟨unhide RW _ F, F.ext X6 (fun q hq e => by omega)⟩) ?_
    repeat (first | refine Only.setCell ?_ (by simp) _ | exact Only.refl _ _)
end Go.Proofs.YtkabcfhemljnbaaGreat
