import Derived.Test.YtkabcfhemljnbaaGreatLx
import Derived.Test.YtkabcfhemljnbaaGreatLi
import Derived.Test.YtkabcfhemljnbaaGreatPr
import Derived.Test.YtkabcfhemljnbaaGreatQc
import Derived.Deep.LoopGhost
import Derived.Test.YtkabcfhemljnbaaGreatUn2
namespace Go.Proofs.YtkabcfhemljnbaaGreat
open Go.RowKit
attribute [local go_sem ↓] Go.wp_at_zero Go.wp_at_succ

/-! The model's rounds. -/
set_option maxRecDepth 100000 in
set_option maxHeartbeats 600000 in
theorem l3unit_any (B g : Nat) (x : Hp) (w : World) (h : GOk B w g x) (s : Snd x) (h0 : x.phase ≠ 0) (a : World) (ha : a.heap.size ≤ B) (hx : Ext a w) :
    Calls Tryz.prog 129 #[.pointer (some ⟨g, 0, none⟩)] w fun e w' => e = .returned (.tuple #[]) ∧ GOk B w' g (unitH x) ∧ Ext a w' := by
  have HO := hide h
  obtain ⟨_, _, c5, _, lo, hgw⟩ := h.box
  have hB : B ≤ w.heap.size := by omega
  have S := hide s
  have hc : x.phase = 1 ∨ x.phase = 2 ∨ x.phase = 3 ∨ x.phase = 4 ∨ x.phase = 5 ∨ x.phase = 6 := by have := s.r1.phase; omega
  have Q1 := hide (show x.phase = 1 → Calls Tryz.prog 165 #[.pointer (some ⟨g, 0, none⟩)] w fun e w' => e = .returned (.tuple #[]) ∧ GOk B w' g (unitH x) ∧ Ext a w' from fun e => by
    have : unitH x = unit1 x := by unfold unitH; rw [if_pos e]
    rw [this]; exact l3roots_any B g x w h s a ha hx hB)
  have Q2 := hide (show x.phase = 2 → Calls Tryz.prog 166 #[.pointer (some ⟨g, 0, none⟩)] w fun e w' => e = .returned (.tuple #[]) ∧ GOk B w' g (unitH x) ∧ Ext a w' from fun e => by
    have : unitH x = unit2 x := by unfold unitH; rw [if_neg (by omega), if_pos e]
    rw [this]; exact l3mark_any B g x w h s e a ha hx)
  have Q3 := hide (show x.phase = 3 → Calls Tryz.prog 167 #[.pointer (some ⟨g, 0, none⟩)] w fun e w' => e = .returned (.tuple #[]) ∧ GOk B w' g (unitH x) ∧ Ext a w' from fun e => by
    have : unitH x = unit3 x := by unfold unitH; rw [if_neg (by omega), if_neg (by omega), if_pos e]
    rw [this]; exact l3sweep_any B g x w h s a ha hx)
  have Q4 := hide (show x.phase = 4 → Calls Tryz.prog 168 #[.pointer (some ⟨g, 0, none⟩)] w fun e w' => e = .returned (.tuple #[]) ∧ GOk B w' g (unitH x) ∧ Ext a w' from fun e => by
    have : unitH x = unit4 x := by unfold unitH; rw [if_neg (by omega), if_neg (by omega), if_neg (by omega), if_pos e]
    rw [this]; exact l3move_any B g x w h s a ha hx)
  have Q5 := hide (show x.phase = 5 → Calls Tryz.prog 169 #[.pointer (some ⟨g, 0, none⟩)] w fun e w' => e = .returned (.tuple #[]) ∧ GOk B w' g (unitH x) ∧ Ext a w' from fun e => by
    have : unitH x = unit5 x := by unfold unitH; rw [if_neg (by omega), if_neg (by omega), if_neg (by omega), if_neg (by omega), if_pos e]
    rw [this]; exact l3mend_any B g x w h s e a ha hx)
  have Q6 := hide (show x.phase = 6 → Calls Tryz.prog 170 #[.pointer (some ⟨g, 0, none⟩)] w fun e w' => e = .returned (.tuple #[]) ∧ GOk B w' g (unitH x) ∧ Ext a w' from fun e => by
    have : unitH x = unit6 x := by unfold unitH; rw [if_neg (by omega), if_neg (by omega), if_neg (by omega), if_neg (by omega), if_neg (by omega), if_pos e]
    rw [this]; exact l3close_any B g x w h s a ha hx)
  obtain ⟨y, hy⟩ : ∃ y, y = unitH x := ⟨_, rfl⟩
  rw [← hy] at Q1 Q2 Q3 Q4 Q5 Q6 ⊢
  clear hy h s h0
  rcases hc with e | e | e | e | e | e
  · rw [e] at c5
    have Q := hide (unhide Q1 e)
    clear Q1 Q2 Q3 Q4 Q5 Q6 e
    go_enter Tryz.func129, Tryz.ntmps129
    go_wp2_with fail
    refine (unhide Q).mono ?_
    rintro e w2 ⟨rfl, h2, x2⟩
    have H2 := hide h2
    clear h2
    go_wp2_with fail
    go_end0
    exact ⟨rfl, unhide H2, x2⟩
  · rw [e] at c5
    have Q := hide (unhide Q2 e)
    clear Q1 Q2 Q3 Q4 Q5 Q6 e
    go_enter Tryz.func129, Tryz.ntmps129
    go_wp2_with fail
    refine (unhide Q).mono ?_
    rintro e w2 ⟨rfl, h2, x2⟩
    have H2 := hide h2
    clear h2
    go_wp2_with fail
    go_end0
    exact ⟨rfl, unhide H2, x2⟩
  · rw [e] at c5
    have Q := hide (unhide Q3 e)
    clear Q1 Q2 Q3 Q4 Q5 Q6 e
    go_enter Tryz.func129, Tryz.ntmps129
    go_wp2_with fail
    refine (unhide Q).mono ?_
    rintro e w2 ⟨rfl, h2, x2⟩
    have H2 := hide h2
    clear h2
    go_wp2_with fail
    go_end0
    exact ⟨rfl, unhide H2, x2⟩
  · rw [e] at c5
    have Q := hide (unhide Q4 e)
    clear Q1 Q2 Q3 Q4 Q5 Q6 e
    go_enter Tryz.func129, Tryz.ntmps129
    go_wp2_with fail
    refine (unhide Q).mono ?_
    rintro e w2 ⟨rfl, h2, x2⟩
    have H2 := hide h2
    clear h2
    go_wp2_with fail
    go_end0
    exact ⟨rfl, unhide H2, x2⟩
  · rw [e] at c5
    have Q := hide (unhide Q5 e)
    clear Q1 Q2 Q3 Q4 Q5 Q6 e
    go_enter Tryz.func129, Tryz.ntmps129
    go_wp2_with fail
    refine (unhide Q).mono ?_
    rintro e w2 ⟨rfl, h2, x2⟩
    have H2 := hide h2
    clear h2
    go_wp2_with fail
    go_end0
    exact ⟨rfl, unhide H2, x2⟩
  · rw [e] at c5
    have Q := hide (unhide Q6 e)
    clear Q1 Q2 Q3 Q4 Q5 Q6 e
    go_enter Tryz.func129, Tryz.ntmps129
    go_wp2_with fail
    refine (unhide Q).mono ?_
    rintro e w2 ⟨rfl, h2, x2⟩
    have H2 := hide h2
    clear h2
    go_wp2_with fail
    go_end0
    exact ⟨rfl, unhide H2, x2⟩
theorem toPh_run (x : Hp) : (toPh x 1 0).phase = 1 := rfl
set_option maxRecDepth 100000 in
set_option maxHeartbeats 600000 in
theorem l3begin_any (B g : Nat) (x : Hp) (w : World) (h : GOk B w g x) (a : World) (ha : a.heap.size ≤ B) (hx : Ext a w) :
    Calls Tryz.prog 128 #[.pointer (some ⟨g, 0, none⟩)] w fun e w' => e = .returned (.tuple #[]) ∧ GOk B w' g (toPh x 1 0) ∧ Ext a w' := by
  have HO := hide h
  clear h
  go_enter Tryz.func128, Tryz.ntmps128
  go_wp2_with fail
  refine (l3phase_any B g x 1 0 _ (unhide HO) a ha hx).mono ?_
  rintro e w2 ⟨rfl, h2, x2⟩
  have H2 := hide h2
  clear h2
  go_wp2_with fail
  go_end0
  exact ⟨rfl, unhide H2, x2⟩
/-- what a step works on: a round is begun when none is on, but not for nothing -/
def stepH (x : Hp) (n : Nat) : Hp := if x.phase = 0 ∧ n ≠ 0 then toPh x 1 0 else x
theorem Snd.stepH {x : Hp} (s : Snd x) (n : Nat) : Snd (stepH x n) := by
  unfold Go.Proofs.YtkabcfhemljnbaaGreat.stepH
  split
  · rename_i h; exact s.begin h.1
  · exact s
end Go.Proofs.YtkabcfhemljnbaaGreat

namespace Go.Proofs.YtkabcfhemljnbaaGreat
open Go.RowKit
attribute [local go_sem ↓] Go.wp_at_zero Go.wp_at_succ

set_option maxRecDepth 100000 in
set_option maxHeartbeats 600000 in
/-- to the end of the round that is on -/
theorem l3out_any (B g : Nat) (x : Hp) (w : World) (h : GOk B w g x) (s : Snd x) (a : World) (ha : a.heap.size ≤ B) (hx : Ext a w) :
    Calls Tryz.prog 82 #[.pointer (some ⟨g, 0, none⟩)] w fun e w' => ∃ k : Nat, e = .returned (.int .i64 k) ∧ Hid (EndIs x k) ∧ GOk B w' g (itU k x) ∧ Ext a w' := by
  have HS := hide h
  have S := hide s
  have XS := hx
  clear h s
  go_enter Tryz.func82, Tryz.ntmps82
  go_wp2_with fail
  go_loopg [3] (14000000) (fun gk d wr => ∃ k : Nat, d = .int .i64 k ∧ Hid (Runs x k) ∧ Hid (mu (itU k x) ≤ gk) ∧ Hid (GOk B wr g (itU k x)) ∧ Ext a wr)
  case atStart => exact ⟨0, rfl, Runs.zero _, (unhide S).mu_le, unhide HS, XS⟩
  case round =>
    clear HS XS
    obtain ⟨k, rfl, hr, hm, hG, hxr⟩ := hrel
    obtain ⟨_, _, c5, _, _, hgw⟩ := (unhide hG).box
    have kl := (unhide hr).le (unhide S)
    cases q : ((itU k x).phase == 0)
    · have qb : ((itU k x).phase != 0) = true := by simpa using q
      have QP := hide (show (itU k x).phase ≠ 0 by simpa using q)
      go_wp2_with fail
      refine (l3unit_any B g _ _ (unhide hG) ((unhide S).itU k) (unhide QP) a ha hxr).mono ?_
      rintro e w3 ⟨rfl, h3, x3⟩
      have H3 := hide h3
      have R3 := hide ((unhide hr).succ (unhide QP))
      have M3 := hide (show mu (itU (k + 1) x) < mu (itU k x) from ((unhide S).itU k).less (unhide QP))
      have wk : wrap64 ((k : Int) + 1) = (k : Int) + 1 := by unfold wrap64; omega
      clear h3 c5 hgw
      go_wp2_with fail
      go_roundg (mu (itU (k + 1) x))
      case measure => have := unhide M3; have := unhide hm; omega
      case rel => exact ⟨k + 1, by go_num, unhide R3, Nat.le_refl _, unhide H3, x3⟩
    · have qb : ((itU k x).phase != 0) = false := by simpa using q
      have QP := hide (show (itU k x).phase = 0 by simpa using q)
      go_wp2_with fail
      go_ret
      exact ⟨k, rfl, ⟨unhide QP, unhide hr⟩, unhide hG, hxr⟩
/-- the heap behind what is left of a round -/
def endH (x : Hp) (y : Hp) : Prop := ∃ k, EndIs x k ∧ y = itU k x
theorem endH.uniq {x y z : Hp} (h : endH x y) (g : endH x z) : y = z := by
  obtain ⟨j, a, b⟩ := h
  obtain ⟨k, c, d⟩ := g
  rw [b, d, a.uniq c]
theorem endH.snd {x y : Hp} (s : Snd x) (h : endH x y) : Snd y ∧ y.phase = 0 := by
  obtain ⟨k, a, b⟩ := h
  rw [b]; exact ⟨s.itU k, a.1⟩
set_option maxRecDepth 100000 in
set_option maxHeartbeats 600000 in
theorem l3round_any (B g : Nat) (x : Hp) (w : World) (h : GOk B w g x) (s : Snd x) (a : World) (ha : a.heap.size ≤ B) (hx : Ext a w) :
    Calls Tryz.prog 84 #[.pointer (some ⟨g, 0, none⟩)] w fun e w' => ∃ y z, e = .returned (.tuple #[]) ∧ Hid (endH x y ∧ endH (toPh y 1 0) z) ∧ GOk B w' g z ∧ Ext a w' := by
  have HO := hide h
  have S := hide s
  clear h s
  go_enter Tryz.func84, Tryz.ntmps84
  go_wp2_with fail
  refine (l3out_any B g x _ (unhide HO) (unhide S) a ha hx).mono ?_
  rintro e w1 ⟨k, rfl, he, h1, x1⟩
  obtain ⟨y, hy⟩ : ∃ y, y = itU k x := ⟨_, rfl⟩
  rw [← hy] at h1
  have EY := hide (show endH x y from ⟨k, unhide he, hy⟩)
  have H1 := hide h1
  clear h1 he hy
  go_wp2_with fail
  refine (l3begin_any B g y _ (unhide H1) a ha x1).mono ?_
  rintro e w2 ⟨rfl, h2, x2⟩
  have H2 := hide h2
  clear h2
  go_wp2_with fail
  refine (l3out_any B g _ _ (unhide H2) (((unhide EY).snd (unhide S)).1.begin ((unhide EY).snd (unhide S)).2) a ha x2).mono ?_
  rintro e w3 ⟨k2, rfl, he, h3, x3⟩
  have EZ := hide (show endH (toPh y 1 0) (itU k2 (toPh y 1 0)) from ⟨k2, unhide he, rfl⟩)
  have H3 := hide h3
  clear h3 he
  go_wp2_with fail
  go_end0
  exact ⟨y, _, rfl, ⟨unhide EY, unhide EZ⟩, unhide H3, x3⟩
end Go.Proofs.YtkabcfhemljnbaaGreat

namespace Go.Proofs.YtkabcfhemljnbaaGreat
open Go.RowKit
attribute [local go_sem ↓] Go.wp_at_zero Go.wp_at_succ

/-! What Round answers, and Left. -/
def RoIs (x y : Hp) : Prop := (OkIs x 0 ∧ ∃ z, endH x z ∧ endH (toPh z 1 0) y) ∨ (¬ OkIs x 0 ∧ y = Hp0)
theorem RoIs.uniq {x y z : Hp} (h : RoIs x y) (g : RoIs x z) : y = z := by
  rcases h with ⟨h1, u, h2, h3⟩ | ⟨h1, h2⟩ <;> rcases g with ⟨k1, v, k2, k3⟩ | ⟨k1, k2⟩
  · have e := h2.uniq k2
    rw [e] at h3
    exact h3.uniq k3
  · exact (k1 h1).elim
  · exact (h1 k1).elim
  · rw [h2, k2]
def LeIs (x : Hp) (n : Nat) : Prop := (OkIs x 0 ∧ EndIs x n) ∨ (¬ OkIs x 0 ∧ n = 0)
theorem LeIs.uniq {x : Hp} {j k : Nat} (h : LeIs x j) (g : LeIs x k) : j = k := by
  rcases h with ⟨h1, h2⟩ | ⟨h1, h2⟩ <;> rcases g with ⟨k1, k2⟩ | ⟨k1, k2⟩
  · exact h2.uniq k2
  · exact (k1 h1).elim
  · exact (h1 k1).elim
  · omega
set_option maxRecDepth 100000 in
set_option maxHeartbeats 4000000 in
theorem specRound_any (x : Hp) (w : World) {ar : Option Addr} {kr : Nat} {ac : Option Addr} {kc : Nat} {ag : Option Addr} {kg : Nat} (hR : SlW w (.slice ar x.regs.length kr) x.regs) (hC : SlC w (.slice ac x.cells.length kc) x.cells) (hG : SlI w (.slice ag x.gray.length kg) x.gray) :
    Calls Tryz.prog 42 #[x.v (.slice ar x.regs.length kr) (.slice ac x.cells.length kc) (.slice ag x.gray.length kg)] w fun e w' => ∃ y ar kr ac kc ag kg, Hid (e = .returned (y.v (.slice ar y.regs.length kr) (.slice ac y.cells.length kc) (.slice ag y.gray.length kg))) ∧ Hid (RoIs x y) ∧ Hid (HRd w' y ar kr ac kc ag kg) ∧ Ext w w' := by
  have x1 : Ext w ((w.alloc (.cells #[iv x.room, iv x.used, iv x.born, .slice ar x.regs.length kr, .slice ac x.cells.length kc, iv x.phase, iv x.hand, iv x.sub, .slice ag x.gray.length kg, iv x.per, iv x.start, iv x.rounds, iv x.forced] 33)).alloc (.cells #[iv 0, iv 0, iv 0, .slice none 0 0, .slice none 0 0, iv 0, iv 0, iv 0, .slice none 0 0, iv 0, iv 0, iv 0, iv 0] 33)) := ((Ext.refl w).alloc _).alloc _
  have S1 := hide (SlW.ext x1 hR)
  have S2 := hide (SlC.ext x1 hC)
  have S3 := hide (SlI.ext x1 hG)
  have HB := hide ((HBox.new w x (.slice ar x.regs.length kr) (.slice ac x.cells.length kc) (.slice ag x.gray.length kg) 33).ext ((Ext.refl _).alloc (.cells #[iv 0, iv 0, iv 0, .slice none 0 0, .slice none 0 0, iv 0, iv 0, iv 0, .slice none 0 0, iv 0, iv 0, iv 0, iv 0] 33)))
  have hs2 : ((w.alloc (.cells #[iv x.room, iv x.used, iv x.born, .slice ar x.regs.length kr, .slice ac x.cells.length kc, iv x.phase, iv x.hand, iv x.sub, .slice ag x.gray.length kg, iv x.per, iv x.start, iv x.rounds, iv x.forced] 33)).alloc (.cells #[iv 0, iv 0, iv 0, .slice none 0 0, .slice none 0 0, iv 0, iv 0, iv 0, .slice none 0 0, iv 0, iv 0, iv 0, iv 0] 33)).heap.size = w.heap.size + 2 := by simp
  clear hR hC hG
  go_enter Tryz.func42, Tryz.ntmps42
  go_wp2_with fail
  refine (specHeapOk_any x _ (unhide S1) (unhide S2) (unhide S3)).mono ?_
  rintro e w2 ⟨n, rfl, hok2, hq⟩
  have x2 := x1.trans hq
  have OK2 := hide hok2
  have B2 := hide ((unhide HB).ext hq)
  have RC := hide (show ∀ o v, ((w.alloc (.cells #[iv x.room, iv x.used, iv x.born, .slice ar x.regs.length kr, .slice ac x.cells.length kc, iv x.phase, iv x.hand, iv x.sub, .slice ag x.gray.length kg, iv x.per, iv x.start, iv x.rounds, iv x.forced] 33)).alloc (.cells #[iv 0, iv 0, iv 0, .slice none 0 0, .slice none 0 0, iv 0, iv 0, iv 0, .slice none 0 0, iv 0, iv 0, iv 0, iv 0] 33)).cell? ⟨w.heap.size + 1, o, none⟩ = some v → w2.cell? ⟨w.heap.size + 1, o, none⟩ = some v from fun o v h => hq.keep h)
  have RCF := hide (show ∀ o, w2.frozen? ⟨w.heap.size + 1, o, none⟩ = false from fun o => ((bcell hq).2 (w.heap.size + 1) o (by rw [hs2]; omega)).trans (by simp [go_sem]))
  have hz2 : w.heap.size + 2 ≤ w2.heap.size := by have := hq.size; omega
  have Q1 := hide (show SlW w2 (.slice ar x.regs.length kr) x.regs ∧ SlC w2 (.slice ac x.cells.length kc) x.cells ∧ SlI w2 (.slice ag x.gray.length kg) x.gray from ⟨SlW.ext hq (unhide S1), SlC.ext hq (unhide S2), SlI.ext hq (unhide S3)⟩)
  have rc := unhide RC
  have rcF := unhide RCF
  have r0 := rc 0 (iv 0) (by simp [go_sem])
  have r1 := rc 1 (iv 0) (by simp [go_sem])
  have r2 := rc 2 (iv 0) (by simp [go_sem])
  have r3 := rc 3 (.slice none 0 0) (by simp [go_sem])
  have r4 := rc 4 (.slice none 0 0) (by simp [go_sem])
  have r5 := rc 5 (iv 0) (by simp [go_sem])
  have r6 := rc 6 (iv 0) (by simp [go_sem])
  have r7 := rc 7 (iv 0) (by simp [go_sem])
  have r8 := rc 8 (.slice none 0 0) (by simp [go_sem])
  have r9 := rc 9 (iv 0) (by simp [go_sem])
  have r10 := rc 10 (iv 0) (by simp [go_sem])
  have r11 := rc 11 (iv 0) (by simp [go_sem])
  have r12 := rc 12 (iv 0) (by simp [go_sem])
  have f0 := rcF 0
  have f1 := rcF 1
  have f2 := rcF 2
  have f3 := rcF 3
  have f4 := rcF 4
  have f5 := rcF 5
  have f6 := rcF 6
  have f7 := rcF 7
  have f8 := rcF 8
  have f9 := rcF 9
  have f10 := rcF 10
  have f11 := rcF 11
  have f12 := rcF 12
  have hr0 : w.heap.size + 1 < w2.heap.size := cell_lt r0
  clear hok2 hq rc rcF
  cases t : (n == 0)
  · have t2 : (n != 0) = true := by simpa using t
    have N := hide (show RoIs x Hp0 from .inr ⟨fun h => by have := OkIs.uniq h (unhide OK2); simp at t; omega, rfl⟩)
    go_wp2_with fail
    refine bodyPost_ret (v := Hp0.v (.slice none 0 0) (.slice none 0 0) (.slice none 0 0)) (by simp [results, Tryz.results42, go_sem, Hp0, r0, r1, r2, r3, r4, r5, r6, r7, r8, r9, r10, r11, r12]) rfl ⟨Hp0, none, 0, none, 0, none, 0, rfl, unhide N, HRd.zero _, ?_⟩
    refine (fun (F : Only (fun q => q = w.heap.size + 1) w2 _) => F.ext x2 (fun q hq e => by omega)) ?_
    repeat (first | refine Only.setCell ?_ (by simp) _ | exact Only.refl _ _)
  · have t2 : (n != 0) = false := by simpa using t
    have Y := hide (show OkIs x 0 by have := unhide OK2; simp at t; rw [t] at this; exact this)
    have b4 := (unhide B2).2.2.2.2.1
    have hb0 : w.heap.size < w2.heap.size := cell_lt b4
    obtain ⟨b0, b1, b2, b3, b4', b5, b6, b7, b8, b9, b10, b11, b12⟩ := unhide B2
    obtain ⟨R1x, R2x, _, _⟩ := (unhide Y).all
    have hg4 := (gray_fit (unhide Y)).1
    have n8 := (unhide Y).n8
    have hrg : 0 < x.regs.length ∧ x.regs.length ≤ 100 := by rw [R1x.regs]; omega
    have P2 := hide (unhide Y).p200
    clear b4' R1x R2x
    go_wp2_with fail
    refine (l1copy_any x _ (unhide Q1).1 (unhide Q1).2.1 (unhide Q1).2.2 hrg.1 hrg.2 n8 (unhide P2) (by omega)).mono ?_
    rintro e w3 ⟨g, rfl, hg, q3⟩
    obtain ⟨ar3, kr3, ac3, kc3, vg3, br, bc, pb, pa, pk, role, hG3⟩ := unhide hg
    obtain ⟨ag3, kg3, hvg⟩ : ∃ a k, vg3 = .slice a x.gray.length k := hG3.gr.form
    subst hvg
    have G3 := hide hG3
    clear hg hG3 b0 b1 b2 b3 b5 b6 b7 b8 b9 b10 b11 b12 b4
    go_wp2_with fail
    refine (l3round_any w2.heap.size g x _ ⟨_, _, _, _, _, _, _, _, _, _, _, unhide G3⟩ (OkIs.snd (unhide Y)) w2 (Nat.le_refl _) q3).mono ?_
    rintro e w4 ⟨z, y, rfl, en4, h4, x4⟩
    have IS := hide (show RoIs x y from .inl ⟨unhide Y, z, (unhide en4).1, (unhide en4).2⟩)
    have SY := hide (show Snd y from ((unhide en4).2.snd (((unhide en4).1.snd (OkIs.snd (unhide Y))).1.begin ((unhide en4).1.snd (OkIs.snd (unhide Y))).2)).1)
    obtain ⟨ar3, kr3, ac3, kc3, vg4, br, bc, pb, pa, pk, role4, hG4⟩ := h4
    obtain ⟨ag4, kg4, hvg⟩ : ∃ a k, vg4 = .slice a y.gray.length k := hG4.gr.form
    subst hvg
    have RD := hide (show ∀ W, Only (fun q => q = w.heap.size + 1) w4 W → HRd W y ar3 kr3 ac3 kc3 ag4 kg4 from fun W o => (hG4.low o (fun q e => by omega)).rd (by rw [(unhide SY).r1.regs]; omega) (by have := (unhide SY).ok.n8; omega) (fun q hq => (unhide SY).ok.p200 q hq) (by have := (unhide SY).r1.gray; have := (unhide SY).ok.n8; omega))
    obtain ⟨d0, d1, d2, d3, d4, d5, d6, d7, d8, d9, d10, d11, d12⟩ := hG4.bx
    have X4 := x2.trans x4
    have hgw : w2.heap.size ≤ g := hG4.lo
    have hg4s : g < w4.heap.size := cell_lt d0
    have ng : ¬ g = w.heap.size + 1 := by omega
    have ng2 : ¬ w.heap.size + 1 = g := by omega
    have e0 := x4.keep r0
    have e1 := x4.keep r1
    have e2 := x4.keep r2
    have e3 := x4.keep r3
    have e4 := x4.keep r4
    have e5 := x4.keep r5
    have e6 := x4.keep r6
    have e7 := x4.keep r7
    have e8 := x4.keep r8
    have e9 := x4.keep r9
    have e10 := x4.keep r10
    have e11 := x4.keep r11
    have e12 := x4.keep r12
    have g0 := ((bcell x4).2 (w.heap.size + 1) 0 hr0).trans f0
    have g1 := ((bcell x4).2 (w.heap.size + 1) 1 hr0).trans f1
    have g2 := ((bcell x4).2 (w.heap.size + 1) 2 hr0).trans f2
    have g3 := ((bcell x4).2 (w.heap.size + 1) 3 hr0).trans f3
    have g4 := ((bcell x4).2 (w.heap.size + 1) 4 hr0).trans f4
    have g5 := ((bcell x4).2 (w.heap.size + 1) 5 hr0).trans f5
    have g6 := ((bcell x4).2 (w.heap.size + 1) 6 hr0).trans f6
    have g7 := ((bcell x4).2 (w.heap.size + 1) 7 hr0).trans f7
    have g8 := ((bcell x4).2 (w.heap.size + 1) 8 hr0).trans f8
    have g9 := ((bcell x4).2 (w.heap.size + 1) 9 hr0).trans f9
    have g10 := ((bcell x4).2 (w.heap.size + 1) 10 hr0).trans f10
    have g11 := ((bcell x4).2 (w.heap.size + 1) 11 hr0).trans f11
    have g12 := ((bcell x4).2 (w.heap.size + 1) 12 hr0).trans f12
    have hr4 : w.heap.size + 1 < w4.heap.size := cell_lt e0
    clear hG4 en4 r0 r1 r2 r3 r4 r5 r6 r7 r8 r9 r10 r11 r12 f0 f1 f2 f3 f4 f5 f6 f7 f8 f9 f10 f11 f12
    go_wp2_with fail
    refine bodyPost_ret (v := y.v (.slice ar3 y.regs.length kr3) (.slice ac3 y.cells.length kc3) (.slice ag4 y.gray.length kg4)) (by simp [results, Tryz.results42, go_sem, e0, e1, e2, e3, e4, e5, e6, e7, e8, e9, e10, e11, e12]) rfl ⟨y, ar3, kr3, ac3, kc3, ag4, kg4, rfl, unhide IS, ?_⟩
    refine (fun (F : Only (fun q => q = w.heap.size + 1) w4 _) => ⟨unhide RD _ F, F.ext X4 (fun q hq e => by omega)⟩) ?_
    repeat (first | refine Only.setCell ?_ (by simp) _ | exact Only.refl _ _)
end Go.Proofs.YtkabcfhemljnbaaGreat
