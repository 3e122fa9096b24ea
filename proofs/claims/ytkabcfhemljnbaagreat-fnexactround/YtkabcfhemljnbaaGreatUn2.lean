import Derived.Test.YtkabcfhemljnbaaGreatSpecI2
import Derived.Test.YtkabcfhemljnbaaGreatSpecG
import Derived.Test.YtkabcfhemljnbaaGreatSpecK
import Derived.Test.YtkabcfhemljnbaaGreatImpC
import Derived.Test.YtkabcfhemljnbaaGreatSpecF
import Derived.Test.YtkabcfhemljnbaaGreatSpecH4
import Derived.Test.YtkabcfhemljnbaaGreatImpM
import Derived.Test.YtkabcfhemljnbaaGreatLc
import Derived.Test.YtkabcfhemljnbaaGreatLf
import Derived.Test.YtkabcfhemljnbaaGreatOw
import Derived.Test.YtkabcfhemljnbaaGreatTe
import Derived.Deep.QuietTactic
namespace Go.Proofs.YtkabcfhemljnbaaGreat
open Go.RowKit
attribute [local go_sem ↓] Go.wp_at_zero Go.wp_at_succ

theorem formed_of_R4 {x : Hp} (r : R4 x) : ∀ i, i < x.cells.length → ∀ k, k < (x.c i).prs.length → Formed ((x.c i).p k).key x.cells.length ∧ Formed ((x.c i).p k).val x.cells.length := fun i hi k hk => by
  have hp := (r.2 i hi).2 k hk
  by_cases d : Doomed x i
  · exact hp.1 d
  · exact ⟨(hp.2 d).1.1, (hp.2 d).2.1⟩

theorem l1marks_any (x : Hp) (b : Nat) (w : World) {ar : Option Addr} {kr : Nat} {ac : Option Addr} {kc : Nat} {ag : Option Addr} {kg : Nat} (h : HAt w b x ar kr ac kc ag kg) (r1 : R1 x) (r4 : R4 x) (r6 : R6 x) :
    Calls Tryz.prog 93 #[.pointer (some ⟨b, 0, none⟩)] w fun e w' => ∃ r : Bool, e = .returned (.bool r) ∧ (r = true ↔ R7 x) ∧ Ext w w' := by
  cases q1 : (x.phase == 1)
  · cases q2 : (x.phase == 2)
    · have Y := hide (show R7 x from fun m => by rcases m with m | m <;> simp [m] at q1 q2)
      have q1n : (x.phase != 1) = true := by simpa using q1
      have q2n : (x.phase != 2) = true := by simpa using q2
      have c5 := h.c5
      clear h r1 r4 r6
      go_enter Tryz.func93, Tryz.ntmps93
      go_wp2_with fail
      go_ret
      first | (exact Or.inr ⟨rfl, unhide Y, Ext.refl _⟩) | (exact ⟨true, rfl, ⟨fun _ => unhide Y, fun _ => rfl⟩, Ext.refl _⟩)
    · exact l1marks_2 x b w h (formed_of_R4 r4) r6 r1 q1 q2
  · exact l1marks_1 x b w h (formed_of_R4 r4) r6 r1 q1
end Go.Proofs.YtkabcfhemljnbaaGreat

namespace Go.Proofs.YtkabcfhemljnbaaGreat
open Go.RowKit
attribute [local go_sem ↓] Go.wp_at_zero Go.wp_at_succ

theorem hat_box (x : Hp) (w : World) {ar : Option Addr} {kr : Nat} {ac : Option Addr} {kc : Nat} {ag : Option Addr} {kg : Nat} (hR : SlW w (.slice ar x.regs.length kr) x.regs) (hC : SlC w (.slice ac x.cells.length kc) x.cells) (hG : SlI w (.slice ag x.gray.length kg) x.gray) :
    HAt (w.alloc (.cells #[iv x.room, iv x.used, iv x.born, .slice ar x.regs.length kr, .slice ac x.cells.length kc, iv x.phase, iv x.hand, iv x.sub, .slice ag x.gray.length kg, iv x.per, iv x.start, iv x.rounds, iv x.forced] 33)) w.heap.size x ar kr ac kc ag kg := by
  have e := (Ext.refl w).alloc (.cells #[iv x.room, iv x.used, iv x.born, .slice ar x.regs.length kr, .slice ac x.cells.length kc, iv x.phase, iv x.hand, iv x.sub, .slice ag x.gray.length kg, iv x.per, iv x.start, iv x.rounds, iv x.forced] 33)
  obtain ⟨a1, k1, v1, l1, R⟩ := hR
  obtain ⟨a2, k2, v2, l2, C⟩ := hC
  obtain ⟨a3, k3, v3, l3, G⟩ := hG
  simp only [Value.slice.injEq] at v1 v2 v3
  obtain ⟨rfl, _, rfl⟩ := v1
  obtain ⟨rfl, _, rfl⟩ := v2
  obtain ⟨rfl, _, rfl⟩ := v3
  refine ⟨?_, ?_, ?_, ?_, ?_, ?_, ?_, ?_, ?_, ?_, ?_, ?_, ?_, l1, l2, l3, ?_, ?_, ?_⟩
  iterate 13 (simp [go_sem])
  · exact fun i hi => let ⟨b', o, a, p⟩ := R i hi; ⟨b', o, a, p.ext e⟩
  · intro i hi
    obtain ⟨b', o, a, p⟩ := C i hi
    rw [Hp.c_eq] at p
    exact ⟨b', o, a, p.ext e⟩
  · exact fun i hi => let ⟨b', o, a, p⟩ := G i hi; ⟨b', o, a, p.ext e⟩

set_option maxRecDepth 100000 in
set_option maxHeartbeats 2000000 in
theorem specHeapOk_any (x : Hp) (w : World) {ar : Option Addr} {kr : Nat} {ac : Option Addr} {kc : Nat} {ag : Option Addr} {kg : Nat} (hR : SlW w (.slice ar x.regs.length kr) x.regs) (hC : SlC w (.slice ac x.cells.length kc) x.cells) (hG : SlI w (.slice ag x.gray.length kg) x.gray) :
    Calls Tryz.prog 47 #[x.v (.slice ar x.regs.length kr) (.slice ac x.cells.length kc) (.slice ag x.gray.length kg)] w fun e w' => ∃ n : Int, e = .returned (.int .i64 n) ∧ OkIs x n ∧ Ext w w' := by
  have h := hat_box x w hR hC hG
  have hw := (Ext.refl w).alloc (.cells #[iv x.room, iv x.used, iv x.born, .slice ar x.regs.length kr, .slice ac x.cells.length kc, iv x.phase, iv x.hand, iv x.sub, .slice ag x.gray.length kg, iv x.per, iv x.start, iv x.rounds, iv x.forced] 33)
  clear hR hC hG
  go_enter Tryz.func47, Tryz.ntmps47
  go_wp2_with fail
  refine (l1sizes_any x _ _ h).mono ?_
  rintro e w1 ⟨b1, rfl, hr, hq⟩
  have h1 := h.ext hq
  have x1 := hw.trans hq
  clear hw h hq
  cases b1
  · have Y := hide (show OkIs x 1 from Or.inl ⟨fun r => by simpa using hr.2 r, rfl⟩)
    clear hr
    go_wp2_with fail
    go_ret
    exact ⟨1, rfl, unhide Y, x1⟩
  have r1 : R1 x := hr.1 rfl
  have Q1 := hide r1
  clear hr r1
  go_wp2_with fail
  refine (l1cells_any x _ _ h1).mono ?_
  rintro e w2 ⟨b1, rfl, hr, hq⟩
  have h2 := h1.ext hq
  have x2 := x1.trans hq
  clear x1 h1 hq
  cases b1
  · have Y := hide (show OkIs x 2 from Or.inr (Or.inl ⟨unhide Q1, fun r => by simpa using hr.2 r, rfl⟩))
    clear hr
    go_wp2_with fail
    go_ret
    exact ⟨2, rfl, unhide Y, x2⟩
  have r2 : R2 x := hr.1 rfl
  have Q2 := hide r2
  have hn8 : x.cells.length ≤ 8000 := by have := (unhide Q1).room; have := (unhide Q1).cells; omega
  have hp2 : ∀ i, i < x.cells.length → (x.c i).prs.length ≤ 200 := fun i hi => by
    rcases r2.1 i hi with c | c | c
    · have := c.2.1.2.2.2.2.2; omega
    · have := c.2.1.2.2.2.2.2; omega
    · exact c.2.2.2.2.2.2.2
  have HU := hide (fun w' (e : Up w2 w') => quietUp (l1units_any x w.heap.size w' (h2.ext e.ext) hn8 hp2) e)
  have F0 : ∀ w', Up w2 w' → w'.cell? ⟨w.heap.size, 0, none⟩ = some (iv x.room) ∧ w'.cell? ⟨w.heap.size, 1, none⟩ = some (iv x.used) := fun w' e => ⟨e.ext.keep h2.c0, e.ext.keep h2.c1⟩
  have c0 := h2.c0
  have c1 := h2.c1
  have H2 := hide h2
  clear hr r2 h2 hp2
  go_wp2_with fail
  cases u1 : (x.used == (units x.cells : Int))
  · have u1b : (x.used != (units x.cells : Int)) = true := by simpa using u1
    have Y := hide (show OkIs x 3 from Or.inr (Or.inr (Or.inl ⟨unhide Q1, unhide Q2, fun r => by simp [r.1] at u1, rfl⟩)))
    refine wp_region_quiet (C := Up w2) (by kernel_rfl) (by kernel_rfl) (show Ext _ _ from (Ext.refl _).drew) ?_
    go_simp
    iterate 12 (first | go_big_quiet_skip | (go_big_quiet_want; go_big_quiet_op; first | go_big_quiet_on | (apply Exists.intro; refine ⟨fun w' hw' => ?_, ?_⟩; (first | (go_at_call 89; exact (unhide HU w' hw')) | (with_reducible rfl) | (go_simp; first | done | (with_reducible rfl) | (refine ⟨?_, ?_⟩ <;> with_reducible rfl))); go_big_quiet_on)))
    refine wpQuiet_nil ?_
    intro w3 hq3
    have x3 := x2.trans hq3.ext
    clear F0 HU
    go_wp2_with fail
    go_ret
    exact ⟨3, rfl, unhide Y, x3⟩
  · have u1b : (x.used != (units x.cells : Int)) = false := by simpa using u1
    by_cases u2 : x.room < x.used
    · have Y := hide (show OkIs x 3 from Or.inr (Or.inr (Or.inl ⟨unhide Q1, unhide Q2, fun r => by have := r.2; omega, rfl⟩)))
      refine wp_region_quiet (C := Up w2) (by kernel_rfl) (by kernel_rfl) (show Ext _ _ from (Ext.refl _).drew) ?_
      go_simp
      iterate 12 (first | go_big_quiet_skip | (go_big_quiet_want; go_big_quiet_op; first | go_big_quiet_on | (apply Exists.intro; refine ⟨fun w' hw' => ?_, ?_⟩; (first | (go_at_call 89; exact (unhide HU w' hw')) | (with_reducible rfl) | (go_simp; first | done | (with_reducible rfl) | (refine ⟨?_, ?_⟩ <;> with_reducible rfl))); go_big_quiet_on)))
      refine wpQuiet_nil ?_
      intro w3 hq3
      have x3 := x2.trans hq3.ext
      clear F0 HU
      go_wp2_with fail
      go_ret
      exact ⟨3, rfl, unhide Y, x3⟩
    have Q3 := hide (show R3 x from ⟨by simpa using u1, by omega⟩)
    refine wp_region_quiet (C := Up w2) (by kernel_rfl) (by kernel_rfl) (show Ext _ _ from (Ext.refl _).drew) ?_
    go_simp
    iterate 12 (first | go_big_quiet_skip | (go_big_quiet_want; go_big_quiet_op; first | go_big_quiet_on | (apply Exists.intro; refine ⟨fun w' hw' => ?_, ?_⟩; (first | (go_at_call 89; exact (unhide HU w' hw')) | (with_reducible rfl) | (go_simp; first | done | (with_reducible rfl) | (refine ⟨?_, ?_⟩ <;> with_reducible rfl))); go_big_quiet_on)))
    refine wpQuiet_nil ?_
    intro w3 hq3
    have x3 := x2.trans hq3.ext
    have h3 := (unhide H2).ext hq3.ext
    clear F0 HU H2 c0 c1 u1 u1b u2
    go_wp2_with fail
    refine (l1words_any x _ _ h3).mono ?_
    rintro e w4 ⟨b1, rfl, hr, hq⟩
    have h4 := h3.ext hq
    have x4 := x3.trans hq
    clear x3 h3 hq
    cases b1
    · have Y := hide (show OkIs x 4 from Or.inr (Or.inr (Or.inr (Or.inl ⟨unhide Q1, unhide Q2, unhide Q3, fun r => by simpa using hr.2 r, rfl⟩))))
      clear hr
      go_wp2_with fail
      go_ret
      exact ⟨4, rfl, unhide Y, x4⟩
    have Q4 := hide (show R4 x from hr.1 rfl)
    clear hr
    go_wp2_with fail
    refine (l1colors_any x _ _ h4).mono ?_
    rintro e w5 ⟨b1, rfl, hr, hq⟩
    have h5 := h4.ext hq
    have x5 := x4.trans hq
    clear x4 h4 hq
    cases b1
    · have Y := hide (show OkIs x 5 from Or.inr (Or.inr (Or.inr (Or.inr (Or.inl ⟨unhide Q1, unhide Q2, unhide Q3, unhide Q4, fun r => by simpa using hr.2 r, rfl⟩)))))
      clear hr
      go_wp2_with fail
      go_ret
      exact ⟨5, rfl, unhide Y, x5⟩
    have Q5 := hide (show R5 x from hr.1 rfl)
    clear hr
    go_wp2_with fail
    refine (l1hands_any x _ _ h5 (unhide Q1) (unhide Q5)).mono ?_
    rintro e w6 ⟨b1, rfl, hr, hq⟩
    have h6 := h5.ext hq
    have x6 := x5.trans hq
    clear x5 h5 hq
    cases b1
    · have Y := hide (show OkIs x 6 from Or.inr (Or.inr (Or.inr (Or.inr (Or.inr (Or.inl ⟨unhide Q1, unhide Q2, unhide Q3, unhide Q4, unhide Q5, fun r => by simpa using hr.2 r, rfl⟩))))))
      clear hr
      go_wp2_with fail
      go_ret
      exact ⟨6, rfl, unhide Y, x6⟩
    have Q6 := hide (show R6 x from hr.1 rfl)
    clear hr
    go_wp2_with fail
    refine (l1marks_any x _ _ h6 (unhide Q1) (unhide Q4) (unhide Q6)).mono ?_
    rintro e w7 ⟨b1, rfl, hr, hq⟩
    have h7 := h6.ext hq
    have x7 := x6.trans hq
    clear x6 h6 hq
    cases b1
    · have Y := hide (show OkIs x 7 from Or.inr (Or.inr (Or.inr (Or.inr (Or.inr (Or.inr (Or.inl ⟨unhide Q1, unhide Q2, unhide Q3, unhide Q4, unhide Q5, unhide Q6, fun r => by simpa using hr.2 r, rfl⟩)))))))
      clear hr
      go_wp2_with fail
      go_ret
      exact ⟨7, rfl, unhide Y, x7⟩
    have Q7 := hide (show R7 x from hr.1 rfl)
    clear hr
    go_wp2_with fail
    refine (l1closing_any x _ _ h7).mono ?_
    rintro e w8 ⟨b1, rfl, hr, hq⟩
    have x8 := x7.trans hq
    clear x7 h7 hq
    cases b1
    · have Y := hide (show OkIs x 8 from Or.inr (Or.inr (Or.inr (Or.inr (Or.inr (Or.inr (Or.inr (Or.inl ⟨unhide Q1, unhide Q2, unhide Q3, unhide Q4, unhide Q5, unhide Q6, unhide Q7, fun r => by simpa using hr.2 r, rfl⟩))))))))
      clear hr
      go_wp2_with fail
      go_ret
      exact ⟨8, rfl, unhide Y, x8⟩
    · have Y := hide (show OkIs x 0 from Or.inr (Or.inr (Or.inr (Or.inr (Or.inr (Or.inr (Or.inr (Or.inr ⟨unhide Q1, unhide Q2, unhide Q3, unhide Q4, unhide Q5, unhide Q6, unhide Q7, hr.1 rfl, rfl⟩))))))))
      clear hr
      go_wp2_with fail
      go_ret
      exact ⟨0, rfl, unhide Y, x8⟩
end Go.Proofs.YtkabcfhemljnbaaGreat

namespace Go.Proofs.YtkabcfhemljnbaaGreat
open Go.RowKit
attribute [local go_sem ↓] Go.wp_at_zero Go.wp_at_succ

/-- a heap that can be read -/
def HRd (w : World) (y : Hp) (ar : Option Addr) (kr : Nat) (ac : Option Addr) (kc : Nat) (ag : Option Addr) (kg : Nat) : Prop := SlW w (.slice ar y.regs.length kr) y.regs ∧ SlC w (.slice ac y.cells.length kc) y.cells ∧ SlI w (.slice ag y.gray.length kg) y.gray
theorem HRd.ext {w w' : World} {y : Hp} {ar : Option Addr} {kr : Nat} {ac : Option Addr} {kc : Nat} {ag : Option Addr} {kg : Nat} (h : HRd w y ar kr ac kc ag kg) (e : Ext w w') : HRd w' y ar kr ac kc ag kg := ⟨SlW.ext e h.1, SlC.ext e h.2.1, SlI.ext e h.2.2⟩
theorem HRd.zero (w : World) : HRd w Hp0 none 0 none 0 none 0 := ⟨SlOf.nil, SlOf.nil, SlOf.nil⟩
theorem ssh_is {x : Hp} {at_ : Int} (h : ShOk x at_) : sshH x ⟨2, 0, at_⟩ = shadeH x at_.toNat := by
  obtain ⟨_, h0, h1, h2⟩ := h
  have e : ((at_.toNat : Nat) : Int) = at_ := by omega
  have hb : sshB x ⟨2, 0, at_⟩ = shadeB x at_.toNat := by simp [sshB, shadeB, whB, h2]
  unfold sshH shadeH
  rw [hb]
  by_cases q : shadeB x at_.toNat = true
  · rw [if_pos q, if_pos q]; simp [e]
  · rw [if_neg q, if_neg q]
theorem shadeH_len (x : Hp) (i : Nat) : (shadeH x i).regs = x.regs ∧ (shadeH x i).cells.length = x.cells.length ∧ (shadeH x i).gray.length ≤ x.gray.length + 1 := by
  unfold shadeH; split <;> simp
theorem shadeH_prs (x : Hp) (i : Nat) (hi : i < x.cells.length) (q : Nat) : ((shadeH x i).c q).prs = (x.c q).prs := by
  unfold shadeH; split
  · have := Hp.c_set x i (grayC (x.c i)) hi q
    have e : ({ x with cells := x.cells.set i (grayC (x.c i)), gray := x.gray ++ [(i : Int)] } : Hp).c q = ({ x with cells := x.cells.set i (grayC (x.c i)) } : Hp).c q := rfl
    rw [e, this]
    by_cases h : q = i
    · rw [if_pos h, h]; rfl
    · rw [if_neg h]
  · rfl
theorem GAt.low {S : Nat → Prop} {B : Nat} {w w' : World} {g : Nat} {x : Hp} {ar : Option Addr} {kr : Nat} {ac : Option Addr} {kc : Nat} {vg : Value} {br bc : Nat} {pb : Nat → Nat} {pa : Nat → Option Addr} {pk : Nat → Nat} {role : Nat → Nat} (h : GAt B w g x ar kr ac kc vg br bc pb pa pk role) (o : Only S w w') (hS : ∀ q, S q → q < B) : GAt B w' g x ar kr ac kc vg br bc pb pa pk role :=
  ⟨h.bx.only o (fun s => by have := hS _ s; have := h.lo; omega), nf1_block h.nf (o.block g h.nf.1 (fun s => by have := hS _ s; have := h.lo; omega)) o.size, h.lo, h.ha, h.hc, h.rw.only o (fun hl s => by have := hS _ s; have := (h.rw.nr hl).2; omega) (fun hl s => by have := hS _ s; have := (h.rw.nc hl).2; omega) (fun q hq hl s => by have := hS _ s; have := (h.rw.pl q hq hl).2.2.2; omega), h.gr.block (fun q hq => o.block q (h.gr.lt q hq).2 (fun s => by have := hS _ s; have := (h.gr.lt q hq).1; omega)), h.sp, h.kl⟩
theorem GAt.rd {B : Nat} {w : World} {g : Nat} {x : Hp} {ar : Option Addr} {kr : Nat} {ac : Option Addr} {kc : Nat} {ag : Option Addr} {kg : Nat} {br bc : Nat} {pb : Nat → Nat} {pa : Nat → Option Addr} {pk : Nat → Nat} {role : Nat → Nat} (h : GAt B w g x ar kr ac kc (.slice ag x.gray.length kg) br bc pb pa pk role) (n1 : x.regs.length ≤ 1048576) (n2 : x.cells.length ≤ 1048576) (n3 : ∀ q, q < x.cells.length → (x.c q).prs.length ≤ 200) (n4 : x.gray.length ≤ 1048576) : HRd w x ar kr ac kc ag kg := by
  refine ⟨h.rw.slW kr h.ha n1, h.rw.slC kc h.hc n2 n3, ⟨ag, kg, rfl, by omega, fun i hi => ?_⟩⟩
  obtain ⟨gb, go, e, c, _⟩ := h.gr.at i hi
  exact ⟨gb, go, e, by rw [Nat.mul_one]; exact c⟩

end Go.Proofs.YtkabcfhemljnbaaGreat

namespace Go.Proofs.YtkabcfhemljnbaaGreat
open Go.RowKit

theorem HRow.grow {B C U V : Nat} {w : World} {x : Hp} {br kr bc kc bg kg : Nat} {pb : Nat → Nat} {pa : Nat → Option Addr} {pk : Nat → Nat} (h : HRow B U w x br kr bc kc bg kg pb pa pk) (hU : U ≤ V) (hC : C ≤ B) : HRow C V w x br kr bc kc bg kg pb pa pk :=
  ⟨h.r, h.s, h.p, h.g, h.p7, fun q hq hl => let ⟨a, b, c, d, e⟩ := h.pl q hq hl; ⟨a, b, c, Nat.le_trans hC d, Nat.lt_of_lt_of_le e hU⟩, h.nr, h.nc, h.ng, h.d, h.dp, ⟨⟨Nat.le_trans hC h.b.1.1, Nat.lt_of_lt_of_le h.b.1.2 hU⟩, ⟨Nat.le_trans hC h.b.2.1.1, Nat.lt_of_lt_of_le h.b.2.1.2 hU⟩, ⟨Nat.le_trans hC h.b.2.2.1, Nat.lt_of_lt_of_le h.b.2.2.2 hU⟩⟩, h.l⟩
/-- a heap as an answer: the zero one, or rows of its own in blocks from B on below U -/
def HA (B U : Nat) (w : World) (y : Hp) (ar : Option Addr) (kr : Nat) (ac : Option Addr) (kc : Nat) (ag : Option Addr) (kg : Nat) : Prop := (y = Hp0 ∧ ar = none ∧ kr = 0 ∧ ac = none ∧ kc = 0 ∧ ag = none ∧ kg = 0) ∨ ∃ br bc bg pb pa pk, ar = some ⟨br, 0, none⟩ ∧ ac = some ⟨bc, 0, none⟩ ∧ ag = some ⟨bg, 0, none⟩ ∧ HRow B U w y br kr bc kc bg kg pb pa pk
theorem HA.zero (B U : Nat) (w : World) : HA B U w Hp0 none 0 none 0 none 0 := .inl ⟨rfl, rfl, rfl, rfl, rfl, rfl, rfl⟩
theorem OkIs.r16 {x : Hp} (h : OkIs x 0) : 0 < x.regs.length ∧ x.regs.length ≤ 100 := by have := h.all.1.regs; omega
end Go.Proofs.YtkabcfhemljnbaaGreat

namespace Go.Proofs.YtkabcfhemljnbaaGreat
open Go.RowKit
attribute [local go_sem ↓] Go.wp_at_zero Go.wp_at_succ

/-! The program's rounds: the parts of a unit. -/
/-- the part of a round that is on, as a value -/
def nowV (p : Int) (b : Nat) : Value := if p = 1 then .iface 193 (.agg #[.pointer (some ⟨b, 0, none⟩)]) else if p = 2 then .iface 194 (.agg #[.pointer (some ⟨b, 0, none⟩)]) else if p = 3 then .iface 195 (.agg #[.pointer (some ⟨b, 0, none⟩)]) else if p = 4 then .iface 196 (.agg #[.pointer (some ⟨b, 0, none⟩)]) else if p = 5 then .iface 197 (.agg #[.pointer (some ⟨b, 0, none⟩)]) else if p = 6 then .iface 198 (.agg #[.pointer (some ⟨b, 0, none⟩)]) else .nilIface
theorem now_any (p : Int) (b : Nat) (w : World) (c5 : w.cell? ⟨b, 5, none⟩ = some (iv p)) (hp : 0 ≤ p ∧ p ≤ 6) :
    Calls Tryz.prog 171 #[.pointer (some ⟨b, 0, none⟩)] w fun e w' => e = .returned (nowV p b) ∧ w' = w := by
  have h : p = 0 ∨ p = 1 ∨ p = 2 ∨ p = 3 ∨ p = 4 ∨ p = 5 ∨ p = 6 := by omega
  clear hp
  rcases h with rfl | rfl | rfl | rfl | rfl | rfl | rfl
  all_goals
    go_enter Tryz.func171, Tryz.ntmps171
    go_wp2_with fail
    go_ret
    exact ⟨rfl, rfl⟩
theorem atHand_none (hd : Int) (b n kn : Nat) (an : Option Addr) (w : World) (c6 : w.cell? ⟨b, 6, none⟩ = some (iv hd)) (c13 : w.cell? ⟨b, 13, none⟩ = some (.slice an n kn)) (h : (hd == (n : Int)) = true) :
    Calls Tryz.prog 232 #[.pointer (some ⟨b, 0, none⟩)] w fun e w' => e = .returned (.pointer none) ∧ Ext w w' := by
  go_enter Tryz.func232, Tryz.ntmps232
  go_wp2_with fail
  go_quiet (fail)
  go_wp2_with fail
  go_ret
  exact ⟨rfl, (Ext.refl _).drewN _⟩
theorem atHand_some (b n kn bn i : Nat) (w : World) (c6 : w.cell? ⟨b, 6, none⟩ = some (iv i)) (c13 : w.cell? ⟨b, 13, none⟩ = some (.slice (some ⟨bn, 0, none⟩) n kn)) (hi : i < n) :
    Calls Tryz.prog 232 #[.pointer (some ⟨b, 0, none⟩)] w fun e w' => e = .returned (ndp bn i) ∧ Ext w w' := by
  have h : ((i : Int) == (n : Int)) = false := by simp; omega
  have i0 : (0:Int) ≤ (i:Int) := by omega
  have i1 : (i:Int) < (n:Int) := by omega
  go_enter Tryz.func232, Tryz.ntmps232
  go_wp2_with fail
  go_quiet (fail)
  obtain ⟨m1, rfl⟩ : ∃ m, m = nq := ⟨_, rfl⟩
  go_wp2_with fail
  go_quiet (fail)
  go_wp2_with fail
  go_ret
  exact ⟨rfl, ((Ext.refl _).drewN _).drewN _⟩
end Go.Proofs.YtkabcfhemljnbaaGreat

namespace Go.Proofs.YtkabcfhemljnbaaGreat
open Go.RowKit

/-! Units of a round, in plain words; a sound heap stays sound. -/
structure Snd (x : Hp) : Prop where
  r1 : R1 x
  r2 : R2 x
  r3 : R3 x
  r4 : R4 x
  r5 : R5 x
  r6 : R6 x
  r7 : R7 x
  r8 : R8 x
theorem OkIs.snd {x : Hp} (h : OkIs x 0) : Snd x := by
  unfold OkIs at h
  rcases h with h | h | h | h | h | h | h | h | h
  · have := h.2; omega
  · have := h.2.2; omega
  · have := h.2.2.2; omega
  · have := h.2.2.2.2; omega
  · have := h.2.2.2.2.2; omega
  · have := h.2.2.2.2.2.2; omega
  · have := h.2.2.2.2.2.2.2; omega
  · have := h.2.2.2.2.2.2.2.2; omega
  · obtain ⟨a, b, c, d, e, f, g, i, _⟩ := h
    exact ⟨a, b, c, d, e, f, g, i⟩
theorem Snd.ok {x : Hp} (h : Snd x) : OkIs x 0 := by
  unfold OkIs
  exact .inr (.inr (.inr (.inr (.inr (.inr (.inr (.inr ⟨h.r1, h.r2, h.r3, h.r4, h.r5, h.r6, h.r7, h.r8, rfl⟩)))))))

/-! Shading keeps a heap sound. -/
theorem shade_c (x : Hp) (i : Nat) (hi : i < x.cells.length) (q : Nat) : (shadeH x i).c q = if shadeB x i = true ∧ q = i then grayC (x.c i) else x.c q := by
  unfold shadeH
  by_cases hb : shadeB x i = true
  · rw [if_pos hb]
    have := Hp.c_set x i (grayC (x.c i)) hi q
    have e : ({ x with cells := x.cells.set i (grayC (x.c i)), gray := x.gray ++ [(i : Int)] } : Hp).c q = ({ x with cells := x.cells.set i (grayC (x.c i)) } : Hp).c q := rfl
    rw [e, this]
    by_cases h : q = i
    · rw [if_pos h, if_pos ⟨hb, h⟩]
    · rw [if_neg h, if_neg (fun e => h e.2)]
  · rw [if_neg hb, if_neg (fun e => hb e.1)]
theorem units_set (cs : List Cl) (i : Nat) (c : Cl) (hi : i < cs.length) (he : unitsOf c = unitsOf cs[i]) : units (cs.set i c) = units cs := by
  induction cs generalizing i with
  | nil => simp at hi
  | cons a cs ih =>
    cases i with
    | zero => simp [units] at he ⊢; exact he
    | succ i =>
      have := ih i (by simpa using hi) (by simpa using he)
      simp [units] at this ⊢
      exact this
/-- what shading leaves as it was -/
theorem shade_same (x : Hp) (i : Nat) : (shadeH x i).room = x.room ∧ (shadeH x i).used = x.used ∧ (shadeH x i).born = x.born ∧ (shadeH x i).regs = x.regs ∧ (shadeH x i).cells.length = x.cells.length ∧ (shadeH x i).phase = x.phase ∧ (shadeH x i).hand = x.hand ∧ (shadeH x i).sub = x.sub ∧ (shadeH x i).per = x.per ∧ (shadeH x i).start = x.start ∧ (shadeH x i).rounds = x.rounds ∧ (shadeH x i).forced = x.forced := by
  unfold shadeH; split <;> simp
/-- cells that differ in their colors alone -/
def Cl.un (c : Cl) : Cl := { c with color := 0 }
theorem shade_un (x : Hp) (i : Nat) (hi : i < x.cells.length) (q : Nat) : ((shadeH x i).c q).un = (x.c q).un := by
  rw [shade_c x i hi q]
  split
  · rename_i h; rw [h.2]; rfl
  · rfl
theorem un_parts {c d : Cl} (h : c.un = d.un) : c.st = d.st ∧ c.kind = d.kind ∧ c.weak = d.weak ∧ c.last = d.last ∧ c.born = d.born ∧ c.to = d.to ∧ c.prs = d.prs := by
  cases c; cases d
  simp [Cl.un] at h
  simp [h]
/-- heaps that differ in colors and gray ones alone, while marking is on: rules 2, 3, 4, 8 -/
theorem marked_same {x y : Hp} (hm : Marking x) (hp : y.phase = x.phase) (hh : y.hand = x.hand) (hs : y.sub = x.sub) (hb : y.born = x.born) (hu : y.used = x.used) (hro : y.room = x.room) (hr : y.regs = x.regs) (hl : y.cells.length = x.cells.length) (hc : ∀ q, (y.c q).un = (x.c q).un) (hcol : ∀ q, q < x.cells.length → (y.c q).color = (x.c q).color ∨ ((y.c q).st = 1 ∧ 0 ≤ (y.c q).color ∧ (y.c q).color ≤ 2)) (hun : units y.cells = units x.cells) (h2 : R2 x) (h3 : R3 x) (h4 : R4 x) : R2 y ∧ R3 y ∧ R4 y ∧ R8 y := by
  have hp3 : x.phase ≠ 3 := by rcases hm with h | h <;> omega
  have nd : ∀ i, ¬ Doomed x i := fun i h => hp3 h.1
  have nd' : ∀ i, ¬ Doomed y i := fun i h => hp3 (by rw [← hp]; exact h.1)
  have lead : ∀ (w : Wd) (m m' : Prop), (m → m') → Leads x w m → Leads y w m' := fun w m m' hmm h => by
    refine ⟨by rw [hl]; exact h.1, fun hk => ?_⟩
    have e := (un_parts (hc w.a.toNat)).1
    rcases h.2 hk with ⟨h1, h2⟩ | ⟨h1, _⟩
    · exact .inl ⟨by rw [e]; exact h1, hmm h2⟩
    · exact .inr ⟨by rw [e]; exact h1, nd' _⟩
  have men : ∀ i k, ¬ Mended x i k → ¬ Mended y i k := fun i k h h' => h ⟨by rw [← hp]; exact h'.1, fun h5 => by have := h'.2 (by rw [hp]; exact h5); rw [hh, hs] at this; exact this⟩
  refine ⟨⟨fun i hi => ?_, fun i hi hst k hk hh => ?_⟩, ⟨by rw [hu, hun]; exact h3.1, by rw [hu, hro]; exact h3.2⟩, ⟨fun i hi => ?_, fun i hi => ⟨fun h => nd' i h.1, fun k hk => ⟨fun h => (nd' i h).elim, fun _ => ?_⟩⟩⟩, fun i hi h => ?_⟩
  · rw [hl] at hi
    obtain ⟨e1, e2, e3, e4, e5, e6, e7⟩ := un_parts (hc i)
    rcases h2.1 i hi with ⟨a, b, c⟩ | ⟨a, b⟩ | ⟨a, b⟩
    · refine .inl ⟨by rw [e1]; exact a, ?_, by rw [e6]; exact c⟩
      have hcc : (y.c i).color = (x.c i).color := by
        rcases hcol i hi with h | h
        · exact h
        · have := h.1; omega
      exact ⟨by rw [e2]; exact b.1, by rw [e3]; exact b.2.1, by rw [e4]; exact b.2.2.1, by rw [e5]; exact b.2.2.2.1, by rw [hcc]; exact b.2.2.2.2.1, by rw [e7]; exact b.2.2.2.2.2⟩
    · have := b.2.1; rcases hm with h | h <;> omega
    · refine .inr (.inr ⟨by rw [e1]; exact a, by rw [e2]; exact b.1, by rw [e3]; exact b.2.1, by rw [e4]; exact b.2.2.1, by rw [e5, hb]; exact b.2.2.2.1, ?_, by rw [e6]; exact b.2.2.2.2.2.1, by rw [e7]; exact b.2.2.2.2.2.2⟩)
      rcases hcol i hi with h | h
      · rw [h]; exact b.2.2.2.2.1
      · exact h.2
  · rw [hl] at hi
    obtain ⟨e1, _, _, _, e5, e6, _⟩ := un_parts (hc i)
    obtain ⟨f1, _, _, _, f5, f6, _⟩ := un_parts (hc k)
    rw [e1, e5, e6, f1, f5, f6] at hh
    exact h2.2 i hi (by rw [← e1]; exact hst) k hk hh
  · have hi' : i < x.regs.length := by rw [← hr]; exact hi
    have e : y.regs[i] = x.regs[i] := by simp [hr]
    rw [e]
    exact lead _ _ _ id (h4.1 i hi')
  · rw [hl] at hi
    have e7 := (un_parts (hc i)).2.2.2.2.2.2
    rw [e7] at hk
    have e8 : (y.c i).p k = (x.c i).p k := by simp only [Cl.p, e7]
    rw [e8]
    have := (h4.2 i hi).2 k hk
    exact ⟨lead _ _ _ (men i k) (this.2 (nd i)).1, lead _ _ _ (men i k) (this.2 (nd i)).2⟩
  · rw [hp] at h; rcases hm with h' | h' <;> omega
end Go.Proofs.YtkabcfhemljnbaaGreat

namespace Go.Proofs.YtkabcfhemljnbaaGreat
open Go.RowKit

theorem nd_len : ∀ (n : Nat) (L : List Nat), L.Nodup → (∀ i, i ∈ L → i < n) → L.length ≤ n
  | 0, L, _, h => by
    cases L with
    | nil => simp
    | cons a L => have := h a (List.mem_cons_self ..); omega
  | n + 1, L, hn, h => by
    by_cases hm : n ∈ L
    · have h1 := nd_len n (L.erase n) (hn.erase n) (fun i hi => by
        have h2 := h i (List.mem_of_mem_erase hi)
        have h3 : i ≠ n := fun e => by rw [e] at hi; exact (List.Nodup.not_mem_erase hn) hi
        omega)
      rw [List.length_erase_of_mem hm] at h1
      have h5 : 0 < L.length := List.length_pos_of_mem hm
      omega
    · have h1 := nd_len n L hn (fun i hi => by
        have h2 := h i hi
        have h3 : i ≠ n := fun e => hm (by rw [← e]; exact hi)
        omega)
      omega
theorem shadeB_parts {x : Hp} {i : Nat} (h : shadeB x i = true) : Marking x ∧ (x.c i).st = 1 ∧ (x.c i).color = 0 := by
  simp [shadeB, mkB, whB] at h
  exact ⟨h.1, h.2.1, h.2.2⟩
theorem gray_in {x : Hp} (r5 : R5 x) (i : Nat) (hi : i < x.cells.length) : (i : Int) ∈ x.gray ↔ (x.c i).color = 1 := by
  have := r5.2.1 i hi
  constructor
  · intro h
    rcases Int.decEq (x.c i).color 1 with hn | hy
    · have h0 := this.2.1 hn
      unfold cnt at h0
      exact absurd h (List.count_eq_zero.1 h0)
    · exact hy
  · intro h
    have h0 := this.1 h
    unfold cnt at h0
    exact List.count_pos_iff.1 (by omega)
theorem Snd.shade {x : Hp} (h : Snd x) (i : Nat) (hi : i < x.cells.length) : Snd (shadeH x i) := by
  by_cases hb : shadeB x i = true
  rotate_left
  · have : shadeH x i = x := by unfold shadeH; rw [if_neg hb]
    rw [this]; exact h
  obtain ⟨hm, hst, hco⟩ := shadeB_parts hb
  obtain ⟨s1, s2, s3, s4, s5, s6, s7, s8, s9, s10, s11, s12⟩ := shade_same x i
  have hc : ∀ q, (shadeH x i).c q = if q = i then grayC (x.c i) else x.c q := fun q => by rw [shade_c x i hi q]; simp [hb]
  have hg : (shadeH x i).gray = x.gray ++ [(i : Int)] := by unfold shadeH; rw [if_pos hb]
  have ng : ¬ (i : Int) ∈ x.gray := fun e => by have := (gray_in h.r5 i hi).1 e; omega
  have hm' : Marking (shadeH x i) := by unfold Marking; rw [s6]; exact hm
  have hcol : ∀ q, ((shadeH x i).c q).color = if q = i then 1 else (x.c q).color := fun q => by
    rw [hc q]; by_cases e : q = i
    · rw [if_pos e, if_pos e]; rfl
    · rw [if_neg e, if_neg e]
  have hun := shade_un x i hi
  have hunits : units (shadeH x i).cells = units x.cells := by
    have : (shadeH x i).cells = x.cells.set i (grayC (x.c i)) := by unfold shadeH; rw [if_pos hb]
    rw [this]
    refine units_set _ _ _ hi ?_
    rw [Hp.c_eq x i hi]; rfl
  obtain ⟨q2, q3, q4, q8⟩ := marked_same hm s6 s7 s8 s3 s2 s1 s4 s5 hun (fun q hq => by
    rw [hcol q]
    by_cases e : q = i
    · right; rw [if_pos e, (un_parts (hun q)).1, e]; exact ⟨hst, by omega, by omega⟩
    · left; rw [if_neg e]) hunits h.r2 h.r3 h.r4
  refine ⟨?_, q2, q3, q4, ?_, ?_, ?_, q8⟩
  · have r := h.r1
    have hnd : ((x.gray ++ [(i : Int)]).map Int.toNat).Nodup := by
      unfold List.Nodup
      rw [List.pairwise_map]
      refine List.Pairwise.imp_of_mem (R := (· ≠ ·)) (fun ha hb hne e => hne ?_) ?_
      · have g0 : ∀ g, g ∈ x.gray ++ [(i : Int)] → 0 ≤ g := fun g hg => by
          rcases List.mem_append.1 hg with h' | h'
          · exact (h.r5.2.2 g h').1
          · rw [List.mem_singleton] at h'; omega
        have := g0 _ ha; have := g0 _ hb; omega
      · rw [List.pairwise_append]
        exact ⟨gray_nodup h.r5, by simp, fun a ha b hb e => by rw [List.mem_singleton] at hb; rw [e, hb] at ha; exact ng ha⟩
    have hlen := nd_len x.cells.length _ hnd (fun j hj => by
      obtain ⟨g, hg', rfl⟩ := List.mem_map.1 hj
      rcases List.mem_append.1 hg' with h' | h'
      · have := h.r5.2.2 g h'; omega
      · rw [List.mem_singleton] at h'; omega)
    rw [List.length_map] at hlen
    exact ⟨by rw [s1]; exact r.room, by rw [s4]; exact r.regs, by rw [s5, s1]; exact r.cells, by rw [hg, s5]; exact hlen, by rw [s3]; exact r.born, by rw [s11]; exact r.rounds, by rw [s12]; exact r.forced, by rw [s9]; exact r.per, by rw [s10]; exact r.start, by rw [s6]; exact r.phase, by rw [s7, s5]; exact r.hand, by rw [s8]; exact r.sub⟩
  · refine ⟨fun n => (n hm').elim, fun j hj => ?_, fun g hg' => ?_⟩
    · rw [s5] at hj
      have r := h.r5.2.1 j hj
      have ecnt : cnt (shadeH x i).gray j = cnt x.gray j + if j = i then 1 else 0 := by
        unfold cnt
        rw [hg, List.count_append]
        by_cases e : j = i
        · subst e; simp
        · rw [if_neg e, List.count_singleton]
          have : ¬ ((i : Int) = (j : Int)) := by omega
          simp [this]
      unfold ColorOk
      rw [ecnt, hcol j]
      by_cases e : j = i
      · subst e
        rw [if_pos rfl, if_pos rfl]
        have := r.2.1 (by omega)
        exact ⟨fun _ => by omega, fun h' => by omega, fun h' => by omega⟩
      · rw [if_neg e, if_neg e]
        exact ⟨fun h' => by have := r.1 h'; omega, fun h' => by have := r.2.1 h'; omega, fun h' => .inl hm'⟩
    · rw [hg] at hg'
      rw [s5]
      rcases List.mem_append.1 hg' with h' | h'
      · exact h.r5.2.2 g h'
      · rw [List.mem_singleton] at h'; omega
  · have r := h.r6
    unfold R6
    rw [s6, s7, s8, s5]
    refine ⟨fun hp => ?_, fun hp => ⟨(r.2.1 hp).1, fun h0 => ?_, fun _ => ?_⟩, fun hp => ?_, r.2.2.2⟩
    · exact r.1 hp
    · rw [hg] at h0; simp at h0
    · have e7 := fun q => (un_parts (hun q)).2.2.2.2.2.2
      rw [e7]
      rcases Nat.eq_zero_or_pos x.gray.length with h0 | h0
      · have := (r.2.1 hp).2.1 h0; omega
      · have eg : (shadeH x i).g0 = x.g0 := by
          unfold Hp.g0
          rw [hg]
          cases hx : x.gray with
          | nil => rw [hx] at h0; simp at h0
          | cons a l => rfl
        rw [eg]
        exact (r.2.1 hp).2.2 (by omega)
    · rcases hm with h' | h' <;> omega
  · intro _ j hj
    rw [s5] at hj
    have r := h.r7 hm j hj
    have e4 := (un_parts (hun j)).2.2.2.1
    have e7 := (un_parts (hun j)).2.2.2.2.2.2
    have wh : ∀ y, White (shadeH x i) y → White x y := fun y hy => by
      refine ⟨hy.1, ?_⟩
      have := hy.2
      rw [hcol] at this
      by_cases e : y.a.toNat = i
      · rw [if_pos e] at this; omega
      · rw [if_neg e] at this; exact this
    refine ⟨fun hh => r.1 ⟨?_, ?_, ?_⟩, fun k hk => ?_⟩
    · unfold Speaks; rw [← e4]; exact hh.1
    · have := hh.2.1
      rw [hcol] at this
      by_cases e : j = i
      · rw [if_pos e] at this; omega
      · rw [if_neg e] at this; exact this
    · rw [← s6, ← s7]; exact hh.2.2
    · have e8 : ((shadeH x i).c j).p k = (x.c j).p k := by simp only [Cl.p, e7]
      rw [e8]
      have hk' : k < looked x j := by
        unfold looked at hk ⊢
        rw [hcol j, e7, s6, s8] at hk
        by_cases e : j = i
        · subst e
          rw [if_pos rfl, if_neg (by omega)] at hk
          rw [if_neg (by omega)]
          split at hk
          · rename_i hh
            rw [hg] at hh
            rcases Nat.eq_zero_or_pos x.gray.length with h0 | h0
            · have := (h.r6.2.1 hh.1).2.1 h0; omega
            · have : x.gray.getD 0 0 = (j : Int) := by
                cases hx : x.gray with
                | nil => rw [hx] at h0; simp at h0
                | cons a l => rw [hx] at hh; simpa using hh.2.2
              rw [if_pos ⟨hh.1, by omega, this⟩]; exact hk
          · omega
        · rw [if_neg e] at hk
          by_cases h2 : (x.c j).color = 2
          · rw [if_pos h2] at hk ⊢; exact hk
          · rw [if_neg h2] at hk ⊢
            split at hk
            · rename_i hh
              rw [hg] at hh
              rcases Nat.eq_zero_or_pos x.gray.length with h0 | h0
              · have := (h.r6.2.1 hh.1).2.1 h0; omega
              · have : x.gray.getD 0 0 = (j : Int) := by
                  cases hx : x.gray with
                  | nil => rw [hx] at h0; simp at h0
                  | cons a l => rw [hx] at hh; simpa using hh.2.2
                rw [if_pos ⟨hh.1, by omega, this⟩]; exact hk
            · omega
      have := r.2 k hk'
      exact ⟨fun w => this.1 (wh _ w), fun w => this.2 (wh _ w)⟩
end Go.Proofs.YtkabcfhemljnbaaGreat
