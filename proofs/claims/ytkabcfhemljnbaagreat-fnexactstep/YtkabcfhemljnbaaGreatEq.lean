import Derived.Test.YtkabcfhemljnbaaGreatSpecI2
import Derived.Test.YtkabcfhemljnbaaGreatSpecG
import Derived.Test.YtkabcfhemljnbaaGreatSpecK
import Derived.Test.YtkabcfhemljnbaaGreatImpC
import Derived.Test.YtkabcfhemljnbaaGreatSpecF
import Derived.Test.YtkabcfhemljnbaaGreatSpecH4
import Derived.Test.YtkabcfhemljnbaaGreatImpM
import Derived.Test.YtkabcfhemljnbaaGreatLc
import Derived.Test.YtkabcfhemljnbaaGreatLf
import Derived.Test.YtkabcfhemljnbaaGreatOw
import Derived.Test.YtkabcfhemljnbaaGreatTe
import Derived.Test.YtkabcfhemljnbaaGreatLm
namespace Go.Proofs.YtkabcfhemljnbaaGreat
open Go.RowKit
attribute [local go_sem ↓] Go.wp_at_zero Go.wp_at_succ

theorem formed_of_R4 {x : Hp} (r : R4 x) : ∀ i, i < x.cells.length → ∀ k, k < (x.c i).prs.length → Formed ((x.c i).p k).key x.cells.length ∧ Formed ((x.c i).p k).val x.cells.length := fun i hi k hk => by
  have hp := (r.2 i hi).2 k hk
  by_cases d : Doomed x i
  · exact hp.1 d
  · exact ⟨(hp.2 d).1.1, (hp.2 d).2.1⟩

theorem l1marks_any (x : Hp) (b : Nat) (w : World) {ar : Option Addr} {kr : Nat} {ac : Option Addr} {kc : Nat} {ag : Option Addr} {kg : Nat} (h : HAt w b x ar kr ac kc ag kg) (r1 : R1 x) (r4 : R4 x) (r6 : R6 x) :
    Calls Tryz.prog 93 #[.pointer (some ⟨b, 0, none⟩)] w fun e w' => ∃ r : Bool, e = .returned (.bool r) ∧ (r = true ↔ R7 x) ∧ Ext w w' := by
  cases q1 : (x.phase == 1)
  · cases q2 : (x.phase == 2)
    · have Y := hide (show R7 x from fun m => by rcases m with m | m <;> simp [m] at q1 q2)
      have q1n : (x.phase != 1) = true := by simpa using q1
      have q2n : (x.phase != 2) = true := by simpa using q2
      have c5 := h.c5
      clear h r1 r4 r6
      go_enter Tryz.func93, Tryz.ntmps93
      go_wp2_with fail
      go_ret
      first | (exact Or.inr ⟨rfl, unhide Y, Ext.refl _⟩) | (exact ⟨true, rfl, ⟨fun _ => unhide Y, fun _ => rfl⟩, Ext.refl _⟩)
    · exact l1marks_2 x b w h (formed_of_R4 r4) r6 r1 q1 q2
  · exact l1marks_1 x b w h (formed_of_R4 r4) r6 r1 q1
end Go.Proofs.YtkabcfhemljnbaaGreat

namespace Go.Proofs.YtkabcfhemljnbaaGreat
open Go.RowKit
attribute [local go_sem ↓] Go.wp_at_zero Go.wp_at_succ

theorem hat_box (x : Hp) (w : World) {ar : Option Addr} {kr : Nat} {ac : Option Addr} {kc : Nat} {ag : Option Addr} {kg : Nat} (hR : SlW w (.slice ar x.regs.length kr) x.regs) (hC : SlC w (.slice ac x.cells.length kc) x.cells) (hG : SlI w (.slice ag x.gray.length kg) x.gray) :
    HAt (w.alloc (.cells #[iv x.room, iv x.used, iv x.born, .slice ar x.regs.length kr, .slice ac x.cells.length kc, iv x.phase, iv x.hand, iv x.sub, .slice ag x.gray.length kg, iv x.per, iv x.start, iv x.rounds, iv x.forced] 33)) w.heap.size x ar kr ac kc ag kg := by
  have e := (Ext.refl w).alloc (.cells #[iv x.room, iv x.used, iv x.born, .slice ar x.regs.length kr, .slice ac x.cells.length kc, iv x.phase, iv x.hand, iv x.sub, .slice ag x.gray.length kg, iv x.per, iv x.start, iv x.rounds, iv x.forced] 33)
  obtain ⟨a1, k1, v1, l1, R⟩ := hR
  obtain ⟨a2, k2, v2, l2, C⟩ := hC
  obtain ⟨a3, k3, v3, l3, G⟩ := hG
  simp only [Value.slice.injEq] at v1 v2 v3
  obtain ⟨rfl, _, rfl⟩ := v1
  obtain ⟨rfl, _, rfl⟩ := v2
  obtain ⟨rfl, _, rfl⟩ := v3
  refine ⟨?_, ?_, ?_, ?_, ?_, ?_, ?_, ?_, ?_, ?_, ?_, ?_, ?_, l1, l2, l3, ?_, ?_, ?_⟩
  iterate 13 (simp [go_sem])
  · exact fun i hi => let ⟨b', o, a, p⟩ := R i hi; ⟨b', o, a, p.ext e⟩
  · intro i hi
    obtain ⟨b', o, a, p⟩ := C i hi
    rw [Hp.c_eq] at p
    exact ⟨b', o, a, p.ext e⟩
  · exact fun i hi => let ⟨b', o, a, p⟩ := G i hi; ⟨b', o, a, p.ext e⟩

set_option maxRecDepth 100000 in
set_option maxHeartbeats 2000000 in
theorem specHeapOk_any (x : Hp) (w : World) {ar : Option Addr} {kr : Nat} {ac : Option Addr} {kc : Nat} {ag : Option Addr} {kg : Nat} (hR : SlW w (.slice ar x.regs.length kr) x.regs) (hC : SlC w (.slice ac x.cells.length kc) x.cells) (hG : SlI w (.slice ag x.gray.length kg) x.gray) :
    Calls Tryz.prog 47 #[x.v (.slice ar x.regs.length kr) (.slice ac x.cells.length kc) (.slice ag x.gray.length kg)] w fun e w' => ∃ n : Int, e = .returned (.int .i64 n) ∧ OkIs x n ∧ Ext w w' := by
  have h := hat_box x w hR hC hG
  have hw := (Ext.refl w).alloc (.cells #[iv x.room, iv x.used, iv x.born, .slice ar x.regs.length kr, .slice ac x.cells.length kc, iv x.phase, iv x.hand, iv x.sub, .slice ag x.gray.length kg, iv x.per, iv x.start, iv x.rounds, iv x.forced] 33)
  clear hR hC hG
  go_enter Tryz.func47, Tryz.ntmps47
  go_wp2_with fail
  refine (l1sizes_any x _ _ h).mono ?_
  rintro e w1 ⟨b1, rfl, hr, hq⟩
  have h1 := h.ext hq
  have x1 := hw.trans hq
  clear hw h hq
  cases b1
  · have Y := hide (show OkIs x 1 from Or.inl ⟨fun r => by simpa using hr.2 r, rfl⟩)
    clear hr
    go_wp2_with fail
    go_ret
    exact ⟨1, rfl, unhide Y, x1⟩
  have r1 : R1 x := hr.1 rfl
  have Q1 := hide r1
  clear hr r1
  go_wp2_with fail
  refine (l1cells_any x _ _ h1).mono ?_
  rintro e w2 ⟨b1, rfl, hr, hq⟩
  have h2 := h1.ext hq
  have x2 := x1.trans hq
  clear x1 h1 hq
  cases b1
  · have Y := hide (show OkIs x 2 from Or.inr (Or.inl ⟨unhide Q1, fun r => by simpa using hr.2 r, rfl⟩))
    clear hr
    go_wp2_with fail
    go_ret
    exact ⟨2, rfl, unhide Y, x2⟩
  have r2 : R2 x := hr.1 rfl
  have Q2 := hide r2
  have hn8 : x.cells.length ≤ 8000 := by have := (unhide Q1).room; have := (unhide Q1).cells; omega
  have hp2 : ∀ i, i < x.cells.length → (x.c i).prs.length ≤ 200 := fun i hi => by
    rcases r2.1 i hi with c | c | c
    · have := c.2.1.2.2.2.2.2; omega
    · have := c.2.1.2.2.2.2.2; omega
    · exact c.2.2.2.2.2.2.2
  have HU := hide (fun w' (e : Up w2 w') => quietUp (l1units_any x w.heap.size w' (h2.ext e.ext) hn8 hp2) e)
  have F0 : ∀ w', Up w2 w' → w'.cell? ⟨w.heap.size, 0, none⟩ = some (iv x.room) ∧ w'.cell? ⟨w.heap.size, 1, none⟩ = some (iv x.used) := fun w' e => ⟨e.ext.keep h2.c0, e.ext.keep h2.c1⟩
  have c0 := h2.c0
  have c1 := h2.c1
  have H2 := hide h2
  clear hr r2 h2 hp2
  go_wp2_with fail
  cases u1 : (x.used == (units x.cells : Int))
  · have u1b : (x.used != (units x.cells : Int)) = true := by simpa using u1
    have Y := hide (show OkIs x 3 from Or.inr (Or.inr (Or.inl ⟨unhide Q1, unhide Q2, fun r => by simp [r.1] at u1, rfl⟩)))
    refine wp_region_quiet (C := Up w2) (by kernel_rfl) (by kernel_rfl) (show Ext _ _ from (Ext.refl _).drew) ?_
    go_simp
    iterate 12 (first | go_big_quiet_skip | (go_big_quiet_want; go_big_quiet_op; first | go_big_quiet_on | (apply Exists.intro; refine ⟨fun w' hw' => ?_, ?_⟩; (first | (go_at_call 89; exact (unhide HU w' hw')) | (with_reducible rfl) | (go_simp; first | done | (with_reducible rfl) | (refine ⟨?_, ?_⟩ <;> with_reducible rfl))); go_big_quiet_on)))
    refine wpQuiet_nil ?_
    intro w3 hq3
    have x3 := x2.trans hq3.ext
    clear F0 HU
    go_wp2_with fail
    go_ret
    exact ⟨3, rfl, unhide Y, x3⟩
  · have u1b : (x.used != (units x.cells : Int)) = false := by simpa using u1
    by_cases u2 : x.room < x.used
    · have Y := hide (show OkIs x 3 from Or.inr (Or.inr (Or.inl ⟨unhide Q1, unhide Q2, fun r => by have := r.2; omega, rfl⟩)))
      refine wp_region_quiet (C := Up w2) (by kernel_rfl) (by kernel_rfl) (show Ext _ _ from (Ext.refl _).drew) ?_
      go_simp
      iterate 12 (first | go_big_quiet_skip | (go_big_quiet_want; go_big_quiet_op; first | go_big_quiet_on | (apply Exists.intro; refine ⟨fun w' hw' => ?_, ?_⟩; (first | (go_at_call 89; exact (unhide HU w' hw')) | (with_reducible rfl) | (go_simp; first | done | (with_reducible rfl) | (refine ⟨?_, ?_⟩ <;> with_reducible rfl))); go_big_quiet_on)))
      refine wpQuiet_nil ?_
      intro w3 hq3
      have x3 := x2.trans hq3.ext
      clear F0 HU
      go_wp2_with fail
      go_ret
      exact ⟨3, rfl, unhide Y, x3⟩
    have Q3 := hide (show R3 x from ⟨by simpa using u1, by omega⟩)
    refine wp_region_quiet (C := Up w2) (by kernel_rfl) (by kernel_rfl) (show Ext _ _ from (Ext.refl _).drew) ?_
    go_simp
    iterate 12 (first | go_big_quiet_skip | (go_big_quiet_want; go_big_quiet_op; first | go_big_quiet_on | (apply Exists.intro; refine ⟨fun w' hw' => ?_, ?_⟩; (first | (go_at_call 89; exact (unhide HU w' hw')) | (with_reducible rfl) | (go_simp; first | done | (with_reducible rfl) | (refine ⟨?_, ?_⟩ <;> with_reducible rfl))); go_big_quiet_on)))
    refine wpQuiet_nil ?_
    intro w3 hq3
    have x3 := x2.trans hq3.ext
    have h3 := (unhide H2).ext hq3.ext
    clear F0 HU H2 c0 c1 u1 u1b u2
    go_wp2_with fail
    refine (l1words_any x _ _ h3).mono ?_
    rintro e w4 ⟨b1, rfl, hr, hq⟩
    have h4 := h3.ext hq
    have x4 := x3.trans hq
    clear x3 h3 hq
    cases b1
    · have Y := hide (show OkIs x 4 from Or.inr (Or.inr (Or.inr (Or.inl ⟨unhide Q1, unhide Q2, unhide Q3, fun r => by simpa using hr.2 r, rfl⟩))))
      clear hr
      go_wp2_with fail
      go_ret
      exact ⟨4, rfl, unhide Y, x4⟩
    have Q4 := hide (show R4 x from hr.1 rfl)
    clear hr
    go_wp2_with fail
    refine (l1colors_any x _ _ h4).mono ?_
    rintro e w5 ⟨b1, rfl, hr, hq⟩
    have h5 := h4.ext hq
    have x5 := x4.trans hq
    clear x4 h4 hq
    cases b1
    · have Y := hide (show OkIs x 5 from Or.inr (Or.inr (Or.inr (Or.inr (Or.inl ⟨unhide Q1, unhide Q2, unhide Q3, unhide Q4, fun r => by simpa using hr.2 r, rfl⟩)))))
      clear hr
      go_wp2_with fail
      go_ret
      exact ⟨5, rfl, unhide Y, x5⟩
    have Q5 := hide (show R5 x from hr.1 rfl)
    clear hr
    go_wp2_with fail
    refine (l1hands_any x _ _ h5 (unhide Q1) (unhide Q5)).mono ?_
    rintro e w6 ⟨b1, rfl, hr, hq⟩
    have h6 := h5.ext hq
    have x6 := x5.trans hq
    clear x5 h5 hq
    cases b1
    · have Y := hide (show OkIs x 6 from Or.inr (Or.inr (Or.inr (Or.inr (Or.inr (Or.inl ⟨unhide Q1, unhide Q2, unhide Q3, unhide Q4, unhide Q5, fun r => by simpa using hr.2 r, rfl⟩))))))
      clear hr
      go_wp2_with fail
      go_ret
      exact ⟨6, rfl, unhide Y, x6⟩
    have Q6 := hide (show R6 x from hr.1 rfl)
    clear hr
    go_wp2_with fail
    refine (l1marks_any x _ _ h6 (unhide Q1) (unhide Q4) (unhide Q6)).mono ?_
    rintro e w7 ⟨b1, rfl, hr, hq⟩
    have h7 := h6.ext hq
    have x7 := x6.trans hq
    clear x6 h6 hq
    cases b1
    · have Y := hide (show OkIs x 7 from Or.inr (Or.inr (Or.inr (Or.inr (Or.inr (Or.inr (Or.inl ⟨unhide Q1, unhide Q2, unhide Q3, unhide Q4, unhide Q5, unhide Q6, fun r => by simpa using hr.2 r, rfl⟩)))))))
      clear hr
      go_wp2_with fail
      go_ret
      exact ⟨7, rfl, unhide Y, x7⟩
    have Q7 := hide (show R7 x from hr.1 rfl)
    clear hr
    go_wp2_with fail
    refine (l1closing_any x _ _ h7).mono ?_
    rintro e w8 ⟨b1, rfl, hr, hq⟩
    have x8 := x7.trans hq
    clear x7 h7 hq
    cases b1
    · have Y := hide (show OkIs x 8 from Or.inr (Or.inr (Or.inr (Or.inr (Or.inr (Or.inr (Or.inr (Or.inl ⟨unhide Q1, unhide Q2, unhide Q3, unhide Q4, unhide Q5, unhide Q6, unhide Q7, fun r => by simpa using hr.2 r, rfl⟩))))))))
      clear hr
      go_wp2_with fail
      go_ret
      exact ⟨8, rfl, unhide Y, x8⟩
    · have Y := hide (show OkIs x 0 from Or.inr (Or.inr (Or.inr (Or.inr (Or.inr (Or.inr (Or.inr (Or.inr ⟨unhide Q1, unhide Q2, unhide Q3, unhide Q4, unhide Q5, unhide Q6, unhide Q7, hr.1 rfl, rfl⟩))))))))
      clear hr
      go_wp2_with fail
      go_ret
      exact ⟨0, rfl, unhide Y, x8⟩
end Go.Proofs.YtkabcfhemljnbaaGreat

namespace Go.Proofs.YtkabcfhemljnbaaGreat
open Go.RowKit
attribute [local go_sem ↓] Go.wp_at_zero Go.wp_at_succ

/-- a heap that can be read -/
def HRd (w : World) (y : Hp) (ar : Option Addr) (kr : Nat) (ac : Option Addr) (kc : Nat) (ag : Option Addr) (kg : Nat) : Prop := SlW w (.slice ar y.regs.length kr) y.regs ∧ SlC w (.slice ac y.cells.length kc) y.cells ∧ SlI w (.slice ag y.gray.length kg) y.gray
theorem HRd.ext {w w' : World} {y : Hp} {ar : Option Addr} {kr : Nat} {ac : Option Addr} {kc : Nat} {ag : Option Addr} {kg : Nat} (h : HRd w y ar kr ac kc ag kg) (e : Ext w w') : HRd w' y ar kr ac kc ag kg := ⟨SlW.ext e h.1, SlC.ext e h.2.1, SlI.ext e h.2.2⟩
theorem HRd.zero (w : World) : HRd w Hp0 none 0 none 0 none 0 := ⟨SlOf.nil, SlOf.nil, SlOf.nil⟩
theorem ssh_is {x : Hp} {at_ : Int} (h : ShOk x at_) : sshH x ⟨2, 0, at_⟩ = shadeH x at_.toNat := by
  obtain ⟨_, h0, h1, h2⟩ := h
  have e : ((at_.toNat : Nat) : Int) = at_ := by omega
  have hb : sshB x ⟨2, 0, at_⟩ = shadeB x at_.toNat := by simp [sshB, shadeB, whB, h2]
  unfold sshH shadeH
  rw [hb]
  by_cases q : shadeB x at_.toNat = true
  · rw [if_pos q, if_pos q]; simp [e]
  · rw [if_neg q, if_neg q]
theorem shadeH_len (x : Hp) (i : Nat) : (shadeH x i).regs = x.regs ∧ (shadeH x i).cells.length = x.cells.length ∧ (shadeH x i).gray.length ≤ x.gray.length + 1 := by
  unfold shadeH; split <;> simp
theorem shadeH_prs (x : Hp) (i : Nat) (hi : i < x.cells.length) (q : Nat) : ((shadeH x i).c q).prs = (x.c q).prs := by
  unfold shadeH; split
  · have := Hp.c_set x i (grayC (x.c i)) hi q
    have e : ({ x with cells := x.cells.set i (grayC (x.c i)), gray := x.gray ++ [(i : Int)] } : Hp).c q = ({ x with cells := x.cells.set i (grayC (x.c i)) } : Hp).c q := rfl
    rw [e, this]
    by_cases h : q = i
    · rw [if_pos h, h]; rfl
    · rw [if_neg h]
  · rfl
theorem GAt.low {S : Nat → Prop} {B : Nat} {w w' : World} {g : Nat} {x : Hp} {ar : Option Addr} {kr : Nat} {ac : Option Addr} {kc : Nat} {vg : Value} {br bc : Nat} {pb : Nat → Nat} {pa : Nat → Option Addr} {pk : Nat → Nat} {role : Nat → Nat} (h : GAt B w g x ar kr ac kc vg br bc pb pa pk role) (o : Only S w w') (hS : ∀ q, S q → q < B) : GAt B w' g x ar kr ac kc vg br bc pb pa pk role :=
  ⟨h.bx.only o (fun s => by have := hS _ s; have := h.lo; omega), nf1_block h.nf (o.block g h.nf.1 (fun s => by have := hS _ s; have := h.lo; omega)) o.size, h.lo, h.ha, h.hc, h.rw.only o (fun hl s => by have := hS _ s; have := (h.rw.nr hl).2; omega) (fun hl s => by have := hS _ s; have := (h.rw.nc hl).2; omega) (fun q hq hl s => by have := hS _ s; have := (h.rw.pl q hq hl).2.2.2; omega), h.gr.block (fun q hq => o.block q (h.gr.lt q hq).2 (fun s => by have := hS _ s; have := (h.gr.lt q hq).1; omega)), h.sp, h.kl⟩
theorem GAt.rd {B : Nat} {w : World} {g : Nat} {x : Hp} {ar : Option Addr} {kr : Nat} {ac : Option Addr} {kc : Nat} {ag : Option Addr} {kg : Nat} {br bc : Nat} {pb : Nat → Nat} {pa : Nat → Option Addr} {pk : Nat → Nat} {role : Nat → Nat} (h : GAt B w g x ar kr ac kc (.slice ag x.gray.length kg) br bc pb pa pk role) (n1 : x.regs.length ≤ 1048576) (n2 : x.cells.length ≤ 1048576) (n3 : ∀ q, q < x.cells.length → (x.c q).prs.length ≤ 200) (n4 : x.gray.length ≤ 1048576) : HRd w x ar kr ac kc ag kg := by
  refine ⟨h.rw.slW kr h.ha n1, h.rw.slC kc h.hc n2 n3, ⟨ag, kg, rfl, by omega, fun i hi => ?_⟩⟩
  obtain ⟨gb, go, e, c, _⟩ := h.gr.at i hi
  exact ⟨gb, go, e, by rw [Nat.mul_one]; exact c⟩

end Go.Proofs.YtkabcfhemljnbaaGreat

namespace Go.Proofs.YtkabcfhemljnbaaGreat
open Go.RowKit

theorem HRow.grow {B C U V : Nat} {w : World} {x : Hp} {br kr bc kc bg kg : Nat} {pb : Nat → Nat} {pa : Nat → Option Addr} {pk : Nat → Nat} (h : HRow B U w x br kr bc kc bg kg pb pa pk) (hU : U ≤ V) (hC : C ≤ B) : HRow C V w x br kr bc kc bg kg pb pa pk :=
  ⟨h.r, h.s, h.p, h.g, h.p7, fun q hq hl => let ⟨a, b, c, d, e⟩ := h.pl q hq hl; ⟨a, b, c, Nat.le_trans hC d, Nat.lt_of_lt_of_le e hU⟩, h.nr, h.nc, h.ng, h.d, h.dp, ⟨⟨Nat.le_trans hC h.b.1.1, Nat.lt_of_lt_of_le h.b.1.2 hU⟩, ⟨Nat.le_trans hC h.b.2.1.1, Nat.lt_of_lt_of_le h.b.2.1.2 hU⟩, ⟨Nat.le_trans hC h.b.2.2.1, Nat.lt_of_lt_of_le h.b.2.2.2 hU⟩⟩, h.l⟩
/-- a heap as an answer: the zero one, or rows of its own in blocks from B on below U -/
def HA (B U : Nat) (w : World) (y : Hp) (ar : Option Addr) (kr : Nat) (ac : Option Addr) (kc : Nat) (ag : Option Addr) (kg : Nat) : Prop := (y = Hp0 ∧ ar = none ∧ kr = 0 ∧ ac = none ∧ kc = 0 ∧ ag = none ∧ kg = 0) ∨ ∃ br bc bg pb pa pk, ar = some ⟨br, 0, none⟩ ∧ ac = some ⟨bc, 0, none⟩ ∧ ag = some ⟨bg, 0, none⟩ ∧ HRow B U w y br kr bc kc bg kg pb pa pk
theorem HA.zero (B U : Nat) (w : World) : HA B U w Hp0 none 0 none 0 none 0 := .inl ⟨rfl, rfl, rfl, rfl, rfl, rfl, rfl⟩
theorem OkIs.r16 {x : Hp} (h : OkIs x 0) : 0 < x.regs.length ∧ x.regs.length ≤ 100 := by have := h.all.1.regs; omega
end Go.Proofs.YtkabcfhemljnbaaGreat

namespace Go.Proofs.YtkabcfhemljnbaaGreat
open Go.RowKit
attribute [local go_sem ↓] Go.wp_at_zero Go.wp_at_succ

/-! A heap as an answer: read, marked, held. -/
theorem HA.rd {B U : Nat} {w : World} {y : Hp} {ar : Option Addr} {kr : Nat} {ac : Option Addr} {kc : Nat} {ag : Option Addr} {kg : Nat} (h : HA B U w y ar kr ac kc ag kg) : HRd w y ar kr ac kc ag kg := by
  rcases h with ⟨rfl, rfl, rfl, rfl, rfl, rfl, rfl⟩ | ⟨br, bc, bg, pb, pa, pk, rfl, rfl, rfl, h⟩
  · exact HRd.zero w
  · exact ⟨h.r, h.cs, h.g⟩
theorem HA.ext {B U : Nat} {w w' : World} {y : Hp} {ar : Option Addr} {kr : Nat} {ac : Option Addr} {kc : Nat} {ag : Option Addr} {kg : Nat} (h : HA B U w y ar kr ac kc ag kg) (e : Ext w w') : HA B U w' y ar kr ac kc ag kg := by
  rcases h with h | ⟨br, bc, bg, pb, pa, pk, h1, h2, h3, h⟩
  · exact .inl h
  · exact .inr ⟨br, bc, bg, pb, pa, pk, h1, h2, h3, h.ext e⟩
theorem HA.only {S : Nat → Prop} {B U : Nat} {w w' : World} {y : Hp} {ar : Option Addr} {kr : Nat} {ac : Option Addr} {kc : Nat} {ag : Option Addr} {kg : Nat} (h : HA B U w y ar kr ac kc ag kg) (e : Only S w w') (hs : ∀ q, B ≤ q → q < U → ¬ S q) : HA B U w' y ar kr ac kc ag kg := by
  rcases h with h | ⟨br, bc, bg, pb, pa, pk, h1, h2, h3, h⟩
  · exact .inl h
  · exact .inr ⟨br, bc, bg, pb, pa, pk, h1, h2, h3, h.only e hs⟩
/-- it is marked: m is the number behind the marks -/
def HAm (w : World) (y : Hp) (ar : Option Addr) (kr : Nat) (ac : Option Addr) (kc : Nat) (ag : Option Addr) (kg : Nat) (m : Int) : Prop := (y = Hp0 ∧ ar = none ∧ kr = 0 ∧ ac = none ∧ kc = 0 ∧ ag = none ∧ kg = 0 ∧ m = 1) ∨ ∃ br bc bg pb pa pk, ar = some ⟨br, 0, none⟩ ∧ ac = some ⟨bc, 0, none⟩ ∧ ag = some ⟨bg, 0, none⟩ ∧ (y.regs.length ≤ 100 ∧ y.cells.length ≤ 8000 ∧ y.gray.length ≤ 8000 ∧ ∀ q, q < y.cells.length → (y.c q).prs.length ≤ 200) ∧ HMd w br y.regs.length bc y.cells.length bg y.gray.length (fun q => (y.c q).prs.length) pb pa pk ∧ m = Kc (fun q => (y.c q).prs.length) (1 + 3 * y.regs.length) y.cells.length + y.gray.length
theorem HAm.ext {w w' : World} {y : Hp} {ar : Option Addr} {kr : Nat} {ac : Option Addr} {kc : Nat} {ag : Option Addr} {kg : Nat} {m : Int} (h : HAm w y ar kr ac kc ag kg m) (e : Ext w w') : HAm w' y ar kr ac kc ag kg m := by
  rcases h with h | ⟨br, bc, bg, pb, pa, pk, h1, h2, h3, h4, h, h5⟩
  · exact .inl h
  · exact .inr ⟨br, bc, bg, pb, pa, pk, h1, h2, h3, h4, h.ext e, h5⟩
theorem HAm.nn {w : World} {y : Hp} {ar : Option Addr} {kr : Nat} {ac : Option Addr} {kc : Nat} {ag : Option Addr} {kg : Nat} {m : Int} (h : HAm w y ar kr ac kc ag kg m) : 0 ≤ m := by
  rcases h with h | ⟨br, bc, bg, pb, pa, pk, h1, h2, h3, h4, h, h5⟩
  · have := h.2.2.2.2.2.2.2; omega
  · have := (Kc_bd (len := fun q => (y.c q).prs.length) (k0 := 1 + 3 * y.regs.length) (by omega) y.cells.length (fun p hp => h4.2.2.2 p hp)).1
    omega
set_option maxRecDepth 100000 in
set_option maxHeartbeats 2000000 in
theorem markHeap_zero (w : World) :
    Calls Tryz.prog 18 #[Hp0.v (.slice none 0 0) (.slice none 0 0) (.slice none 0 0), .int .i64 1] w fun e w' => e = .returned (.int .i64 1) ∧ Ext w w' := by
  have x1 := (Ext.refl w).alloc (.cells #[iv 0, iv 0, iv 0, .slice none 0 0, .slice none 0 0, iv 0, iv 0, iv 0, .slice none 0 0, iv 0, iv 0, iv 0, iv 0] 33)
  simp only [Hp0]
  go_enter Tryz.func18, Tryz.ntmps18
  go_wp2_with fail
  refine (markWordS_z0 none 0 1 _).mono ?_
  rintro e w1 ⟨rfl, rfl⟩
  go_wp2_with fail
  refine (markCellS_z0 none 0 1 _).mono ?_
  rintro e w1 ⟨rfl, rfl⟩
  go_wp2_with fail
  refine (markIntS_z0 none 0 1 _).mono ?_
  rintro e w1 ⟨rfl, rfl⟩
  go_wp2_with fail
  go_ret
  exact ⟨rfl, x1⟩
set_option maxRecDepth 100000 in
set_option maxHeartbeats 2000000 in
theorem heldHeap_zero (w : World) :
    Calls Tryz.prog 34 #[Hp0.v (.slice none 0 0) (.slice none 0 0) (.slice none 0 0), .int .i64 1] w fun e w' => e = .returned (.int .i64 1) ∧ Ext w w' := by
  have x1 := (Ext.refl w).alloc (.cells #[iv 0, iv 0, iv 0, .slice none 0 0, .slice none 0 0, iv 0, iv 0, iv 0, .slice none 0 0, iv 0, iv 0, iv 0, iv 0] 33)
  simp only [Hp0]
  go_enter Tryz.func34, Tryz.ntmps34
  go_wp2_with fail
  refine (heldWordS_z0 none 0 1 _).mono ?_
  rintro e w1 ⟨rfl, rfl⟩
  go_wp2_with fail
  refine (heldCellS_z0 none 0 1 _).mono ?_
  rintro e w1 ⟨rfl, rfl⟩
  go_wp2_with fail
  refine (heldIntS_z0 none 0 1 _).mono ?_
  rintro e w1 ⟨rfl, rfl⟩
  go_wp2_with fail
  go_ret
  exact ⟨rfl, x1⟩
theorem markHA {B U : Nat} {w : World} {y : Hp} {ar : Option Addr} {kr : Nat} {ac : Option Addr} {kc : Nat} {ag : Option Addr} {kg : Nat} (h : HA B U w y ar kr ac kc ag kg) (hU : U ≤ w.heap.size) :
    Calls Tryz.prog 18 #[y.v (.slice ar y.regs.length kr) (.slice ac y.cells.length kc) (.slice ag y.gray.length kg), .int .i64 1] w fun e w' => ∃ m, e = .returned (.int .i64 m) ∧ HAm w' y ar kr ac kc ag kg m ∧ ∃ w1, Ext w w1 ∧ Only (fun q => B ≤ q ∧ q < U) w1 w' := by
  rcases h with ⟨rfl, rfl, rfl, rfl, rfl, rfl, rfl⟩ | ⟨br, bc, bg, pb, pa, pk, rfl, rfl, rfl, h⟩
  · exact (markHeap_zero w).mono fun e w' ⟨he, hx⟩ => ⟨1, he, .inl ⟨rfl, rfl, rfl, rfl, rfl, rfl, rfl, rfl⟩, w', hx, Only.refl _ _⟩
  · exact (markHeap_any y y B U w h hU).mono fun e w' ⟨he, hm, hx⟩ => ⟨_, he, .inr ⟨br, bc, bg, pb, pa, pk, rfl, rfl, rfl, h.l, hm, rfl⟩, hx⟩
theorem heldHA {w : World} {y : Hp} {ar : Option Addr} {kr : Nat} {ac : Option Addr} {kc : Nat} {ag : Option Addr} {kg : Nat} {m : Int} (h : HAm w y ar kr ac kc ag kg m) :
    Calls Tryz.prog 34 #[y.v (.slice ar y.regs.length kr) (.slice ac y.cells.length kc) (.slice ag y.gray.length kg), .int .i64 1] w fun e w' => e = .returned (.int .i64 m) ∧ Ext w w' := by
  rcases h with ⟨rfl, rfl, rfl, rfl, rfl, rfl, rfl, rfl⟩ | ⟨br, bc, bg, pb, pa, pk, rfl, rfl, rfl, l, h, rfl⟩
  · exact heldHeap_zero w
  · exact heldHeap_any y w br y.regs.length kr bc y.cells.length kc bg y.gray.length kg (fun q => (y.c q).prs.length) pb pa pk l.1 l.2.1 l.2.2.1 l.2.2.2 h
end Go.Proofs.YtkabcfhemljnbaaGreat

namespace Go.Proofs.YtkabcfhemljnbaaGreat
open Go.RowKit
attribute [local go_sem ↓] Go.wp_at_zero Go.wp_at_succ

/-! The comparers of the laws, at two equal values. -/
theorem eqWord_same (x : Wd) (w : World) : Calls Tryz.prog 107 #[x.v, x.v] w fun e w' => e = .returned (.bool true) ∧ Ext w w' := by
  go_enter Tryz.func107, Tryz.ntmps107
  go_wp2
  go_ret
  exact ⟨by simp, ((Ext.refl w).alloc _).alloc _⟩

theorem eqWordS_same (xs : List Wd) (v v' : Value) (w : World) (h : SlW w v xs) (h' : SlW w v' xs) :
    Calls Tryz.prog 55 #[v, v'] w fun e w' => e = .returned (.bool true) ∧ Ext w w' := by
  obtain ⟨ad, cap, rfl, hl, hx⟩ := h
  obtain ⟨ad', cap', rfl, _, hx'⟩ := h'
  go_enter Tryz.func55, Tryz.ntmps55
  go_wp2
  go_loopw [5] (fun i wr => ∃ k : Nat, k ≤ xs.length ∧ i = .int .i64 k ∧ Ext w wr) (fun i _ => xs.length - (intOf i).toNat)
  case atStart => exact ⟨0, Nat.zero_le _, rfl, Ext.refl _⟩
  case round =>
    obtain ⟨k, hk, rfl, hbl⟩ := hrel
    by_cases hlt : k < xs.length
    · obtain ⟨b, o, rfl, p1, p2, p3⟩ := hx k hlt
      obtain ⟨b', o', rfl, q1, q2, q3⟩ := hx' k hlt
      have e1 := hbl.keep p1
      have e2 := hbl.keep p2
      have e3 := hbl.keep p3
      have f1 := hbl.keep q1
      have f2 := hbl.keep q2
      have f3 := hbl.keep q3
      have hbr : b < wr.heap.size := cell_lt e1
      have hbr' : b' < wr.heap.size := cell_lt f1
      clear p1 p2 p3 q1 q2 q3
      have hk0 : (0:Int) ≤ (k:Int) := by omega
      have hk1 : (k:Int) < (xs.length:Int) := by omega
      go_wp2
      go_region_held3 (fun w' => w'.cell? ⟨b, o + k * 3, none⟩ = some (iv xs[k].k) ∧ w'.cell? ⟨b, o + k * 3 + 1, none⟩ = some (iv xs[k].n) ∧ w'.cell? ⟨b, o + k * 3 + 2, none⟩ = some (iv xs[k].a) ∧ w'.cell? ⟨b', o' + k * 3, none⟩ = some (iv xs[k].k) ∧ w'.cell? ⟨b', o' + k * 3 + 1, none⟩ = some (iv xs[k].n) ∧ w'.cell? ⟨b', o' + k * 3 + 2, none⟩ = some (iv xs[k].a)) (first | (simp [*]; done) | go_keep)
        (first | (go_at_call 107; refine (eqWord_same xs[k] _).mono ?_; rintro e w1 ⟨rfl, hq1⟩; have hc1 := (bcell hq1).1; simp only [World.size_drew] at hc1))
      go_wp2
      go_roundw
      case rel => exact ⟨k + 1, by omega, by go_num, hbl.trans (Ext.trans (Ext.drew (Ext.refl _)) hq1)⟩
      case measure => simp [intOf]; omega
    · go_wp2
      go_ret
      exact ⟨rfl, hbl⟩

theorem eqPair_same (x : Pr) (w : World) : Calls Tryz.prog 191 #[x.v, x.v] w fun e w' => e = .returned (.bool true) ∧ Ext w w' := by
  go_enter Tryz.func191, Tryz.ntmps191
  go_wp2_with fail
  refine (eqWord_same x.key _).mono ?_
  rintro e w1 ⟨rfl, hq1⟩
  have hc1 := (bcell hq1).1
  go_wp2_with fail
  refine (eqWord_same x.val _).mono ?_
  rintro e w2 ⟨rfl, hq2⟩
  go_wp2_with fail
  go_ret
  exact ⟨rfl, Ext.trans (Ext.trans (((Ext.refl w).alloc _).alloc _) hq1) hq2⟩

set_option maxHeartbeats 1000000 in
theorem eqPairS_same (xs : List Pr) (v v' : Value) (w : World) (h : SlP w v xs) (h' : SlP w v' xs) :
    Calls Tryz.prog 156 #[v, v'] w fun e w' => e = .returned (.bool true) ∧ Ext w w' := by
  obtain ⟨ad, cap, rfl, hl, hx⟩ := h
  obtain ⟨ad', cap', rfl, _, hx'⟩ := h'
  go_enter Tryz.func156, Tryz.ntmps156
  go_wp2
  go_loopw [5] (fun i wr => ∃ k : Nat, k ≤ xs.length ∧ i = .int .i64 k ∧ Ext w wr) (fun i _ => xs.length - (intOf i).toNat)
  case atStart => exact ⟨0, Nat.zero_le _, rfl, Ext.refl _⟩
  case round =>
    obtain ⟨k, hk, rfl, hbl⟩ := hrel
    by_cases hlt : k < xs.length
    · obtain ⟨b, o, rfl, p0, p1, p2, p3, p4, p5⟩ := hx k hlt
      obtain ⟨b', o', rfl, q0, q1, q2, q3, q4, q5⟩ := hx' k hlt
      have e0 := hbl.keep p0
      have e1 := hbl.keep p1
      have e2 := hbl.keep p2
      have e3 := hbl.keep p3
      have e4 := hbl.keep p4
      have e5 := hbl.keep p5
      have f0 := hbl.keep q0
      have f1 := hbl.keep q1
      have f2 := hbl.keep q2
      have f3 := hbl.keep q3
      have f4 := hbl.keep q4
      have f5 := hbl.keep q5
      have hbr : b < wr.heap.size := cell_lt e0
      have hbr' : b' < wr.heap.size := cell_lt f0
      clear p0 p1 p2 p3 p4 p5 q0 q1 q2 q3 q4 q5
      have hk0 : (0:Int) ≤ (k:Int) := by omega
      have hk1 : (k:Int) < (xs.length:Int) := by omega
      go_wp2
      go_region_held3 (fun w' => w'.cell? ⟨b, o + k * 6, none⟩ = some (iv xs[k].key.k) ∧ w'.cell? ⟨b, o + k * 6 + 1, none⟩ = some (iv xs[k].key.n) ∧ w'.cell? ⟨b, o + k * 6 + 2, none⟩ = some (iv xs[k].key.a) ∧ w'.cell? ⟨b, o + k * 6 + 3, none⟩ = some (iv xs[k].val.k) ∧ w'.cell? ⟨b, o + k * 6 + 4, none⟩ = some (iv xs[k].val.n) ∧ w'.cell? ⟨b, o + k * 6 + 5, none⟩ = some (iv xs[k].val.a) ∧ w'.cell? ⟨b', o' + k * 6, none⟩ = some (iv xs[k].key.k) ∧ w'.cell? ⟨b', o' + k * 6 + 1, none⟩ = some (iv xs[k].key.n) ∧ w'.cell? ⟨b', o' + k * 6 + 2, none⟩ = some (iv xs[k].key.a) ∧ w'.cell? ⟨b', o' + k * 6 + 3, none⟩ = some (iv xs[k].val.k) ∧ w'.cell? ⟨b', o' + k * 6 + 4, none⟩ = some (iv xs[k].val.n) ∧ w'.cell? ⟨b', o' + k * 6 + 5, none⟩ = some (iv xs[k].val.a)) (first | (simp [*]; done) | go_keep)
        (first | (go_at_call 191; refine (eqPair_same xs[k] _).mono ?_; rintro e w1 ⟨rfl, hq1⟩; have hc1 := (bcell hq1).1; simp only [World.size_drew] at hc1))
      go_wp2
      go_roundw
      case rel => exact ⟨k + 1, by omega, by go_num, hbl.trans (Ext.trans (Ext.drew (Ext.refl _)) hq1)⟩
      case measure => simp [intOf]; omega
    · go_wp2
      go_ret
      exact ⟨rfl, hbl⟩

theorem eqCell_same (x : Cl) (vp vp2 : Value) (w : World) (h : SlP w vp x.prs) (h' : SlP w vp2 x.prs) : Calls Tryz.prog 108 #[x.v vp, x.v vp2] w fun e w' => e = .returned (.bool true) ∧ Ext w w' := by
  go_enter Tryz.func108, Tryz.ntmps108
  go_wp2_with fail
  refine (eqPairS_same x.prs _ _ _ (SlP.ext (((Ext.refl w).alloc _).alloc _) h) (SlP.ext (((Ext.refl w).alloc _).alloc _) h')).mono ?_
  rintro e w1 ⟨rfl, hq1⟩
  go_wp2_with fail
  go_ret
  exact ⟨rfl, Ext.trans (((Ext.refl w).alloc _).alloc _) hq1⟩

set_option maxHeartbeats 1000000 in
theorem eqCellS_same (xs : List Cl) (v v' : Value) (w : World) (h : SlC w v xs) (h' : SlC w v' xs) :
    Calls Tryz.prog 56 #[v, v'] w fun e w' => e = .returned (.bool true) ∧ Ext w w' := by
  obtain ⟨ad, cap, rfl, hl, hx⟩ := h
  obtain ⟨ad', cap', rfl, _, hx'⟩ := h'
  go_enter Tryz.func56, Tryz.ntmps56
  go_wp2
  go_loopw [5] (fun i wr => ∃ k : Nat, k ≤ xs.length ∧ i = .int .i64 k ∧ Ext w wr) (fun i _ => xs.length - (intOf i).toNat)
  case atStart => exact ⟨0, Nat.zero_le _, rfl, Ext.refl _⟩
  case round =>
    obtain ⟨k, hk, rfl, hbl⟩ := hrel
    by_cases hlt : k < xs.length
    · obtain ⟨b, o, rfl, vp, p0, p1, p2, p3, p4, p5, p6, p7, hP⟩ := hx k hlt
      obtain ⟨b', o', rfl, vp2, q0, q1, q2, q3, q4, q5, q6, q7, hP2⟩ := hx' k hlt
      have e0 := hbl.keep p0
      have e1 := hbl.keep p1
      have e2 := hbl.keep p2
      have e3 := hbl.keep p3
      have e4 := hbl.keep p4
      have e5 := hbl.keep p5
      have e6 := hbl.keep p6
      have e7 := hbl.keep p7
      have f0 := hbl.keep q0
      have f1 := hbl.keep q1
      have f2 := hbl.keep q2
      have f3 := hbl.keep q3
      have f4 := hbl.keep q4
      have f5 := hbl.keep q5
      have f6 := hbl.keep q6
      have f7 := hbl.keep q7
      have hP := SlP.ext hbl hP
      have hP2 := SlP.ext hbl hP2
      have hbr : b < wr.heap.size := cell_lt e0
      have hbr' : b' < wr.heap.size := cell_lt f0
      clear p0 p1 p2 p3 p4 p5 p6 p7 q0 q1 q2 q3 q4 q5 q6 q7
      have hk0 : (0:Int) ≤ (k:Int) := by omega
      have hk1 : (k:Int) < (xs.length:Int) := by omega
      go_wp2
      go_region_held3 (fun w' => w'.cell? ⟨b, o + k * 8, none⟩ = some (iv xs[k].st) ∧ w'.cell? ⟨b, o + k * 8 + 1, none⟩ = some (iv xs[k].kind) ∧ w'.cell? ⟨b, o + k * 8 + 2, none⟩ = some (iv xs[k].weak) ∧ w'.cell? ⟨b, o + k * 8 + 3, none⟩ = some (iv xs[k].last) ∧ w'.cell? ⟨b, o + k * 8 + 4, none⟩ = some (iv xs[k].born) ∧ w'.cell? ⟨b, o + k * 8 + 5, none⟩ = some (iv xs[k].color) ∧ w'.cell? ⟨b, o + k * 8 + 6, none⟩ = some (iv xs[k].to) ∧ w'.cell? ⟨b, o + k * 8 + 7, none⟩ = some (vp) ∧ w'.cell? ⟨b', o' + k * 8, none⟩ = some (iv xs[k].st) ∧ w'.cell? ⟨b', o' + k * 8 + 1, none⟩ = some (iv xs[k].kind) ∧ w'.cell? ⟨b', o' + k * 8 + 2, none⟩ = some (iv xs[k].weak) ∧ w'.cell? ⟨b', o' + k * 8 + 3, none⟩ = some (iv xs[k].last) ∧ w'.cell? ⟨b', o' + k * 8 + 4, none⟩ = some (iv xs[k].born) ∧ w'.cell? ⟨b', o' + k * 8 + 5, none⟩ = some (iv xs[k].color) ∧ w'.cell? ⟨b', o' + k * 8 + 6, none⟩ = some (iv xs[k].to) ∧ w'.cell? ⟨b', o' + k * 8 + 7, none⟩ = some (vp2)) (first | (simp [*]; done) | go_keep)
        (first | (go_at_call 108; refine (eqCell_same xs[k] vp vp2 _ (by exact SlP.ext (Ext.drew (Ext.refl _)) hP) (by exact SlP.ext (Ext.drew (Ext.refl _)) hP2)).mono ?_; rintro e w1 ⟨rfl, hq1⟩; have hc1 := (bcell hq1).1; simp only [World.size_drew] at hc1))
      go_wp2
      go_roundw
      case rel => exact ⟨k + 1, by omega, by go_num, hbl.trans (Ext.trans (Ext.drew (Ext.refl _)) hq1)⟩
      case measure => simp [intOf]; omega
    · go_wp2
      go_ret
      exact ⟨rfl, hbl⟩

theorem eqIntS_same (xs : List Int) (v v' : Value) (w : World) (h : SlI w v xs) (h' : SlI w v' xs) :
    Calls Tryz.prog 57 #[v, v'] w fun e w' => e = .returned (.bool true) ∧ Ext w w' := by
  obtain ⟨ad, cap, rfl, hl, hx⟩ := h
  obtain ⟨ad', cap', rfl, _, hx'⟩ := h'
  go_enter Tryz.func57, Tryz.ntmps57
  go_wp2
  go_loopw [5] (fun i wr => ∃ k : Nat, k ≤ xs.length ∧ i = .int .i64 k ∧ Ext w wr) (fun i _ => xs.length - (intOf i).toNat)
  case atStart => exact ⟨0, Nat.zero_le _, rfl, Ext.refl _⟩
  case round =>
    obtain ⟨k, hk, rfl, hbl⟩ := hrel
    by_cases hlt : k < xs.length
    · obtain ⟨b, o, rfl, p0⟩ := hx k hlt
      obtain ⟨b', o', rfl, q0⟩ := hx' k hlt
      have e0 := hbl.keep p0
      have f0 := hbl.keep q0
      simp only [Nat.mul_one] at e0 f0
      clear p0 q0
      have hk0 : (0:Int) ≤ (k:Int) := by omega
      have hk1 : (k:Int) < (xs.length:Int) := by omega
      go_wp2
      go_region_held3 (fun w' => w'.cell? ⟨b, o + k, none⟩ = some (iv xs[k]) ∧ w'.cell? ⟨b', o' + k, none⟩ = some (iv xs[k])) (go_keep) (fail)
      go_wp2
      go_roundw
      case rel => exact ⟨k + 1, by omega, by go_num, Ext.drew hbl⟩
      case measure => simp [intOf]; omega
    · go_wp2
      go_ret
      exact ⟨rfl, hbl⟩

set_option maxRecDepth 100000 in
set_option maxHeartbeats 1000000 in
theorem eqHeap_same (x : Hp) (vr vc vg vr2 vc2 vg2 : Value) (w : World) (h1 : SlW w vr x.regs) (h2 : SlW w vr2 x.regs) (h3 : SlC w vc x.cells) (h4 : SlC w vc2 x.cells) (h5 : SlI w vg x.gray) (h6 : SlI w vg2 x.gray) :
    Calls Tryz.prog 17 #[x.v vr vc vg, x.v vr2 vc2 vg2] w fun e w' => e = .returned (.bool true) ∧ Ext w w' := by
  go_enter Tryz.func17, Tryz.ntmps17
  go_wp2_with fail
  refine (eqWordS_same x.regs _ _ _ (SlW.ext (((Ext.refl w).alloc _).alloc _) h1) (SlW.ext (((Ext.refl w).alloc _).alloc _) h2)).mono ?_
  rintro e w1 ⟨rfl, hq1⟩
  have hc1 := (bcell hq1).1
  have x1 : Ext w w1 := Ext.trans (((Ext.refl w).alloc _).alloc _) hq1
  go_wp2_with fail
  refine (eqCellS_same x.cells _ _ _ (SlC.ext x1 h3) (SlC.ext x1 h4)).mono ?_
  rintro e w2 ⟨rfl, hq2⟩
  have hc2 := (bcell (Ext.trans hq1 hq2)).1
  have x2 := Ext.trans x1 hq2
  clear hc1
  go_wp2_with fail
  refine (eqIntS_same x.gray _ _ _ (SlI.ext x2 h5) (SlI.ext x2 h6)).mono ?_
  rintro e w3 ⟨rfl, hq3⟩
  have hc3 := (bcell (Ext.trans (Ext.trans hq1 hq2) hq3)).1
  have x3 := Ext.trans x2 hq3
  clear hc2
  go_wp2_with fail
  go_ret
  exact ⟨rfl, x3⟩

end Go.Proofs.YtkabcfhemljnbaaGreat
