import Derived.Test.YtbcmjcomdjdjaaaGreatSpecA2
import Derived.Test.YtbcmjcomdjdjaaaGreatSpecK
import Derived.Test.YtbcmjcomdjdjaaaGreatSpecD
import Derived.Test.YtbcmjcomdjdjaaaGreatSpecF
import Derived.Test.YtbcmjcomdjdjaaaGreatSpecH
import Derived.Test.YtbcmjcomdjdjaaaGreatSpecE
import Derived.Test.YtbcmjcomdjdjaaaGreatSpecI
namespace Go.Proofs.YtbcmjcomdjdjaaaGreat
open Go.RowKit
attribute [local go_sem ↓] Go.wp_at_zero Go.wp_at_succ

theorem hat_box (x : Hp) (w : World) {ar : Option Addr} {kr : Nat} {ac : Option Addr} {kc : Nat} {ag : Option Addr} {kg : Nat} (hR : SlW w (.slice ar x.regs.length kr) x.regs) (hC : SlC w (.slice ac x.cells.length kc) x.cells) (hG : SlI w (.slice ag x.gray.length kg) x.gray) :
    HAt (w.alloc (.cells #[iv x.room, iv x.used, iv x.born, .slice ar x.regs.length kr, .slice ac x.cells.length kc, iv x.phase, iv x.hand, iv x.sub, .slice ag x.gray.length kg, iv x.per, iv x.start, iv x.rounds, iv x.forced] 32)) w.heap.size x ar kr ac kc ag kg := by
  have e := (Ext.refl w).alloc (.cells #[iv x.room, iv x.used, iv x.born, .slice ar x.regs.length kr, .slice ac x.cells.length kc, iv x.phase, iv x.hand, iv x.sub, .slice ag x.gray.length kg, iv x.per, iv x.start, iv x.rounds, iv x.forced] 32)
  obtain ⟨a1, k1, v1, l1, R⟩ := hR
  obtain ⟨a2, k2, v2, l2, C⟩ := hC
  obtain ⟨a3, k3, v3, l3, G⟩ := hG
  simp only [Value.slice.injEq] at v1 v2 v3
  obtain ⟨rfl, _, rfl⟩ := v1
  obtain ⟨rfl, _, rfl⟩ := v2
  obtain ⟨rfl, _, rfl⟩ := v3
  refine ⟨?_, ?_, ?_, ?_, ?_, ?_, ?_, ?_, ?_, ?_, ?_, ?_, ?_, l1, l2, l3, ?_, ?_, ?_⟩
  iterate 13 (simp [go_sem])
  · exact fun i hi => let ⟨b', o, a, p⟩ := R i hi; ⟨b', o, a, p.ext e⟩
  · intro i hi
    obtain ⟨b', o, a, p⟩ := C i hi
    rw [Hp.c_eq] at p
    exact ⟨b', o, a, p.ext e⟩
  · exact fun i hi => let ⟨b', o, a, p⟩ := G i hi; ⟨b', o, a, p.ext e⟩

set_option maxRecDepth 100000 in
set_option maxHeartbeats 2000000 in
theorem specHeapOk_any (x : Hp) (w : World) {ar : Option Addr} {kr : Nat} {ac : Option Addr} {kc : Nat} {ag : Option Addr} {kg : Nat} (hR : SlW w (.slice ar x.regs.length kr) x.regs) (hC : SlC w (.slice ac x.cells.length kc) x.cells) (hG : SlI w (.slice ag x.gray.length kg) x.gray) :
    Calls Tryz.prog 19 #[x.v (.slice ar x.regs.length kr) (.slice ac x.cells.length kc) (.slice ag x.gray.length kg)] w fun e w' => ∃ n : Int, e = .returned (.int .i64 n) ∧ OkIs x n ∧ Ext w w' := by
  have h := hat_box x w hR hC hG
  have hw := (Ext.refl w).alloc (.cells #[iv x.room, iv x.used, iv x.born, .slice ar x.regs.length kr, .slice ac x.cells.length kc, iv x.phase, iv x.hand, iv x.sub, .slice ag x.gray.length kg, iv x.per, iv x.start, iv x.rounds, iv x.forced] 32)
  clear hR hC hG
  go_enter Tryz.func19, Tryz.ntmps19
  go_wp2_with fail
  refine (l1sizes_any x _ _ h).mono ?_
  rintro e w1 ⟨b1, rfl, hr, hq⟩
  have h1 := h.ext hq
  have x1 := hw.trans hq
  clear hw h hq
  cases b1
  · have Y := hide (show OkIs x 1 from Or.inl ⟨fun r => by simpa using hr.2 r, rfl⟩)
    clear hr
    go_wp2_with fail
    go_ret
    exact ⟨1, rfl, unhide Y, x1⟩
  have r1 : R1 x := hr.1 rfl
  have Q1 := hide r1
  clear hr r1
  go_wp2_with fail
  refine (l1cells_any x _ _ h1).mono ?_
  rintro e w2 ⟨b1, rfl, hr, hq⟩
  have h2 := h1.ext hq
  have x2 := x1.trans hq
  clear x1 h1 hq
  cases b1
  · have Y := hide (show OkIs x 2 from Or.inr (Or.inl ⟨unhide Q1, fun r => by simpa using hr.2 r, rfl⟩))
    clear hr
    go_wp2_with fail
    go_ret
    exact ⟨2, rfl, unhide Y, x2⟩
  have r2 : R2 x := hr.1 rfl
  have Q2 := hide r2
  have hn8 : x.cells.length ≤ 8000 := by have := (unhide Q1).room; have := (unhide Q1).cells; omega
  have hp2 : ∀ i, i < x.cells.length → (x.c i).prs.length ≤ 200 := fun i hi => by
    rcases r2.1 i hi with c | c | c
    · have := c.2.1.2.2.2.2.2; omega
    · have := c.2.1.2.2.2.2.2; omega
    · exact c.2.2.2.2.2.2.2
  have HU := hide (fun w' (e : Up w2 w') => quietUp (l1units_any x w.heap.size w' (h2.ext e.ext) hn8 hp2) e)
  have F0 : ∀ w', Up w2 w' → w'.cell? ⟨w.heap.size, 0, none⟩ = some (iv x.room) ∧ w'.cell? ⟨w.heap.size, 1, none⟩ = some (iv x.used) := fun w' e => ⟨e.ext.keep h2.c0, e.ext.keep h2.c1⟩
  have c0 := h2.c0
  have c1 := h2.c1
  have H2 := hide h2
  clear hr r2 h2 hp2
  go_wp2_with fail
  cases u1 : (x.used == (units x.cells : Int))
  · have u1b : (x.used != (units x.cells : Int)) = true := by simpa using u1
    have Y := hide (show OkIs x 3 from Or.inr (Or.inr (Or.inl ⟨unhide Q1, unhide Q2, fun r => by simp [r.1] at u1, rfl⟩)))
    refine wp_region_quiet (C := Up w2) (by kernel_rfl) (by kernel_rfl) (show Ext _ _ from (Ext.refl _).drew) ?_
    go_simp
    iterate 12 (first | go_big_quiet_skip | (go_big_quiet_want; go_big_quiet_op; first | go_big_quiet_on | (apply Exists.intro; refine ⟨fun w' hw' => ?_, ?_⟩; (first | (go_at_call 39; exact (unhide HU w' hw')) | (with_reducible rfl) | (go_simp; first | done | (with_reducible rfl) | (refine ⟨?_, ?_⟩ <;> with_reducible rfl))); go_big_quiet_on)))
    refine wpQuiet_nil ?_
    intro w3 hq3
    have x3 := x2.trans hq3.ext
    clear F0 HU
    go_wp2_with fail
    go_ret
    exact ⟨3, rfl, unhide Y, x3⟩
  · have u1b : (x.used != (units x.cells : Int)) = false := by simpa using u1
    by_cases u2 : x.room < x.used
    · have Y := hide (show OkIs x 3 from Or.inr (Or.inr (Or.inl ⟨unhide Q1, unhide Q2, fun r => by have := r.2; omega, rfl⟩)))
      refine wp_region_quiet (C := Up w2) (by kernel_rfl) (by kernel_rfl) (show Ext _ _ from (Ext.refl _).drew) ?_
      go_simp
      iterate 12 (first | go_big_quiet_skip | (go_big_quiet_want; go_big_quiet_op; first | go_big_quiet_on | (apply Exists.intro; refine ⟨fun w' hw' => ?_, ?_⟩; (first | (go_at_call 39; exact (unhide HU w' hw')) | (with_reducible rfl) | (go_simp; first | done | (with_reducible rfl) | (refine ⟨?_, ?_⟩ <;> with_reducible rfl))); go_big_quiet_on)))
      refine wpQuiet_nil ?_
      intro w3 hq3
      have x3 := x2.trans hq3.ext
      clear F0 HU
      go_wp2_with fail
      go_ret
      exact ⟨3, rfl, unhide Y, x3⟩
    have Q3 := hide (show R3 x from ⟨by simpa using u1, by omega⟩)
    refine wp_region_quiet (C := Up w2) (by kernel_rfl) (by kernel_rfl) (show Ext _ _ from (Ext.refl _).drew) ?_
    go_simp
    iterate 12 (first | go_big_quiet_skip | (go_big_quiet_want; go_big_quiet_op; first | go_big_quiet_on | (apply Exists.intro; refine ⟨fun w' hw' => ?_, ?_⟩; (first | (go_at_call 39; exact (unhide HU w' hw')) | (with_reducible rfl) | (go_simp; first | done | (with_reducible rfl) | (refine ⟨?_, ?_⟩ <;> with_reducible rfl))); go_big_quiet_on)))
    refine wpQuiet_nil ?_
    intro w3 hq3
    have x3 := x2.trans hq3.ext
    have h3 := (unhide H2).ext hq3.ext
    clear F0 HU H2 c0 c1 u1 u1b u2
    go_wp2_with fail
    refine (l1words_any x _ _ h3).mono ?_
    rintro e w4 ⟨b1, rfl, hr, hq⟩
    have h4 := h3.ext hq
    have x4 := x3.trans hq
    clear x3 h3 hq
    cases b1
    · have Y := hide (show OkIs x 4 from Or.inr (Or.inr (Or.inr (Or.inl ⟨unhide Q1, unhide Q2, unhide Q3, fun r => by simpa using hr.2 r, rfl⟩))))
      clear hr
      go_wp2_with fail
      go_ret
      exact ⟨4, rfl, unhide Y, x4⟩
    have Q4 := hide (show R4 x from hr.1 rfl)
    clear hr
    go_wp2_with fail
    refine (l1colors_any x _ _ h4).mono ?_
    rintro e w5 ⟨b1, rfl, hr, hq⟩
    have h5 := h4.ext hq
    have x5 := x4.trans hq
    clear x4 h4 hq
    cases b1
    · have Y := hide (show OkIs x 5 from Or.inr (Or.inr (Or.inr (Or.inr (Or.inl ⟨unhide Q1, unhide Q2, unhide Q3, unhide Q4, fun r => by simpa using hr.2 r, rfl⟩)))))
      clear hr
      go_wp2_with fail
      go_ret
      exact ⟨5, rfl, unhide Y, x5⟩
    have Q5 := hide (show R5 x from hr.1 rfl)
    clear hr
    go_wp2_with fail
    refine (l1hands_any x _ _ h5 (unhide Q1) (unhide Q5)).mono ?_
    rintro e w6 ⟨b1, rfl, hr, hq⟩
    have h6 := h5.ext hq
    have x6 := x5.trans hq
    clear x5 h5 hq
    cases b1
    · have Y := hide (show OkIs x 6 from Or.inr (Or.inr (Or.inr (Or.inr (Or.inr (Or.inl ⟨unhide Q1, unhide Q2, unhide Q3, unhide Q4, unhide Q5, fun r => by simpa using hr.2 r, rfl⟩))))))
      clear hr
      go_wp2_with fail
      go_ret
      exact ⟨6, rfl, unhide Y, x6⟩
    have Q6 := hide (show R6 x from hr.1 rfl)
    clear hr
    go_wp2_with fail
    refine (l1marks_any x _ _ h6 (unhide Q1) (unhide Q4) (unhide Q6)).mono ?_
    rintro e w7 ⟨b1, rfl, hr, hq⟩
    have h7 := h6.ext hq
    have x7 := x6.trans hq
    clear x6 h6 hq
    cases b1
    · have Y := hide (show OkIs x 7 from Or.inr (Or.inr (Or.inr (Or.inr (Or.inr (Or.inr (Or.inl ⟨unhide Q1, unhide Q2, unhide Q3, unhide Q4, unhide Q5, unhide Q6, fun r => by simpa using hr.2 r, rfl⟩)))))))
      clear hr
      go_wp2_with fail
      go_ret
      exact ⟨7, rfl, unhide Y, x7⟩
    have Q7 := hide (show R7 x from hr.1 rfl)
    clear hr
    go_wp2_with fail
    refine (l1closing_any x _ _ h7).mono ?_
    rintro e w8 ⟨b1, rfl, hr, hq⟩
    have x8 := x7.trans hq
    clear x7 h7 hq
    cases b1
    · have Y := hide (show OkIs x 8 from Or.inr (Or.inr (Or.inr (Or.inr (Or.inr (Or.inr (Or.inr (Or.inl ⟨unhide Q1, unhide Q2, unhide Q3, unhide Q4, unhide Q5, unhide Q6, unhide Q7, fun r => by simpa using hr.2 r, rfl⟩))))))))
      clear hr
      go_wp2_with fail
      go_ret
      exact ⟨8, rfl, unhide Y, x8⟩
    · have Y := hide (show OkIs x 0 from Or.inr (Or.inr (Or.inr (Or.inr (Or.inr (Or.inr (Or.inr (Or.inr ⟨unhide Q1, unhide Q2, unhide Q3, unhide Q4, unhide Q5, unhide Q6, unhide Q7, hr.1 rfl, rfl⟩))))))))
      clear hr
      go_wp2_with fail
      go_ret
      exact ⟨0, rfl, unhide Y, x8⟩
end Go.Proofs.YtbcmjcomdjdjaaaGreat
