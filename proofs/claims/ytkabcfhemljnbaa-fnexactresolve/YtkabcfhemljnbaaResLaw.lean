import Derived.Test.YtkabcfhemljnbaaRes2
import Derived.Test.YtkabcfhemljnbaaHeapLaw
import Derived.Deep.DeepCutAuto
namespace Go.Proofs.Ytkabcfhemljnbaa
open Go.RowKit
attribute [local go_sem ↓] Go.wp_at_zero Go.wp_at_succ

theorem toWord_ext (y : Wd) (w : World) : Calls Try.prog 16 #[y.v] w fun e w' => e = .returned y.v ∧ Ext w w' :=
  (toWord_any y w).mono fun _ _ ⟨he, a, b, c, hw⟩ => ⟨he, by rw [hw]; exact (((Ext.refl w).alloc _).alloc _).alloc _⟩
/-- a word of nothing, that may be written -/
structure Zer (w : World) (B : Nat) : Prop where
  c0 : w.cell? ⟨B, 0, none⟩ = some (.int .i64 0)
  c1 : w.cell? ⟨B, 1, none⟩ = some (.int .i64 0)
  c2 : w.cell? ⟨B, 2, none⟩ = some (.int .i64 0)
  f0 : w.frozen? ⟨B, 0, none⟩ = false
  f1 : w.frozen? ⟨B, 1, none⟩ = false
  f2 : w.frozen? ⟨B, 2, none⟩ = false
theorem Zer.alloc (w : World) (t : TypeId) : Zer (w.alloc (.cells #[.int .i64 0, .int .i64 0, .int .i64 0] t)) w.heap.size :=
  ⟨by simp [go_sem], by simp [go_sem], by simp [go_sem], by simp [go_sem], by simp [go_sem], by simp [go_sem]⟩
theorem Zer.drew {w : World} {B : Nat} (h : Zer w B) : Zer w.drew B := ⟨h.c0, h.c1, h.c2, h.f0, h.f1, h.f2⟩
theorem Zer.ext {w w' : World} {B : Nat} (h : Zer w B) (e : Ext w w') : Zer w' B := by
  have hb := cell_lt h.c0
  exact ⟨e.keep h.c0, e.keep h.c1, e.keep h.c2, by rw [e.frozen (p := ⟨B, 0, none⟩) hb]; exact h.f0, by rw [e.frozen (p := ⟨B, 1, none⟩) hb]; exact h.f1, by rw [e.frozen (p := ⟨B, 2, none⟩) hb]; exact h.f2⟩

theorem Zer.word {w : World} {B : Nat} (h : Zer w B) (z : Wd) : WdAt (((w.setCell ⟨B, 0, none⟩ (.int .i64 z.k)).setCell ⟨B, 1, none⟩ (.int .i64 z.n)).setCell ⟨B, 2, none⟩ (.int .i64 z.a)) B 0 z := by
  have o0 : Open w B 0 := ⟨⟨_, h.c0⟩, h.f0⟩
  have o1 : Open w B 1 := ⟨⟨_, h.c1⟩, h.f1⟩
  have o2 : Open w B 2 := ⟨⟨_, h.c2⟩, h.f2⟩
  refine ⟨?_, ?_, ?_⟩
  · rw [cell_other _ (.inr (by omega)), cell_other _ (.inr (by omega))]; exact o0.same _
  · rw [cell_other _ (.inr (by omega))]; exact (o1.set _ _).same _
  · exact ((o2.set _ _).set _ _).same _
theorem word_alloc (w : World) (z : Wd) (t : TypeId) : WdAt (w.alloc (.cells #[.int .i64 z.k, .int .i64 z.n, .int .i64 z.a] t)) w.heap.size 0 z :=
  ⟨by simp [go_sem], by simp [go_sem], by simp [go_sem]⟩

/-- what Resolve answers -/
def ResIs (x : Hp) (y z : Wd) : Prop := (OkIs x 0 ∧ z = resB x y) ∨ (¬ OkIs x 0 ∧ z = W0)
theorem ResIs.uniq {x : Hp} {y z z' : Wd} (h : ResIs x y z) (k : ResIs x y z') : z = z' := by
  unfold ResIs at h k
  rcases h with h | h <;> rcases k with k | k
  · rw [h.2, k.2]
  · exact (k.1 h.1).elim
  · exact (h.1 k.1).elim
  · rw [h.2, k.2]

set_option maxRecDepth 100000 in
set_option maxHeartbeats 8000000 in
theorem resLaw_any (x : Hp) (y : Wd) (vr vc vg : Value) (w : World) (hR : SlW w vr x.regs) (hC : SlC w vc x.cells) (hG : SlI w vg x.gray) :
    Calls Try.prog 5 #[x.v vr vc vg, y.v] w fun e w' => e = .returned (.bool true) ∧ Ext w w' := by
  obtain ⟨ar, kr, rfl⟩ := slW_form hR
  obtain ⟨ac, kc, rfl⟩ := slC_form hC
  obtain ⟨ag, kg, rfl⟩ := slI_form hG
  have x0 : Ext w ((w.alloc (.cells #[iv x.room, iv x.used, iv x.born, .slice ar x.regs.length kr, .slice ac x.cells.length kc, iv x.phase, iv x.hand, iv x.sub, .slice ag x.gray.length kg, iv x.per, iv x.start, iv x.rounds, iv x.forced] 26)).alloc (.cells #[iv y.k, iv y.n, iv y.a] 40)) := ((Ext.refl w).alloc _).alloc _
  have S := hide (And.intro (SlW.ext x0 hR) (And.intro (SlC.ext x0 hC) (SlI.ext x0 hG)))
  clear hR hC hG
  go_enter Try.func5, Try.ntmps5
  go_wp2_with fail
  refine (szHeap_any x _ _ _ 1048576 _ (unhide S).1 (unhide S).2.1 (unhide S).2.2 (by omega) (by omega)).mono ?_
  rintro e w1 ⟨r, rfl, hr, q1⟩
  have x1 := x0.trans q1
  rcases hr with ⟨hr0, hr1⟩ | hr
  rotate_left
  · subst hr
    go_wp2_with fail
    go_ret
    exact ⟨rfl, x1⟩
  have hr2 : ¬ r < 0 := by omega
  have n1 : x.regs.length ≤ 1048576 := by omega
  have n2 : x.cells.length ≤ 1048576 := by omega
  have n3 : prsum x.cells ≤ 1048576 := by omega
  have n4 : x.gray.length ≤ 1048576 := by omega
  clear hr1
  have hb0 : w.heap.size < w1.heap.size := by have := q1.size; simp at this; omega
  have hb1 : w.heap.size + 1 < w1.heap.size := by have := q1.size; simp at this; omega
  have S1 := hide (And.intro (SlW.ext q1 (unhide S).1) (And.intro (SlC.ext q1 (unhide S).2.1) (SlI.ext q1 (unhide S).2.2)))
  have HQ1 := hide q1
  have X1 := hide x1
  have t0 : w1.cell? ⟨w.heap.size, 0, none⟩ = some (iv x.room) := q1.keep (by simp [go_sem])
  have t1 : w1.cell? ⟨w.heap.size, 1, none⟩ = some (iv x.used) := q1.keep (by simp [go_sem])
  have t2 : w1.cell? ⟨w.heap.size, 2, none⟩ = some (iv x.born) := q1.keep (by simp [go_sem])
  have t3 : w1.cell? ⟨w.heap.size, 3, none⟩ = some (.slice ar x.regs.length kr) := q1.keep (by simp [go_sem])
  have t4 : w1.cell? ⟨w.heap.size, 4, none⟩ = some (.slice ac x.cells.length kc) := q1.keep (by simp [go_sem])
  have t5 : w1.cell? ⟨w.heap.size, 5, none⟩ = some (iv x.phase) := q1.keep (by simp [go_sem])
  have t6 : w1.cell? ⟨w.heap.size, 6, none⟩ = some (iv x.hand) := q1.keep (by simp [go_sem])
  have t7 : w1.cell? ⟨w.heap.size, 7, none⟩ = some (iv x.sub) := q1.keep (by simp [go_sem])
  have t8 : w1.cell? ⟨w.heap.size, 8, none⟩ = some (.slice ag x.gray.length kg) := q1.keep (by simp [go_sem])
  have t9 : w1.cell? ⟨w.heap.size, 9, none⟩ = some (iv x.per) := q1.keep (by simp [go_sem])
  have t10 : w1.cell? ⟨w.heap.size, 10, none⟩ = some (iv x.start) := q1.keep (by simp [go_sem])
  have t11 : w1.cell? ⟨w.heap.size, 11, none⟩ = some (iv x.rounds) := q1.keep (by simp [go_sem])
  have t12 : w1.cell? ⟨w.heap.size, 12, none⟩ = some (iv x.forced) := q1.keep (by simp [go_sem])
  have v0 : w1.cell? ⟨w.heap.size + 1, 0, none⟩ = some (iv y.k) := q1.keep (by simp [go_sem])
  have v1 : w1.cell? ⟨w.heap.size + 1, 1, none⟩ = some (iv y.n) := q1.keep (by simp [go_sem])
  have v2 : w1.cell? ⟨w.heap.size + 1, 2, none⟩ = some (iv y.a) := q1.keep (by simp [go_sem])
  clear S x0 x1 q1
  go_wp2_with fail
  go_cut [6] (fun s6 wx => ∃ (z : Wd) (B : Nat), s6 = .pointer (some ⟨B, 0, none⟩) ∧ Hid (WdAt wx B 0 z) ∧ Hid (ResIs x y z) ∧ Ext w1 wx)
  case first =>
    go_region_with (first
      | (go_at_call 8; refine (toHeap_any x _ _ _ _ (SlW.ext (by repeat (first | assumption | exact Ext.refl _ | (with_reducible refine Ext.alloc ?_ _) | (with_reducible refine Ext.drew ?_))) (unhide S1).1) (SlC.ext (by repeat (first | assumption | exact Ext.refl _ | (with_reducible refine Ext.alloc ?_ _) | (with_reducible refine Ext.drew ?_))) (unhide S1).2.1) (SlI.ext (by repeat (first | assumption | exact Ext.refl _ | (with_reducible refine Ext.alloc ?_ _) | (with_reducible refine Ext.drew ?_))) (unhide S1).2.2) n1 n2 n3 n4).mono ?_; rintro e wA ⟨vr2, vc2, vg2, rfl, hF2, qA⟩; obtain ⟨ar2, kr2, rfl⟩ := slW_form hF2.1.1; obtain ⟨ac2, kc2, rfl⟩ := slC_form hF2.2.1.sl; obtain ⟨ag2, kg2, rfl⟩ := slI_form hF2.2.2.1; have F2 := hide hF2; clear hF2; (try (have ZA1 : Zer wA w1.heap.size := Zer.ext (by first | assumption | exact Zer.alloc _ _ | exact (Zer.alloc _ _).drew) qA)); (try (have ZAB : Zer wA wB.heap.size := Zer.ext (by first | assumption | exact Zer.alloc _ _ | exact (Zer.alloc _ _).drew) qA)); have XA : Ext w1 wA := Ext.trans (by repeat (first | assumption | exact Ext.refl _ | (with_reducible refine Ext.alloc ?_ _) | (with_reducible refine Ext.drew ?_))) qA; have hcA := (bcell qA).1; have hfA := (bcell qA).2; (try simp only [World.size_drew] at hcA hfA); (try simp only [World.size_alloc] at hcA hfA); (try (have lt1A : w1.heap.size < wA.heap.size := (by have := qA.size; simp at this; omega))); (try (have ltBA : wB.heap.size < wA.heap.size := (by have := qA.size; simp at this; omega))); have bA0 : w.heap.size < wA.heap.size := (by have := XA.size; omega); have bA1 : w.heap.size + 1 < wA.heap.size := (by have := XA.size; omega))
      | (go_at_call 16; refine (toWord_ext y _).mono ?_; rintro e wB ⟨rfl, qB⟩; (try (have ZB1 : Zer wB w1.heap.size := Zer.ext (by first | assumption | exact Zer.alloc _ _ | exact (Zer.alloc _ _).drew) qB)); (try (have ZBA : Zer wB wA.heap.size := Zer.ext (by first | assumption | exact Zer.alloc _ _ | exact (Zer.alloc _ _).drew) qB)); have XB : Ext w1 wB := Ext.trans (by repeat (first | assumption | exact Ext.refl _ | (with_reducible refine Ext.alloc ?_ _) | (with_reducible refine Ext.drew ?_))) qB; have hcB := (bcell qB).1; have hfB := (bcell qB).2; (try simp only [World.size_drew] at hcB hfB); (try simp only [World.size_alloc] at hcB hfB); (try (have lt1B : w1.heap.size < wB.heap.size := (by have := qB.size; simp at this; omega))); (try (have ltAB : wA.heap.size < wB.heap.size := (by have := qB.size; simp at this; omega))); have bB0 : w.heap.size < wB.heap.size := (by have := XB.size; omega); have bB1 : w.heap.size + 1 < wB.heap.size := (by have := XB.size; omega); (try (have YB : Ext wA wB := (by first | exact qB | exact Ext.trans ((Ext.refl wA).alloc _) qB))))
      | (go_at_call 15; refine (specResolve_any x y _ (SlW.ext (by repeat (first | assumption | exact Ext.refl _ | (with_reducible refine Ext.alloc ?_ _) | (with_reducible refine Ext.drew ?_))) (unhide F2).1.1) (SlC.ext (by repeat (first | assumption | exact Ext.refl _ | (with_reducible refine Ext.alloc ?_ _) | (with_reducible refine Ext.drew ?_))) (unhide F2).2.1.sl) (SlI.ext (by repeat (first | assumption | exact Ext.refl _ | (with_reducible refine Ext.alloc ?_ _) | (with_reducible refine Ext.drew ?_))) (unhide F2).2.2.1)).mono ?_; rintro e wC ⟨z, rfl, hz, qC⟩; have HZ := hide (show ResIs x y z from hz); clear hz; (try (have ZC1 : Zer wC w1.heap.size := Zer.ext (by first | assumption | exact Zer.alloc _ _ | exact (Zer.alloc _ _).drew) qC; have := ZC1.c0; have := ZC1.c1; have := ZC1.c2; have := ZC1.f0; have := ZC1.f1; have := ZC1.f2)); (try (have ZCA : Zer wC wA.heap.size := Zer.ext (by first | assumption | exact Zer.alloc _ _ | exact (Zer.alloc _ _).drew) qC; have := ZCA.c0; have := ZCA.c1; have := ZCA.c2; have := ZCA.f0; have := ZCA.f1; have := ZCA.f2)); (try (have ZCB : Zer wC wB.heap.size := Zer.ext (by first | assumption | exact Zer.alloc _ _ | exact (Zer.alloc _ _).drew) qC; have := ZCB.c0; have := ZCB.c1; have := ZCB.c2; have := ZCB.f0; have := ZCB.f1; have := ZCB.f2)); have XC : Ext w1 wC := Ext.trans (by repeat (first | assumption | exact Ext.refl _ | (with_reducible refine Ext.alloc ?_ _) | (with_reducible refine Ext.drew ?_))) qC; (try (have lt1C : w1.heap.size < wC.heap.size := (by have := qC.size; simp at this; omega))); (try (have ltAC : wA.heap.size < wC.heap.size := (by have := qC.size; simp at this; omega))); (try (have ltBC : wB.heap.size < wC.heap.size := (by have := qC.size; simp at this; omega)))))
    all_goals
      go_wp2_with fail
      go_meet
      refine ⟨z, _, rfl, ?_, unhide HZ, ?_⟩
      · show WdAt _ _ _ _
        first | (with_reducible exact word_alloc _ _ _) | (with_reducible exact ZC1.word z) | (with_reducible exact ZCA.word z) | (with_reducible exact ZCB.word z)
      · repeat (first | (with_reducible exact XC) | (with_reducible exact XC.alloc _) | (with_reducible refine Ext.setCell ?_ (by first | exact Nat.le_refl _ | exact XA.size | exact XB.size) _))
  case rest =>
    obtain ⟨z, B, rfl, hz6, RZ, X6⟩ := hcut
    have eS : Ext ((w.alloc (.cells #[iv x.room, iv x.used, iv x.born, .slice ar x.regs.length kr, .slice ac x.cells.length kc, iv x.phase, iv x.hand, iv x.sub, .slice ag x.gray.length kg, iv x.per, iv x.start, iv x.rounds, iv x.forced] 26)).alloc (.cells #[iv y.k, iv y.n, iv y.a] 40)) wc := (unhide HQ1).trans X6
    clear t0 t1 t2 t3 t4 t5 t6 t7 t8 t9 t10 t11 t12 v0 v1 v2
    have t0 : wc.cell? ⟨w.heap.size, 0, none⟩ = some (iv x.room) := eS.keep (by simp [go_sem])
    have t1 : wc.cell? ⟨w.heap.size, 1, none⟩ = some (iv x.used) := eS.keep (by simp [go_sem])
    have t2 : wc.cell? ⟨w.heap.size, 2, none⟩ = some (iv x.born) := eS.keep (by simp [go_sem])
    have t3 : wc.cell? ⟨w.heap.size, 3, none⟩ = some (.slice ar x.regs.length kr) := eS.keep (by simp [go_sem])
    have t4 : wc.cell? ⟨w.heap.size, 4, none⟩ = some (.slice ac x.cells.length kc) := eS.keep (by simp [go_sem])
    have t5 : wc.cell? ⟨w.heap.size, 5, none⟩ = some (iv x.phase) := eS.keep (by simp [go_sem])
    have t6 : wc.cell? ⟨w.heap.size, 6, none⟩ = some (iv x.hand) := eS.keep (by simp [go_sem])
    have t7 : wc.cell? ⟨w.heap.size, 7, none⟩ = some (iv x.sub) := eS.keep (by simp [go_sem])
    have t8 : wc.cell? ⟨w.heap.size, 8, none⟩ = some (.slice ag x.gray.length kg) := eS.keep (by simp [go_sem])
    have t9 : wc.cell? ⟨w.heap.size, 9, none⟩ = some (iv x.per) := eS.keep (by simp [go_sem])
    have t10 : wc.cell? ⟨w.heap.size, 10, none⟩ = some (iv x.start) := eS.keep (by simp [go_sem])
    have t11 : wc.cell? ⟨w.heap.size, 11, none⟩ = some (iv x.rounds) := eS.keep (by simp [go_sem])
    have t12 : wc.cell? ⟨w.heap.size, 12, none⟩ = some (iv x.forced) := eS.keep (by simp [go_sem])
    have hc0 : w.heap.size < wc.heap.size := by have := X6.size; omega
    go_wp2_with fail
    refine (toHeap_any x _ _ _ _ (SlW.ext X6 (unhide S1).1) (SlC.ext X6 (unhide S1).2.1) (SlI.ext X6 (unhide S1).2.2) n1 n2 n3 n4).mono ?_
    rintro e w4 ⟨vr4, vc4, vg4, rfl, hF4, q4⟩
    obtain ⟨ar4, kr4, rfl⟩ := slW_form hF4.1.1
    obtain ⟨ac4, kc4, rfl⟩ := slC_form hF4.2.1.sl
    obtain ⟨ag4, kg4, rfl⟩ := slI_form hF4.2.2.1
    have F4 := hide hF4
    clear hF4 t0 t1 t2 t3 t4 t5 t6 t7 t8 t9 t10 t11 t12
    go_wp2_with fail
    have e45 : Ext w4 (w4.alloc (.cells #[iv x.room, iv x.used, iv x.born, .slice ar4 x.regs.length kr4, .slice ac4 x.cells.length kc4, iv x.phase, iv x.hand, iv x.sub, .slice ag4 x.gray.length kg4, iv x.per, iv x.start, iv x.rounds, iv x.forced] 32)) := (Ext.refl w4).alloc _
    have U5 := hide (fun (o : Nat) (v : Value) (hv : #[iv x.room, iv x.used, iv x.born, .slice ar4 x.regs.length kr4, .slice ac4 x.cells.length kc4, iv x.phase, iv x.hand, iv x.sub, .slice ag4 x.gray.length kg4, iv x.per, iv x.start, iv x.rounds, iv x.forced][o]? = some v) => (show (w4.alloc (.cells #[iv x.room, iv x.used, iv x.born, .slice ar4 x.regs.length kr4, .slice ac4 x.cells.length kc4, iv x.phase, iv x.hand, iv x.sub, .slice ag4 x.gray.length kg4, iv x.per, iv x.start, iv x.rounds, iv x.forced] 32)).cell? ⟨w4.heap.size, o, none⟩ = some v by rw [cell_of_row _ w4.heap.size o _ _ (0, 0) (heap_alloc_new w4 _)]; exact hv))
    have F5 := hide ((unhide F4).ext e45)
    have X5 : Ext wc (w4.alloc (.cells #[iv x.room, iv x.used, iv x.born, .slice ar4 x.regs.length kr4, .slice ac4 x.cells.length kc4, iv x.phase, iv x.hand, iv x.sub, .slice ag4 x.gray.length kg4, iv x.per, iv x.start, iv x.rounds, iv x.forced] 32)) := q4.trans e45
    have hb4 : w4.heap.size < (w4.alloc (.cells #[iv x.room, iv x.used, iv x.born, .slice ar4 x.regs.length kr4, .slice ac4 x.cells.length kc4, iv x.phase, iv x.hand, iv x.sub, .slice ag4 x.gray.length kg4, iv x.per, iv x.start, iv x.rounds, iv x.forced] 32)).heap.size := by simp
    clear e45 F4
    generalize hw5 : w4.alloc (.cells #[iv x.room, iv x.used, iv x.born, .slice ar4 x.regs.length kr4, .slice ac4 x.cells.length kc4, iv x.phase, iv x.hand, iv x.sub, .slice ag4 x.gray.length kg4, iv x.per, iv x.start, iv x.rounds, iv x.forced] 32) = w5 at U5 F5 X5 hb4
    clear hw5 q4
    have eS5 : Ext ((w.alloc (.cells #[iv x.room, iv x.used, iv x.born, .slice ar x.regs.length kr, .slice ac x.cells.length kc, iv x.phase, iv x.hand, iv x.sub, .slice ag x.gray.length kg, iv x.per, iv x.start, iv x.rounds, iv x.forced] 26)).alloc (.cells #[iv y.k, iv y.n, iv y.a] 40)) w5 := eS.trans X5
    have v0 : w5.cell? ⟨w.heap.size + 1, 0, none⟩ = some (iv y.k) := eS5.keep (by simp [go_sem])
    have v1 : w5.cell? ⟨w.heap.size + 1, 1, none⟩ = some (iv y.n) := eS5.keep (by simp [go_sem])
    have v2 : w5.cell? ⟨w.heap.size + 1, 2, none⟩ = some (iv y.a) := eS5.keep (by simp [go_sem])
    have u0 := unhide U5 0 _ rfl
    have u1 := unhide U5 1 _ rfl
    have u2 := unhide U5 2 _ rfl
    have u3 := unhide U5 3 _ rfl
    have u4 := unhide U5 4 _ rfl
    have u5 := unhide U5 5 _ rfl
    have u6 := unhide U5 6 _ rfl
    have u7 := unhide U5 7 _ rfl
    have u8 := unhide U5 8 _ rfl
    have u9 := unhide U5 9 _ rfl
    have u10 := unhide U5 10 _ rfl
    have u11 := unhide U5 11 _ rfl
    have u12 := unhide U5 12 _ rfl
    have hc1 : w.heap.size + 1 < w5.heap.size := by have := X6.size; have := X5.size; omega
    have hc0' : w.heap.size < w5.heap.size := by omega
    have hz5 := hide ((unhide hz6).ext X5)
    have XW5 := hide ((unhide X1).trans (X6.trans X5))
    have e15 : Ext w1 w5 := X6.trans X5
    have S5 := hide (And.intro (SlW.ext e15 (unhide S1).1) (And.intro (SlC.ext e15 (unhide S1).2.1) (SlI.ext e15 (unhide S1).2.2)))
    have ES5 := hide eS5
    clear hz6 X6 X5 eS eS5 e15 X1 S1 HQ1
    go_cut [8] (fun s8 wx => ∃ (z' : Wd) (B' : Nat), s8 = .pointer (some ⟨B', 0, none⟩) ∧ Hid (WdAt wx B' 0 z') ∧ Hid (ResIs x y z') ∧ Ext w5 wx)
    case first =>
      go_region_with (first
        | (go_at_call 16; refine (toWord_ext y _).mono ?_; rintro e wB ⟨rfl, qB⟩; (try (have ZB5 : Zer wB w5.heap.size := Zer.ext (by first | assumption | exact Zer.alloc _ _ | exact (Zer.alloc _ _).drew) qB)); have XB : Ext w5 wB := Ext.trans (by repeat (first | assumption | exact Ext.refl _ | (with_reducible refine Ext.alloc ?_ _) | (with_reducible refine Ext.drew ?_))) qB; have hcB := (bcell qB).1; have hfB := (bcell qB).2; (try simp only [World.size_drew] at hcB hfB); (try simp only [World.size_alloc] at hcB hfB); have bB4 : w4.heap.size < wB.heap.size := (by have := XB.size; omega))
        | (go_at_call 17; refine (implResolve_any x y _ (SlW.ext (by repeat (first | assumption | exact Ext.refl _ | (with_reducible refine Ext.alloc ?_ _) | (with_reducible refine Ext.drew ?_))) (unhide F5).1.1) (SlC.ext (by repeat (first | assumption | exact Ext.refl _ | (with_reducible refine Ext.alloc ?_ _) | (with_reducible refine Ext.drew ?_))) (unhide F5).2.1.sl) (SlI.ext (by repeat (first | assumption | exact Ext.refl _ | (with_reducible refine Ext.alloc ?_ _) | (with_reducible refine Ext.drew ?_))) (unhide F5).2.2.1) (CapAt.of ((unhide F5).2.1.ext (by repeat (first | assumption | exact Ext.refl _ | (with_reducible refine Ext.alloc ?_ _) | (with_reducible refine Ext.drew ?_)))))).mono ?_; rintro e wC ⟨z', rfl, hz', qC⟩; have HZ := hide (show ResIs x y z' from hz'); clear hz'; (try (have ZC5 : Zer wC w5.heap.size := Zer.ext (by first | assumption | exact Zer.alloc _ _ | exact (Zer.alloc _ _).drew) qC; have := ZC5.c0; have := ZC5.c1; have := ZC5.c2; have := ZC5.f0; have := ZC5.f1; have := ZC5.f2)); (try (have ZCB : Zer wC wB.heap.size := Zer.ext (by first | assumption | exact Zer.alloc _ _ | exact (Zer.alloc _ _).drew) qC; have := ZCB.c0; have := ZCB.c1; have := ZCB.c2; have := ZCB.f0; have := ZCB.f1; have := ZCB.f2)); have XC : Ext w5 wC := Ext.trans (by repeat (first | assumption | exact Ext.refl _ | (with_reducible refine Ext.alloc ?_ _) | (with_reducible refine Ext.drew ?_))) qC))
      all_goals
        go_wp2_with fail
        go_meet
        refine ⟨z', _, rfl, ?_, unhide HZ, ?_⟩
        · show WdAt _ _ _ _
          first | (with_reducible exact word_alloc _ _ _) | (with_reducible exact ZC5.word z') | (with_reducible exact ZCB.word z')
        · repeat (first | (with_reducible exact XC) | (with_reducible exact XC.alloc _) | (with_reducible refine Ext.setCell ?_ (by first | exact Nat.le_refl _ | exact XB.size) _))
    case rest =>
      obtain ⟨z', B', rfl, hz8, RZ8, X8⟩ := hcut
      obtain rfl : z' = z := ResIs.uniq (unhide RZ8) (unhide RZ)
      obtain ⟨a0, a1, a2⟩ := unhide hz8
      obtain ⟨c0, c1, c2⟩ := (unhide hz5).ext X8
      simp only [Nat.zero_add] at a1 a2 c1 c2
      go_wp2_with fail
      refine (eqWord_same z' _).mono ?_
      rintro e w9 ⟨rfl, q9⟩
      have e59 : Ext w5 w9 := X8.trans q9
      have eS9 := (unhide ES5).trans e59
      have Z := hide (And.intro ((unhide XW5).trans e59) (And.intro ((unhide F5).ext e59) (And.intro (SlW.ext e59 (unhide S5).1) (And.intro (SlC.ext e59 (unhide S5).2.1) (SlI.ext e59 (unhide S5).2.2)))))
      have hb0 : w.heap.size < w9.heap.size := by have := e59.size; omega
      have hb9 : w4.heap.size < w9.heap.size := by have := e59.size; omega
      have g0 := e59.keep (unhide U5 0 _ rfl)
      have g1 := e59.keep (unhide U5 1 _ rfl)
      have g2 := e59.keep (unhide U5 2 _ rfl)
      have g3 := e59.keep (unhide U5 3 _ rfl)
      have g4 := e59.keep (unhide U5 4 _ rfl)
      have g5 := e59.keep (unhide U5 5 _ rfl)
      have g6 := e59.keep (unhide U5 6 _ rfl)
      have g7 := e59.keep (unhide U5 7 _ rfl)
      have g8 := e59.keep (unhide U5 8 _ rfl)
      have g9 := e59.keep (unhide U5 9 _ rfl)
      have g10 := e59.keep (unhide U5 10 _ rfl)
      have g11 := e59.keep (unhide U5 11 _ rfl)
      have g12 := e59.keep (unhide U5 12 _ rfl)
      have t0 : w9.cell? ⟨w.heap.size, 0, none⟩ = some (iv x.room) := eS9.keep (by simp [go_sem])
      have t1 : w9.cell? ⟨w.heap.size, 1, none⟩ = some (iv x.used) := eS9.keep (by simp [go_sem])
      have t2 : w9.cell? ⟨w.heap.size, 2, none⟩ = some (iv x.born) := eS9.keep (by simp [go_sem])
      have t3 : w9.cell? ⟨w.heap.size, 3, none⟩ = some (.slice ar x.regs.length kr) := eS9.keep (by simp [go_sem])
      have t4 : w9.cell? ⟨w.heap.size, 4, none⟩ = some (.slice ac x.cells.length kc) := eS9.keep (by simp [go_sem])
      have t5 : w9.cell? ⟨w.heap.size, 5, none⟩ = some (iv x.phase) := eS9.keep (by simp [go_sem])
      have t6 : w9.cell? ⟨w.heap.size, 6, none⟩ = some (iv x.hand) := eS9.keep (by simp [go_sem])
      have t7 : w9.cell? ⟨w.heap.size, 7, none⟩ = some (iv x.sub) := eS9.keep (by simp [go_sem])
      have t8 : w9.cell? ⟨w.heap.size, 8, none⟩ = some (.slice ag x.gray.length kg) := eS9.keep (by simp [go_sem])
      have t9 : w9.cell? ⟨w.heap.size, 9, none⟩ = some (iv x.per) := eS9.keep (by simp [go_sem])
      have t10 : w9.cell? ⟨w.heap.size, 10, none⟩ = some (iv x.start) := eS9.keep (by simp [go_sem])
      have t11 : w9.cell? ⟨w.heap.size, 11, none⟩ = some (iv x.rounds) := eS9.keep (by simp [go_sem])
      have t12 : w9.cell? ⟨w.heap.size, 12, none⟩ = some (iv x.forced) := eS9.keep (by simp [go_sem])
      clear a0 a1 a2 c0 c1 c2 F5 S5 XW5 ES5 U5 hz5 hz8 RZ RZ8 X8 q9 e59 eS9
      go_wp2_with fail
      go_region_with (first | (go_at_call 8; refine (toHeap_any x _ _ _ _ (SlW.ext ((Ext.refl w9).drew) (unhide Z).2.2.1) (SlC.ext ((Ext.refl w9).drew) (unhide Z).2.2.2.1) (SlI.ext ((Ext.refl w9).drew) (unhide Z).2.2.2.2) n1 n2 n3 n4).mono ?_; rintro e w6 ⟨vr6, vc6, vg6, rfl, hF6, q6⟩; have F6 := hide (And.intro hF6 (Ext.trans ((Ext.refl w9).drew) q6)); clear hF6; have hc6 := (bcell q6).1; clear q6; simp only [World.size_drew] at hc6) | (go_at_call 10; refine (eqHeap_same x _ _ _ _ _ _ _ (SlW.ext (unhide F6).2 (unhide Z).2.1.1.1) (unhide F6).1.1.1 (SlC.ext (unhide F6).2 (unhide Z).2.1.2.1.sl) (unhide F6).1.2.1.sl (SlI.ext (unhide F6).2 (unhide Z).2.1.2.2.1) (unhide F6).1.2.2.1).mono ?_; rintro e w7 ⟨rfl, q7⟩))
      all_goals
        go_wp2_with fail
        go_ret
        exact ⟨rfl, ((unhide Z).1.trans (unhide F6).2).trans q7⟩
end Go.Proofs.Ytkabcfhemljnbaa
