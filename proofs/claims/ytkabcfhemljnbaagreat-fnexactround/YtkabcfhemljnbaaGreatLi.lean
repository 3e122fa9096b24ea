import Derived.Test.YtkabcfhemljnbaaGreatQc
import Derived.Test.YtkabcfhemljnbaaGreatOw
import Derived.Test.YtkabcfhemljnbaaGreatTe
import Derived.Test.YtkabcfhemljnbaaGreatUn2
import Derived.Test.YtkabcfhemljnbaaGreatLj
import Derived.Deep.QuietTactic
import Derived.Test.YtkabcfhemljnbaaGreatLp
namespace Go.Proofs.YtkabcfhemljnbaaGreat
open Go.RowKit

/-! The store as it is made keeps the invariant. -/
theorem filt_cut (p : Nat → Bool) (h : Nat) : ∀ d, (List.range (h + d)).filter (fun i => p i && decide ((i : Int) < (h : Int))) = (List.range h).filter p
  | 0 => by
    refine List.filter_congr fun i hi => ?_
    have := List.mem_range.1 hi
    have e : decide ((i : Int) < (h : Int)) = true := by simp; omega
    rw [e, Bool.and_true]
  | d + 1 => by
    rw [← Nat.add_assoc, List.range_succ, List.filter_append, filt_cut p h d, List.filter_cons_of_neg (by simp; intro _; omega), List.filter_nil, List.append_nil]
theorem frees_len (x : Hp) (k : Nat) : (frees x k).length ≤ k := valsTo_len _ _ _
theorem SOwn.soq {B : Nat} {w : World} {b : Nat} {x : Hp} (h : SOwn B w b x) (s : Snd x) : SOq 24000 B w b x := by
  obtain ⟨ar, kr, a4, n4, k4, a8, m8, k8, br, bc, bn, pb, pa, pk, kn, hd, vf, F, vk, role, hst, ho, pm, hk⟩ := h
  have hh := s.r1.hand
  have n8 := s.ok.n8
  have cc := s.r1.cells
  refine ⟨ar, kr, a4, n4, k4, a8, m8, k8, br, bc, bn, pb, pa, pk, kn, hd, vf, F, vk, _, role, hst, ⟨ho, fun i hi h0 => ?_, fun v hv => ?_, ?_, fun h3 => ?_, fun h4 => ?_, fun h3 h4 => ?_⟩, by omega⟩
  · exact pm.mem_iff.2 ((frees_mem x _ _).2 ⟨i, hi, h0, rfl⟩)
  · obtain ⟨i, _, _, e⟩ := (frees_mem x _ _).1 (pm.mem_iff.1 hv)
    omega
  · have l1 := pm.length_eq
    have l2 := frees_len x x.cells.length
    have l3 : remU x ≤ 16000 := by
      unfold remU
      split
      · omega
      split
      · omega
      split
      · omega
      split
      · omega
      · omega
    omega
  · have e : x.cells.length = x.hand.toNat + (x.cells.length - x.hand.toNat) := by omega
    have e2 : keptTo x x.cells.length = (List.range x.cells.length).filter (fun i => ((x.c i).st == 1) && decide ((i : Int) < (x.hand.toNat : Int))) := by
      unfold keptTo
      refine List.filter_congr fun i _ => ?_
      have : sweptB x i = decide ((i : Int) < (x.hand.toNat : Int)) := by
        unfold sweptB
        rw [h3, show ((x.hand.toNat : Nat) : Int) = x.hand by omega]
        simp
      rw [this]
    rw [e2, e]
    exact filt_cut (fun i => (x.c i).st == 1) x.hand.toNat _
  · have e2 : keptTo x x.cells.length = (List.range x.cells.length).filter (fun i => (x.c i).st == 1) := by
      unfold keptTo
      refine List.filter_congr fun i _ => ?_
      have : sweptB x i = true := by unfold sweptB; simp [h4]
      rw [this, Bool.and_true]
    rw [e2]
    refine ⟨List.pairwise_lt_range.filter _, fun i hi => ?_, fun i hi h1 hn => ?_⟩
    · obtain ⟨a, b⟩ := List.mem_filter.1 hi
      exact ⟨List.mem_range.1 a, by simpa using b⟩
    · exact absurd (List.mem_filter.2 ⟨List.mem_range.2 hi, by simpa using h1⟩) hn
  · unfold keptTo
    refine List.filter_eq_nil_iff.2 fun i _ => ?_
    have : sweptB x i = false := by unfold sweptB; simp [h3, h4]
    simp [this]
end Go.Proofs.YtkabcfhemljnbaaGreat

namespace Go.Proofs.YtkabcfhemljnbaaGreat
open Go.RowKit
attribute [local go_sem ↓] Go.wp_at_zero Go.wp_at_succ

/-! The program's step, the end of a round, a round. -/
theorem SOq.wide {C D B : Nat} {w : World} {b : Nat} {x : Hp} (h : SOq C B w b x) (hd : C ≤ D) : SOq D B w b x := by
  obtain ⟨ar, kr, a4, n4, k4, a8, m8, k8, br, bc, bn, pb, pa, pk, kn, hd, vf, F, vk, K, role, h, i, k⟩ := h
  exact ⟨ar, kr, a4, n4, k4, a8, m8, k8, br, bc, bn, pb, pa, pk, kn, hd, vf, F, vk, K, role, h, i.wide (by assumption), k⟩
theorem begin_any {C B : Nat} {w : World} {b : Nat} {x : Hp} (h : SOq C B w b x) (hp : x.phase = 0) (a : World) (ha : a.heap.size ≤ B) (hx : Ext a w) :
    Calls Tryz.prog 130 #[.pointer (some ⟨b, 0, none⟩)] w fun e w' => e = .returned (nowV 1 b) ∧ Hid (SOq (C + 16000) B w' b (toPh x 1 0)) ∧ Ext a w' := by
  obtain ⟨ar, kr, a4, n4, k4, a8, m8, k8, br, bc, bn, pb, pa, pk, kn, hd, vf, F, vk, K, role, h, i, k⟩ := h
  refine (turn_low h 0 hp rfl rfl (by omega) a ha hx).mono ?_
  rintro e w' ⟨rfl, h2, x2⟩
  exact ⟨rfl, ⟨ar, kr, a4, n4, k4, a8, m8, k8, br, bc, bn, pb, pa, pk, kn, hd, vf, F, vk, K, role, unhide h2, inv0 i hp, k⟩, x2⟩
end Go.Proofs.YtkabcfhemljnbaaGreat

namespace Go.Proofs.YtkabcfhemljnbaaGreat
open Go.RowKit

/-- the answer's heap, of a store that keeps its invariant -/
theorem told_soq {C B : Nat} {w : World} {b : Nat} {y : Hp} (h : SOq C B w b y) (s : Snd y) (hB : B ≤ w.heap.size) :
    Calls Tryz.prog 77 #[.pointer (some ⟨b, 0, none⟩)] w fun e w' => ∃ br kr bcN bgN pb pa pk, e = .returned (y.v (.slice (some ⟨br, 0, none⟩) y.regs.length kr) (.slice (some ⟨bcN, 0, none⟩) y.cells.length y.cells.length) (.slice (some ⟨bgN, 0, none⟩) y.gray.length y.gray.length)) ∧ Hid (HRow B w'.heap.size w' y br kr bcN y.cells.length bgN y.gray.length pb pa pk) ∧ Ext w w' := by
  obtain ⟨ar, kr, a4, n4, k4, a8, m8, k8, br, bc, bn, pb, pa, pk, kn, hd, vf, F, vk, K, role, h, _, _⟩ := h
  have h1 := s.r1.gray
  have h2 := s.ok.n8
  refine (told_any w h s.r5.2.2 s.ok.r16.1 ⟨s.ok.r16.2, h2, by omega, s.ok.p200⟩ hB).mono ?_
  rintro e w' ⟨bcN, bgN, rfl, h6, x6⟩
  exact ⟨br, kr, bcN, bgN, pb, pa, pk, rfl, h6, x6⟩
end Go.Proofs.YtkabcfhemljnbaaGreat

namespace Go.Proofs.YtkabcfhemljnbaaGreat
open Go.RowKit
attribute [local go_sem ↓] Go.wp_at_zero Go.wp_at_succ

/-! The program's round. -/
set_option maxRecDepth 100000 in
set_option maxHeartbeats 600000 in
theorem finish_any {C B : Nat} {w : World} {b : Nat} {x : Hp} (h : SOq C B w b x) (hC : C ≤ 100000) (s : Snd x) (a : World) (ha : a.heap.size ≤ B) (hx : Ext a w) :
    Calls Tryz.prog 83 #[.pointer (some ⟨b, 0, none⟩)] w fun e w' => ∃ k : Nat, e = .returned (.int .i64 k) ∧ Hid (EndIs x k) ∧ Hid (SOq C B w' b (itU k x)) ∧ Ext a w' := by
  have Q := hide (work_any 9223372036854775807 h hC s a ha hx)
  have S := hide s
  clear h s
  go_enter Tryz.func83, Tryz.ntmps83
  go_wp2_with fail
  refine (unhide Q).mono ?_
  rintro e w1 ⟨k, rfl, st, h1, x1⟩
  have E := hide (show EndIs x k by
    obtain ⟨r, _, e⟩ := unhide st
    refine ⟨?_, r⟩
    rcases e with e | e
    · have := r.le (unhide S); omega
    · exact e)
  clear st Q
  go_wp2_with fail
  go_ret
  exact ⟨k, rfl, unhide E, unhide h1, x1⟩
def EndH (x : Hp) (y : Hp) : Prop := ∃ k, EndIs x k ∧ y = itU k x
theorem EndH.snd {x y : Hp} (s : Snd x) (h : EndH x y) : Snd y ∧ y.phase = 0 := by
  obtain ⟨k, a, b⟩ := h
  rw [b]; exact ⟨s.itU k, a.1⟩
set_option maxRecDepth 100000 in
set_option maxHeartbeats 600000 in
theorem round_any {C B : Nat} {w : World} {b : Nat} {x : Hp} (h : SOq C B w b x) (hC : C + 16000 ≤ 100000) (s : Snd x) (a : World) (ha : a.heap.size ≤ B) (hx : Ext a w) :
    Calls Tryz.prog 85 #[.pointer (some ⟨b, 0, none⟩)] w fun e w' => ∃ y z, e = .returned (.tuple #[]) ∧ Hid (EndH x y ∧ EndH (toPh y 1 0) z) ∧ Hid (SOq (C + 16000) B w' b z) ∧ Ext a w' := by
  have H := hide h
  have S := hide s
  clear h s
  go_enter Tryz.func85, Tryz.ntmps85
  go_wp2_with fail
  refine (finish_any (unhide H) (by omega) (unhide S) a ha hx).mono ?_
  rintro e w1 ⟨k, rfl, he, h1, x1⟩
  obtain ⟨y, hy⟩ : ∃ y, y = itU k x := ⟨_, rfl⟩
  rw [← hy] at h1
  have EY := hide (show EndH x y from ⟨k, unhide he, hy⟩)
  clear he hy
  go_wp2_with fail
  refine (begin_any (unhide h1) ((unhide EY).snd (unhide S)).2 a ha x1).mono ?_
  rintro e w2 ⟨rfl, h2, x2⟩
  go_wp2_with fail
  refine (finish_any (unhide h2) hC (((unhide EY).snd (unhide S)).1.begin ((unhide EY).snd (unhide S)).2) a ha x2).mono ?_
  rintro e w3 ⟨k2, rfl, he, h3, x3⟩
  have EZ := hide (show EndH (toPh y 1 0) (itU k2 (toPh y 1 0)) from ⟨k2, unhide he, rfl⟩)
  clear he
  go_wp2_with fail
  go_end0
  exact ⟨y, _, rfl, ⟨unhide EY, unhide EZ⟩, unhide h3, x3⟩
end Go.Proofs.YtkabcfhemljnbaaGreat

namespace Go.Proofs.YtkabcfhemljnbaaGreat
open Go.RowKit
attribute [local go_sem ↓] Go.wp_at_zero Go.wp_at_succ

theorem GOk.set11 {B : Nat} {w : World} {g : Nat} {x : Hp} (h : GOk B w g x) (v : Int) : GOk B (w.setCell ⟨g, 11, none⟩ (iv v)) g { x with rounds := v } := by
  obtain ⟨ar, kr, ac, kc, vg, br, bc, pb, pa, pk, role, h⟩ := h
  exact ⟨_, _, _, _, _, _, _, _, _, _, _, h.boxed (x' := { x with rounds := v }) (Only.setCell (S := fun q => q = g) (Only.refl _ w) (p := ⟨g, 11, none⟩) rfl _) (h.nf.set _ _) rfl rfl rfl (h.bx.set11 v)⟩
set_option maxRecDepth 100000 in
set_option maxHeartbeats 600000 in
theorem l3close_end (B g : Nat) (x : Hp) (w : World) (h : GOk B w g x) (s : Snd x) (a : World) (ha : a.heap.size ≤ B) (hx : Ext a w) (h0 : x.hand = 0) :
    Calls Tryz.prog 170 #[.pointer (some ⟨g, 0, none⟩)] w fun e w' => e = .returned (.tuple #[]) ∧ GOk B w' g (unit6 x) ∧ Ext a w' := by
  have HO := hide h
  obtain ⟨c6, _, _, _, lo, hgw⟩ := h.box
  rw [h0] at c6
  have E := hide (show unit6 x = { toPh x 0 0 with rounds := if x.rounds < 1000000000 then x.rounds + 1 else x.rounds } by unfold unit6; rw [if_pos h0]; rfl)
  have hr := s.r1.rounds
  clear h h0 s
  go_enter Tryz.func170, Tryz.ntmps170
  go_wp2_with fail
  refine (l3phase_any B g x 0 0 _ (unhide HO) a ha hx).mono ?_
  rintro e w2 ⟨rfl, h2, x2⟩
  have H2 := hide h2
  have c11 : w2.cell? ⟨g, 11, none⟩ = some (iv x.rounds) := by
    obtain ⟨ar, kr, ac, kc, vg, br, bc, pb, pa, pk, role, h⟩ := h2
    exact h.bx.2.2.2.2.2.2.2.2.2.2.2.1
  have f11 := (h2.box).2.2.2.1 11
  have hgw2 : g < w2.heap.size := cell_lt c11
  clear h2
  by_cases hlt : x.rounds < 1000000000
  · have EF := hide (show unit6 x = { toPh x 0 0 with rounds := x.rounds + 1 } by rw [unhide E, if_pos hlt])
    have H3 := hide ((unhide H2).set11 (x.rounds + 1))
    have X3 := hide (x2.setCell (p := ⟨g, 11, none⟩) (show a.heap.size ≤ g by omega) (iv (x.rounds + 1)))
    have wr : wrap64 (x.rounds + 1) = x.rounds + 1 := by unfold wrap64; omega
    go_wp2_with fail
    try simp only [Exit.inBlock, Exit.then]
    refine bodyPost_ret (results_none rfl _ _ _) rfl ?_
    exact ⟨rfl, by rw [unhide EF]; exact unhide H3, unhide X3⟩
  · have EF := hide (show unit6 x = { toPh x 0 0 with rounds := x.rounds } by rw [unhide E, if_neg hlt])
    go_wp2_with fail
    try simp only [Exit.inBlock, Exit.then]
    refine bodyPost_ret (results_none rfl _ _ _) rfl ?_
    exact ⟨rfl, by rw [unhide EF]; exact unhide H2, x2⟩
end Go.Proofs.YtkabcfhemljnbaaGreat

namespace Go.Proofs.YtkabcfhemljnbaaGreat
open Go.RowKit
attribute [local go_sem ↓] Go.wp_at_zero Go.wp_at_succ

set_option maxRecDepth 100000 in
set_option maxHeartbeats 600000 in
theorem l3close_cell (B g : Nat) (x : Hp) (w : World) (h : GOk B w g x) (s : Snd x) (a : World) (ha : a.heap.size ≤ B) (hx : Ext a w) (i : Nat) (hi : x.hand = (i : Int) + 1) :
    Calls Tryz.prog 170 #[.pointer (some ⟨g, 0, none⟩)] w fun e w' => e = .returned (.tuple #[]) ∧ GOk B w' g (unit6 x) ∧ Ext a w' := by
  obtain ⟨ar, kr, ac, kc, vg, br, bc, pb, pa, pk, role, h⟩ := h
  have H := hide h
  have c4 := h.bx.2.2.2.2.1
  have c6 := h.bx.2.2.2.2.2.2.1
  have hgw : g < w.heap.size := cell_lt c4
  have lo := h.lo
  have n8 := s.ok.n8
  have hin : i < x.cells.length := by have := s.r1.hand; omega
  have hn : 0 < x.cells.length := by omega
  rw [h.hc hn] at c4
  rw [hi] at c6
  have p0 := (h.rw.s i hin).1
  have hbc : bc < w.heap.size := cell_lt p0
  have f6 := h.nf.2 6
  have EU := hide (show unit6 x = dropH (shutH x i) i by
    have e : (x.hand - 1).toNat = i := by omega
    unfold unit6
    rw [if_neg (by omega), e])
  have NGC := hide (show ¬ g = bc from fun e => by have h1 := h.sp.g; have h2 := h.sp.c hn; rw [e] at h1; omega)
  have ngc : ¬ g = bc := unhide NGC
  have ncg : ¬ bc = g := fun e => unhide NGC e.symm
  have h60 : (((i : Int) + 1) == 0) = false := by simp; omega
  have i0 : (0:Int) ≤ (i:Int) := by omega
  have i1 : (i:Int) < (x.cells.length:Int) := by omega
  have W1G := hide (show GAt B (w.setCell ⟨g, 6, none⟩ (iv i)) g { x with hand := (i : Int) } ar kr ac kc vg br bc pb pa pk role from h.boxed (x' := { x with hand := (i : Int) }) (Only.setCell (S := fun q => q = g) (Only.refl _ w) (p := ⟨g, 6, none⟩) rfl _) (h.nf.set _ _) rfl rfl rfl (h.bx.set6 _))
  have X1 := hide (hx.setCell (p := ⟨g, 6, none⟩) (show a.heap.size ≤ g by omega) (iv i))
  clear h s hi
  go_enter Tryz.func170, Tryz.ntmps170
  go_wp2_with fail
  obtain ⟨W1, hW1⟩ : ∃ W, W = w.setCell ⟨g, 6, none⟩ (iv i) := ⟨_, rfl⟩
  rw [← hW1] at W1G X1 ⊢
  clear hW1 c4 c6 p0 f6 hbc
  have c4 := (unhide W1G).bx.2.2.2.2.1
  rw [(unhide H).hc hn] at c4
  have c6 : W1.cell? ⟨g, 6, none⟩ = some (iv i) := (unhide W1G).bx.2.2.2.2.2.2.1
  have p0 : W1.cell? ⟨bc, i * 8, none⟩ = some (iv (x.c i).st) := ((unhide W1G).rw.s i hin).1
  have hgW : g < W1.heap.size := cell_lt c6
  have hbc : bc < W1.heap.size := cell_lt p0
  have f4 := (unhide W1G).nf.2 4
  cases q2 : ((x.c i).st == 2)
  · have EZ := hide (show ({ x with hand := (i : Int) } : Hp) = shutH x i by unfold shutH; rw [if_neg (by intro e; simp [e] at q2)])
    go_quiet (fail)
    obtain ⟨WZ, hWZ⟩ : ∃ W, W = W1.drewN nq := ⟨_, rfl⟩
    have GZ := hide (show GAt B WZ g (shutH x i) ar kr ac kc vg br bc pb pa pk role by rw [hWZ, ← unhide EZ]; exact (unhide W1G).ext ((Ext.refl W1).drewN _))
    have XZ := hide (show Ext a WZ by rw [hWZ]; exact (unhide X1).drewN _)
    have LZ := hide (show (shutH x i).cells.length = x.cells.length by rw [← unhide EZ])
    have SZ := hide (show ((shutH x i).c i).st = (x.c i).st by rw [← unhide EZ]; rfl)
    go_wp2_with fail
    rw [← hWZ]
    clear hWZ c4 c6 p0 hgW hbc f4
    have c4 := (unhide GZ).bx.2.2.2.2.1
    rw [(unhide H).hc hn, unhide LZ] at c4
    have c6 : WZ.cell? ⟨g, 6, none⟩ = some (iv i) := (unhide GZ).bx.2.2.2.2.2.2.1
    have p0 : WZ.cell? ⟨bc, i * 8, none⟩ = some (iv (x.c i).st) := by have := ((unhide GZ).rw.s i (by rw [unhide LZ]; exact hin)).1; rw [unhide SZ] at this; exact this
    have f4 := (unhide GZ).nf.2 4
    have hgW : g < WZ.heap.size := cell_lt c6
    have hbc : bc < WZ.heap.size := cell_lt p0
    cases qL : ((i : Int) == (x.cells.length : Int) - 1)
    · have EF := hide (show unit6 x = shutH x i by rw [unhide EU]; unfold dropH; rw [if_neg]; intro e; have := e.1; rw [unhide LZ] at this; simp at qL; omega)
      go_quiet (fail)
      go_wp2_with fail
      go_end0
      exact ⟨rfl, by rw [unhide EF]; exact ⟨_, _, _, _, _, _, _, _, _, _, _, (unhide GZ).ext ((Ext.refl WZ).drewN _)⟩, (unhide XZ).drewN _⟩
    · cases q0 : ((x.c i).st == 0)
      · have EF := hide (show unit6 x = shutH x i by rw [unhide EU]; unfold dropH; rw [if_neg]; intro e; have := e.2; rw [unhide SZ] at this; simp [this] at q0)
        go_quiet (fail)
        go_wp2_with fail
        go_end0
        exact ⟨rfl, by rw [unhide EF]; exact ⟨_, _, _, _, _, _, _, _, _, _, _, (unhide GZ).ext ((Ext.refl WZ).drewN _)⟩, (unhide XZ).drewN _⟩
      · have SZ2 := hide (show ((shutH x i).c i).st = 0 by rw [unhide SZ]; simpa using q0)
        have EF := hide (show unit6 x = { shutH x i with cells := (shutH x i).cells.take i } by rw [unhide EU]; unfold dropH; rw [if_pos ⟨by rw [unhide LZ]; simp at qL; omega, unhide SZ2⟩])
        have FN := hide (show ∀ n, GOk B ((WZ.drewN n).setCell ⟨g, 4, none⟩ (.slice (some ⟨bc, 0, none⟩) i kc)) g { shutH x i with cells := (shutH x i).cells.take i } ∧ Ext a ((WZ.drewN n).setCell ⟨g, 4, none⟩ (.slice (some ⟨bc, 0, none⟩) i kc)) from fun n => by
          have g1 := ((unhide GZ).ext ((Ext.refl WZ).drewN n)).drop i (by rw [unhide LZ]; simp at qL; omega)
          rw [(unhide H).hc hn] at g1
          exact ⟨g1, ((unhide XZ).drewN n).setCell (p := ⟨g, 4, none⟩) (show a.heap.size ≤ g by omega) _⟩)
        have kl : (i : Int) ≤ (kc : Int) := by have := (unhide H).kl; omega
        go_quiet (fail)
        go_wp2_with fail
        go_region
        all_goals
          go_wp2_with fail
          go_end0
          exact ⟨rfl, by rw [unhide EF]; exact (unhide FN _).1, (unhide FN _).2⟩
  · obtain ⟨r0, r1, r2, r3, r4, r5, r6⟩ := (unhide W1G).rw.s i hin
    have r7 := (unhide W1G).rw.p7 i hin
    have fc := ((unhide W1G).rw.nc hn).1.2
    go_quiet (fail)
    go_wp2_with fail
    go_region
    all_goals
      obtain ⟨WZ, hWZ⟩ : ∃ W, W = wipeW (W1.drewN (nq + 1)) bc (i * 8) 0 0 := ⟨_, rfl⟩
      have EZ := hide (show ({ x with cells := x.cells.set i ⟨0, 0, 0, 0, 0, 0, 0, []⟩, hand := (i : Int) } : Hp) = shutH x i by unfold shutH; rw [if_pos (by simpa using q2)]; rfl)
      have GZ := hide (show GAt B WZ g (shutH x i) ar kr ac kc vg br bc pb (fun q => if q = i then none else pa q) (fun q => if q = i then 0 else pk q) role by
        have g1 := (unhide W1G).ext ((Ext.refl W1).drewN (nq + 1))
        obtain ⟨k1, k2⟩ := wipe_same (W1.drewN (nq + 1)) bc (i * 8) 0 0 _ _ (g1.rw.s i hin) (g1.rw.p7 i hin)
        rw [hWZ, ← unhide EZ]
        exact g1.clear i hin _ rfl (wipe_only _ _ _ _ _) (wipe_nf (g1.rw.nc hn).1 _ _ _) k1 k2 (fun k hk => wipe_other _ _ _ _ _ k hk))
      have XZ := hide (show Ext a WZ by rw [hWZ]; exact (wipe_only _ _ _ _ _).ext ((unhide X1).drewN _) (fun q hq e => by have := ((unhide H).rw.nc hn).2; omega))
      have LZ := hide (show (shutH x i).cells.length = x.cells.length by rw [← unhide EZ]; simp)
      have SZ0 := hide (show ((shutH x i).c i).st = 0 by
        have := Hp.c_set x i ⟨0, 0, 0, 0, 0, 0, 0, []⟩ hin i
        rw [← unhide EZ]
        have e2 : ({ x with cells := x.cells.set i ⟨0, 0, 0, 0, 0, 0, 0, []⟩, hand := (i : Int) } : Hp).c i = ({ x with cells := x.cells.set i ⟨0, 0, 0, 0, 0, 0, 0, []⟩ } : Hp).c i := rfl
        rw [e2, this, if_pos rfl])
      unfold wipeW at hWZ
      go_wp2_with fail
      rw [← hWZ]
      clear hWZ c4 c6 p0 hgW hbc f4 r0 r1 r2 r3 r4 r5 r6 r7 fc
      have c4 := (unhide GZ).bx.2.2.2.2.1
      rw [(unhide H).hc hn, unhide LZ] at c4
      have c6 : WZ.cell? ⟨g, 6, none⟩ = some (iv i) := (unhide GZ).bx.2.2.2.2.2.2.1
      have p0 : WZ.cell? ⟨bc, i * 8, none⟩ = some (iv 0) := by have := ((unhide GZ).rw.s i (by rw [unhide LZ]; exact hin)).1; rw [unhide SZ0] at this; exact this
      have f4 := (unhide GZ).nf.2 4
      have hgW : g < WZ.heap.size := cell_lt c6
      have hbc : bc < WZ.heap.size := cell_lt p0
      cases qL : ((i : Int) == (x.cells.length : Int) - 1)
      · have EF := hide (show unit6 x = shutH x i by rw [unhide EU]; unfold dropH; rw [if_neg]; intro e; have := e.1; rw [unhide LZ] at this; simp at qL; omega)
        go_quiet (fail)
        go_wp2_with fail
        go_end0
        exact ⟨rfl, by rw [unhide EF]; exact ⟨_, _, _, _, _, _, _, _, _, _, _, (unhide GZ).ext ((Ext.refl WZ).drewN _)⟩, (unhide XZ).drewN _⟩
      · skip
        have EF := hide (show unit6 x = { shutH x i with cells := (shutH x i).cells.take i } by rw [unhide EU]; unfold dropH; rw [if_pos ⟨by rw [unhide LZ]; simp at qL; omega, unhide SZ0⟩])
        have FN := hide (show ∀ n, GOk B ((WZ.drewN n).setCell ⟨g, 4, none⟩ (.slice (some ⟨bc, 0, none⟩) i kc)) g { shutH x i with cells := (shutH x i).cells.take i } ∧ Ext a ((WZ.drewN n).setCell ⟨g, 4, none⟩ (.slice (some ⟨bc, 0, none⟩) i kc)) from fun n => by
          have g1 := ((unhide GZ).ext ((Ext.refl WZ).drewN n)).drop i (by rw [unhide LZ]; simp at qL; omega)
          rw [(unhide H).hc hn] at g1
          exact ⟨g1, ((unhide XZ).drewN n).setCell (p := ⟨g, 4, none⟩) (show a.heap.size ≤ g by omega) _⟩)
        have kl : (i : Int) ≤ (kc : Int) := by have := (unhide H).kl; omega
        go_quiet (fail)
        go_wp2_with fail
        go_region
        all_goals
          go_wp2_with fail
          go_end0
          exact ⟨rfl, by rw [unhide EF]; exact (unhide FN _).1, (unhide FN _).2⟩
/-- the model's unit of closing -/
theorem l3close_any (B g : Nat) (x : Hp) (w : World) (h : GOk B w g x) (s : Snd x) (a : World) (ha : a.heap.size ≤ B) (hx : Ext a w) :
    Calls Tryz.prog 170 #[.pointer (some ⟨g, 0, none⟩)] w fun e w' => e = .returned (.tuple #[]) ∧ GOk B w' g (unit6 x) ∧ Ext a w' := by
  by_cases h0 : x.hand = 0
  · exact l3close_end B g x w h s a ha hx h0
  · exact l3close_cell B g x w h s a ha hx (x.hand - 1).toNat (by have := s.r1.hand; omega)
end Go.Proofs.YtkabcfhemljnbaaGreat

namespace Go.Proofs.YtkabcfhemljnbaaGreat
open Go.RowKit
attribute [local go_sem ↓] Go.wp_at_zero Go.wp_at_succ

set_option maxRecDepth 100000 in
set_option maxHeartbeats 600000 in
theorem l3mend_any (B g : Nat) (x : Hp) (w : World) (h : GOk B w g x) (s : Snd x) (hp : x.phase = 5) (a : World) (ha : a.heap.size ≤ B) (hx : Ext a w) :
    Calls Tryz.prog 169 #[.pointer (some ⟨g, 0, none⟩)] w fun e w' => e = .returned (.tuple #[]) ∧ GOk B w' g (unit5 x) ∧ Ext a w' := by
  have hO := h
  obtain ⟨ar, kr, ac, kc, vg, br, bc, pb, pa, pk, role, h⟩ := h
  have HO := hide hO
  have c4 := h.bx.2.2.2.2.1
  have c6 := h.bx.2.2.2.2.2.2.1
  have c7 := h.bx.2.2.2.2.2.2.2.1
  have hgw : g < w.heap.size := cell_lt c4
  have lo := h.lo
  have n8 := s.ok.n8
  have hh := s.r1.hand
  have hs := s.r1.sub
  by_cases he : x.hand = x.cells.length
  · have E := hide (show unit5 x = toPh x 6 x.cells.length by unfold unit5; rw [if_pos he])
    have heb : (x.hand == (x.cells.length : Int)) = true := by simpa using he
    clear he h hO s
    go_enter Tryz.func169, Tryz.ntmps169
    go_wp2_with fail
    go_quiet (fail)
    go_wp2_with fail
    refine (l3phase_any B g x 6 x.cells.length _ ((unhide HO).ext ((Ext.refl w).drewN _)) a ha (hx.drewN _)).mono ?_
    rintro e w2 ⟨rfl, h2, x2⟩
    have H2 := hide h2
    clear h2
    go_wp2_with fail
    try simp only [Exit.inBlock, Exit.then]
    refine bodyPost_ret (results_none rfl _ _ _) rfl ?_
    exact ⟨rfl, by rw [unhide E]; exact unhide H2, x2⟩
  · obtain ⟨i, hi⟩ : ∃ i : Nat, x.hand = (i : Int) := ⟨x.hand.toNat, by omega⟩
    have hin : i < x.cells.length := by omega
    have ei : x.hand.toNat = i := by omega
    obtain ⟨k, hk⟩ : ∃ k : Nat, x.sub = (k : Int) := ⟨x.sub.toNat, by omega⟩
    have ek : x.sub.toNat = k := by omega
    have hp2 := s.ok.p200 i hin
    by_cases hl : k < (x.c i).prs.length
    · have E : unit5 x = { x with cells := x.cells.set i (mendC x (x.c i) k), sub := (k : Int) + 1 } := by
        unfold unit5
        rw [if_neg he, ei, if_pos (by omega), ek, hk]
      have nd : ¬ Doomed x i := fun d => by have := d.1; omega
      have P := ((s.r4.2 i hin).2 k hl).2 nd
      rw [E]
      exact l3mend_pair B g x w hO n8 a ha hx i hi hin k hk hl hp2 P.1.1 P.2.1
    · have E := hide (show unit5 x = { x with hand := x.hand + 1, sub := 0 } by
        unfold unit5
        rw [if_neg he, ei, if_neg (by omega)])
      have heb : (x.hand == (x.cells.length : Int)) = false := by simpa using he
      have hn : 0 < x.cells.length := by omega
      rw [h.hc hn] at c4
      have p7 := h.rw.p7 i hin
      have hbc : bc < w.heap.size := cell_lt p7
      have f6 := h.nf.2 6
      have f7 := h.nf.2 7
      rw [hi] at heb c6
      rw [hk] at c7
      have i0 : (0:Int) ≤ (i:Int) := by omega
      have i1 : (i:Int) < (x.cells.length:Int) := by omega
      have k1 : ¬ (k:Int) < ((x.c i).prs.length:Int) := by omega
      have FN := hide (show ∀ n, GOk B (((w.drewN n).setCell ⟨g, 6, none⟩ (iv ((i : Int) + 1))).setCell ⟨g, 7, none⟩ (iv 0)) g { x with hand := (i : Int) + 1, sub := 0 } ∧ Ext a (((w.drewN n).setCell ⟨g, 6, none⟩ (iv ((i : Int) + 1))).setCell ⟨g, 7, none⟩ (iv 0)) from fun n => ⟨((hO.ext ((Ext.refl w).drewN n)).set6 _).set7 0, ((hx.drewN n).setCell (p := ⟨g, 6, none⟩) (show a.heap.size ≤ g by omega) _).setCell (p := ⟨g, 7, none⟩) (show a.heap.size ≤ g by omega) _⟩)
      rw [hi] at E
      clear he h hO s hi hk ei ek hl hh hs
      go_enter Tryz.func169, Tryz.ntmps169
      go_wp2_with fail
      go_quiet (fail)
      obtain ⟨m1, rfl⟩ : ∃ m, m = nq := ⟨_, rfl⟩
      go_wp2_with fail
      go_quiet (fail)
      go_wp2_with fail
      go_end0
      exact ⟨rfl, by rw [unhide E]; exact (unhide FN _).1, (unhide FN _).2⟩
end Go.Proofs.YtkabcfhemljnbaaGreat

namespace Go.Proofs.YtkabcfhemljnbaaGreat
open Go.RowKit
attribute [local go_sem ↓] Go.wp_at_zero Go.wp_at_succ

set_option maxRecDepth 100000 in
set_option maxHeartbeats 600000 in
theorem l3sweep_any (B g : Nat) (x : Hp) (w : World) (h : GOk B w g x) (s : Snd x) (a : World) (ha : a.heap.size ≤ B) (hx : Ext a w) :
    Calls Tryz.prog 167 #[.pointer (some ⟨g, 0, none⟩)] w fun e w' => e = .returned (.tuple #[]) ∧ GOk B w' g (unit3 x) ∧ Ext a w' := by
  obtain ⟨ar, kr, ac, kc, vg, br, bc, pb, pa, pk, role, h⟩ := h
  have HO := hide (show GOk B w g x from ⟨_, _, _, _, _, _, _, _, _, _, _, h⟩)
  have H := hide h
  have c4 := h.bx.2.2.2.2.1
  have c6 := h.bx.2.2.2.2.2.2.1
  have c1 := h.bx.2.1
  have hgw : g < w.heap.size := cell_lt c4
  have lo := h.lo
  have n8 := s.ok.n8
  have S := hide s
  have hh := s.r1.hand
  clear h
  by_cases he : x.hand = x.cells.length
  · have E := hide (show unit3 x = toPh x 4 0 by unfold unit3; rw [if_pos he])
    have heb : (x.hand == (x.cells.length : Int)) = true := by simpa using he
    clear he
    go_enter Tryz.func167, Tryz.ntmps167
    go_wp2_with fail
    go_quiet (fail)
    go_wp2_with fail
    refine (l3phase_any B g x 4 0 _ ((unhide HO).ext ((Ext.refl w).drewN _)) a ha (hx.drewN _)).mono ?_
    rintro e w2 ⟨rfl, h2, x2⟩
    have H2 := hide h2
    clear h2
    go_wp2_with fail
    try simp only [Exit.inBlock, Exit.then]
    refine bodyPost_ret (results_none rfl _ _ _) rfl ?_
    exact ⟨rfl, by rw [unhide E]; exact unhide H2, x2⟩
  · obtain ⟨i, hi⟩ : ∃ i : Nat, x.hand = (i : Int) := ⟨x.hand.toNat, by omega⟩
    have hin : i < x.cells.length := by omega
    have V := hide (show wrap64 (1 + ((x.c i).prs.length : Int)) = 1 + ((x.c i).prs.length : Int) ∧ wrap64 (x.used - (1 + ((x.c i).prs.length : Int))) = x.used - (1 + ((x.c i).prs.length : Int)) by
      have hlp := s.ok.p200 i hin
      have hu1 : x.used ≤ 4000 := by have := s.r3.2; have := s.r1.room; omega
      have hu0 : 0 ≤ x.used := by have := s.r3.1; omega
      exact ⟨wrap_fit _ (by omega) (by omega), wrap_fit _ (by omega) (by omega)⟩)
    have heb : (x.hand == (x.cells.length : Int)) = false := by simpa using he
    rw [hi] at heb c6
    have hn : 0 < x.cells.length := by omega
    rw [(unhide H).hc hn] at c4
    obtain ⟨p0, p1, p2, p3, p4, p5, p6⟩ := (unhide H).rw.s i hin
    have p7 := (unhide H).rw.p7 i hin
    have hbc : bc < w.heap.size := cell_lt p0
    have NGC := hide (show ¬ g = bc from fun e => by have h1 := (unhide H).sp.g; have h2 := (unhide H).sp.c hn; rw [e] at h1; omega)
    have i0 : (0:Int) ≤ (i:Int) := by omega
    have i1 : (i:Int) < (x.cells.length:Int) := by omega
    have ei : x.hand.toNat = i := by omega
    have EU := hide (show unit3 x = if whB (x.c i) = true then { x with used := x.used - (1 + (x.c i).prs.length), cells := x.cells.set i Cl0, hand := x.hand + 1 } else { x with cells := x.cells.set i (whiteC (x.c i)), hand := x.hand + 1 } by unfold unit3; rw [if_neg he, ei])
    have HI := hide hi
    have zn := fun n j => dalloc_new w n #[.int .i64 0, .int .i64 0, .int .i64 0, .int .i64 0, .int .i64 0, .int .i64 0, .int .i64 0, .slice none 0 0] 86 j
    have zf := fun n j => dalloc_fr w n #[.int .i64 0, .int .i64 0, .int .i64 0, .int .i64 0, .int .i64 0, .int .i64 0, .int .i64 0, .slice none 0 0] 86 j
    have zo := fun n o b j (h : b < w.heap.size) => dalloc_old w n o b j h
    clear he hi ei hh
    go_enter Tryz.func167, Tryz.ntmps167
    go_wp2_with fail
    go_quiet (fail)
    go_wp2_with fail
    go_region
    all_goals
      obtain ⟨W2, hW2⟩ : ∃ W, W = (((((((((w.drewN (nq + 1)).alloc (.cells #[.int .i64 0, .int .i64 0, .int .i64 0, .int .i64 0, .int .i64 0, .int .i64 0, .int .i64 0, .slice none 0 0] 86)).setCell ⟨w.heap.size, 0, none⟩ (.int .i64 (x.c i).st)).setCell ⟨w.heap.size, 1, none⟩ (.int .i64 (x.c i).kind)).setCell ⟨w.heap.size, 2, none⟩ (.int .i64 (x.c i).weak)).setCell ⟨w.heap.size, 3, none⟩ (.int .i64 (x.c i).last)).setCell ⟨w.heap.size, 4, none⟩ (.int .i64 (x.c i).born)).setCell ⟨w.heap.size, 5, none⟩ (.int .i64 (x.c i).color)).setCell ⟨w.heap.size, 6, none⟩ (.int .i64 (x.c i).to)).setCell ⟨w.heap.size, 7, none⟩ (.slice (pa i) (x.c i).prs.length (pk i)) := ⟨_, rfl⟩
      have X2 : Ext w W2 := by
        rw [hW2]
        exact (((((((((Ext.refl w).drewN (nq + 1)).alloc _).setCell (Nat.le_refl _) _).setCell (Nat.le_refl _) _).setCell (Nat.le_refl _) _).setCell (Nat.le_refl _) _).setCell (Nat.le_refl _) _).setCell (Nat.le_refl _) _).setCell (Nat.le_refl _) _ |>.setCell (Nat.le_refl _) _
      have l0 : W2.cell? ⟨w.heap.size, 0, none⟩ = some (iv (x.c i).st) := by
        rw [hW2, cell_other _ (.inr (by omega)), cell_other _ (.inr (by omega)), cell_other _ (.inr (by omega)), cell_other _ (.inr (by omega)), cell_other _ (.inr (by omega)), cell_other _ (.inr (by omega)), cell_other _ (.inr (by omega))]
        exact World.cell?_setCell_same _ _ _ (by rw [zn]; rfl)
      have l5 : W2.cell? ⟨w.heap.size, 5, none⟩ = some (iv (x.c i).color) := by
        rw [hW2, cell_other _ (.inr (by omega)), cell_other _ (.inr (by omega))]
        exact World.cell?_setCell_same _ _ _ (by rw [cell_other _ (.inr (by omega)), cell_other _ (.inr (by omega)), cell_other _ (.inr (by omega)), cell_other _ (.inr (by omega)), cell_other _ (.inr (by omega)), zn]; rfl)
      have l7 : W2.cell? ⟨w.heap.size, 7, none⟩ = some (.slice (pa i) (x.c i).prs.length (pk i)) := by
        rw [hW2]
        exact World.cell?_setCell_same _ _ _ (by rw [cell_other _ (.inr (by omega)), cell_other _ (.inr (by omega)), cell_other _ (.inr (by omega)), cell_other _ (.inr (by omega)), cell_other _ (.inr (by omega)), cell_other _ (.inr (by omega)), cell_other _ (.inr (by omega)), zn]; rfl)
      rw [← hW2]
      clear hW2 zn zf zo p0 p1 p2 p3 p4 p6 p7
      have H2 := hide ((unhide H).ext X2)
      have d6 := X2.keep c6
      have d4 := X2.keep c4
      have d1 := X2.keep c1
      have d5 := X2.keep p5
      have hgW : g < W2.heap.size := cell_lt d6
      have f6 : W2.frozen? ⟨g, 6, none⟩ = false := (unhide H2).nf.2 6
      have f1 : W2.frozen? ⟨g, 1, none⟩ = false := (unhide H2).nf.2 1
      have fc := ((unhide H2).rw.nc hn).1.2
      have ngc : ¬ g = bc := unhide NGC
      have ncg : ¬ bc = g := fun e => unhide NGC e.symm
      clear c1 c4 c6 p5
      have G3 := hide (show GOk B (W2.setCell ⟨bc, i * 8 + 5, none⟩ (iv 0)) g { x with cells := x.cells.set i (whiteC (x.c i)) } by
        refine ⟨_, _, _, _, _, _, _, _, _, _, _, (unhide H2).setc hin rfl (Only.setCell (S := fun q => q = bc) (Only.refl _ W2) (p := ⟨bc, i * 8 + 5, none⟩) rfl _) ?_ (fun k hk => cell_other _ (.inr (by omega))) (((unhide H2).rw.nc hn).1.set _ _)⟩
        obtain ⟨a0, a1, a2, a3, a4, a5, a6⟩ := (unhide H2).rw.s i hin
        refine ⟨?_, ?_, ?_, ?_, ?_, World.cell?_setCell_same _ _ _ a5, ?_⟩
        · rw [cell_other _ (.inr (by omega))]; exact a0
        · rw [cell_other _ (.inr (by omega))]; exact a1
        · rw [cell_other _ (.inr (by omega))]; exact a2
        · rw [cell_other _ (.inr (by omega))]; exact a3
        · rw [cell_other _ (.inr (by omega))]; exact a4
        · rw [cell_other _ (.inr (by omega))]; exact a6)
      have G4 := hide (((unhide G3).set6 ((i : Int) + 1)).ext (Ext.refl _).drew)
      clear G3
      have hbB := ((unhide H2).rw.nc hn).2
      have X3 := hide (((hx.trans X2).setCell (p := ⟨bc, i * 8 + 5, none⟩) (show a.heap.size ≤ bc from Nat.le_trans ha hbB) (iv 0)).setCell (p := ⟨g, 6, none⟩) (show a.heap.size ≤ g by omega) (iv ((i : Int) + 1)) |>.drew)
      cases q1 : ((x.c i).st == 1)
      · have EF := hide (show unit3 x = { x with cells := x.cells.set i (whiteC (x.c i)), hand := x.hand + 1 } by rw [unhide EU, if_neg (by simp [whB, q1])])
        rw [unhide HI] at EF
        go_wp2_with fail
        go_region
        all_goals
          go_wp2_with fail
          go_end0
          exact ⟨rfl, by rw [unhide EF]; exact unhide G4, unhide X3⟩
      · cases q2 : ((x.c i).color == 0)
        · have EF := hide (show unit3 x = { x with cells := x.cells.set i (whiteC (x.c i)), hand := x.hand + 1 } by rw [unhide EU, if_neg (by simp [whB, q2])])
          rw [unhide HI] at EF
          go_wp2_with fail
          go_region
          all_goals
            go_wp2_with fail
            go_end0
            exact ⟨rfl, by rw [unhide EF]; exact unhide G4, unhide X3⟩
        · have EF := hide (show unit3 x = { x with used := x.used - (1 + (x.c i).prs.length), cells := x.cells.set i Cl0, hand := x.hand + 1 } by rw [unhide EU, if_pos (by simp [whB, q1, q2])])
          rw [unhide HI] at EF
          clear G4 X3
          go_wp2_with fail
          go_region
          all_goals
            rw [(unhide V).1, (unhide V).2]
            obtain ⟨W3, hW3⟩ : ∃ W, W = (W2.setCell ⟨g, 1, none⟩ (iv (x.used - (1 + (x.c i).prs.length)))).drew := ⟨_, rfl⟩
            have H3 := hide (show GAt B W3 g { x with used := x.used - (1 + (x.c i).prs.length) } ar kr ac kc vg br bc pb pa pk role by
              rw [hW3]
              exact ((unhide H2).boxed (x' := { x with used := x.used - (1 + (x.c i).prs.length) }) (Only.setCell (S := fun q => q = g) (Only.refl _ W2) (p := ⟨g, 1, none⟩) rfl _) ((unhide H2).nf.set _ _) rfl rfl rfl ((unhide H2).bx.set1 _)).ext (Ext.refl _).drew)
            have X3 : Ext a W3 := by rw [hW3]; exact ((hx.trans X2).setCell (p := ⟨g, 1, none⟩) (show a.heap.size ≤ g by omega) _).drew
            rw [← hW3]
            clear hW3 V l0 l5 l7 d1 d4 d5 d6 f6 f1 fc X2
            have e4 := (unhide H3).bx.2.2.2.2.1
            rw [(unhide H2).hc hn] at e4
            have e6 : W3.cell? ⟨g, 6, none⟩ = some (iv i) := by rw [← unhide HI]; exact (unhide H3).bx.2.2.2.2.2.2.1
            obtain ⟨e0, e1, e2, e3, ee4, e5, ee6⟩ := (unhide H3).rw.s i hin
            have e7 := (unhide H3).rw.p7 i hin
            have f6 : W3.frozen? ⟨g, 6, none⟩ = false := (unhide H3).nf.2 6
            have fc := ((unhide H3).rw.nc hn).1.2
            have G4 := hide ((((unhide H3).wipe i hin 0 0).set6 ((i : Int) + 1)).ext (Ext.refl _).drew)
            have X4 := hide (show Ext a (((wipeW W3 bc (i * 8) 0 0).setCell ⟨g, 6, none⟩ (iv ((i : Int) + 1))).drew) from (((wipe_only W3 bc (i * 8) 0 0).ext X3 (fun q hq e => by have := ((unhide H3).rw.nc hn).2; omega)).setCell (p := ⟨g, 6, none⟩) (show a.heap.size ≤ g by omega) _).drew)
            unfold wipeW at G4 X4
            go_wp2_with fail
            go_region
            all_goals
              go_wp2_with fail
              go_end0
              exact ⟨rfl, by rw [unhide EF]; exact unhide G4, unhide X4⟩
end Go.Proofs.YtkabcfhemljnbaaGreat
