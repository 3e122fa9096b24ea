import Derived.Test.YtkabcfhemljnbaaGreatLx
namespace Go.Proofs.YtkabcfhemljnbaaGreat
open Go.RowKit
attribute [local go_sem ↓] Go.wp_at_zero Go.wp_at_succ

/-- a pair written into a row -/
def pairO (w : World) (b o : Nat) (p : Pr) : World := (((((w.setCell ⟨b, o, none⟩ (iv p.key.k)).setCell ⟨b, o + 1, none⟩ (iv p.key.n)).setCell ⟨b, o + 2, none⟩ (iv p.key.a)).setCell ⟨b, o + 3, none⟩ (iv p.val.k)).setCell ⟨b, o + 4, none⟩ (iv p.val.n)).setCell ⟨b, o + 5, none⟩ (iv p.val.a)
theorem pairO_at (w : World) (b o : Nat) (p q : Pr) (h : PrAt w b o q) : PrAt (pairO w b o p) b o p := by
  obtain ⟨h0, h1, h2, h3, h4, h5⟩ := h
  unfold pairO
  refine ⟨?_, ?_, ?_, ?_, ?_, ?_⟩
  · iterate 5 rw [cell_other _ (.inr (by omega))]
    exact cs_same h0
  · iterate 4 rw [cell_other _ (.inr (by omega))]
    refine cs_same (u := iv q.key.n) ?_
    rw [cell_other _ (.inr (by omega))]; exact h1
  · iterate 3 rw [cell_other _ (.inr (by omega))]
    refine cs_same (u := iv q.key.a) ?_
    iterate 2 rw [cell_other _ (.inr (by omega))]
    exact h2
  · iterate 2 rw [cell_other _ (.inr (by omega))]
    refine cs_same (u := iv q.val.k) ?_
    iterate 3 rw [cell_other _ (.inr (by omega))]
    exact h3
  · rw [cell_other _ (.inr (by omega))]
    refine cs_same (u := iv q.val.n) ?_
    iterate 4 rw [cell_other _ (.inr (by omega))]
    exact h4
  · refine cs_same (u := iv q.val.a) ?_
    iterate 5 rw [cell_other _ (.inr (by omega))]
    exact h5
theorem pairO_only (w : World) (b o : Nat) (p : Pr) : Only (fun q => q = b) w (pairO w b o p) :=
  Only.setCell (S := fun q => q = b) (Only.setCell (S := fun q => q = b) (Only.setCell (S := fun q => q = b) (Only.setCell (S := fun q => q = b) (Only.setCell (S := fun q => q = b) (Only.setCell (S := fun q => q = b) (Only.refl _ w) (p := ⟨b, o, none⟩) rfl _) (p := ⟨b, o + 1, none⟩) rfl _) (p := ⟨b, o + 2, none⟩) rfl _) (p := ⟨b, o + 3, none⟩) rfl _) (p := ⟨b, o + 4, none⟩) rfl _) (p := ⟨b, o + 5, none⟩) rfl _
theorem pairO_nf {w : World} {b : Nat} (h : Nf1 b w) (o : Nat) (p : Pr) : Nf1 b (pairO w b o p) := (((((h.set _ _).set _ _).set _ _).set _ _).set _ _).set _ _
theorem pairO_other (w : World) (b o : Nat) (p : Pr) (k : Nat) (hk : k < o ∨ o + 6 ≤ k) : (pairO w b o p).cell? ⟨b, k, none⟩ = w.cell? ⟨b, k, none⟩ := by
  unfold pairO
  iterate 6 rw [cell_other _ (.inr (by omega))]
theorem pair_fr (w : World) (n : Nat) (p : Pr) (t : TypeId) (j : Nat) : (pairW ((w.drewN n).alloc (.cells #[.int .i64 0, .int .i64 0, .int .i64 0, .int .i64 0, .int .i64 0, .int .i64 0] t)) w.heap.size p).frozen? ⟨w.heap.size, j, none⟩ = false := by
  unfold pairW
  simp only [World.frozen?_setCell]
  exact dalloc_fr w n _ t j
set_option maxRecDepth 100000 in
set_option maxHeartbeats 600000 in
theorem l3mend_pair (B g : Nat) (x : Hp) (w : World) (h : GOk B w g x) (n8 : x.cells.length ≤ 8000) (a : World) (ha : a.heap.size ≤ B) (hx : Ext a w) (i : Nat) (hi : x.hand = (i : Int)) (hin : i < x.cells.length) (k : Nat) (hk : x.sub = (k : Int)) (hkl : k < (x.c i).prs.length) (p2 : (x.c i).prs.length ≤ 200) (F1 : Formed ((x.c i).p k).key x.cells.length) (F2 : Formed ((x.c i).p k).val x.cells.length) :
    Calls Tryz.prog 169 #[.pointer (some ⟨g, 0, none⟩)] w fun e w' => e = .returned (.tuple #[]) ∧ GOk B w' g { x with cells := x.cells.set i (mendC x (x.c i) k), sub := (k : Int) + 1 } ∧ Ext a w' := by
  obtain ⟨ar, kr, ac, kc, vg, br, bc, pb, pa, pk, role, h⟩ := h
  have H := hide h
  have hn : 0 < x.cells.length := by omega
  have c4 := h.bx.2.2.2.2.1
  have c6 := h.bx.2.2.2.2.2.2.1
  have c7 := h.bx.2.2.2.2.2.2.2.1
  rw [h.hc hn] at c4
  rw [hk] at c7
  rw [hi] at c6
  have p7 := h.rw.p7 i hin
  rw [(h.rw.pl i hin (by omega)).1] at p7
  obtain ⟨q0, q1, q2, q3, q4, q5⟩ := h.rw.p i hin k hkl
  have hgw : g < w.heap.size := cell_lt c4
  have lo := h.lo
  have f7 := h.nf.2 7
  have fp := (h.rw.pl i hin (by omega)).2.1.2
  have i0 : (0:Int) ≤ (i:Int) := by omega
  have i1 : (i:Int) < (x.cells.length:Int) := by omega
  have k0 : (0:Int) ≤ (k:Int) := by omega
  have k1 : (k:Int) < ((x.c i).prs.length:Int) := by omega
  have zn := fun n j => dalloc_new w n #[.int .i64 0, .int .i64 0, .int .i64 0, .int .i64 0, .int .i64 0, .int .i64 0] 123 j
  have zf := fun n j => dalloc_fr w n #[.int .i64 0, .int .i64 0, .int .i64 0, .int .i64 0, .int .i64 0, .int .i64 0] 123 j
  have zo := fun n o b j (h : b < w.heap.size) => dalloc_old w n o b j h
  have hbc : bc < w.heap.size := cell_lt p7
  have hpb : pb i < w.heap.size := cell_lt q0
  have ne : ((i : Int) == (x.cells.length : Int)) = false := by simp; omega
  have FF := hide (And.intro F1 F2)
  have HK := hide hk
  have HI := hide hi
  have NGP := hide (show ¬ g = pb i from fun e => by have h1 := h.sp.g; have h2 := h.sp.p i hin (by omega); rw [e] at h1; omega)
  clear h hi hk F1 F2
  go_enter Tryz.func169, Tryz.ntmps169
  go_wp2_with fail
  go_quiet (fail)
  obtain ⟨m1, rfl⟩ : ∃ m, m = nq := ⟨_, rfl⟩
  go_wp2_with fail
  go_quiet (fail)
  go_wp2_with fail
  go_region
  all_goals
    obtain ⟨W2, hW2⟩ : ∃ W, W = pairW ((w.drewN (m1 + nq + 1)).alloc (.cells #[.int .i64 0, .int .i64 0, .int .i64 0, .int .i64 0, .int .i64 0, .int .i64 0] 123)) w.heap.size ((x.c i).p k) := ⟨_, rfl⟩
    have PB := pair_box w (m1 + nq + 1) ((x.c i).p k) 123
    have PF := pair_fr w (m1 + nq + 1) ((x.c i).p k) 123
    rw [← hW2] at PB PF
    unfold pairW at hW2
    rw [← hW2]
    clear hW2 zn zf zo q0 q1 q2 q3 q4 q5
    obtain ⟨X2, y0, y1, y2, y3, y4, y5⟩ := PB
    have BX : w.heap.size < W2.heap.size := cell_lt y0
    clear c4 c6 c7 p7
    go_wp2_with fail
    refine (gres_any ((x.c i).p k).key _ ((unhide H).ext X2) (unhide FF).1).mono ?_
    rintro e w3 ⟨rfl, x3⟩
    obtain ⟨r1, hr1⟩ : ∃ r, r = resW x ((x.c i).p k).key := ⟨_, rfl⟩
    have R1 := hide hr1
    rw [← hr1]
    have z0 := x3.keep y0
    have z1 := x3.keep y1
    have z2 := x3.keep y2
    have z3 := x3.keep y3
    have z4 := x3.keep y4
    have z5 := x3.keep y5
    have PF3 := fun j => ((bcell x3).2 w.heap.size j BX).trans (PF j)
    have BX3 : w.heap.size < w3.heap.size := cell_lt z0
    have X3 := X2.trans x3
    clear hr1 y0 y1 y2 y3 y4 y5 PF BX X2 x3
    obtain ⟨W4, hW4⟩ : ∃ W, W = (((w3.setCell ⟨w.heap.size, 0, none⟩ (iv r1.k)).setCell ⟨w.heap.size, 1, none⟩ (iv r1.n)).setCell ⟨w.heap.size, 2, none⟩ (iv r1.a)) := ⟨_, rfl⟩
    have X4 : Ext w W4 := by rw [hW4]; exact ((X3.setCell (p := ⟨w.heap.size, 0, none⟩) (Nat.le_refl _) _).setCell (p := ⟨w.heap.size, 1, none⟩) (Nat.le_refl _) _).setCell (p := ⟨w.heap.size, 2, none⟩) (Nat.le_refl _) _
    have u0 : W4.cell? ⟨w.heap.size, 0, none⟩ = some (iv r1.k) := by rw [hW4, cell_other _ (.inr (by omega)), cell_other _ (.inr (by omega))]; exact cs_same z0
    have u1 : W4.cell? ⟨w.heap.size, 1, none⟩ = some (iv r1.n) := by rw [hW4, cell_other _ (.inr (by omega))]; exact cs_same ((cell_other _ (.inr (by omega))).trans z1)
    have u2 : W4.cell? ⟨w.heap.size, 2, none⟩ = some (iv r1.a) := by rw [hW4]; refine cs_same (u := iv ((x.c i).p k).key.a) ?_; rw [cell_other _ (.inr (by omega)), cell_other _ (.inr (by omega))]; exact z2
    have u3 : W4.cell? ⟨w.heap.size, 3, none⟩ = some (iv ((x.c i).p k).val.k) := by rw [hW4, cell_other _ (.inr (by omega)), cell_other _ (.inr (by omega)), cell_other _ (.inr (by omega))]; exact z3
    have u4 : W4.cell? ⟨w.heap.size, 4, none⟩ = some (iv ((x.c i).p k).val.n) := by rw [hW4, cell_other _ (.inr (by omega)), cell_other _ (.inr (by omega)), cell_other _ (.inr (by omega))]; exact z4
    have u5 : W4.cell? ⟨w.heap.size, 5, none⟩ = some (iv ((x.c i).p k).val.a) := by rw [hW4, cell_other _ (.inr (by omega)), cell_other _ (.inr (by omega)), cell_other _ (.inr (by omega))]; exact z5
    have PF4 : ∀ j, W4.frozen? ⟨w.heap.size, j, none⟩ = false := fun j => by rw [hW4]; simp only [World.frozen?_setCell]; exact PF3 j
    have BX4 : w.heap.size < W4.heap.size := cell_lt u0
    go_wp2_with fail
    rw [← hW4]
    clear hW4 z0 z1 z2 z3 z4 z5 PF3 BX3 X3
    refine (gres_any ((x.c i).p k).val _ ((unhide H).ext X4) (unhide FF).2).mono ?_
    rintro e w5 ⟨rfl, x5⟩
    obtain ⟨r2, hr2⟩ : ∃ r, r = resW x ((x.c i).p k).val := ⟨_, rfl⟩
    have R2 := hide hr2
    rw [← hr2]
    have t0 := x5.keep u0
    have t1 := x5.keep u1
    have t2 := x5.keep u2
    have t3 := x5.keep u3
    have t4 := x5.keep u4
    have t5 := x5.keep u5
    have PF5 := fun j => ((bcell x5).2 w.heap.size j BX4).trans (PF4 j)
    have BX5 : w.heap.size < w5.heap.size := cell_lt t0
    have X5 := X4.trans x5
    have H5 := hide ((unhide H).ext X5)
    have c4 := (unhide H5).bx.2.2.2.2.1
    have c6 := (unhide H5).bx.2.2.2.2.2.2.1
    have c7 := (unhide H5).bx.2.2.2.2.2.2.2.1
    rw [(unhide H).hc hn] at c4
    rw [unhide HK] at c7
    rw [unhide HI] at c6
    have p7 := (unhide H5).rw.p7 i hin
    rw [((unhide H).rw.pl i hin (by omega)).1] at p7
    obtain ⟨q0, q1, q2, q3, q4, q5⟩ := (unhide H5).rw.p i hin k hkl
    have g7 := (unhide H5).nf.2 7
    have gp := ((unhide H5).rw.pl i hin (by omega)).2.1.2
    have ngp : ¬ g = pb i := unhide NGP
    have npg : ¬ pb i = g := fun e => unhide NGP e.symm
    clear hr2 u0 u1 u2 u3 u4 u5 PF4 BX4 X4 x5 f7 fp
    obtain ⟨W6, hW6⟩ : ∃ W, W = (((w5.setCell ⟨w.heap.size, 3, none⟩ (iv r2.k)).setCell ⟨w.heap.size, 4, none⟩ (iv r2.n)).setCell ⟨w.heap.size, 5, none⟩ (iv r2.a)) := ⟨_, rfl⟩
    have X6 : Ext w W6 := by rw [hW6]; exact ((X5.setCell (p := ⟨w.heap.size, 3, none⟩) (Nat.le_refl _) _).setCell (p := ⟨w.heap.size, 4, none⟩) (Nat.le_refl _) _).setCell (p := ⟨w.heap.size, 5, none⟩) (Nat.le_refl _) _
    have v0 : W6.cell? ⟨w.heap.size, 0, none⟩ = some (iv r1.k) := by rw [hW6, cell_other _ (.inr (by omega)), cell_other _ (.inr (by omega)), cell_other _ (.inr (by omega))]; exact t0
    have v1 : W6.cell? ⟨w.heap.size, 1, none⟩ = some (iv r1.n) := by rw [hW6, cell_other _ (.inr (by omega)), cell_other _ (.inr (by omega)), cell_other _ (.inr (by omega))]; exact t1
    have v2 : W6.cell? ⟨w.heap.size, 2, none⟩ = some (iv r1.a) := by rw [hW6, cell_other _ (.inr (by omega)), cell_other _ (.inr (by omega)), cell_other _ (.inr (by omega))]; exact t2
    have v3 : W6.cell? ⟨w.heap.size, 3, none⟩ = some (iv r2.k) := by rw [hW6, cell_other _ (.inr (by omega)), cell_other _ (.inr (by omega))]; exact cs_same t3
    have v4 : W6.cell? ⟨w.heap.size, 4, none⟩ = some (iv r2.n) := by rw [hW6, cell_other _ (.inr (by omega))]; exact cs_same ((cell_other _ (.inr (by omega))).trans t4)
    have v5 : W6.cell? ⟨w.heap.size, 5, none⟩ = some (iv r2.a) := by rw [hW6]; refine cs_same (u := iv ((x.c i).p k).val.a) ?_; rw [cell_other _ (.inr (by omega)), cell_other _ (.inr (by omega))]; exact t5
    go_wp2_with fail
    rw [← hW6]
    clear hW6 t0 t1 t2 t3 t4 t5 PF5 BX5 X5 H5 c4 c6 c7 p7 q0 q1 q2 q3 q4 q5 g7 gp
    have H6 := hide ((unhide H).ext X6)
    have c4 := (unhide H6).bx.2.2.2.2.1
    have c6 := (unhide H6).bx.2.2.2.2.2.2.1
    have c7 := (unhide H6).bx.2.2.2.2.2.2.2.1
    rw [(unhide H).hc hn] at c4
    rw [unhide HK] at c7
    rw [unhide HI] at c6
    have p7 := (unhide H6).rw.p7 i hin
    rw [((unhide H).rw.pl i hin (by omega)).1] at p7
    obtain ⟨q0, q1, q2, q3, q4, q5⟩ := (unhide H6).rw.p i hin k hkl
    have g7 := (unhide H6).nf.2 7
    have gp := ((unhide H6).rw.pl i hin (by omega)).2.1.2
    have n1 : ¬ w.heap.size = pb i := by omega
    have n2 : ¬ pb i = w.heap.size := by omega
    have n3 : ¬ w.heap.size = g := by omega
    have n4 : ¬ g = w.heap.size := by omega
    have FN := hide (show GOk B (((pairO W6 (pb i) (k * 6) ⟨r1, r2⟩).setCell ⟨g, 7, none⟩ (iv ((k : Int) + 1))).drew) g { x with cells := x.cells.set i (mendC x (x.c i) k), sub := (k : Int) + 1 } ∧ Ext a (((pairO W6 (pb i) (k * 6) ⟨r1, r2⟩).setCell ⟨g, 7, none⟩ (iv ((k : Int) + 1))).drew) by
      have g1 := (unhide H6).setp i hin k hkl ⟨r1, r2⟩ (pairO_only W6 (pb i) (k * 6) ⟨r1, r2⟩) (pairO_nf ((unhide H6).rw.pl i hin (by omega)).2.1 _ _) (pairO_at W6 (pb i) (k * 6) ⟨r1, r2⟩ _ ((unhide H6).rw.p i hin k hkl)) (fun j hj => pairO_other W6 (pb i) (k * 6) ⟨r1, r2⟩ j hj)
      have e : ({ x.c i with prs := (x.c i).prs.set k ⟨r1, r2⟩ } : Cl) = mendC x (x.c i) k := by unfold mendC; rw [unhide R1, unhide R2]
      rw [e] at g1
      have g2 : GOk B (pairO W6 (pb i) (k * 6) ⟨r1, r2⟩) g { x with cells := x.cells.set i (mendC x (x.c i) k) } := ⟨_, _, _, _, _, _, _, _, _, _, _, g1⟩
      refine ⟨(g2.set7 ((k : Int) + 1)).ext (Ext.refl _).drew, ?_⟩
      have hpB := ((unhide H6).rw.pl i hin (by omega)).2.2.2
      exact ((((pairO_only W6 (pb i) (k * 6) ⟨r1, r2⟩).ext (hx.trans X6) (fun q hq e => by omega)).setCell (p := ⟨g, 7, none⟩) (show a.heap.size ≤ g by omega) _)).drew)
    unfold pairO at FN
    go_region
    all_goals
      go_wp2_with fail
      try simp only [Exit.inBlock, Exit.then]
      refine bodyPost_ret (results_none rfl _ _ _) rfl ?_
      exact ⟨rfl, (unhide FN).1, (unhide FN).2⟩
end Go.Proofs.YtkabcfhemljnbaaGreat
