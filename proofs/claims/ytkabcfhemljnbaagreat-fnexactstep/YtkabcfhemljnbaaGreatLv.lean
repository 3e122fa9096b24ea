import Derived.Test.YtkabcfhemljnbaaGreatLj
import Derived.Deep.QuietTactic
namespace Go.Proofs.YtkabcfhemljnbaaGreat
open Go.RowKit
attribute [local go_sem ↓] Go.wp_at_zero Go.wp_at_succ

theorem GOk.set11 {B : Nat} {w : World} {g : Nat} {x : Hp} (h : GOk B w g x) (v : Int) : GOk B (w.setCell ⟨g, 11, none⟩ (iv v)) g { x with rounds := v } := by
  obtain ⟨ar, kr, ac, kc, vg, br, bc, pb, pa, pk, role, h⟩ := h
  exact ⟨_, _, _, _, _, _, _, _, _, _, _, h.boxed (x' := { x with rounds := v }) (Only.setCell (S := fun q => q = g) (Only.refl _ w) (p := ⟨g, 11, none⟩) rfl _) (h.nf.set _ _) rfl rfl rfl (h.bx.set11 v)⟩
set_option maxRecDepth 100000 in
set_option maxHeartbeats 600000 in
theorem l3close_end (B g : Nat) (x : Hp) (w : World) (h : GOk B w g x) (s : Snd x) (a : World) (ha : a.heap.size ≤ B) (hx : Ext a w) (h0 : x.hand = 0) :
    Calls Tryz.prog 170 #[.pointer (some ⟨g, 0, none⟩)] w fun e w' => e = .returned (.tuple #[]) ∧ GOk B w' g (unit6 x) ∧ Ext a w' := by
  have HO := hide h
  obtain ⟨c6, _, _, _, lo, hgw⟩ := h.box
  rw [h0] at c6
  have E := hide (show unit6 x = { toPh x 0 0 with rounds := if x.rounds < 1000000000 then x.rounds + 1 else x.rounds } by unfold unit6; rw [if_pos h0]; rfl)
  have hr := s.r1.rounds
  clear h h0 s
  go_enter Tryz.func170, Tryz.ntmps170
  go_wp2_with fail
  refine (l3phase_any B g x 0 0 _ (unhide HO) a ha hx).mono ?_
  rintro e w2 ⟨rfl, h2, x2⟩
  have H2 := hide h2
  have c11 : w2.cell? ⟨g, 11, none⟩ = some (iv x.rounds) := by
    obtain ⟨ar, kr, ac, kc, vg, br, bc, pb, pa, pk, role, h⟩ := h2
    exact h.bx.2.2.2.2.2.2.2.2.2.2.2.1
  have f11 := (h2.box).2.2.2.1 11
  have hgw2 : g < w2.heap.size := cell_lt c11
  clear h2
  by_cases hlt : x.rounds < 1000000000
  · have EF := hide (show unit6 x = { toPh x 0 0 with rounds := x.rounds + 1 } by rw [unhide E, if_pos hlt])
    have H3 := hide ((unhide H2).set11 (x.rounds + 1))
    have X3 := hide (x2.setCell (p := ⟨g, 11, none⟩) (show a.heap.size ≤ g by omega) (iv (x.rounds + 1)))
    have wr : wrap64 (x.rounds + 1) = x.rounds + 1 := by unfold wrap64; omega
    go_wp2_with fail
    try simp only [Exit.inBlock, Exit.then]
    refine bodyPost_ret (results_none rfl _ _ _) rfl ?_
    exact ⟨rfl, by rw [unhide EF]; exact unhide H3, unhide X3⟩
  · have EF := hide (show unit6 x = { toPh x 0 0 with rounds := x.rounds } by rw [unhide E, if_neg hlt])
    go_wp2_with fail
    try simp only [Exit.inBlock, Exit.then]
    refine bodyPost_ret (results_none rfl _ _ _) rfl ?_
    exact ⟨rfl, by rw [unhide EF]; exact unhide H2, x2⟩
end Go.Proofs.YtkabcfhemljnbaaGreat

namespace Go.Proofs.YtkabcfhemljnbaaGreat
open Go.RowKit
attribute [local go_sem ↓] Go.wp_at_zero Go.wp_at_succ

set_option maxRecDepth 100000 in
set_option maxHeartbeats 600000 in
theorem l3close_cell (B g : Nat) (x : Hp) (w : World) (h : GOk B w g x) (s : Snd x) (a : World) (ha : a.heap.size ≤ B) (hx : Ext a w) (i : Nat) (hi : x.hand = (i : Int) + 1) :
    Calls Tryz.prog 170 #[.pointer (some ⟨g, 0, none⟩)] w fun e w' => e = .returned (.tuple #[]) ∧ GOk B w' g (unit6 x) ∧ Ext a w' := by
  obtain ⟨ar, kr, ac, kc, vg, br, bc, pb, pa, pk, role, h⟩ := h
  have H := hide h
  have c4 := h.bx.2.2.2.2.1
  have c6 := h.bx.2.2.2.2.2.2.1
  have hgw : g < w.heap.size := cell_lt c4
  have lo := h.lo
  have n8 := s.ok.n8
  have hin : i < x.cells.length := by have := s.r1.hand; omega
  have hn : 0 < x.cells.length := by omega
  rw [h.hc hn] at c4
  rw [hi] at c6
  have p0 := (h.rw.s i hin).1
  have hbc : bc < w.heap.size := cell_lt p0
  have f6 := h.nf.2 6
  have EU := hide (show unit6 x = dropH (shutH x i) i by
    have e : (x.hand - 1).toNat = i := by omega
    unfold unit6
    rw [if_neg (by omega), e])
  have NGC := hide (show ¬ g = bc from fun e => by have h1 := h.sp.g; have h2 := h.sp.c hn; rw [e] at h1; omega)
  have ngc : ¬ g = bc := unhide NGC
  have ncg : ¬ bc = g := fun e => unhide NGC e.symm
  have h60 : (((i : Int) + 1) == 0) = false := by simp; omega
  have i0 : (0:Int) ≤ (i:Int) := by omega
  have i1 : (i:Int) < (x.cells.length:Int) := by omega
  have W1G := hide (show GAt B (w.setCell ⟨g, 6, none⟩ (iv i)) g { x with hand := (i : Int) } ar kr ac kc vg br bc pb pa pk role from h.boxed (x' := { x with hand := (i : Int) }) (Only.setCell (S := fun q => q = g) (Only.refl _ w) (p := ⟨g, 6, none⟩) rfl _) (h.nf.set _ _) rfl rfl rfl (h.bx.set6 _))
  have X1 := hide (hx.setCell (p := ⟨g, 6, none⟩) (show a.heap.size ≤ g by omega) (iv i))
  clear h s hi
  go_enter Tryz.func170, Tryz.ntmps170
  go_wp2_with fail
  obtain ⟨W1, hW1⟩ : ∃ W, W = w.setCell ⟨g, 6, none⟩ (iv i) := ⟨_, rfl⟩
  rw [← hW1] at W1G X1 ⊢
  clear hW1 c4 c6 p0 f6 hbc
  have c4 := (unhide W1G).bx.2.2.2.2.1
  rw [(unhide H).hc hn] at c4
  have c6 : W1.cell? ⟨g, 6, none⟩ = some (iv i) := (unhide W1G).bx.2.2.2.2.2.2.1
  have p0 : W1.cell? ⟨bc, i * 8, none⟩ = some (iv (x.c i).st) := ((unhide W1G).rw.s i hin).1
  have hgW : g < W1.heap.size := cell_lt c6
  have hbc : bc < W1.heap.size := cell_lt p0
  have f4 := (unhide W1G).nf.2 4
  cases q2 : ((x.c i).st == 2)
  · have EZ := hide (show ({ x with hand := (i : Int) } : Hp) = shutH x i by unfold shutH; rw [if_neg (by intro e; simp [e] at q2)])
    go_quiet (fail)
    obtain ⟨WZ, hWZ⟩ : ∃ W, W = W1.drewN nq := ⟨_, rfl⟩
    have GZ := hide (show GAt B WZ g (shutH x i) ar kr ac kc vg br bc pb pa pk role by rw [hWZ, ← unhide EZ]; exact (unhide W1G).ext ((Ext.refl W1).drewN _))
    have XZ := hide (show Ext a WZ by rw [hWZ]; exact (unhide X1).drewN _)
    have LZ := hide (show (shutH x i).cells.length = x.cells.length by rw [← unhide EZ])
    have SZ := hide (show ((shutH x i).c i).st = (x.c i).st by rw [← unhide EZ]; rfl)
    go_wp2_with fail
    rw [← hWZ]
    clear hWZ c4 c6 p0 hgW hbc f4
    have c4 := (unhide GZ).bx.2.2.2.2.1
    rw [(unhide H).hc hn, unhide LZ] at c4
    have c6 : WZ.cell? ⟨g, 6, none⟩ = some (iv i) := (unhide GZ).bx.2.2.2.2.2.2.1
    have p0 : WZ.cell? ⟨bc, i * 8, none⟩ = some (iv (x.c i).st) := by have := ((unhide GZ).rw.s i (by rw [unhide LZ]; exact hin)).1; rw [unhide SZ] at this; exact this
    have f4 := (unhide GZ).nf.2 4
    have hgW : g < WZ.heap.size := cell_lt c6
    have hbc : bc < WZ.heap.size := cell_lt p0
    cases qL : ((i : Int) == (x.cells.length : Int) - 1)
    · have EF := hide (show unit6 x = shutH x i by rw [unhide EU]; unfold dropH; rw [if_neg]; intro e; have := e.1; rw [unhide LZ] at this; simp at qL; omega)
      go_quiet (fail)
      go_wp2_with fail
      go_end0
      exact ⟨rfl, by rw [unhide EF]; exact ⟨_, _, _, _, _, _, _, _, _, _, _, (unhide GZ).ext ((Ext.refl WZ).drewN _)⟩, (unhide XZ).drewN _⟩
    · cases q0 : ((x.c i).st == 0)
      · have EF := hide (show unit6 x = shutH x i by rw [unhide EU]; unfold dropH; rw [if_neg]; intro e; have := e.2; rw [unhide SZ] at this; simp [this] at q0)
        go_quiet (fail)
        go_wp2_with fail
        go_end0
        exact ⟨rfl, by rw [unhide EF]; exact ⟨_, _, _, _, _, _, _, _, _, _, _, (unhide GZ).ext ((Ext.refl WZ).drewN _)⟩, (unhide XZ).drewN _⟩
      · have SZ2 := hide (show ((shutH x i).c i).st = 0 by rw [unhide SZ]; simpa using q0)
        have EF := hide (show unit6 x = { shutH x i with cells := (shutH x i).cells.take i } by rw [unhide EU]; unfold dropH; rw [if_pos ⟨by rw [unhide LZ]; simp at qL; omega, unhide SZ2⟩])
        have FN := hide (show ∀ n, GOk B ((WZ.drewN n).setCell ⟨g, 4, none⟩ (.slice (some ⟨bc, 0, none⟩) i kc)) g { shutH x i with cells := (shutH x i).cells.take i } ∧ Ext a ((WZ.drewN n).setCell ⟨g, 4, none⟩ (.slice (some ⟨bc, 0, none⟩) i kc)) from fun n => by
          have g1 := ((unhide GZ).ext ((Ext.refl WZ).drewN n)).drop i (by rw [unhide LZ]; simp at qL; omega)
          rw [(unhide H).hc hn] at g1
          exact ⟨g1, ((unhide XZ).drewN n).setCell (p := ⟨g, 4, none⟩) (show a.heap.size ≤ g by omega) _⟩)
        have kl : (i : Int) ≤ (kc : Int) := by have := (unhide H).kl; omega
        go_quiet (fail)
        go_wp2_with fail
        go_region
        all_goals
          go_wp2_with fail
          go_end0
          exact ⟨rfl, by rw [unhide EF]; exact (unhide FN _).1, (unhide FN _).2⟩
  · obtain ⟨r0, r1, r2, r3, r4, r5, r6⟩ := (unhide W1G).rw.s i hin
    have r7 := (unhide W1G).rw.p7 i hin
    have fc := ((unhide W1G).rw.nc hn).1.2
    go_quiet (fail)
    go_wp2_with fail
    go_region
    all_goals
      obtain ⟨WZ, hWZ⟩ : ∃ W, W = wipeW (W1.drewN (nq + 1)) bc (i * 8) 0 0 := ⟨_, rfl⟩
      have EZ := hide (show ({ x with cells := x.cells.set i ⟨0, 0, 0, 0, 0, 0, 0, []⟩, hand := (i : Int) } : Hp) = shutH x i by unfold shutH; rw [if_pos (by simpa using q2)]; rfl)
      have GZ := hide (show GAt B WZ g (shutH x i) ar kr ac kc vg br bc pb (fun q => if q = i then none else pa q) (fun q => if q = i then 0 else pk q) role by
        have g1 := (unhide W1G).ext ((Ext.refl W1).drewN (nq + 1))
        obtain ⟨k1, k2⟩ := wipe_same (W1.drewN (nq + 1)) bc (i * 8) 0 0 _ _ (g1.rw.s i hin) (g1.rw.p7 i hin)
        rw [hWZ, ← unhide EZ]
        exact g1.clear i hin _ rfl (wipe_only _ _ _ _ _) (wipe_nf (g1.rw.nc hn).1 _ _ _) k1 k2 (fun k hk => wipe_other _ _ _ _ _ k hk))
      have XZ := hide (show Ext a WZ by rw [hWZ]; exact (wipe_only _ _ _ _ _).ext ((unhide X1).drewN _) (fun q hq e => by have := ((unhide H).rw.nc hn).2; omega))
      have LZ := hide (show (shutH x i).cells.length = x.cells.length by rw [← unhide EZ]; simp)
      have SZ0 := hide (show ((shutH x i).c i).st = 0 by
        have := Hp.c_set x i ⟨0, 0, 0, 0, 0, 0, 0, []⟩ hin i
        rw [← unhide EZ]
        have e2 : ({ x with cells := x.cells.set i ⟨0, 0, 0, 0, 0, 0, 0, []⟩, hand := (i : Int) } : Hp).c i = ({ x with cells := x.cells.set i ⟨0, 0, 0, 0, 0, 0, 0, []⟩ } : Hp).c i := rfl
        rw [e2, this, if_pos rfl])
      unfold wipeW at hWZ
      go_wp2_with fail
      rw [← hWZ]
      clear hWZ c4 c6 p0 hgW hbc f4 r0 r1 r2 r3 r4 r5 r6 r7 fc
      have c4 := (unhide GZ).bx.2.2.2.2.1
      rw [(unhide H).hc hn, unhide LZ] at c4
      have c6 : WZ.cell? ⟨g, 6, none⟩ = some (iv i) := (unhide GZ).bx.2.2.2.2.2.2.1
      have p0 : WZ.cell? ⟨bc, i * 8, none⟩ = some (iv 0) := by have := ((unhide GZ).rw.s i (by rw [unhide LZ]; exact hin)).1; rw [unhide SZ0] at this; exact this
      have f4 := (unhide GZ).nf.2 4
      have hgW : g < WZ.heap.size := cell_lt c6
      have hbc : bc < WZ.heap.size := cell_lt p0
      cases qL : ((i : Int) == (x.cells.length : Int) - 1)
      · have EF := hide (show unit6 x = shutH x i by rw [unhide EU]; unfold dropH; rw [if_neg]; intro e; have := e.1; rw [unhide LZ] at this; simp at qL; omega)
        go_quiet (fail)
        go_wp2_with fail
        go_end0
        exact ⟨rfl, by rw [unhide EF]; exact ⟨_, _, _, _, _, _, _, _, _, _, _, (unhide GZ).ext ((Ext.refl WZ).drewN _)⟩, (unhide XZ).drewN _⟩
      · skip
        have EF := hide (show unit6 x = { shutH x i with cells := (shutH x i).cells.take i } by rw [unhide EU]; unfold dropH; rw [if_pos ⟨by rw [unhide LZ]; simp at qL; omega, unhide SZ0⟩])
        have FN := hide (show ∀ n, GOk B ((WZ.drewN n).setCell ⟨g, 4, none⟩ (.slice (some ⟨bc, 0, none⟩) i kc)) g { shutH x i with cells := (shutH x i).cells.take i } ∧ Ext a ((WZ.drewN n).setCell ⟨g, 4, none⟩ (.slice (some ⟨bc, 0, none⟩) i kc)) from fun n => by
          have g1 := ((unhide GZ).ext ((Ext.refl WZ).drewN n)).drop i (by rw [unhide LZ]; simp at qL; omega)
          rw [(unhide H).hc hn] at g1
          exact ⟨g1, ((unhide XZ).drewN n).setCell (p := ⟨g, 4, none⟩) (show a.heap.size ≤ g by omega) _⟩)
        have kl : (i : Int) ≤ (kc : Int) := by have := (unhide H).kl; omega
        go_quiet (fail)
        go_wp2_with fail
        go_region
        all_goals
          go_wp2_with fail
          go_end0
          exact ⟨rfl, by rw [unhide EF]; exact (unhide FN _).1, (unhide FN _).2⟩
/-- the model's unit of closing -/
theorem l3close_any (B g : Nat) (x : Hp) (w : World) (h : GOk B w g x) (s : Snd x) (a : World) (ha : a.heap.size ≤ B) (hx : Ext a w) :
    Calls Tryz.prog 170 #[.pointer (some ⟨g, 0, none⟩)] w fun e w' => e = .returned (.tuple #[]) ∧ GOk B w' g (unit6 x) ∧ Ext a w' := by
  by_cases h0 : x.hand = 0
  · exact l3close_end B g x w h s a ha hx h0
  · exact l3close_cell B g x w h s a ha hx (x.hand - 1).toNat (by have := s.r1.hand; omega)
end Go.Proofs.YtkabcfhemljnbaaGreat
