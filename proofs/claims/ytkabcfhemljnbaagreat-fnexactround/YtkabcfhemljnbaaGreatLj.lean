import Derived.Test.YtkabcfhemljnbaaGreatLf
import Derived.Test.YtkabcfhemljnbaaGreatQa
import Derived.Deep.QuietTactic
import Derived.Test.YtkabcfhemljnbaaGreatLsD
import Derived.Deep.LoopGhost
namespace Go.Proofs.YtkabcfhemljnbaaGreat
open Go.RowKit
attribute [local go_sem ↓] Go.wp_at_zero Go.wp_at_succ

/-! The model's units: PRoots. -/
def GOk (B : Nat) (w : World) (g : Nat) (x : Hp) : Prop := ∃ ar kr ac kc vg br bc pb pa pk role, GAt B w g x ar kr ac kc vg br bc pb pa pk role
theorem GOk.ext {B : Nat} {w w' : World} {g : Nat} {x : Hp} (h : GOk B w g x) (e : Ext w w') : GOk B w' g x := by
  obtain ⟨ar, kr, ac, kc, vg, br, bc, pb, pa, pk, role, h⟩ := h
  exact ⟨ar, kr, ac, kc, vg, br, bc, pb, pa, pk, role, h.ext e⟩
/-- a number of the box has turned -/
theorem GAt.boxed {B : Nat} {w w' : World} {g : Nat} {x x' : Hp} {ar : Option Addr} {kr : Nat} {ac : Option Addr} {kc : Nat} {vg : Value} {br bc : Nat} {pb : Nat → Nat} {pa : Nat → Option Addr} {pk : Nat → Nat} {role : Nat → Nat} (h : GAt B w g x ar kr ac kc vg br bc pb pa pk role) (o : Only (fun q => q = g) w w') (nf : Nf1 g w') (hr : x'.regs = x.regs) (hc : x'.cells = x.cells) (hg : x'.gray = x.gray) (bx : HBox w' g x' (.slice ar x.regs.length kr) (.slice ac x.cells.length kc) vg) : GAt B w' g x' ar kr ac kc vg br bc pb pa pk role := by
  have far : ∀ q, q < w.heap.size → role q ≠ 0 → w'.heap[q]? = w.heap[q]? := fun q hq hn => o.block q hq (fun e => hn (by rw [e]; exact h.sp.g))
  have cc : ∀ q, x'.c q = x.c q := fun q => by simp only [Hp.c, hc]
  have rw2 := h.rw.same o.size (fun hl => far br (h.rw.nr hl).1.1 (by rw [h.sp.r hl]; omega)) (fun hl => far bc (h.rw.nc hl).1.1 (by rw [h.sp.c hl]; omega)) (fun q hq hl => far (pb q) (h.rw.pl q hq hl).2.1.1 (by rw [h.sp.p q hq hl]; omega))
  refine ⟨by rw [hr, hc]; exact bx, nf, h.lo, by rw [hr]; exact h.ha, by rw [hc]; exact h.hc, ?_, by rw [hg]; exact h.gr.block (fun q hq => far q (h.gr.lt q hq).2 (by rw [h.sp.y q hq]; omega)), ?_, by rw [hc]; exact h.kl⟩
  · refine ⟨fun i hi => ?_, fun q hq => ?_, fun q hq => ?_, fun q hq k hk => ?_, fun q hq hl => ?_, ?_, ?_, ?_, fun q q' hq hq' hne h1 h2 => ?_⟩
    · have hi2 : i < x.regs.length := by rw [← hr]; exact hi
      have e2 : x'.regs[i] = x.regs[i] := by simp [hr]
      rw [e2]; exact rw2.r i hi2
    · rw [hc] at hq; rw [cc]; exact rw2.s q hq
    · rw [hc] at hq; rw [cc]; exact rw2.p7 q hq
    · rw [hc] at hq; rw [cc] at hk ⊢; exact rw2.p q hq k hk
    · rw [hc] at hq; rw [cc] at hl; exact rw2.pl q hq hl
    · rw [hr]; exact rw2.nr
    · rw [hc]; exact rw2.nc
    · rw [hc]; exact rw2.d
    · rw [hc] at hq hq'; rw [cc] at h1 h2; exact rw2.dp q q' hq hq' hne h1 h2
  · refine ⟨h.sp.g, by rw [hr]; exact h.sp.r, by rw [hc]; exact h.sp.c, h.sp.y, fun q hq hl => ?_⟩
    rw [hc] at hq; rw [cc] at hl; exact h.sp.p q hq hl
theorem GOk.set6 {B : Nat} {w : World} {g : Nat} {x : Hp} (h : GOk B w g x) (v : Int) : GOk B (w.setCell ⟨g, 6, none⟩ (iv v)) g { x with hand := v } := by
  obtain ⟨ar, kr, ac, kc, vg, br, bc, pb, pa, pk, role, h⟩ := h
  exact ⟨_, _, _, _, _, _, _, _, _, _, _, h.boxed (x' := { x with hand := v }) (Only.setCell (S := fun q => q = g) (Only.refl _ w) (p := ⟨g, 6, none⟩) rfl _) (h.nf.set _ _) rfl rfl rfl (h.bx.set6 v)⟩
theorem GOk.set7 {B : Nat} {w : World} {g : Nat} {x : Hp} (h : GOk B w g x) (v : Int) : GOk B (w.setCell ⟨g, 7, none⟩ (iv v)) g { x with sub := v } := by
  obtain ⟨ar, kr, ac, kc, vg, br, bc, pb, pa, pk, role, h⟩ := h
  exact ⟨_, _, _, _, _, _, _, _, _, _, _, h.boxed (x' := { x with sub := v }) (Only.setCell (S := fun q => q = g) (Only.refl _ w) (p := ⟨g, 7, none⟩) rfl _) (h.nf.set _ _) rfl rfl rfl (h.bx.set7 v)⟩
theorem GOk.box {B : Nat} {w : World} {g : Nat} {x : Hp} (h : GOk B w g x) : w.cell? ⟨g, 6, none⟩ = some (iv x.hand) ∧ w.cell? ⟨g, 7, none⟩ = some (iv x.sub) ∧ w.cell? ⟨g, 5, none⟩ = some (iv x.phase) ∧ (∀ o, w.frozen? ⟨g, o, none⟩ = false) ∧ B ≤ g ∧ g < w.heap.size := by
  obtain ⟨ar, kr, ac, kc, vg, br, bc, pb, pa, pk, role, h⟩ := h
  exact ⟨h.bx.2.2.2.2.2.2.1, h.bx.2.2.2.2.2.2.2.1, h.bx.2.2.2.2.2.1, h.nf.2, h.lo, h.nf.1⟩
theorem ssh_eq {x : Hp} {y : Wd} (hy : Good1 x y) (h0 : y.k = 2 → 0 ≤ y.a) : sshH x y = shadeW x y := by
  unfold sshH shadeW
  by_cases e : (y.k == 2) = true
  · have hk : y.k = 2 := by simpa using e
    have hs := (hy hk).2
    have hb : sshB x y = shadeB x y.a.toNat := by simp [sshB, shadeB, whB, hs, hk]
    rw [if_pos e, hb]
    unfold shadeH
    have ea : ((y.a.toNat : Nat) : Int) = y.a := by have := h0 hk; omega
    by_cases q : shadeB x y.a.toNat = true
    · rw [if_pos q, if_pos q, ea]
    · rw [if_neg q, if_neg q]
  · have e2 : (y.k == 2) = false := by simpa using e
    have hb : sshB x y = false := by simp [sshB, e2]
    rw [if_neg e, hb]; simp
theorem gshade_any (B g : Nat) (x : Hp) (y : Wd) (w : World) (h : GOk B w g x) (s : Snd x) (hy : Good1 x y) (h0 : y.k = 2 → 0 ≤ y.a) (a : World) (ha : a.heap.size ≤ B) (hx : Ext a w) (hB : B ≤ w.heap.size) :
    Calls Tryz.prog 73 #[.pointer (some ⟨g, 0, none⟩), y.v] w fun e w' => e = .returned (.bool (sshB x y)) ∧ GOk B w' g (shadeW x y) ∧ Ext a w' := by
  obtain ⟨ar, kr, ac, kc, vg, br, bc, pb, pa, pk, role, h⟩ := h
  obtain ⟨ag, kg, rfl⟩ := h.gr.form
  refine (l3shade_any y w h (fun hk => ⟨h0 hk, by have := (hy hk).1; have := h0 hk; omega⟩) s.ok.n8 (by have := s.r1.gray; have := s.ok.n8; omega) a ha hx hB).mono ?_
  rintro e w' ⟨he, h2, h3⟩
  obtain ⟨ag', kg', role', h2⟩ := h2
  rw [ssh_eq hy h0] at h2
  exact ⟨he, ⟨_, _, _, _, _, _, _, _, _, _, _, h2⟩, h3⟩

set_option maxRecDepth 100000 in
set_option maxHeartbeats 2000000 in
theorem l3phase_any (B g : Nat) (x : Hp) (p hd : Int) (w : World) (h : GOk B w g x) (a : World) (ha : a.heap.size ≤ B) (hx : Ext a w) :
    Calls Tryz.prog 164 #[.pointer (some ⟨g, 0, none⟩), .int .i64 p, .int .i64 hd] w fun e w' => e = .returned (.tuple #[]) ∧ GOk B w' g (toPh x p hd) ∧ Ext a w' := by
  obtain ⟨ar, kr, ac, kc, vg, br, bc, pb, pa, pk, role, h⟩ := h
  have H := hide h
  obtain ⟨_, _, _, _, _, c5, c6, c7, _⟩ := h.bx
  have f5 := h.nf.2 5
  have f6 := h.nf.2 6
  have f7 := h.nf.2 7
  clear h
  go_enter Tryz.func164, Tryz.ntmps164
  go_wp2_with fail
  go_end0
  have b1 := (((unhide H).bx.set5 p).set6 hd).set7 0
  have o1 := Only.setCell (S := fun q => q = g) (Only.setCell (S := fun q => q = g) (Only.setCell (S := fun q => q = g) (Only.refl _ w) (p := ⟨g, 5, none⟩) rfl (iv p)) (p := ⟨g, 6, none⟩) rfl (iv hd)) (p := ⟨g, 7, none⟩) rfl (iv 0)
  exact ⟨rfl, ⟨_, _, _, _, _, _, _, _, _, _, _, (unhide H).boxed (x' := toPh x p hd) o1 ((((unhide H).nf.set _ _).set _ _).set _ _) rfl rfl rfl b1⟩, o1.ext hx (fun q hq e => by have := (unhide H).lo; omega)⟩

theorem dalloc_new (w : World) (n : Nat) (cs : Array Value) (t : TypeId) (j : Nat) : ((w.drewN n).alloc (.cells cs t)).cell? ⟨w.heap.size, j, none⟩ = cs[j]? := by
  have e : (w.drewN n).heap.size = w.heap.size := by simp
  have := heap_alloc_new (w.drewN n) (.cells cs t)
  rw [e] at this
  exact cell_of_row _ w.heap.size j _ _ (0, 0) this
theorem dalloc_old (w : World) (n : Nat) (o : Obj) (b j : Nat) (h : b < w.heap.size) : ((w.drewN n).alloc o).cell? ⟨b, j, none⟩ = w.cell? ⟨b, j, none⟩ := by
  have x := ((Ext.refl w).drewN n).alloc o
  exact x.cell (p := ⟨b, j, none⟩) h
theorem dalloc_fr (w : World) (n : Nat) (cs : Array Value) (t : TypeId) (j : Nat) : ((w.drewN n).alloc (.cells cs t)).frozen? ⟨w.heap.size, j, none⟩ = false := by
  have e : (w.drewN n).heap.size = w.heap.size := by simp
  have key : ∀ W : World, (W.alloc (.cells cs t)).frozen? ⟨W.heap.size, j, none⟩ = false := fun W => by simp [go_sem]
  have := key (w.drewN n)
  rw [e] at this
  exact this
set_option maxRecDepth 100000 in
set_option maxHeartbeats 4000000 in
theorem l3roots_any (B g : Nat) (x : Hp) (w : World) (h : GOk B w g x) (s : Snd x) (a : World) (ha : a.heap.size ≤ B) (hx : Ext a w) (hB : B ≤ w.heap.size) :
    Calls Tryz.prog 165 #[.pointer (some ⟨g, 0, none⟩)] w fun e w' => e = .returned (.tuple #[]) ∧ GOk B w' g (unit1 x) ∧ Ext a w' := by
  obtain ⟨ar, kr, ac, kc, vg, br, bc, pb, pa, pk, role, h⟩ := h
  have HO := hide (show GOk B w g x from ⟨_, _, _, _, _, _, _, _, _, _, _, h⟩)
  have H := hide h
  have c4 := h.bx.2.2.2.2.1
  have c6 := h.bx.2.2.2.2.2.2.1
  have hgw : g < w.heap.size := cell_lt c4
  have lo := h.lo
  have n8 := s.ok.n8
  have S := hide s
  have hh := s.r1.hand
  clear h
  by_cases he : x.hand = x.cells.length
  · have E := hide (show unit1 x = toPh x 2 0 by unfold unit1; rw [if_pos he])
    have heb : (x.hand == (x.cells.length : Int)) = true := by simpa using he
    clear he
    go_enter Tryz.func165, Tryz.ntmps165
    go_wp2_with fail
    go_quiet (fail)
    go_wp2_with fail
    refine (l3phase_any B g x 2 0 _ ((unhide HO).ext ((Ext.refl w).drewN _)) a ha (hx.drewN _)).mono ?_
    rintro e w2 ⟨rfl, h2, x2⟩
    have H2 := hide h2
    clear h2
    go_wp2_with fail
    try simp only [Exit.inBlock, Exit.then]
    refine bodyPost_ret (results_none rfl _ _ _) rfl ?_
    exact ⟨rfl, by rw [unhide E]; exact unhide H2, x2⟩
  · obtain ⟨i, hi⟩ : ∃ i : Nat, x.hand = (i : Int) := ⟨x.hand.toNat, by omega⟩
    have hin : i < x.cells.length := by omega
    have heb : (x.hand == (x.cells.length : Int)) = false := by simpa using he
    rw [hi] at heb c6
    have hn : 0 < x.cells.length := by omega
    rw [(unhide H).hc hn] at c4
    obtain ⟨p0, p1, p2, p3, p4, p5, p6⟩ := (unhide H).rw.s i hin
    have p7 := (unhide H).rw.p7 i hin
    have hbc : bc < w.heap.size := cell_lt p0
    have i0 : (0:Int) ≤ (i:Int) := by omega
    have i1 : (i:Int) < (x.cells.length:Int) := by omega
    have ei : x.hand.toNat = i := by omega
    have EU := hide (show unit1 x = { (if spkB (x.c i) = true then shadeH x i else x) with hand := x.hand + 1 } by unfold unit1; rw [if_neg he, ei])
    have HI := hide hi
    have zn := fun n j => dalloc_new w n #[.int .i64 0, .int .i64 0, .int .i64 0, .int .i64 0, .int .i64 0, .int .i64 0, .int .i64 0, .slice none 0 0] 86 j
    have zf := fun n j => dalloc_fr w n #[.int .i64 0, .int .i64 0, .int .i64 0, .int .i64 0, .int .i64 0, .int .i64 0, .int .i64 0, .slice none 0 0] 86 j
    have zo := fun n o b j (h : b < w.heap.size) => dalloc_old w n o b j h
    clear he hi ei hh
    go_enter Tryz.func165, Tryz.ntmps165
    go_wp2_with fail
    go_quiet (fail)
    go_wp2_with fail
    go_region
    all_goals
      obtain ⟨W2, hW2⟩ : ∃ W, W = (((((((((w.drewN (nq + 1)).alloc (.cells #[.int .i64 0, .int .i64 0, .int .i64 0, .int .i64 0, .int .i64 0, .int .i64 0, .int .i64 0, .slice none 0 0] 86)).setCell ⟨w.heap.size, 0, none⟩ (.int .i64 (x.c i).st)).setCell ⟨w.heap.size, 1, none⟩ (.int .i64 (x.c i).kind)).setCell ⟨w.heap.size, 2, none⟩ (.int .i64 (x.c i).weak)).setCell ⟨w.heap.size, 3, none⟩ (.int .i64 (x.c i).last)).setCell ⟨w.heap.size, 4, none⟩ (.int .i64 (x.c i).born)).setCell ⟨w.heap.size, 5, none⟩ (.int .i64 (x.c i).color)).setCell ⟨w.heap.size, 6, none⟩ (.int .i64 (x.c i).to)).setCell ⟨w.heap.size, 7, none⟩ (.slice (pa i) (x.c i).prs.length (pk i)) := ⟨_, rfl⟩
      have X2 : Ext w W2 := by
        rw [hW2]
        exact (((((((((Ext.refl w).drewN (nq + 1)).alloc _).setCell (Nat.le_refl _) _).setCell (Nat.le_refl _) _).setCell (Nat.le_refl _) _).setCell (Nat.le_refl _) _).setCell (Nat.le_refl _) _).setCell (Nat.le_refl _) _).setCell (Nat.le_refl _) _ |>.setCell (Nat.le_refl _) _
      have l3 : W2.cell? ⟨w.heap.size, 3, none⟩ = some (iv (x.c i).last) := by
        rw [hW2, cell_other _ (.inr (by omega)), cell_other _ (.inr (by omega)), cell_other _ (.inr (by omega)), cell_other _ (.inr (by omega))]
        exact World.cell?_setCell_same _ _ _ (by rw [cell_other _ (.inr (by omega)), cell_other _ (.inr (by omega)), cell_other _ (.inr (by omega)), zn]; rfl)
      rw [← hW2]
      clear hW2 zn zf zo
      have d6 := X2.keep c6
      have hgW : g < W2.heap.size := cell_lt d6
      have f6 : W2.frozen? ⟨g, 6, none⟩ = false := ((bcell X2).2 g 6 hgw).trans ((unhide H).nf.2 6)
      cases l1 : ((x.c i).last == 1)
      · cases l2 : ((x.c i).last == 2)
        · have EF := hide (show unit1 x = { x with hand := x.hand + 1 } by rw [unhide EU, if_neg (by simp [spkB, l1, l2])])
          have H3 := hide (((unhide HO).ext X2).set6 (x.hand + 1))
          have X3 := hide ((hx.trans X2).setCell (p := ⟨g, 6, none⟩) (show a.heap.size ≤ g by omega) (iv (x.hand + 1)))
          rw [unhide HI] at H3 X3 EF
          go_wp2_with fail
          go_end0
          exact ⟨rfl, by rw [unhide EF]; exact unhide H3, unhide X3⟩
        · -- due
          have SP := hide (show spkB (x.c i) = true by simp [spkB, l2])
          have GD := hide (show Good1 x ⟨2, 0, i⟩ from fun _ => ⟨by simpa using hin, by
            have hsp := (spkB_iff _).1 (unhide SP)
            have e : ((i : Int)).toNat = i := by omega
            show (x.c ((i : Int)).toNat).st = 1
            rw [e]
            rcases (unhide S).r2.1 i hin with ⟨_, b, _⟩ | ⟨_, b⟩ | ⟨a, _⟩
            · have := b.2.2.1; rcases hsp with q | q <;> omega
            · have := b.1.2.2.1; rcases hsp with q | q <;> omega
            · exact a⟩)
          go_wp2_with fail
          refine (gshade_any B g x ⟨2, 0, i⟩ _ ((unhide HO).ext X2) (unhide S) (unhide GD) (fun _ => i0) a ha (hx.trans X2) (Nat.le_trans hB X2.size)).mono ?_
          rintro e w3 ⟨rfl, h3, x3⟩
          have H3 := hide (h3.set6 (x.hand + 1))
          have X3 := hide (x3.setCell (p := ⟨g, 6, none⟩) (show a.heap.size ≤ g by omega) (iv (x.hand + 1)))
          obtain ⟨q6, _, _, ef, _, eg⟩ := h3.box
          have e6 : w3.cell? ⟨g, 6, none⟩ = some (iv i) := by rw [q6, (shadeW_same x _).2.2.2.1, unhide HI]
          have ef6 := ef 6
          rw [unhide HI] at H3 X3
          have EF := hide (show unit1 x = { shadeW x ⟨2, 0, i⟩ with hand := (i : Int) + 1 } by
            rw [unhide EU, if_pos (unhide SP), unhide HI]
            have : shadeW x ⟨2, 0, i⟩ = shadeH x i := by unfold shadeW; simp
            rw [this])
          clear h3 x3 ef q6
          go_wp2_with fail
          go_end0
          exact ⟨rfl, by rw [unhide EF]; exact unhide H3, unhide X3⟩
      · -- wants
        have SP := hide (show spkB (x.c i) = true by simp [spkB, l1])
        have GD := hide (show Good1 x ⟨2, 0, i⟩ from fun _ => ⟨by simpa using hin, by
          have hsp := (spkB_iff _).1 (unhide SP)
          have e : ((i : Int)).toNat = i := by omega
          show (x.c ((i : Int)).toNat).st = 1
          rw [e]
          rcases (unhide S).r2.1 i hin with ⟨_, b, _⟩ | ⟨_, b⟩ | ⟨a, _⟩
          · have := b.2.2.1; rcases hsp with q | q <;> omega
          · have := b.1.2.2.1; rcases hsp with q | q <;> omega
          · exact a⟩)
        go_wp2_with fail
        refine (gshade_any B g x ⟨2, 0, i⟩ _ ((unhide HO).ext X2) (unhide S) (unhide GD) (fun _ => i0) a ha (hx.trans X2) (Nat.le_trans hB X2.size)).mono ?_
        rintro e w3 ⟨rfl, h3, x3⟩
        have H3 := hide (h3.set6 (x.hand + 1))
        have X3 := hide (x3.setCell (p := ⟨g, 6, none⟩) (show a.heap.size ≤ g by omega) (iv (x.hand + 1)))
        obtain ⟨q6, _, _, ef, _, eg⟩ := h3.box
        have e6 : w3.cell? ⟨g, 6, none⟩ = some (iv i) := by rw [q6, (shadeW_same x _).2.2.2.1, unhide HI]
        have ef6 := ef 6
        rw [unhide HI] at H3 X3
        have EF := hide (show unit1 x = { shadeW x ⟨2, 0, i⟩ with hand := (i : Int) + 1 } by
          rw [unhide EU, if_pos (unhide SP), unhide HI]
          have : shadeW x ⟨2, 0, i⟩ = shadeH x i := by unfold shadeW; simp
          rw [this])
        clear h3 x3 ef q6
        go_wp2_with fail
        go_end0
        exact ⟨rfl, by rw [unhide EF]; exact unhide H3, unhide X3⟩
end Go.Proofs.YtkabcfhemljnbaaGreat

namespace Go.Proofs.YtkabcfhemljnbaaGreat
open Go.RowKit
attribute [local go_sem ↓] Go.wp_at_zero Go.wp_at_succ

/-! The model's units: PSweep. -/
/-- the row of cells has turned; each row of pairs is one that was: of place 'so q' -/
theorem GAt.turn {B : Nat} {w w' : World} {g : Nat} {x : Hp} {ar : Option Addr} {kr : Nat} {ac : Option Addr} {kc : Nat} {vg : Value} {br bc : Nat} {pb : Nat → Nat} {pa : Nat → Option Addr} {pk : Nat → Nat} {role : Nat → Nat} (h : GAt B w g x ar kr ac kc vg br bc pb pa pk role) (cs : List Cl) (hl : cs.length = x.cells.length) (so : Nat → Nat) (pa' : Nat → Option Addr) (pk' : Nat → Nat) (role' : Nat → Nat) (hn : 0 < x.cells.length)
    (o : Only (fun q => q = bc) w w') (nf : Nf1 bc w')
    (hs : ∀ q, q < x.cells.length → S7 w' bc (q * 8) (({ x with cells := cs } : Hp).c q))
    (h7 : ∀ q, q < x.cells.length → w'.cell? ⟨bc, q * 8 + 7, none⟩ = some (.slice (pa' q) (({ x with cells := cs } : Hp).c q).prs.length (pk' q)))
    (hso : ∀ q, q < x.cells.length → 0 < (({ x with cells := cs } : Hp).c q).prs.length → so q < x.cells.length ∧ (x.c (so q)).prs = (({ x with cells := cs } : Hp).c q).prs ∧ pa' q = pa (so q) ∧ role' (pb (so q)) = 6 + q)
    (hro : ∀ q, role q < 6 → role' q = role q) :
    GAt B w' g { x with cells := cs } ar kr ac kc vg br bc (fun q => pb (so q)) pa' pk' role' := by
  have far : ∀ q, q < w.heap.size → role q ≠ 3 → w'.heap[q]? = w.heap[q]? := fun q hq hr => o.block q hq (fun e => hr (by rw [e]; exact h.sp.c hn))
  have hl' : ({ x with cells := cs } : Hp).cells.length = x.cells.length := hl
  have fg := far g h.nf.1 (by rw [h.sp.g]; omega)
  have pf : ∀ q, q < x.cells.length → 0 < (x.c q).prs.length → w'.heap[pb q]? = w.heap[pb q]? := fun q hq hl => far (pb q) (h.rw.pl q hq hl).2.1.1 (by rw [h.sp.p q hq hl]; omega)
  refine ⟨?_, nf1_block h.nf fg o.size, h.lo, h.ha, fun _ => h.hc hn, ⟨fun k hk => ?_, fun q hq => ?_, fun q hq => ?_, fun q hq k hk => ?_, fun q hq hlq => ?_, fun hr => ⟨nf1_block (h.rw.nr hr).1 (far br (h.rw.nr hr).1.1 (by rw [h.sp.r hr]; omega)) o.size, (h.rw.nr hr).2⟩, fun _ => ⟨nf, (h.rw.nc hn).2⟩, fun _ => h.rw.d hn, fun q q' hq hq' hne h1 h2 => ?_⟩, h.gr.block (fun q hq => far q (h.gr.lt q hq).2 (by rw [h.sp.y q hq]; omega)), ⟨?_, fun hr => ?_, fun _ => ?_, fun q hq => ?_, fun q hq hlq => ?_⟩, by rw [hl']; exact h.kl⟩
  · rw [hl']; exact (h.bx.block fg)
  · exact (h.rw.r k hk).of fun j _ => World.cell?_of_block (a := ⟨br, _, none⟩) (far br (h.rw.nr (by have : k < x.regs.length := hk; omega)).1.1 (by rw [h.sp.r (by have : k < x.regs.length := hk; omega)]; omega))
  · rw [hl'] at hq; exact hs q hq
  · rw [hl'] at hq; exact h7 q hq
  · rw [hl'] at hq
    obtain ⟨a1, a2, _⟩ := hso q hq (by omega)
    have e2 : (({ x with cells := cs } : Hp).c q).p k = (x.c (so q)).p k := by simp only [Cl.p, a2]
    rw [← a2] at hk
    rw [e2]
    exact (h.rw.p (so q) a1 k hk).of fun j _ => World.cell?_of_block (a := ⟨pb (so q), _, none⟩) (pf (so q) a1 (by omega))
  · rw [hl'] at hq
    obtain ⟨a1, a2, a3, _⟩ := hso q hq hlq
    rw [← a2] at hlq
    obtain ⟨b1, b2, b3⟩ := h.rw.pl (so q) a1 hlq
    exact ⟨a3.trans b1, nf1_block b2 (pf (so q) a1 hlq) o.size, b3⟩
  · rw [hl'] at hq hq'
    intro e
    have r1 := (hso q hq h1).2.2.2
    have r2 := (hso q' hq' h2).2.2.2
    have e' : pb (so q) = pb (so q') := e
    rw [e', r2] at r1
    omega
  · rw [hro g (by rw [h.sp.g]; omega)]; exact h.sp.g
  · have := h.sp.r hr
    rw [hro br (by omega)]; exact this
  · have := h.sp.c hn
    rw [hro bc (by omega)]; exact this
  · have := h.sp.y q hq
    rw [hro q (by omega)]; exact this
  · rw [hl'] at hq
    exact (hso q hq hlq).2.2.2
/-- one cell has become c', which has no pairs -/
theorem GAt.clear {B : Nat} {w w' : World} {g : Nat} {x : Hp} {ar : Option Addr} {kr : Nat} {ac : Option Addr} {kc : Nat} {vg : Value} {br bc : Nat} {pb : Nat → Nat} {pa : Nat → Option Addr} {pk : Nat → Nat} {role : Nat → Nat} (h : GAt B w g x ar kr ac kc vg br bc pb pa pk role) (i : Nat) (hi : i < x.cells.length) (c' : Cl) (hp : c'.prs = []) (o : Only (fun q => q = bc) w w') (nf : Nf1 bc w') (hs : S7 w' bc (i * 8) c') (h7 : w'.cell? ⟨bc, i * 8 + 7, none⟩ = some (.slice none 0 0)) (ho : ∀ k, (k < i * 8 ∨ i * 8 + 8 ≤ k) → w'.cell? ⟨bc, k, none⟩ = w.cell? ⟨bc, k, none⟩) :
    GAt B w' g { x with cells := x.cells.set i c' } ar kr ac kc vg br bc pb (fun q => if q = i then none else pa q) (fun q => if q = i then 0 else pk q) role := by
  have hc := Hp.c_set x i c' hi
  refine h.turn (x.cells.set i c') (by simp) (fun q => q) _ _ role (by omega) o nf (fun q hq => ?_) (fun q hq => ?_) (fun q hq hl => ?_) (fun _ _ => rfl)
  · rw [hc q]
    by_cases e : q = i
    · subst e; rw [if_pos rfl]; exact hs
    · rw [if_neg e]; exact (h.rw.s q hq).of fun j hj => ho _ (by omega)
  · rw [hc q]
    by_cases e : q = i
    · subst e; simp only [if_true, hp]; exact h7
    · simp only [if_neg e]; rw [ho _ (by omega)]; exact h.rw.p7 q hq
  · rw [hc q] at hl ⊢
    by_cases e : q = i
    · rw [if_pos e, hp] at hl; simp at hl
    · rw [if_neg e] at hl ⊢
      exact ⟨hq, rfl, by simp only [if_neg e], h.sp.p q hq hl⟩
theorem GOk.set1 {B : Nat} {w : World} {g : Nat} {x : Hp} (h : GOk B w g x) (v : Int) : GOk B (w.setCell ⟨g, 1, none⟩ (iv v)) g { x with used := v } := by
  obtain ⟨ar, kr, ac, kc, vg, br, bc, pb, pa, pk, role, h⟩ := h
  exact ⟨_, _, _, _, _, _, _, _, _, _, _, h.boxed (x' := { x with used := v }) (Only.setCell (S := fun q => q = g) (Only.refl _ w) (p := ⟨g, 1, none⟩) rfl _) (h.nf.set _ _) rfl rfl rfl (h.bx.set1 v)⟩
theorem wrap_fit (n : Int) (h0 : -1000000 ≤ n) (h1 : n ≤ 1000000) : wrap64 n = n := by unfold wrap64; omega
theorem cs_same {w : World} {p : Addr} {v u : Value} (h : w.cell? p = some u) : (w.setCell p v).cell? p = some v := World.cell?_setCell_same _ _ _ h
/-- a cell written over with one that has no pairs -/
def wipeW (w : World) (b o : Nat) (st tv : Int) : World := (((((((w.setCell ⟨b, o, none⟩ (iv st)).setCell ⟨b, o + 1, none⟩ (iv 0)).setCell ⟨b, o + 2, none⟩ (iv 0)).setCell ⟨b, o + 3, none⟩ (iv 0)).setCell ⟨b, o + 4, none⟩ (iv 0)).setCell ⟨b, o + 5, none⟩ (iv 0)).setCell ⟨b, o + 6, none⟩ (iv tv)).setCell ⟨b, o + 7, none⟩ (.slice none 0 0)
theorem wipe_only (w : World) (b o : Nat) (st tv : Int) : Only (fun q => q = b) w (wipeW w b o st tv) :=
  Only.setCell (S := fun q => q = b) (Only.setCell (S := fun q => q = b) (Only.setCell (S := fun q => q = b) (Only.setCell (S := fun q => q = b) (Only.setCell (S := fun q => q = b) (Only.setCell (S := fun q => q = b) (Only.setCell (S := fun q => q = b) (Only.setCell (S := fun q => q = b) (Only.refl _ w) (p := ⟨b, o, none⟩) rfl _) (p := ⟨b, o + 1, none⟩) rfl _) (p := ⟨b, o + 2, none⟩) rfl _) (p := ⟨b, o + 3, none⟩) rfl _) (p := ⟨b, o + 4, none⟩) rfl _) (p := ⟨b, o + 5, none⟩) rfl _) (p := ⟨b, o + 6, none⟩) rfl _) (p := ⟨b, o + 7, none⟩) rfl _
theorem wipe_nf {w : World} {b : Nat} (h : Nf1 b w) (o : Nat) (st tv : Int) : Nf1 b (wipeW w b o st tv) := (((((((h.set _ _).set _ _).set _ _).set _ _).set _ _).set _ _).set _ _).set _ _
theorem wipe_other (w : World) (b o : Nat) (st tv : Int) (k : Nat) (hk : k < o ∨ o + 8 ≤ k) : (wipeW w b o st tv).cell? ⟨b, k, none⟩ = w.cell? ⟨b, k, none⟩ := by
  unfold wipeW
  rw [cell_other _ (.inr (by omega)), cell_other _ (.inr (by omega)), cell_other _ (.inr (by omega)), cell_other _ (.inr (by omega)), cell_other _ (.inr (by omega)), cell_other _ (.inr (by omega)), cell_other _ (.inr (by omega)), cell_other _ (.inr (by omega))]
theorem wipe_same (w : World) (b o : Nat) (st tv : Int) (c : Cl) (v : Value) (h : S7 w b o c) (h7 : w.cell? ⟨b, o + 7, none⟩ = some v) : S7 (wipeW w b o st tv) b o ⟨st, 0, 0, 0, 0, 0, tv, []⟩ ∧ (wipeW w b o st tv).cell? ⟨b, o + 7, none⟩ = some (.slice none 0 0) := by
  obtain ⟨a0, a1, a2, a3, a4, a5, a6⟩ := h
  unfold wipeW
  refine ⟨⟨?_, ?_, ?_, ?_, ?_, ?_, ?_⟩, ?_⟩
  · iterate 7 rw [cell_other _ (.inr (by omega))]
    exact World.cell?_setCell_same _ _ _ a0
  · iterate 6 rw [cell_other _ (.inr (by omega))]
    exact World.cell?_setCell_same _ _ _ ((cell_other _ (.inr (by omega))).trans a1)
  · iterate 5 rw [cell_other _ (.inr (by omega))]
    refine cs_same (u := iv c.weak) ?_
    iterate 2 rw [cell_other _ (.inr (by omega))]
    exact a2
  · iterate 4 rw [cell_other _ (.inr (by omega))]
    refine cs_same (u := iv c.last) ?_
    iterate 3 rw [cell_other _ (.inr (by omega))]
    exact a3
  · iterate 3 rw [cell_other _ (.inr (by omega))]
    refine cs_same (u := iv c.born) ?_
    iterate 4 rw [cell_other _ (.inr (by omega))]
    exact a4
  · iterate 2 rw [cell_other _ (.inr (by omega))]
    refine cs_same (u := iv c.color) ?_
    iterate 5 rw [cell_other _ (.inr (by omega))]
    exact a5
  · rw [cell_other _ (.inr (by omega))]
    refine cs_same (u := iv c.to) ?_
    iterate 6 rw [cell_other _ (.inr (by omega))]
    exact a6
  · refine cs_same (u := v) ?_
    iterate 7 rw [cell_other _ (.inr (by omega))]
    exact h7
theorem GAt.wipe {B : Nat} {w : World} {g : Nat} {x : Hp} {ar : Option Addr} {kr : Nat} {ac : Option Addr} {kc : Nat} {vg : Value} {br bc : Nat} {pb : Nat → Nat} {pa : Nat → Option Addr} {pk : Nat → Nat} {role : Nat → Nat} (h : GAt B w g x ar kr ac kc vg br bc pb pa pk role) (i : Nat) (hi : i < x.cells.length) (st tv : Int) : GOk B (wipeW w bc (i * 8) st tv) g { x with cells := x.cells.set i ⟨st, 0, 0, 0, 0, 0, tv, []⟩ } := by
  obtain ⟨k1, k2⟩ := wipe_same w bc (i * 8) st tv _ _ (h.rw.s i hi) (h.rw.p7 i hi)
  exact ⟨_, _, _, _, _, _, _, _, _, _, _, h.clear i hi _ rfl (wipe_only _ _ _ _ _) (wipe_nf (h.rw.nc (by omega)).1 _ _ _) k1 k2 (fun k hk => wipe_other _ _ _ _ _ k hk)⟩
end Go.Proofs.YtkabcfhemljnbaaGreat

namespace Go.Proofs.YtkabcfhemljnbaaGreat
open Go.RowKit

/-! The model's units: PMove and PClose: what turns in the memory. -/
/-- the last cell is dropped -/
theorem GAt.drop {B : Nat} {w : World} {g : Nat} {x : Hp} {ar : Option Addr} {kr : Nat} {ac : Option Addr} {kc : Nat} {vg : Value} {br bc : Nat} {pb : Nat → Nat} {pa : Nat → Option Addr} {pk : Nat → Nat} {role : Nat → Nat} (h : GAt B w g x ar kr ac kc vg br bc pb pa pk role) (i : Nat) (hi : i + 1 = x.cells.length) :
    GOk B (w.setCell ⟨g, 4, none⟩ (.slice ac i kc)) g { x with cells := x.cells.take i } := by
  have far : ∀ q, q < w.heap.size → role q ≠ 0 → (w.setCell ⟨g, 4, none⟩ (.slice ac i kc)).heap[q]? = w.heap[q]? := fun q hq hn => Below.heap_setCell _ _ _ _ (fun e => hn (by rw [e]; exact h.sp.g))
  have rw2 := h.rw.same (w' := w.setCell ⟨g, 4, none⟩ (.slice ac i kc)) (by simp [World.setCell]) (fun hl => far br (h.rw.nr hl).1.1 (by rw [h.sp.r hl]; omega)) (fun hl => far bc (h.rw.nc hl).1.1 (by rw [h.sp.c hl]; omega)) (fun q hq hl => far (pb q) (h.rw.pl q hq hl).2.1.1 (by rw [h.sp.p q hq hl]; omega))
  have hl : ({ x with cells := x.cells.take i } : Hp).cells.length = i := by simp; omega
  have hn : 0 < x.cells.length := by omega
  have hc : ∀ q, q < i → ({ x with cells := x.cells.take i } : Hp).c q = x.c q := fun q hq => by
    simp only [Hp.c, List.getD_eq_getElem?_getD, List.getElem?_take_of_lt hq]
  refine ⟨ar, kr, ac, kc, vg, br, bc, pb, pa, pk, role, ?_, h.nf.set _ _, h.lo, h.ha, fun _ => h.hc hn, ⟨rw2.r, fun q hq => ?_, fun q hq => ?_, fun q hq k hk => ?_, fun q hq hlq => ?_, rw2.nr, fun _ => rw2.nc hn, fun _ => rw2.d hn, fun q q' hq hq' hne h1 h2 => ?_⟩, h.gr.block (fun q hq => far q (h.gr.lt q hq).2 (by rw [h.sp.y q hq]; omega)), ⟨h.sp.g, h.sp.r, fun _ => h.sp.c hn, h.sp.y, fun q hq hlq => ?_⟩, by rw [hl]; have := h.kl; omega⟩
  · rw [hl]; exact h.bx.set4 _
  · rw [hl] at hq; rw [hc q hq]; exact rw2.s q (by omega)
  · rw [hl] at hq; rw [hc q hq]; exact rw2.p7 q (by omega)
  · rw [hl] at hq; rw [hc q hq] at hk ⊢; exact rw2.p q (by omega) k hk
  · rw [hl] at hq; rw [hc q hq] at hlq; exact rw2.pl q (by omega) hlq
  · rw [hl] at hq hq'; rw [hc q hq] at h1; rw [hc q' hq'] at h2; exact rw2.dp q q' (by omega) (by omega) hne h1 h2
  · rw [hl] at hq; rw [hc q hq] at hlq; exact h.sp.p q (by omega) hlq
/-- a register has turned -/
theorem GAt.setr {B : Nat} {w w' : World} {g : Nat} {x : Hp} {ar : Option Addr} {kr : Nat} {ac : Option Addr} {kc : Nat} {vg : Value} {br bc : Nat} {pb : Nat → Nat} {pa : Nat → Option Addr} {pk : Nat → Nat} {role : Nat → Nat} (h : GAt B w g x ar kr ac kc vg br bc pb pa pk role) (j : Nat) (hj : j < x.regs.length) (y : Wd) (o : Only (fun q => q = br) w w') (nf : Nf1 br w') (hy : WdAt w' br (j * 3) y) (ho : ∀ m, (m < j * 3 ∨ j * 3 + 3 ≤ m) → w'.cell? ⟨br, m, none⟩ = w.cell? ⟨br, m, none⟩) :
    GAt B w' g { x with regs := x.regs.set j y } ar kr ac kc vg br bc pb pa pk role := by
  have hr : 0 < x.regs.length := by omega
  have far : ∀ q, q < w.heap.size → role q ≠ 2 → w'.heap[q]? = w.heap[q]? := fun q hq hn => o.block q hq (fun e => hn (by rw [e]; exact h.sp.r hr))
  have fg := far g h.nf.1 (by rw [h.sp.g]; omega)
  have hl : ({ x with regs := x.regs.set j y } : Hp).regs.length = x.regs.length := by simp
  have pf : ∀ q, q < x.cells.length → 0 < (x.c q).prs.length → w'.heap[pb q]? = w.heap[pb q]? := fun q hq hl => far (pb q) (h.rw.pl q hq hl).2.1.1 (by rw [h.sp.p q hq hl]; omega)
  have fc : 0 < x.cells.length → w'.heap[bc]? = w.heap[bc]? := fun hn => far bc (h.rw.nc hn).1.1 (by rw [h.sp.c hn]; omega)
  refine ⟨?_, nf1_block h.nf fg o.size, h.lo, fun _ => h.ha hr, h.hc, ⟨fun m hm => ?_, fun q hq => ?_, fun q hq => ?_, fun q hq k hk => ?_, fun q hq hlq => ?_, fun _ => ⟨nf, (h.rw.nr hr).2⟩, fun hn => ⟨nf1_block (h.rw.nc hn).1 (fc hn) o.size, (h.rw.nc hn).2⟩, h.rw.d, h.rw.dp⟩, h.gr.block (fun q hq => far q (h.gr.lt q hq).2 (by rw [h.sp.y q hq]; omega)), ⟨h.sp.g, fun _ => h.sp.r hr, h.sp.c, h.sp.y, h.sp.p⟩, h.kl⟩
  · rw [hl]; exact h.bx.block fg
  · have hm2 : m < x.regs.length := by rw [hl] at hm; exact hm
    by_cases e : m = j
    · subst e
      have : ({ x with regs := x.regs.set m y } : Hp).regs[m] = y := by simp
      rw [this]; exact hy
    · have hne : j ≠ m := fun e2 => e e2.symm
      have : ({ x with regs := x.regs.set j y } : Hp).regs[m] = x.regs[m] := by simp [hne]
      rw [this]
      exact (h.rw.r m hm2).of fun l hl => ho _ (by omega)
  · exact (h.rw.s q hq).of fun m _ => World.cell?_of_block (a := ⟨bc, _, none⟩) (fc (by have : q < x.cells.length := hq; omega))
  · rw [World.cell?_of_block (a := ⟨bc, _, none⟩) (fc (by have : q < x.cells.length := hq; omega))]; exact h.rw.p7 q hq
  · exact (h.rw.p q hq k hk).of fun m _ => World.cell?_of_block (a := ⟨pb q, _, none⟩) (pf q hq (by have : k < (x.c q).prs.length := hk; omega))
  · obtain ⟨a1, a2, a3⟩ := h.rw.pl q hq hlq
    exact ⟨a1, nf1_block a2 (pf q hq hlq) o.size, a3⟩
/-- a cell has moved -/
theorem GAt.move {B : Nat} {w w' : World} {g : Nat} {x : Hp} {ar : Option Addr} {kr : Nat} {ac : Option Addr} {kc : Nat} {vg : Value} {br bc : Nat} {pb : Nat → Nat} {pa : Nat → Option Addr} {pk : Nat → Nat} {role : Nat → Nat} (h : GAt B w g x ar kr ac kc vg br bc pb pa pk role) (t f : Nat) (htf : t ≠ f) (ht : t < x.cells.length) (hf : f < x.cells.length) (o : Only (fun q => q = bc) w w') (nf : Nf1 bc w') (hs : S7 w' bc (t * 8) (x.c f)) (h7 : w'.cell? ⟨bc, t * 8 + 7, none⟩ = some (.slice (pa f) (x.c f).prs.length (pk f))) (gs : S7 w' bc (f * 8) (mvC t)) (g7 : w'.cell? ⟨bc, f * 8 + 7, none⟩ = some (.slice none 0 0))
    (ho : ∀ q, q < x.cells.length → q ≠ t → q ≠ f → ∀ k, k < 8 → w'.cell? ⟨bc, q * 8 + k, none⟩ = w.cell? ⟨bc, q * 8 + k, none⟩) :
    ∃ pb' pa' pk' role', GAt B w' g { x with cells := (x.cells.set t (x.c f)).set f (mvC t) } ar kr ac kc vg br bc pb' pa' pk' role' := by
  have hc : ∀ q, ({ x with cells := (x.cells.set t (x.c f)).set f (mvC t) } : Hp).c q = if q = f then mvC t else if q = t then x.c f else x.c q := fun q => by
    have h1 := Hp.c_set { x with cells := x.cells.set t (x.c f) } f (mvC t) (by simpa using hf) q
    have h2 := Hp.c_set x t (x.c f) ht q
    have e : ({ x with cells := (x.cells.set t (x.c f)).set f (mvC t) } : Hp) = { ({ x with cells := x.cells.set t (x.c f) } : Hp) with cells := ({ x with cells := x.cells.set t (x.c f) } : Hp).cells.set f (mvC t) } := rfl
    rw [e, h1]
    by_cases e1 : q = f
    · rw [if_pos e1, if_pos e1]
    · rw [if_neg e1, if_neg e1]; exact h2
  refine ⟨_, _, _, _, h.turn ((x.cells.set t (x.c f)).set f (mvC t)) (by simp) (fun q => if q = t then f else q) (fun q => if q = f then none else if q = t then pa f else pa q) (fun q => if q = f then 0 else if q = t then pk f else pk q) (fun b => if 0 < (x.c f).prs.length ∧ b = pb f then 6 + t else role b) (by omega) o nf (fun q hq => ?_) (fun q hq => ?_) (fun q hq hl => ?_) (fun b hb => ?_)⟩
  · rw [hc q]
    by_cases e1 : q = f
    · subst e1; rw [if_pos rfl]; exact gs
    · rw [if_neg e1]
      by_cases e2 : q = t
      · subst e2; rw [if_pos rfl]; exact hs
      · rw [if_neg e2]; exact (h.rw.s q hq).of fun j hj => ho q hq e2 e1 j (by omega)
  · rw [hc q]
    by_cases e1 : q = f
    · subst e1; simp only [if_true]; exact g7
    · simp only [if_neg e1]
      by_cases e2 : q = t
      · subst e2; simp only [if_true]; exact h7
      · simp only [if_neg e2]; rw [ho q hq e2 e1 7 (by omega)]; exact h.rw.p7 q hq
  · rw [hc q] at hl ⊢
    by_cases e1 : q = f
    · rw [if_pos e1] at hl; simp [mvC] at hl
    · rw [if_neg e1] at hl ⊢
      simp only [if_neg e1]
      by_cases e2 : q = t
      · rw [if_pos e2] at hl
        simp only [if_pos e2]
        exact ⟨hf, trivial, trivial, by rw [if_pos ⟨hl, trivial⟩, e2]⟩
      · rw [if_neg e2] at hl
        simp only [if_neg e2]
        refine ⟨hq, trivial, trivial, ?_⟩
        rw [if_neg (fun e => ?_)]
        · exact h.sp.p q hq hl
        · have r1 := h.sp.p q hq hl
          have r2 := h.sp.p f hf e.1
          rw [e.2] at r1; omega
  · by_cases e : 0 < (x.c f).prs.length ∧ b = pb f
    · have r2 := h.sp.p f hf e.1
      rw [← e.2] at r2; omega
    · rw [if_neg e]
end Go.Proofs.YtkabcfhemljnbaaGreat

namespace Go.Proofs.YtkabcfhemljnbaaGreat
open Go.RowKit

/-! What turns in the store's memory: cells wiped and moved. -/
/-- the row of cells has turned; each row of pairs is one that was: of place 'so q' -/
theorem SAt.turned {B : Nat} {w w' : World} {b : Nat} {x : Hp} {ar : Option Addr} {kr : Nat} {v4 v8 : Value} {br bc bn : Nat} {pb : Nat → Nat} {pa : Nat → Option Addr} {pk : Nat → Nat} {kn hd : Nat} {vf : Value} {F : List Int} {vk : Value} {K : List Nat} {role : Nat → Nat} (h : SAt B w b x ar kr v4 v8 br bc bn pb pa pk kn hd vf F vk K role) (cs : List Cl) (hl : cs.length = x.cells.length) (so : Nat → Nat) (pa' : Nat → Option Addr) (pk' : Nat → Nat) (role' : Nat → Nat) (hn : 0 < x.cells.length)
    (o : Only (fun q => q = bc) w w') (nf : Nf1 bc w')
    (hs : ∀ q, q < x.cells.length → S7 w' bc (q * 8) (({ x with cells := cs } : Hp).c q))
    (h7 : ∀ q, q < x.cells.length → w'.cell? ⟨bc, q * 8 + 7, none⟩ = some (.slice (pa' q) (({ x with cells := cs } : Hp).c q).prs.length (pk' q)))
    (hso : ∀ q, q < x.cells.length → 0 < (({ x with cells := cs } : Hp).c q).prs.length → so q < x.cells.length ∧ (x.c (so q)).prs = (({ x with cells := cs } : Hp).c q).prs ∧ pa' q = pa (so q) ∧ role' (pb (so q)) = 6 + q)
    (hro : ∀ q, role q < 6 → role' q = role q) :
    SAt B w' b { x with cells := cs } ar kr v4 v8 br bc bn (fun q => pb (so q)) pa' pk' kn hd vf F vk K role' := by
  have far : ∀ q, q < w.heap.size → role q ≠ 3 → w'.heap[q]? = w.heap[q]? := fun q hq hr => o.block q hq (fun e => hr (by rw [e]; exact h.sp.c hn))
  have hl' : ({ x with cells := cs } : Hp).cells.length = x.cells.length := hl
  have pf : ∀ q, q < x.cells.length → 0 < (x.c q).prs.length → w'.heap[pb q]? = w.heap[pb q]? := fun q hq hl => far (pb q) (h.rw.pl q hq hl).2.1.1 (by rw [h.sp.p q hq hl]; omega)
  have sb2 := h.sb.same o.size (far b h.sb.nb.1 (by rw [h.sp.b]; omega)) (far bn h.sb.lo.2.2 (by rw [h.sp.n]; omega)) (fun q hq => far q (h.sb.fr.own.lt q hq).2 (by rw [h.sp.f q hq]; omega)) (fun q hq => far q (h.sb.kp.lt q hq).2 (by rw [h.sp.k q hq]; omega))
  refine ⟨⟨sb2.bx, sb2.ha, by rw [hl']; exact sb2.n13, fun k hk => sb2.nd k (by rw [hl'] at hk; exact hk), sb2.fr, sb2.rg, sb2.k0, sb2.kp, sb2.nb, sb2.lo⟩, ⟨fun k hk => ?_, fun q hq => ?_, fun q hq => ?_, fun q hq k hk => ?_, fun q hq hlq => ?_, fun hr => ⟨nf1_block (h.rw.nr hr).1 (far br (h.rw.nr hr).1.1 (by rw [h.sp.r hr]; omega)) o.size, (h.rw.nr hr).2⟩, fun _ => ⟨nf, (h.rw.nc hn).2⟩, fun _ => h.rw.d hn, fun q q' hq hq' hne h1 h2 => ?_⟩, ⟨?_, ?_, fun hr => ?_, fun _ => ?_, fun q hq => ?_, fun q hq => ?_, fun q hq hlq => ?_⟩⟩
  · exact (h.rw.r k hk).of fun j _ => World.cell?_of_block (a := ⟨br, _, none⟩) (far br (h.rw.nr (by have : k < x.regs.length := hk; omega)).1.1 (by rw [h.sp.r (by have : k < x.regs.length := hk; omega)]; omega))
  · rw [hl'] at hq; exact hs q hq
  · rw [hl'] at hq; exact h7 q hq
  · rw [hl'] at hq
    obtain ⟨a1, a2, _⟩ := hso q hq (by omega)
    have e2 : (({ x with cells := cs } : Hp).c q).p k = (x.c (so q)).p k := by simp only [Cl.p, a2]
    rw [← a2] at hk
    rw [e2]
    exact (h.rw.p (so q) a1 k hk).of fun j _ => World.cell?_of_block (a := ⟨pb (so q), _, none⟩) (pf (so q) a1 (by omega))
  · rw [hl'] at hq
    obtain ⟨a1, a2, a3, _⟩ := hso q hq hlq
    rw [← a2] at hlq
    obtain ⟨b1, b2, b3⟩ := h.rw.pl (so q) a1 hlq
    exact ⟨a3.trans b1, nf1_block b2 (pf (so q) a1 hlq) o.size, b3⟩
  · rw [hl'] at hq hq'
    intro e
    have r1 := (hso q hq h1).2.2.2
    have r2 := (hso q' hq' h2).2.2.2
    have e' : pb (so q) = pb (so q') := e
    rw [e', r2] at r1
    omega
  · rw [hro b (by rw [h.sp.b]; omega)]; exact h.sp.b
  · rw [hro bn (by rw [h.sp.n]; omega)]; exact h.sp.n
  · have := h.sp.r hr
    rw [hro br (by omega)]; exact this
  · have := h.sp.c hn
    rw [hro bc (by omega)]; exact this
  · have := h.sp.f q hq
    rw [hro q (by omega)]; exact this
  · have := h.sp.k q hq
    rw [hro q (by omega)]; exact this
  · rw [hl'] at hq
    exact (hso q hq hlq).2.2.2
/-- one cell is wiped -/
theorem SAt.wiped {B : Nat} {w : World} {b : Nat} {x : Hp} {ar : Option Addr} {kr : Nat} {v4 v8 : Value} {br bc bn : Nat} {pb : Nat → Nat} {pa : Nat → Option Addr} {pk : Nat → Nat} {kn hd : Nat} {vf : Value} {F : List Int} {vk : Value} {K : List Nat} {role : Nat → Nat} (h : SAt B w b x ar kr v4 v8 br bc bn pb pa pk kn hd vf F vk K role) (i : Nat) (hi : i < x.cells.length) (st tt : Int) :
    SAt B (wipeW w bc (i * 8) st tt) b { x with cells := x.cells.set i ⟨st, 0, 0, 0, 0, 0, tt, []⟩ } ar kr v4 v8 br bc bn pb (fun q => if q = i then none else pa q) (fun q => if q = i then 0 else pk q) kn hd vf F vk K role := by
  have hc := Hp.c_set x i ⟨st, 0, 0, 0, 0, 0, tt, []⟩ hi
  obtain ⟨k1, k2⟩ := wipe_same w bc (i * 8) st tt _ _ (h.rw.s i hi) (h.rw.p7 i hi)
  have ho := wipe_other w bc (i * 8) st tt
  refine h.turned (x.cells.set i ⟨st, 0, 0, 0, 0, 0, tt, []⟩) (by simp) (fun q => q) _ _ role (by omega) (wipe_only _ _ _ _ _) (wipe_nf (h.rw.nc (by omega)).1 _ _ _) (fun q hq => ?_) (fun q hq => ?_) (fun q hq hl => ?_) (fun _ _ => rfl)
  · rw [hc q]
    by_cases e : q = i
    · subst e; rw [if_pos rfl]; exact k1
    · rw [if_neg e]; exact (h.rw.s q hq).of fun j hj => ho _ (by omega)
  · rw [hc q]
    by_cases e : q = i
    · subst e; simp only [if_true]; exact k2
    · simp only [if_neg e]; rw [ho _ (by omega)]; exact h.rw.p7 q hq
  · rw [hc q] at hl ⊢
    by_cases e : q = i
    · rw [if_pos e] at hl; simp at hl
    · rw [if_neg e] at hl ⊢
      exact ⟨hq, rfl, by simp only [if_neg e], h.sp.p q hq hl⟩
end Go.Proofs.YtkabcfhemljnbaaGreat

namespace Go.Proofs.YtkabcfhemljnbaaGreat
open Go.RowKit

/-- the free places have turned -/
theorem SAt.freed {B : Nat} {w w' : World} {b : Nat} {x : Hp} {ar : Option Addr} {kr : Nat} {v4 v8 : Value} {br bc bn : Nat} {pb : Nat → Nat} {pa : Nat → Option Addr} {pk : Nat → Nat} {kn hd : Nat} {vf : Value} {F : List Int} {vk : Value} {K : List Nat} {role : Nat → Nat} (h : SAt B w b x ar kr v4 v8 br bc bn pb pa pk kn hd vf F vk K role) {vf' : Value} {F' : List Int} (l : LsAt w' B b 14 vf' F') (q : QFr b 14 vf vf' w w') (nf : Nf1 b w') :
    ∃ role', SAt B w' b x ar kr v4 v8 br bc bn pb pa pk kn hd vf' F' vk K role' := by
  have nfree : ∀ k, role k ≠ 4 → vf.ownBlock ≠ some k := fun k hk e => hk (h.sp.f k e)
  have far : ∀ k, k < w.heap.size → role k ≠ 4 → role k ≠ 0 → w'.heap[k]? = w.heap[k]? := fun k hk h1 h2 => q.block k hk (fun e => h2 (by rw [e]; exact h.sp.b)) (nfree k h1)
  have cb : ∀ o, o ≠ 14 → w'.cell? ⟨b, o, none⟩ = w.cell? ⟨b, o, none⟩ := fun o ho => q.hdr o ho
  have own2 : ∀ k, vf'.ownBlock = some k → vf.ownBlock = some k ∨ w.heap.size ≤ k := fun k hk => by
    rcases q.own with e | ⟨g, e, hg⟩
    · exact .inl (e ▸ hk)
    · rw [e] at hk; injection hk with hk; exact .inr (by omega)
  have ne4 : ∀ k, k < w.heap.size → role k ≠ 4 → vf'.ownBlock ≠ some k := fun k hk hr e => by
    rcases own2 k e with e2 | e2
    · exact hr (h.sp.f k e2)
    · omega
  have fn := far bn h.sb.lo.2.2 (by rw [h.sp.n]; omega) (by rw [h.sp.n]; omega)
  refine ⟨fun k => (open Classical in if vf'.ownBlock = some k then 4 else role k), ⟨h.sb.bx.of fun o ho => cb o (by omega), h.sb.ha, (cb 13 (by omega)).trans h.sb.n13, fun k hk => ⟨(World.cell?_of_block (a := ⟨bn, _, none⟩) fn).trans (h.sb.nd k hk).1, (World.cell?_of_block (a := ⟨bn, _, none⟩) fn).trans (h.sb.nd k hk).2⟩, l, h.sb.rg.of fun o h1 _ => cb o (by omega), (cb 4017 (by omega)).trans h.sb.k0, ownsRow_of_block h.sb.kp (fun k hk => far k (h.sb.kp.lt k hk).2 (by rw [h.sp.k k hk]; omega) (by rw [h.sp.k k hk]; omega)), nf, ⟨h.sb.lo.1, h.sb.lo.2.1, Nat.lt_of_lt_of_le h.sb.lo.2.2 q.size⟩⟩, h.rw.same q.size (fun hl => far br (h.rw.nr hl).1.1 (by rw [h.sp.r hl]; omega) (by rw [h.sp.r hl]; omega)) (fun hl => far bc (h.rw.nc hl).1.1 (by rw [h.sp.c hl]; omega) (by rw [h.sp.c hl]; omega)) (fun k hk hl => far (pb k) (h.rw.pl k hk hl).2.1.1 (by rw [h.sp.p k hk hl]; omega) (by rw [h.sp.p k hk hl]; omega)), ?_⟩
  refine ⟨?_, ?_, fun hl => ?_, fun hl => ?_, fun k hk => ?_, fun k hk => ?_, fun k hk hl => ?_⟩
  · rw [if_neg (ne4 b h.sb.nb.1 (by rw [h.sp.b]; omega))]; exact h.sp.b
  · rw [if_neg (ne4 bn h.sb.lo.2.2 (by rw [h.sp.n]; omega))]; exact h.sp.n
  · rw [if_neg (ne4 br (h.rw.nr hl).1.1 (by rw [h.sp.r hl]; omega))]; exact h.sp.r hl
  · rw [if_neg (ne4 bc (h.rw.nc hl).1.1 (by rw [h.sp.c hl]; omega))]; exact h.sp.c hl
  · rw [if_pos hk]
  · rw [if_neg (ne4 k (h.sb.kp.lt k hk).2 (by rw [h.sp.k k hk]; omega))]; exact h.sp.k k hk
  · rw [if_neg (ne4 (pb k) (h.rw.pl k hk hl).2.1.1 (by rw [h.sp.p k hk hl]; omega))]; exact h.sp.p k hk hl
end Go.Proofs.YtkabcfhemljnbaaGreat

namespace Go.Proofs.YtkabcfhemljnbaaGreat
open Go.RowKit

/-- the last cell is dropped -/
theorem SAt.drop {B : Nat} {w : World} {b : Nat} {x : Hp} {ar : Option Addr} {kr : Nat} {v4 v8 : Value} {br bc bn : Nat} {pb : Nat → Nat} {pa : Nat → Option Addr} {pk : Nat → Nat} {kn hd : Nat} {vf : Value} {F : List Int} {vk : Value} {K : List Nat} {role : Nat → Nat} (h : SAt B w b x ar kr v4 v8 br bc bn pb pa pk kn hd vf F vk K role) (i : Nat) (hi : i + 1 = x.cells.length) :
    SAt B (w.setCell ⟨b, 13, none⟩ (.slice (some ⟨bn, 0, none⟩) i kn)) b { x with cells := x.cells.take i } ar kr v4 v8 br bc bn pb pa pk kn hd vf F vk K role := by
  have far : ∀ q, q < w.heap.size → role q ≠ 0 → (w.setCell ⟨b, 13, none⟩ (.slice (some ⟨bn, 0, none⟩) i kn)).heap[q]? = w.heap[q]? := fun q hq hn => Below.heap_setCell _ _ _ _ (fun e => hn (by rw [e]; exact h.sp.b))
  have hsz : w.heap.size ≤ (w.setCell ⟨b, 13, none⟩ (.slice (some ⟨bn, 0, none⟩) i kn)).heap.size := by simp [World.setCell]
  have rw2 := h.rw.same (w' := w.setCell ⟨b, 13, none⟩ (.slice (some ⟨bn, 0, none⟩) i kn)) hsz (fun hl => far br (h.rw.nr hl).1.1 (by rw [h.sp.r hl]; omega)) (fun hl => far bc (h.rw.nc hl).1.1 (by rw [h.sp.c hl]; omega)) (fun q hq hl => far (pb q) (h.rw.pl q hq hl).2.1.1 (by rw [h.sp.p q hq hl]; omega))
  have hl : ({ x with cells := x.cells.take i } : Hp).cells.length = i := by simp; omega
  have hn : 0 < x.cells.length := by omega
  have hc : ∀ q, q < i → ({ x with cells := x.cells.take i } : Hp).c q = x.c q := fun q hq => by
    simp only [Hp.c, List.getD_eq_getElem?_getD, List.getElem?_take_of_lt hq]
  have cb : ∀ o, o ≠ 13 → (w.setCell ⟨b, 13, none⟩ (.slice (some ⟨bn, 0, none⟩) i kn)).cell? ⟨b, o, none⟩ = w.cell? ⟨b, o, none⟩ := fun o ho => cell_other _ (.inr (fun e => ho e.symm))
  have fn := far bn h.sb.lo.2.2 (by rw [h.sp.n]; omega)
  refine ⟨⟨h.sb.bx.of fun o ho => cb o (by omega), h.sb.ha, ?_, fun k hk => ?_, ⟨(cb 14 (by omega)).trans h.sb.fr.hd, (h.sb.nb.set _ _).2 14, ownsRow_of_block h.sb.fr.own (fun q hq => far q (h.sb.fr.own.lt q hq).2 (by rw [h.sp.f q hq]; omega)), h.sb.fr.apart⟩, h.sb.rg.of fun o h1 _ => cb o (by omega), (cb 4017 (by omega)).trans h.sb.k0, ownsRow_of_block h.sb.kp (fun q hq => far q (h.sb.kp.lt q hq).2 (by rw [h.sp.k q hq]; omega)), h.sb.nb.set _ _, ⟨h.sb.lo.1, h.sb.lo.2.1, Nat.lt_of_lt_of_le h.sb.lo.2.2 hsz⟩⟩, ⟨rw2.r, fun q hq => ?_, fun q hq => ?_, fun q hq k hk => ?_, fun q hq hlq => ?_, rw2.nr, fun _ => rw2.nc hn, fun _ => rw2.d hn, fun q q' hq hq' hne h1 h2 => ?_⟩, ⟨h.sp.b, h.sp.n, h.sp.r, fun _ => h.sp.c hn, h.sp.f, h.sp.k, fun q hq hlq => ?_⟩⟩
  · rw [hl]; exact World.cell?_setCell_same _ _ _ h.sb.n13
  · rw [hl] at hk
    exact ⟨(World.cell?_of_block (a := ⟨bn, _, none⟩) fn).trans (h.sb.nd k (by omega)).1, (World.cell?_of_block (a := ⟨bn, _, none⟩) fn).trans (h.sb.nd k (by omega)).2⟩
  · rw [hl] at hq; rw [hc q hq]; exact rw2.s q (by omega)
  · rw [hl] at hq; rw [hc q hq]; exact rw2.p7 q (by omega)
  · rw [hl] at hq; rw [hc q hq] at hk ⊢; exact rw2.p q (by omega) k hk
  · rw [hl] at hq; rw [hc q hq] at hlq; exact rw2.pl q (by omega) hlq
  · rw [hl] at hq hq'; rw [hc q hq] at h1; rw [hc q' hq'] at h2; exact rw2.dp q q' (by omega) (by omega) hne h1 h2
  · rw [hl] at hq; rw [hc q hq] at hlq; exact h.sp.p q (by omega) hlq
/-- a register has turned -/
theorem SAt.setr {B : Nat} {w w' : World} {b : Nat} {x : Hp} {ar : Option Addr} {kr : Nat} {v4 v8 : Value} {br bc bn : Nat} {pb : Nat → Nat} {pa : Nat → Option Addr} {pk : Nat → Nat} {kn hd : Nat} {vf : Value} {F : List Int} {vk : Value} {K : List Nat} {role : Nat → Nat} (h : SAt B w b x ar kr v4 v8 br bc bn pb pa pk kn hd vf F vk K role) (j : Nat) (hj : j < x.regs.length) (y : Wd) (o : Only (fun q => q = br) w w') (nf : Nf1 br w') (hy : WdAt w' br (j * 3) y) (ho : ∀ m, (m < j * 3 ∨ j * 3 + 3 ≤ m) → w'.cell? ⟨br, m, none⟩ = w.cell? ⟨br, m, none⟩) :
    SAt B w' b { x with regs := x.regs.set j y } ar kr v4 v8 br bc bn pb pa pk kn hd vf F vk K role := by
  have hr : 0 < x.regs.length := by omega
  have far : ∀ q, q < w.heap.size → role q ≠ 2 → w'.heap[q]? = w.heap[q]? := fun q hq hn => o.block q hq (fun e => hn (by rw [e]; exact h.sp.r hr))
  have hl : ({ x with regs := x.regs.set j y } : Hp).regs.length = x.regs.length := by simp
  have pf : ∀ q, q < x.cells.length → 0 < (x.c q).prs.length → w'.heap[pb q]? = w.heap[pb q]? := fun q hq hl => far (pb q) (h.rw.pl q hq hl).2.1.1 (by rw [h.sp.p q hq hl]; omega)
  have fc : 0 < x.cells.length → w'.heap[bc]? = w.heap[bc]? := fun hn => far bc (h.rw.nc hn).1.1 (by rw [h.sp.c hn]; omega)
  have sb2 := h.sb.same o.size (far b h.sb.nb.1 (by rw [h.sp.b]; omega)) (far bn h.sb.lo.2.2 (by rw [h.sp.n]; omega)) (fun q hq => far q (h.sb.fr.own.lt q hq).2 (by rw [h.sp.f q hq]; omega)) (fun q hq => far q (h.sb.kp.lt q hq).2 (by rw [h.sp.k q hq]; omega))
  refine ⟨⟨by rw [hl]; exact sb2.bx, fun _ => sb2.ha hr, sb2.n13, sb2.nd, sb2.fr, sb2.rg, sb2.k0, sb2.kp, sb2.nb, sb2.lo⟩, ⟨fun m hm => ?_, fun q hq => ?_, fun q hq => ?_, fun q hq k hk => ?_, fun q hq hlq => ?_, fun _ => ⟨nf, (h.rw.nr hr).2⟩, fun hn => ⟨nf1_block (h.rw.nc hn).1 (fc hn) o.size, (h.rw.nc hn).2⟩, h.rw.d, h.rw.dp⟩, ⟨h.sp.b, h.sp.n, fun _ => h.sp.r hr, h.sp.c, h.sp.f, h.sp.k, h.sp.p⟩⟩
  · have hm2 : m < x.regs.length := by rw [hl] at hm; exact hm
    by_cases e : m = j
    · subst e
      have : ({ x with regs := x.regs.set m y } : Hp).regs[m] = y := by simp
      rw [this]; exact hy
    · have hjm : j ≠ m := fun e' => e e'.symm
      have : ({ x with regs := x.regs.set j y } : Hp).regs[m] = x.regs[m] := by simp [List.getElem_set_ne hjm]
      rw [this]
      exact (h.rw.r m hm2).of fun k hk => ho _ (by omega)
  · exact (h.rw.s q hq).of fun m _ => World.cell?_of_block (a := ⟨bc, _, none⟩) (fc (by have : q < x.cells.length := hq; omega))
  · exact (World.cell?_of_block (a := ⟨bc, _, none⟩) (fc (by have : q < x.cells.length := hq; omega))).trans (h.rw.p7 q hq)
  · have hk2 : k < (x.c q).prs.length := hk
    exact (h.rw.p q hq k hk).of fun m _ => World.cell?_of_block (a := ⟨pb q, _, none⟩) (pf q hq (by omega))
  · obtain ⟨a1, a2, a3⟩ := h.rw.pl q hq hlq
    exact ⟨a1, nf1_block a2 (pf q hq hlq) o.size, a3⟩
end Go.Proofs.YtkabcfhemljnbaaGreat

namespace Go.Proofs.YtkabcfhemljnbaaGreat
open Go.RowKit
attribute [local go_sem ↓] Go.wp_at_zero Go.wp_at_succ

/-! The least free place. -/
def gapV (t : Option Nat) (bn : Nat) : Value := match t with
  | none => .pointer none
  | some j => ndp bn j
/-- what is left of the free places: those that were taken out are free no more -/
def GapL (x : Hp) (F F' : List Int) : Prop := Ho F' ∧ F'.length ≤ F.length ∧ (∀ v, v ∈ F' → v ∈ F) ∧ ∀ i, i < x.cells.length → (x.c i).st = 0 → (i : Int) ∈ F → (i : Int) ∈ F'
def GapT (x : Hp) (F' : List Int) (t : Option Nat) : Prop := match t with
  | none => F' = []
  | some j => j < x.cells.length ∧ (x.c j).st = 0 ∧ ∀ v, v ∈ F' → (j : Int) ≤ v
theorem GapL.next {x : Hp} {F F' L : List Int} {j : Nat} (h : GapL x F F') (ho : Ho L) (hp : ((j : Int) :: L).Perm F') (hj : j < x.cells.length → (x.c j).st ≠ 0) : GapL x F L ∧ L.length < F'.length := by
  have hlen := hp.length_eq
  simp at hlen
  refine ⟨⟨ho, by have := h.2.1; omega, fun v hv => h.2.2.1 v (hp.mem_iff.1 (List.mem_cons_of_mem _ hv)), fun i hi hs hm => ?_⟩, by omega⟩
  rcases List.mem_cons.1 (hp.mem_iff.2 (h.2.2.2 i hi hs hm)) with e | e
  · have : i = j := by omega
    subst this
    exact absurd hs (hj hi)
  · exact e
set_option maxRecDepth 100000 in
set_option maxHeartbeats 600000 in
theorem gap_any {B : Nat} {w : World} {b : Nat} {x : Hp} {ar : Option Addr} {kr : Nat} {v4 v8 : Value} {br bc bn : Nat} {pb : Nat → Nat} {pa : Nat → Option Addr} {pk : Nat → Nat} {kn hd : Nat} {vf : Value} {F : List Int} {vk : Value} {K : List Nat} {role : Nat → Nat} (h : SAt B w b x ar kr v4 v8 br bc bn pb pa pk kn hd vf F vk K role) (ho : Ho F) (hl : F.length ≤ 100000) (nn : ∀ v, v ∈ F → 0 ≤ v) :
    Calls Tryz.prog 239 #[.pointer (some ⟨b, 0, none⟩)] w fun e w' => ∃ t vf' F', e = .returned (gapV t bn) ∧ Hid (LsAt w' B b 14 vf' F' ∧ QFr b 14 vf vf' w w') ∧ Hid (GapL x F F' ∧ GapT x F' t) := by
  have H := hide h
  have LS := hide h.sb.fr
  have NN := hide nn
  have N13 := hide h.sb.n13
  have G0 := hide (show GapL x F F from ⟨ho, Nat.le_refl _, fun _ h => h, fun _ _ _ h => h⟩)
  have FARB := hide (show ∀ wr vf', QFr b 14 vf vf' w wr → ∀ k, k < w.heap.size → role k ≠ 4 → role k ≠ 0 → wr.heap[k]? = w.heap[k]? from fun wr vf' q k hk h1 h2 => q.block k hk (fun e => h2 (by rw [e]; exact h.sp.b)) (fun e => h1 (h.sp.f k e)))
  clear h ho nn
  go_enter Tryz.func239, Tryz.ntmps239
  go_wp2_with fail
  go_loopg [] (F.length + 1) (fun gk wr => ∃ (vf' : Value) (F' : List Int), F'.length < gk ∧ Hid (LsAt wr B b 14 vf' F' ∧ QFr b 14 vf vf' w wr) ∧ Hid (GapL x F F'))
  case atStart => exact ⟨vf, F, by omega, ⟨unhide LS, QFr.refl _ _ _ _⟩, unhide G0⟩
  case round =>
    clear LS G0
    obtain ⟨vf', F', hlt, hls, hgl⟩ := hrel
    have LS := hide (unhide hls).1
    have QQ := hide (unhide hls).2
    have n13 : wr.cell? ⟨b, 13, none⟩ = some (.slice (some ⟨bn, 0, none⟩) x.cells.length kn) := ((unhide QQ).hdr 13 (by omega)).trans (unhide N13)
    clear hls
    by_cases hz : F'.length = 0
    · obtain ⟨ad, cap, rfl⟩ := (unhide LS).empty hz
      have hd14 := (unhide LS).hd
      have FE := hide (show F' = [] from List.length_eq_zero_iff.1 hz)
      go_wp2_with fail
      refine (first_none _ b 14 ad cap hd14).mono ?_
      rintro e w1 ⟨rfl, rfl⟩
      go_wp2_with fail
      go_ret
      exact ⟨none, _, F', rfl, ⟨unhide LS, unhide QQ⟩, unhide hgl, unhide FE⟩
    · have hpos : 0 < F'.length := by omega
      obtain ⟨g, cap, rfl, hgb⟩ := (unhide LS).form hpos
      have hd14 := (unhide LS).hd
      have c0 := (unhide LS).cell 0 hpos
      obtain ⟨j, hj⟩ : ∃ j : Nat, it F' 0 = (j : Int) := ⟨(it F' 0).toNat, by have := unhide NN _ ((unhide hgl).2.2.1 _ (it_mem F' 0 hpos)); omega⟩
      rw [hj] at c0
      have j0 : (0:Int) ≤ (j:Int) := by omega
      have HJ := hide hj
      clear hj hgb hz
      by_cases hjn : j < x.cells.length
      · obtain ⟨m0, m1⟩ := (unhide H).sb.nd j hjn
        have p0 := ((unhide H).rw.s j hjn).1
        have n1 : wr.cell? ⟨bn, j * 2 + 1, none⟩ = some (.pointer (some ⟨bc, j * 8, none⟩)) := (World.cell?_of_block (a := ⟨bn, _, none⟩) (unhide FARB wr _ (unhide QQ) bn (unhide H).sb.lo.2.2 (by rw [(unhide H).sp.n]; omega) (by rw [(unhide H).sp.n]; omega))).trans m1
        have hn : 0 < x.cells.length := by omega
        have o0 : wr.cell? ⟨bc, j * 8, none⟩ = some (iv (x.c j).st) := (World.cell?_of_block (a := ⟨bc, _, none⟩) (unhide FARB wr _ (unhide QQ) bc ((unhide H).rw.nc hn).1.1 (by rw [(unhide H).sp.c hn]; omega) (by rw [(unhide H).sp.c hn]; omega))).trans p0
        have j1 : (j:Int) < (x.cells.length:Int) := by omega
        clear m0 m1 p0 hn
        go_wp2_with fail
        refine (first_some _ b 14 g 0 F'.length cap j hpos hd14 c0).mono ?_
        rintro e w1 ⟨rfl, rfl⟩
        cases q0 : ((x.c j).st == 0)
        · have q0' : ¬ (x.c j).st = 0 := by simpa using q0
          have NJ := hide (show j < x.cells.length → (x.c j).st ≠ 0 from fun _ => q0')
          go_wp2_with fail
          refine (take_some _ B b 14 _ F' (unhide LS) hpos (unhide hgl).1 (by have := (unhide hgl).2.1; omega)).mono ?_
          rintro e w2 ⟨rfl, v2, L2, l2, o2, p2, q2⟩
          rw [unhide HJ] at p2
          have R := hide (And.intro (And.intro l2 ((unhide QQ).trans q2)) ((unhide hgl).next o2 p2 (unhide NJ)))
          clear l2 o2 p2 q2 n13 hd14 c0
          go_wp2_with fail
          go_roundg F'.length
          case measure => exact hlt
          case rel => exact ⟨v2, L2, (unhide R).2.2, (unhide R).1, (unhide R).2.1⟩
        · have GT := hide (show GapT x F' (some j) from ⟨hjn, by simpa using q0, fun v hv => by have := (unhide hgl).1.least hv; rw [unhide HJ] at this; exact this⟩)
          go_wp2_with fail
          go_ret
          exact ⟨some j, _, F', rfl, ⟨unhide LS, unhide QQ⟩, unhide hgl, unhide GT⟩
      · have j1 : ¬ (j:Int) < (x.cells.length:Int) := by omega
        go_wp2_with fail
        refine (first_some _ b 14 g 0 F'.length cap j hpos hd14 c0).mono ?_
        rintro e w1 ⟨rfl, rfl⟩
        have NJ := hide (show j < x.cells.length → (x.c j).st ≠ 0 from fun h => absurd h hjn)
        go_wp2_with fail
        refine (take_some _ B b 14 _ F' (unhide LS) hpos (unhide hgl).1 (by have := (unhide hgl).2.1; omega)).mono ?_
        rintro e w2 ⟨rfl, v2, L2, l2, o2, p2, q2⟩
        rw [unhide HJ] at p2
        have R := hide (And.intro (And.intro l2 ((unhide QQ).trans q2)) ((unhide hgl).next o2 p2 (unhide NJ)))
        clear l2 o2 p2 q2 n13 hd14 c0
        go_wp2_with fail
        go_roundg F'.length
        case measure => exact hlt
        case rel => exact ⟨v2, L2, (unhide R).2.2, (unhide R).1, (unhide R).2.1⟩
end Go.Proofs.YtkabcfhemljnbaaGreat

namespace Go.Proofs.YtkabcfhemljnbaaGreat
open Go.RowKit
attribute [local go_sem ↓] Go.wp_at_zero Go.wp_at_succ

/-! The model's units: PMark. -/
theorem shadeW_sub (x : Hp) (y : Wd) (v : Int) : shadeW { x with sub := v } y = { shadeW x y with sub := v } := by
  have e : ∀ i, shadeH { x with sub := v } i = { shadeH x i with sub := v } := fun i => by
    have hb : shadeB { x with sub := v } i = shadeB x i := rfl
    unfold shadeH
    rw [hb]
    split <;> rfl
  unfold shadeW
  split
  · exact e _
  · rfl
/-- shading, with the bounds alone -/
theorem gshade_l (B g : Nat) (x : Hp) (y : Wd) (w : World) (h : GOk B w g x) (n8 : x.cells.length ≤ 8000) (ng : x.gray.length ≤ 8000) (hy : Good1 x y) (h0 : y.k = 2 → 0 ≤ y.a) (a : World) (ha : a.heap.size ≤ B) (hx : Ext a w) (hB : B ≤ w.heap.size) :
    Calls Tryz.prog 73 #[.pointer (some ⟨g, 0, none⟩), y.v] w fun e w' => e = .returned (.bool (sshB x y)) ∧ GOk B w' g (shadeW x y) ∧ Ext a w' := by
  obtain ⟨ar, kr, ac, kc, vg, br, bc, pb, pa, pk, role, h⟩ := h
  obtain ⟨ag, kg, rfl⟩ := h.gr.form
  refine (l3shade_any y w h (fun hk => ⟨h0 hk, by have := (hy hk).1; have := h0 hk; omega⟩) n8 ng a ha hx hB).mono ?_
  rintro e w' ⟨he, h2, h3⟩
  obtain ⟨ag', kg', role', h2⟩ := h2
  rw [ssh_eq hy h0] at h2
  exact ⟨he, ⟨_, _, _, _, _, _, _, _, _, _, _, h2⟩, h3⟩
/-- the first of the gray ones is taken away -/
theorem GAt.gtail {B : Nat} {w : World} {g : Nat} {x : Hp} {ar : Option Addr} {kr : Nat} {ac : Option Addr} {kc : Nat} {gb go n cap : Nat} {br bc : Nat} {pb : Nat → Nat} {pa : Nat → Option Addr} {pk : Nat → Nat} {role : Nat → Nat} {G : List Int} {v' : Value} (h : GAt B w g x ar kr ac kc (.slice (some ⟨gb, go, none⟩) n cap) br bc pb pa pk role) (hv : Grw w B v' G) (ho : v'.ownBlock = some gb) :
    GOk B (w.setCell ⟨g, 8, none⟩ v') g { x with gray := G } := by
  have far : ∀ q, q < w.heap.size → role q ≠ 0 → (w.setCell ⟨g, 8, none⟩ v').heap[q]? = w.heap[q]? := fun q hq hn => Below.heap_setCell _ _ _ _ (fun e => hn (by rw [e]; exact h.sp.g))
  have rw2 := h.rw.same (w' := w.setCell ⟨g, 8, none⟩ v') (by simp [World.setCell]) (fun hl => far br (h.rw.nr hl).1.1 (by rw [h.sp.r hl]; omega)) (fun hl => far bc (h.rw.nc hl).1.1 (by rw [h.sp.c hl]; omega)) (fun q hq hl => far (pb q) (h.rw.pl q hq hl).2.1.1 (by rw [h.sp.p q hq hl]; omega))
  have r4 : role gb = 4 := h.sp.y gb rfl
  refine ⟨_, _, _, _, _, _, _, _, _, _, _, ⟨h.bx.set8 _, h.nf.set _ _, h.lo, h.ha, h.hc, ⟨rw2.r, rw2.s, rw2.p7, rw2.p, rw2.pl, rw2.nr, rw2.nc, rw2.d, rw2.dp⟩, hv.block (fun q hq => ?_), ⟨h.sp.g, h.sp.r, h.sp.c, fun q hq => ?_, h.sp.p⟩, h.kl⟩⟩
  · refine far q ?_ ?_
    · exact (hv.lt q hq).2
    · rw [ho] at hq; injection hq with hq; rw [← hq, r4]; omega
  · rw [ho] at hq; injection hq with hq; rw [← hq]; exact r4
theorem Grw.tail1 {w : World} {B : Nat} {gb go : Nat} {g : Int} {G : List Int} (h : Grw w B (.slice (some ⟨gb, go, none⟩) (G.length + 1) 1) (g :: G)) : Grw w B (.slice (some ⟨gb, go, none⟩) G.length 0) G := by
  rcases h with ⟨_, e⟩ | ⟨gb', go', cap', cur, e, hb, hg, hn, hs, ht⟩
  · cases e
  · simp only [Value.slice.injEq, Option.some.injEq, Addr.mk.injEq] at e
    obtain ⟨⟨rfl, rfl, _⟩, _, rfl⟩ := e
    have hn2 : G.length + 1 ≤ 1 := hn
    have : G = [] := List.eq_nil_of_length_eq_zero (by omega)
    subst this
    exact .inr ⟨gb, go, 0, cur, rfl, hb, hg, by simp, by omega, by simp⟩
/-- a pair in a box of its own -/
def pairW (w : World) (b : Nat) (p : Pr) : World := (((((w.setCell ⟨b, 0, none⟩ (.int .i64 p.key.k)).setCell ⟨b, 1, none⟩ (.int .i64 p.key.n)).setCell ⟨b, 2, none⟩ (.int .i64 p.key.a)).setCell ⟨b, 3, none⟩ (.int .i64 p.val.k)).setCell ⟨b, 4, none⟩ (.int .i64 p.val.n)).setCell ⟨b, 5, none⟩ (.int .i64 p.val.a)
theorem pairW_at (w : World) (b : Nat) (p : Pr) (v0 v1 v2 v3 v4 v5 : Value) (h0 : w.cell? ⟨b, 0, none⟩ = some v0) (h1 : w.cell? ⟨b, 1, none⟩ = some v1) (h2 : w.cell? ⟨b, 2, none⟩ = some v2) (h3 : w.cell? ⟨b, 3, none⟩ = some v3) (h4 : w.cell? ⟨b, 4, none⟩ = some v4) (h5 : w.cell? ⟨b, 5, none⟩ = some v5) : PrAt (pairW w b p) b 0 p := by
  unfold pairW
  refine ⟨?_, ?_, ?_, ?_, ?_, ?_⟩
  · iterate 5 rw [cell_other _ (.inr (by omega))]
    exact cs_same h0
  · iterate 4 rw [cell_other _ (.inr (by omega))]
    refine cs_same (u := v1) ?_
    rw [cell_other _ (.inr (by omega))]; exact h1
  · iterate 3 rw [cell_other _ (.inr (by omega))]
    refine cs_same (u := v2) ?_
    iterate 2 rw [cell_other _ (.inr (by omega))]
    exact h2
  · iterate 2 rw [cell_other _ (.inr (by omega))]
    refine cs_same (u := v3) ?_
    iterate 3 rw [cell_other _ (.inr (by omega))]
    exact h3
  · rw [cell_other _ (.inr (by omega))]
    refine cs_same (u := v4) ?_
    iterate 4 rw [cell_other _ (.inr (by omega))]
    exact h4
  · refine cs_same (u := v5) ?_
    iterate 5 rw [cell_other _ (.inr (by omega))]
    exact h5
theorem pairW_ext {a w : World} {b : Nat} (p : Pr) (h : Ext a w) (hb : a.heap.size ≤ b) : Ext a (pairW w b p) := by
  unfold pairW
  exact (((((h.setCell (p := ⟨b, 0, none⟩) hb _).setCell (p := ⟨b, 1, none⟩) hb _).setCell (p := ⟨b, 2, none⟩) hb _).setCell (p := ⟨b, 3, none⟩) hb _).setCell (p := ⟨b, 4, none⟩) hb _).setCell (p := ⟨b, 5, none⟩) hb _
/-- the box of a pair that is read -/
theorem pair_box (w : World) (n : Nat) (p : Pr) (t : TypeId) : Ext w (pairW ((w.drewN n).alloc (.cells #[.int .i64 0, .int .i64 0, .int .i64 0, .int .i64 0, .int .i64 0, .int .i64 0] t)) w.heap.size p) ∧ PrAt (pairW ((w.drewN n).alloc (.cells #[.int .i64 0, .int .i64 0, .int .i64 0, .int .i64 0, .int .i64 0, .int .i64 0] t)) w.heap.size p) w.heap.size 0 p :=
  ⟨pairW_ext p (((Ext.refl w).drewN n).alloc _) (Nat.le_refl _), pairW_at _ _ p _ _ _ _ _ _ (dalloc_new w n _ t 0) (dalloc_new w n _ t 1) (dalloc_new w n _ t 2) (dalloc_new w n _ t 3) (dalloc_new w n _ t 4) (dalloc_new w n _ t 5)⟩

set_option maxRecDepth 100000 in
set_option maxHeartbeats 600000 in
theorem l3mark_pair (B g : Nat) (x : Hp) (w : World) (h : GOk B w g x) (s : Snd x) (hp : x.phase = 2) (a : World) (ha : a.heap.size ≤ B) (hx : Ext a w) (i : Nat) (G : List Int) (hg : x.gray = (i : Int) :: G) (hin : i < x.cells.length) (k : Nat) (hk : x.sub = (k : Int)) (hkl : k < (x.c i).prs.length) :
    Calls Tryz.prog 166 #[.pointer (some ⟨g, 0, none⟩)] w fun e w' => e = .returned (.tuple #[]) ∧ GOk B w' g { shadeW (shadeW x ((x.c i).p k).key) ((x.c i).p k).val with sub := (k : Int) + 1 } ∧ Ext a w' := by
  obtain ⟨ar, kr, ac, kc, vg, br, bc, pb, pa, pk, role, h⟩ := h
  obtain ⟨ag, kg, rfl⟩ := h.gr.form
  have H := hide h
  have hn : 0 < x.cells.length := by omega
  have c4 := h.bx.2.2.2.2.1
  have c7 := h.bx.2.2.2.2.2.2.2.1
  have c8 := h.bx.2.2.2.2.2.2.2.2.1
  obtain ⟨gb, go, hag, hg0, _⟩ := h.gr.at 0 (by rw [hg]; simp)
  have eg : x.gray[0]'(by rw [hg]; simp) = (i : Int) := by simp [hg]
  rw [eg] at hg0
  simp only [Nat.add_zero] at hg0
  rw [h.hc hn] at c4
  rw [hag] at c8
  rw [hk] at c7
  have p7 := h.rw.p7 i hin
  rw [(h.rw.pl i hin (by omega)).1] at p7
  obtain ⟨q0, q1, q2, q3, q4, q5⟩ := h.rw.p i hin k hkl
  have lg : x.gray.length = G.length + 1 := by rw [hg]; rfl
  rw [lg] at c8
  have hgw : g < w.heap.size := cell_lt c4
  have lo := h.lo
  have n8 := s.ok.n8
  have gl8 : G.length ≤ 8000 := by have := s.r1.gray; omega
  have p2 := s.ok.p200 i hin
  have S := hide s
  have HG := hide (s.good_pair (.inr hp) i k hin hkl)
  have f7 := h.nf.2 7
  have K0 := hide (show ((x.c i).p k).key.k = 2 → 0 ≤ ((x.c i).p k).key.a ∧ ((x.c i).p k).key.a < x.cells.length from fun hk => by
    have h1 := (((s.r4.2 i hin).2 k hkl).2 (fun d => by have := d.1; omega)).1.1
    unfold Formed at h1; omega)
  have K1 := hide (show ((x.c i).p k).val.k = 2 → 0 ≤ ((x.c i).p k).val.a ∧ ((x.c i).p k).val.a < x.cells.length from fun hk => by
    have h1 := (((s.r4.2 i hin).2 k hkl).2 (fun d => by have := d.1; omega)).2.1
    unfold Formed at h1; omega)
  have N4 := hide (show ({ shadeW x ((x.c i).p k).key with sub := (k : Int) + 1 } : Hp).cells.length ≤ 8000 ∧ ({ shadeW x ((x.c i).p k).key with sub := (k : Int) + 1 } : Hp).gray.length ≤ 8000 ∧ Good1 { shadeW x ((x.c i).p k).key with sub := (k : Int) + 1 } ((x.c i).p k).val from by
    have s2 := s.shdW _ (unhide HG).1
    have e := (shadeW_same x ((x.c i).p k).key).2.1
    have g2 := s2.r1.gray
    have u := shadeW_un x _ (unhide HG).1
    refine ⟨?_, ?_, ?_⟩
    · show (shadeW x ((x.c i).p k).key).cells.length ≤ 8000; omega
    · show (shadeW x ((x.c i).p k).key).gray.length ≤ 8000; omega
    · exact (unhide HG).2.keep (z := { shadeW x ((x.c i).p k).key with sub := (k : Int) + 1 }) e u)
  have i0 : (0:Int) ≤ (i:Int) := by omega
  have i1 : (i:Int) < (x.cells.length:Int) := by omega
  have k0 : (0:Int) ≤ (k:Int) := by omega
  have k1 : (k:Int) < ((x.c i).prs.length:Int) := by omega
  have g1 : (0:Int) < (G.length:Int) + 1 := by omega
  have GR := hide (show x.gray.length ≤ 8000 by have := s.r1.gray; omega)
  have zn := fun n j => dalloc_new w n #[.int .i64 0, .int .i64 0, .int .i64 0, .int .i64 0, .int .i64 0, .int .i64 0] 123 j
  have zf := fun n j => dalloc_fr w n #[.int .i64 0, .int .i64 0, .int .i64 0, .int .i64 0, .int .i64 0, .int .i64 0] 123 j
  have zo := fun n o b j (h : b < w.heap.size) => dalloc_old w n o b j h
  have hbc : bc < w.heap.size := cell_lt p7
  have hpb : pb i < w.heap.size := cell_lt q0
  clear h eg hg hk lg hag s
  go_enter Tryz.func166, Tryz.ntmps166
  go_wp2_with fail
  go_quiet (fail)
  go_wp2_with fail
  go_region
  all_goals
    obtain ⟨W2, hW2⟩ : ∃ W, W = pairW ((w.drewN (nq + 1)).alloc (.cells #[.int .i64 0, .int .i64 0, .int .i64 0, .int .i64 0, .int .i64 0, .int .i64 0] 123)) w.heap.size ((x.c i).p k) := ⟨_, rfl⟩
    have PB := pair_box w (nq + 1) ((x.c i).p k) 123
    rw [← hW2] at PB
    unfold pairW at hW2
    rw [← hW2]
    clear hW2 zn zf zo q0 q1 q2 q3 q4 q5
    obtain ⟨X2, y0, y1, y2, y3, y4, y5⟩ := PB
    have d7 := X2.keep c7
    have hgW : g < W2.heap.size := cell_lt d7
    have f7b : W2.frozen? ⟨g, 7, none⟩ = false := ((bcell X2).2 g 7 hgw).trans f7
    clear c4 c7 c8 p7 hg0 f7
    have H3 := hide (show GAt B (W2.setCell ⟨g, 7, none⟩ (iv ((k : Int) + 1))) g { x with sub := (k : Int) + 1 } ar kr ac kc (.slice ag x.gray.length kg) br bc pb pa pk role from
      ((unhide H).ext X2).boxed (x' := { x with sub := (k : Int) + 1 }) (Only.setCell (S := fun q => q = g) (Only.refl _ W2) (p := ⟨g, 7, none⟩) rfl _) (((unhide H).ext X2).nf.set _ _) rfl rfl rfl (((unhide H).ext X2).bx.set7 _))
    have X3 := hide ((hx.trans X2).setCell (p := ⟨g, 7, none⟩) (show a.heap.size ≤ g by omega) (iv ((k : Int) + 1)))
    have BX := hide (show w.heap.size < W2.heap.size from cell_lt y0)
    have Y3 := hide (show (W2.setCell ⟨g, 7, none⟩ (iv ((k : Int) + 1))).cell? ⟨w.heap.size, 3, none⟩ = some (iv ((x.c i).p k).val.k) from (cell_other _ (.inl (by omega))).trans y3)
    have Y4 := hide (show (W2.setCell ⟨g, 7, none⟩ (iv ((k : Int) + 1))).cell? ⟨w.heap.size, 4, none⟩ = some (iv ((x.c i).p k).val.n) from (cell_other _ (.inl (by omega))).trans y4)
    have Y5 := hide (show (W2.setCell ⟨g, 7, none⟩ (iv ((k : Int) + 1))).cell? ⟨w.heap.size, 5, none⟩ = some (iv ((x.c i).p k).val.a) from (cell_other _ (.inl (by omega))).trans y5)
    have GB := hide (show ∀ b o n, ag = some ⟨b, o, n⟩ → b ≠ w.heap.size from fun b o n e e2 => by
      have := (unhide H).gr.lt b (by rw [e]; rfl)
      omega)
    go_wp2_with fail
    refine (l3shade_fr ((x.c i).p k).key _ (unhide H3) (fun hk => unhide K0 hk) n8 (unhide GR) a ha (unhide X3) ?_).mono ?_
    · have := X2.size; simp [World.setCell]; omega
    rintro e w3 ⟨rfl, h3, x3, fr⟩
    obtain ⟨ag3, kg3, role3, h3⟩ := unhide h3
    have fb : w3.heap[w.heap.size]? = (W2.setCell ⟨g, 7, none⟩ (iv ((k : Int) + 1))).heap[w.heap.size]? := unhide fr w.heap.size (by have := unhide BX; simpa [World.setCell] using this) (by omega) (by omega) (unhide GB)
    have z3 := (World.cell?_of_block (a := ⟨w.heap.size, 3, none⟩) fb).trans (unhide Y3)
    have z4 := (World.cell?_of_block (a := ⟨w.heap.size, 4, none⟩) fb).trans (unhide Y4)
    have z5 := (World.cell?_of_block (a := ⟨w.heap.size, 5, none⟩) fb).trans (unhide Y5)
    have H4 := hide (show GOk B w3 g { shadeW x ((x.c i).p k).key with sub := (k : Int) + 1 } by
      rw [ssh_eq (x := { x with sub := (k : Int) + 1 }) (unhide HG).1 (fun hk => (unhide K0 hk).1), shadeW_sub] at h3
      exact ⟨_, _, _, _, _, _, _, _, _, _, _, h3⟩)
    have X4 := hide x3
    clear h3 x3 fr fb H3 Y3 Y4 Y5 y0 y1 y2 y3 y4 y5 d7 f7b X3
    go_wp2_with fail
    refine (gshade_l B g { shadeW x ((x.c i).p k).key with sub := (k : Int) + 1 } ((x.c i).p k).val _ (unhide H4) (unhide N4).1 (unhide N4).2.1 (unhide N4).2.2 (fun hk => (unhide K1 hk).1) a ha (unhide X4) ?_).mono ?_
    · have h1 := (unhide H4).box.2.2.2.2; omega
    rintro e w5 ⟨rfl, h5, x5⟩
    rw [shadeW_sub] at h5
    have H5 := hide h5
    clear h5
    go_wp2_with fail
    try simp only [Exit.inBlock, Exit.then]
    refine bodyPost_ret (results_none rfl _ _ _) rfl ?_
    exact ⟨rfl, unhide H5, x5⟩
end Go.Proofs.YtkabcfhemljnbaaGreat
