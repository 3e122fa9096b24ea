import Derived.Test.YtkabcfhemljnbaaGreatLc
import Derived.Test.YtkabcfhemljnbaaGreatSa
import Derived.Deep.RegionWith
import Derived.Deep.RegionLaw
import Derived.Deep.QuietTactic
namespace Go.Proofs.YtkabcfhemljnbaaGreat
open Go.RowKit
attribute [local go_sem ↓] Go.wp_at_zero Go.wp_at_succ

/-! spec.l3shade. -/
def sshB (x : Hp) (y : Wd) : Bool := mkB x && (y.k == 2 && (x.c y.a.toNat).color == 0)
def sshH (x : Hp) (y : Wd) : Hp := if sshB x y = true then { x with cells := x.cells.set y.a.toNat (grayC (x.c y.a.toNat)), gray := x.gray ++ [y.a] } else x
theorem GAt.setc {B : Nat} {w w' : World} {g : Nat} {x : Hp} {ar : Option Addr} {kr : Nat} {ac : Option Addr} {kc : Nat} {vg : Value} {br bc : Nat} {pb : Nat → Nat} {pa : Nat → Option Addr} {pk : Nat → Nat} {role : Nat → Nat} {i : Nat} {c' : Cl} (h : GAt B w g x ar kr ac kc vg br bc pb pa pk role) (hi : i < x.cells.length) (hp : c'.prs = (x.c i).prs) (o : Only (fun q => q = bc) w w') (hs : S7 w' bc (i * 8) c') (ho : ∀ k, (k < i * 8 ∨ i * 8 + 7 ≤ k) → w'.cell? ⟨bc, k, none⟩ = w.cell? ⟨bc, k, none⟩) (nf : Nf1 bc w') :
    GAt B w' g { x with cells := x.cells.set i c' } ar kr ac kc vg br bc pb pa pk role := by
  have hn : 0 < x.cells.length := by omega
  have far : ∀ q, q < w.heap.size → role q ≠ 3 → w'.heap[q]? = w.heap[q]? := fun q hq hr => o.block q hq (fun e => hr (by rw [e]; exact h.sp.c hn))
  have hl : ({ x with cells := x.cells.set i c' } : Hp).cells.length = x.cells.length := by simp
  have hc := Hp.c_set x i c' hi
  have hpr : ∀ q, (({ x with cells := x.cells.set i c' } : Hp).c q).prs = (x.c q).prs := fun q => by
    rw [hc q]; by_cases e : q = i
    · rw [if_pos e, hp, e]
    · rw [if_neg e]
  have fg := far g h.nf.1 (by rw [h.sp.g]; omega)
  have pf : ∀ q, q < x.cells.length → 0 < (x.c q).prs.length → w'.heap[pb q]? = w.heap[pb q]? := fun q hq hl => far (pb q) (h.rw.pl q hq hl).2.1.1 (by rw [h.sp.p q hq hl]; omega)
  refine ⟨?_, nf1_block h.nf fg o.size, h.lo, h.ha, fun _ => h.hc hn, ⟨fun k hk => ?_, fun q hq => ?_, fun q hq => ?_, fun q hq k hk => ?_, fun q hq hlq => ?_, fun hr => ⟨nf1_block (h.rw.nr hr).1 (far br (h.rw.nr hr).1.1 (by rw [h.sp.r hr]; omega)) o.size, (h.rw.nr hr).2⟩, fun _ => ⟨nf, (h.rw.nc hn).2⟩, fun _ => h.rw.d hn, fun q q' hq hq' hne h1 h2 => ?_⟩, h.gr.block (fun q hq => far q (h.gr.lt q hq).2 (by rw [h.sp.y q hq]; omega)), ⟨h.sp.g, h.sp.r, fun _ => h.sp.c hn, h.sp.y, fun q hq hlq => ?_⟩, by rw [hl]; exact h.kl⟩
  · rw [hl]; exact (h.bx.block fg)
  · exact (h.rw.r k hk).of fun j _ => World.cell?_of_block (a := ⟨br, _, none⟩) (far br (h.rw.nr (by have : k < x.regs.length := hk; omega)).1.1 (by rw [h.sp.r (by have : k < x.regs.length := hk; omega)]; omega))
  · rw [hl] at hq
    rw [hc q]
    by_cases e : q = i
    · subst e; rw [if_pos rfl]; exact hs
    · rw [if_neg e]; exact (h.rw.s q hq).of fun j hj => ho _ (by omega)
  · rw [hl] at hq
    rw [hpr q, ho _ (by omega)]; exact h.rw.p7 q hq
  · rw [hl] at hq
    have e2 : (({ x with cells := x.cells.set i c' } : Hp).c q).p k = (x.c q).p k := by simp only [Cl.p, hpr q]
    rw [hpr q] at hk
    rw [e2]
    exact (h.rw.p q hq k hk).of fun j _ => World.cell?_of_block (a := ⟨pb q, _, none⟩) (pf q hq (by omega))
  · rw [hl] at hq; rw [hpr q] at hlq
    obtain ⟨a1, a2, a3⟩ := h.rw.pl q hq hlq
    exact ⟨a1, nf1_block a2 (pf q hq hlq) o.size, a3⟩
  · rw [hl] at hq hq'; rw [hpr] at h1 h2; exact h.rw.dp q q' hq hq' hne h1 h2
  · rw [hl] at hq; rw [hpr q] at hlq; exact h.sp.p q hq hlq
/-- something was appended to the gray ones -/
theorem GAt.push {B : Nat} {W w5 : World} {g : Nat} {x : Hp} {ar : Option Addr} {kr : Nat} {ac : Option Addr} {kc : Nat} {vg : Value} {br bc : Nat} {pb : Nat → Nat} {pa : Nat → Option Addr} {pk : Nat → Nat} {role : Nat → Nat} {i : Int} {gb go cap : Nat} (h : GAt B W g x ar kr ac kc vg br bc pb pa pk role) (hg : W.grownBy w5 vg.ownBlock) (h5 : Grw w5 B (.slice (some ⟨gb, go, none⟩) (x.gray.length + 1) cap) (x.gray ++ [i])) (hat : vg.ownBlock = some gb ∨ gb = W.heap.size) :
    GAt B (w5.setCell ⟨g, 8, none⟩ (.slice (some ⟨gb, go, none⟩) (x.gray.length + 1) cap)) g { x with gray := x.gray ++ [i] } ar kr ac kc (.slice (some ⟨gb, go, none⟩) (x.gray.length + 1) cap) br bc pb pa pk (fun q => if q = gb then 4 else role q) := by
  have hgb : ∀ q, q < W.heap.size → role q ≠ 4 → q ≠ gb := fun q hq hr e => by
    rcases hat with a | a
    · exact hr (by rw [e]; exact h.sp.y gb a)
    · omega
  have far : ∀ q, q < W.heap.size → role q ≠ 4 → w5.heap[q]? = W.heap[q]? := fun q hq hr => hg.block q hq (fun e => hr (h.sp.y q e.symm))
  have hb := h.nf.1
  have rb : role g ≠ 4 := by rw [h.sp.g]; omega
  have fb := far g hb rb
  have nbg := hgb g hb rb
  have far2 : ∀ q, q < W.heap.size → role q ≠ 4 → q ≠ g → (w5.setCell ⟨g, 8, none⟩ (.slice (some ⟨gb, go, none⟩) (x.gray.length + 1) cap)).heap[q]? = W.heap[q]? := fun q hq hr hne => (Below.heap_setCell _ _ _ _ hne).trans (far q hq hr)
  have hsz : W.heap.size ≤ (w5.setCell ⟨g, 8, none⟩ (.slice (some ⟨gb, go, none⟩) (x.gray.length + 1) cap)).heap.size := by have := hg.size; simpa [World.setCell] using this
  have rw2 := h.rw.same hsz (fun hl => far2 br (h.rw.nr hl).1.1 (by rw [h.sp.r hl]; omega) (fun e => by have h1 := h.sp.r hl; have h2 := h.sp.g; rw [e] at h1; omega)) (fun hl => far2 bc (h.rw.nc hl).1.1 (by rw [h.sp.c hl]; omega) (fun e => by have h1 := h.sp.c hl; have h2 := h.sp.g; rw [e] at h1; omega)) (fun q hq hl => far2 (pb q) (h.rw.pl q hq hl).2.1.1 (by rw [h.sp.p q hq hl]; omega) (fun e => by have h1 := h.sp.p q hq hl; have h2 := h.sp.g; rw [e] at h1; omega))
  refine ⟨(h.bx.block fb).set8 _, (nf1_block h.nf fb hg.size).set _ _, h.lo, h.ha, h.hc, ⟨rw2.r, rw2.s, rw2.p7, rw2.p, rw2.pl, rw2.nr, rw2.nc, rw2.d, rw2.dp⟩, ?_, ⟨?_, fun hl => ?_, fun hl => ?_, fun q hq => ?_, fun q hq hl => ?_⟩, h.kl⟩
  · exact h5.block (w' := w5.setCell ⟨g, 8, none⟩ (.slice (some ⟨gb, go, none⟩) (x.gray.length + 1) cap)) (fun q hq => Below.heap_setCell _ _ _ _ (fun e => nbg (by simp [Value.ownBlock] at hq; rw [hq]; exact e.symm)))
  · rw [if_neg nbg]; exact h.sp.g
  · rw [if_neg (hgb br (h.rw.nr hl).1.1 (by rw [h.sp.r hl]; omega))]; exact h.sp.r hl
  · rw [if_neg (hgb bc (h.rw.nc hl).1.1 (by rw [h.sp.c hl]; omega))]; exact h.sp.c hl
  · simp [Value.ownBlock] at hq; rw [if_pos hq.symm]
  · rw [if_neg (hgb (pb q) (h.rw.pl q hq hl).2.1.1 (by rw [h.sp.p q hq hl]; omega))]; exact h.sp.p q hq hl

theorem l3marking_any (x : Hp) (b : Nat) (w : World) (c5 : w.cell? ⟨b, 5, none⟩ = some (iv x.phase)) :
    Calls Tryz.prog 120 #[.pointer (some ⟨b, 0, none⟩)] w fun e w' => e = .returned (.bool (mkB x)) ∧ w' = w := by
  cases q : (x.phase == 1)
  · have E := hide (show mkB x = (x.phase == 2) by simp [mkB, q])
    go_enter Tryz.func120, Tryz.ntmps120
    go_wp2_with fail
    go_ret
    exact ⟨by rw [unhide E]; rfl, rfl⟩
  · have E := hide (show mkB x = true by simp [mkB, q])
    go_enter Tryz.func120, Tryz.ntmps120
    go_wp2_with fail
    go_ret
    exact ⟨by rw [unhide E]; rfl, rfl⟩
end Go.Proofs.YtkabcfhemljnbaaGreat

namespace Go.Proofs.YtkabcfhemljnbaaGreat
open Go.RowKit
attribute [local go_sem ↓] Go.wp_at_zero Go.wp_at_succ

theorem drewN_block (w : World) (n k : Nat) : (w.drewN n).heap[k]? = w.heap[k]? := by
  rcases Nat.lt_or_ge k w.heap.size with h | h
  · exact ((Ext.refl w).drewN n).block k h
  · rw [Array.getElem?_eq_none h, Array.getElem?_eq_none (by have : (w.drewN n).heap.size = w.heap.size := (by simp); omega)]
set_option maxRecDepth 100000 in
set_option maxHeartbeats 4000000 in
theorem l3shade_fr {B : Nat} {g : Nat} {x : Hp} {ar : Option Addr} {kr : Nat} {ac : Option Addr} {kc : Nat} {ag : Option Addr} {kg : Nat} {br bc : Nat} {pb : Nat → Nat} {pa : Nat → Option Addr} {pk : Nat → Nat} {role : Nat → Nat} (y : Wd) (w : World) (h : GAt B w g x ar kr ac kc (.slice ag x.gray.length kg) br bc pb pa pk role) (hy : y.k = 2 → 0 ≤ y.a ∧ y.a < x.cells.length) (n2 : x.cells.length ≤ 8000) (n4 : x.gray.length ≤ 8000) (a : World) (ha : a.heap.size ≤ B) (hx : Ext a w) (hB : B ≤ w.heap.size) :
    Calls Tryz.prog 73 #[.pointer (some ⟨g, 0, none⟩), y.v] w fun e w' => e = .returned (.bool (sshB x y)) ∧ Hid (∃ ag' kg' role', GAt B w' g (sshH x y) ar kr ac kc (.slice ag' (sshH x y).gray.length kg') br bc pb pa pk role') ∧ Ext a w' ∧ Hid (∀ q, q < w.heap.size → q ≠ g → q ≠ bc → (∀ b o n, ag = some ⟨b, o, n⟩ → b ≠ q) → w'.heap[q]? = w.heap[q]?) := by
  obtain ⟨w1, hw1⟩ : ∃ W, W = w.alloc (.cells #[iv y.k, iv y.n, iv y.a] 90) := ⟨_, rfl⟩
  have xa : Ext w w1 := by rw [hw1]; exact (Ext.refl w).alloc _
  have FR1 := hide (show ∀ n q, q < w.heap.size → (w1.drewN n).heap[q]? = w.heap[q]? from fun n q hq => (xa.trans ((Ext.refl w1).drewN n)).block q hq)
  have H := hide (h.ext xa)
  have hgw : g < w.heap.size := cell_lt h.bx.1
  have X1 := hide (hx.trans xa)
  have d5 := (unhide H).bx.2.2.2.2.2.1
  have y0 : w1.cell? ⟨w.heap.size, 0, none⟩ = some (iv y.k) := by rw [hw1]; simp [go_sem]
  have y2 : w1.cell? ⟨w.heap.size, 2, none⟩ = some (iv y.a) := by rw [hw1]; simp [go_sem]
  have hw1s : w.heap.size < w1.heap.size := cell_lt y0
  have MK := hide (fun n r (hr : mkB x = r) => show Calls Tryz.prog 120 #[.pointer (some ⟨g, 0, none⟩)] (w1.drewN n) (fun e w' => e = .returned (.bool r) ∧ w' = w1.drewN n) from hr ▸ l3marking_any x g (w1.drewN n) (((Ext.refl w1).drewN n).keep d5))
  cases q1 : mkB x
  · have E := hide (show sshB x y = false ∧ sshH x y = x by simp [sshH, sshB, q1])
    clear h d5
    go_enter Tryz.func73, Tryz.ntmps73
    go_wp2_with fail
    rw [← hw1]
    clear hw1
    go_quiet ((go_at_call 120; exact Calls.quiet_of_same (unhide MK _ _ q1)))
    go_wp2_with fail
    go_ret
    exact ⟨by rw [(unhide E).1]; rfl, by rw [(unhide E).2]; exact ⟨_, _, _, (unhide H).ext ((Ext.refl w1).drewN _)⟩, (unhide X1).drewN _, fun q hq _ _ _ => unhide FR1 _ q hq⟩
  · cases q2 : (y.k == 2)
    · have E := hide (show sshB x y = false ∧ sshH x y = x by simp [sshH, sshB, q2])
      have q2n : (y.k != 2) = true := by simpa using q2
      clear h d5
      go_enter Tryz.func73, Tryz.ntmps73
      go_wp2_with fail
      rw [← hw1]
      clear hw1
      go_quiet ((go_at_call 120; exact Calls.quiet_of_same (unhide MK _ _ q1)))
      go_wp2_with fail
      go_ret
      exact ⟨by rw [(unhide E).1]; rfl, by rw [(unhide E).2]; exact ⟨_, _, _, (unhide H).ext ((Ext.refl w1).drewN _)⟩, (unhide X1).drewN _, fun q hq _ _ _ => unhide FR1 _ q hq⟩
    · have q2n : (y.k != 2) = false := by simpa using q2
      obtain ⟨i, hi⟩ : ∃ i : Nat, y.a = (i : Int) := ⟨y.a.toNat, by have := (hy (by simpa using q2)).1; omega⟩
      have hin : i < x.cells.length := by have := (hy (by simpa using q2)).2; omega
      have hn : 0 < x.cells.length := by omega
      have hi2 : y.a.toNat = i := by omega
      rw [hi] at y2
      have d4 := (unhide H).bx.2.2.2.2.1
      rw [(unhide H).hc hn] at d4
      have s5 := ((unhide H).rw.s i hin).2.2.2.2.2.1
      have f5 := ((unhide H).rw.nc hn).1.2 (i * 8 + 5)
      have hbc : bc < w1.heap.size := cell_lt s5
      have hbcw : bc < w.heap.size := (h.rw.nc hn).1.1
      have i0 : (0:Int) ≤ (i:Int) := by omega
      have i1 : (i:Int) < (x.cells.length:Int) := by omega
      cases q3 : ((x.c i).color == 0)
      · have E := hide (show sshB x y = false ∧ sshH x y = x by simp [sshH, sshB, hi2, q3])
        have q3n : ((x.c i).color != 0) = true := by simpa using q3
        clear h d5 hi hi2
        go_enter Tryz.func73, Tryz.ntmps73
        go_wp2_with fail
        rw [← hw1]
        clear hw1
        go_quiet ((go_at_call 120; exact Calls.quiet_of_same (unhide MK _ _ q1)))
        go_wp2_with fail
        go_ret
        exact ⟨by rw [(unhide E).1]; rfl, by rw [(unhide E).2]; exact ⟨_, _, _, (unhide H).ext ((Ext.refl w1).drewN _)⟩, (unhide X1).drewN _, fun q hq _ _ _ => unhide FR1 _ q hq⟩
      · have q3n : ((x.c i).color != 0) = false := by simpa using q3
        have E := hide (show sshB x y = true ∧ sshH x y = { x with cells := x.cells.set i (grayC (x.c i)), gray := x.gray ++ [(i : Int)] } by
          have hb : sshB x y = true := by simp [sshB, hi2, q1, q2, q3]
          refine ⟨hb, ?_⟩
          unfold sshH
          rw [if_pos hb, hi2, hi])
        clear h d5 hi hi2
        go_enter Tryz.func73, Tryz.ntmps73
        go_wp2_with fail
        rw [← hw1]
        clear hw1
        go_quiet ((go_at_call 120; exact Calls.quiet_of_same (unhide MK _ _ q1)))
        go_wp2_with fail
        go_region
        all_goals
          go_wp2_with fail
          obtain ⟨w2, hw2⟩ : ∃ W, W = (w1.drewN (nq + 1)).setCell ⟨bc, i * 8 + 5, none⟩ (.int .i64 1) := ⟨_, rfl⟩
          have HD := hide ((unhide H).ext ((Ext.refl w1).drewN (nq + 1)))
          have G2 := hide (show GAt B w2 g { x with cells := x.cells.set i (grayC (x.c i)) } ar kr ac kc (.slice ag x.gray.length kg) br bc pb pa pk role by
            rw [hw2]
            refine (unhide HD).setc hin rfl (Only.setCell (S := fun q => q = bc) (Only.refl _ (w1.drewN (nq + 1))) (p := ⟨bc, i * 8 + 5, none⟩) rfl _) ?_ (fun k hk => cell_other _ (.inr (by omega))) (((unhide HD).rw.nc hn).1.set _ _)
            obtain ⟨a0, a1, a2, a3, a4, a5, a6⟩ := (unhide HD).rw.s i hin
            refine ⟨?_, ?_, ?_, ?_, ?_, World.cell?_setCell_same _ _ _ a5, ?_⟩
            · rw [cell_other _ (.inr (by omega))]; exact a0
            · rw [cell_other _ (.inr (by omega))]; exact a1
            · rw [cell_other _ (.inr (by omega))]; exact a2
            · rw [cell_other _ (.inr (by omega))]; exact a3
            · rw [cell_other _ (.inr (by omega))]; exact a4
            · rw [cell_other _ (.inr (by omega))]; exact a6)
          have X2 : Ext a w2 := by rw [hw2]; exact ((unhide X1).drewN _).setCell (show a.heap.size ≤ bc from Nat.le_trans ha ((unhide H).rw.nc hn).2) _
          have z2 : w2.cell? ⟨w.heap.size, 2, none⟩ = some (iv i) := by
            rw [hw2, cell_other _ (.inl (by omega))]
            exact ((Ext.refl w1).drewN (nq + 1)).keep y2
          have c8 := (unhide G2).bx.2.2.2.2.2.2.2.2.1
          have f8 := (unhide G2).nf.2 8
          have hg2 : g < w2.heap.size := cell_lt c8
          have hB2 : B ≤ w2.heap.size := by have h1 : w2.heap.size = w1.heap.size := (by rw [hw2]; simp [World.setCell]); omega
          have ng1 : ¬ g = w.heap.size := by omega
          have ng2 : ¬ w.heap.size = g := by omega
          obtain ⟨ii, hii, hi0, hi1, hi2⟩ := info_parts infoInts
          have FR2 := hide (show ∀ q, q < w.heap.size → q ≠ bc → w2.heap[q]? = w.heap[q]? ∧ q < w2.heap.size from fun q hq hne => ⟨by rw [hw2, Below.heap_setCell _ _ _ _ hne]; exact unhide FR1 _ q hq, by have h1 : w2.heap.size = w1.heap.size := (by rw [hw2]; simp [World.setCell]); omega⟩)
          rw [← hw2]
          clear hw2 HD
          have GRX := hide (show ∀ W, Ext w2 W → Grw W B (.slice ag x.gray.length kg) x.gray from fun W e => (unhide G2).gr.block (fun q hq => e.block q ((unhide G2).gr.lt q hq).2))
          go_region_law (refine step_app1 _ rfl _ _ 24 rfl ii (iv 0) B (.slice ag x.gray.length kg) x.gray Tryz.underlying24 hii hi0 hi1 hi2 rfl (by first | rfl | simp [Act.eval, Act.put]) (by first | exact unhide GRX _ ((Ext.refl w2).alloc _) | exact unhide GRX _ ((Ext.refl w2).alloc _).drew | exact unhide GRX _ ((Ext.refl w2).drew.alloc _)) _ 1 i (by first | rfl | simp [Act.eval, Act.put]; rfl) (by simp [go_sem]) (by omega) (by simp; omega) ?_; intro gb go cap w3 hown hgrow hat hglt; have xb := Ext.trans ((Ext.refl w2).alloc (.cells #[iv i] 3)) ((Ext.refl (w2.alloc (.cells #[iv i] 3))).drew); have R := hide (((unhide G2).ext xb).push hgrow hown (by simpa using hat)); have eb : w3.heap[g]? = w2.heap[g]? := (hgrow.block g (by simp; omega) (fun e => by have h1 := (unhide G2).sp.y _ e.symm; have h2 := (unhide G2).sp.g; omega)).trans (xb.block g hg2); have e8 := (World.cell?_of_block (a := ⟨g, 8, none⟩) eb).trans c8; have ff8 := (World.frozen?_of_block (a := ⟨g, 8, none⟩) eb).trans f8; have X3 := hide (show Ext a (w3.setCell ⟨g, 8, none⟩ (.slice (some ⟨gb, go, none⟩) (x.gray.length + 1) cap)) from (Below.trans (X2.trans xb) ⟨hgrow.os, hgrow.tape, hgrow.output, hgrow.size, fun k hk => hgrow.block k (Nat.lt_of_lt_of_le hk (X2.trans xb).size) (fun e => by have := ((unhide G2).gr.lt k e.symm).1; omega)⟩).setCell (Nat.le_trans ha (unhide G2).lo) _); have FR3 := hide (show ∀ q, q < w.heap.size → q ≠ g → q ≠ bc → (∀ b o n, ag = some ⟨b, o, n⟩ → b ≠ q) → (w3.setCell ⟨g, 8, none⟩ (.slice (some ⟨gb, go, none⟩) (x.gray.length + 1) cap)).heap[q]? = w.heap[q]? from fun q hq h1 h2 h3 => (Below.heap_setCell _ _ _ _ h1).trans ((hgrow.block q (by have := (unhide FR2 q hq h2).2; simp; omega) (fun e => by cases ag with | none => simp [Value.ownBlock] at e | some ad => obtain ⟨b, o, n⟩ := ad; simp [Value.ownBlock] at e; exact h3 b o n rfl e.symm)).trans ((xb.block q (unhide FR2 q hq h2).2).trans (unhide FR2 q hq h2).1))); clear hown hgrow hat eb xb)
          all_goals
            go_wp2_with fail
            go_ret
            exact ⟨by rw [(unhide E).1]; rfl, by rw [(unhide E).2]; exact ⟨some ⟨gb, go, none⟩, cap, _, by rw [List.length_append]; exact unhide R⟩, unhide X3, unhide FR3⟩
theorem l3shade_any {B : Nat} {g : Nat} {x : Hp} {ar : Option Addr} {kr : Nat} {ac : Option Addr} {kc : Nat} {ag : Option Addr} {kg : Nat} {br bc : Nat} {pb : Nat → Nat} {pa : Nat → Option Addr} {pk : Nat → Nat} {role : Nat → Nat} (y : Wd) (w : World) (h : GAt B w g x ar kr ac kc (.slice ag x.gray.length kg) br bc pb pa pk role) (hy : y.k = 2 → 0 ≤ y.a ∧ y.a < x.cells.length) (n2 : x.cells.length ≤ 8000) (n4 : x.gray.length ≤ 8000) (a : World) (ha : a.heap.size ≤ B) (hx : Ext a w) (hB : B ≤ w.heap.size) :
    Calls Tryz.prog 73 #[.pointer (some ⟨g, 0, none⟩), y.v] w fun e w' => e = .returned (.bool (sshB x y)) ∧ Hid (∃ ag' kg' role', GAt B w' g (sshH x y) ar kr ac kc (.slice ag' (sshH x y).gray.length kg') br bc pb pa pk role') ∧ Ext a w' :=
  (l3shade_fr y w h hy n2 n4 a ha hx hB).mono fun _ _ ⟨h1, h2, h3, _⟩ => ⟨h1, h2, h3⟩
end Go.Proofs.YtkabcfhemljnbaaGreat
