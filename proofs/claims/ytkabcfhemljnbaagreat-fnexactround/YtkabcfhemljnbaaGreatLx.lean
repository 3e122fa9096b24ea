import Derived.Test.YtkabcfhemljnbaaGreatLj
import Derived.BigRegion
import Derived.Deep.QuietTactic
namespace Go.Proofs.YtkabcfhemljnbaaGreat
open Go.RowKit
attribute [local go_sem ↓] Go.wp_at_zero Go.wp_at_succ

/-! The model's units: PMend. -/
theorem gres_num (y : Wd) (b : Nat) (w : World) (k2 : (y.k == 2) = false) :
    Calls Tryz.prog 110 #[.pointer (some ⟨b, 0, none⟩), y.v] w fun e w' => e = .returned y.v ∧ Ext w w' := by
  go_enter Tryz.func110, Tryz.ntmps110
  go_wp2_with fail
  go_quiet (fail)
  go_wp2_with fail
  refine bodyPost_ret (v := y.v) (by simp [results, Tryz.results110, go_sem]) rfl ⟨rfl, ?_⟩
  repeat (first | exact Ext.refl _ | refine Ext.drewN ?_ _ | refine Ext.alloc ?_ _ | refine Ext.setCell ?_ (by show w.heap.size ≤ w.heap.size + 1; omega) _)
theorem gres_used (b bc n kc i : Nat) (st : Int) (w : World) (c4 : w.cell? ⟨b, 4, none⟩ = some (.slice (some ⟨bc, 0, none⟩) n kc)) (p0 : w.cell? ⟨bc, i * 8, none⟩ = some (iv st)) (hi : i < n) (s2 : (st == 2) = false) :
    Calls Tryz.prog 110 #[.pointer (some ⟨b, 0, none⟩), .agg #[iv 2, iv 0, iv i]] w fun e w' => e = .returned (.agg #[iv 2, iv 0, iv i]) ∧ Ext w w' := by
  have hb : b < w.heap.size := cell_lt c4
  have hb' : bc < w.heap.size := cell_lt p0
  have i0 : (0 : Int) ≤ (i : Int) := by omega
  have i1 : (i : Int) < (n : Int) := by omega
  go_enter Tryz.func110, Tryz.ntmps110
  go_wp2_with fail
  go_quiet (fail)
  go_wp2_with fail
  refine bodyPost_ret (v := .agg #[iv 2, iv 0, iv i]) (by simp [results, Tryz.results110, go_sem]) rfl ⟨rfl, ?_⟩
  repeat (first | exact Ext.refl _ | refine Ext.drewN ?_ _ | refine Ext.alloc ?_ _ | refine Ext.setCell ?_ (by show w.heap.size ≤ w.heap.size + 1; omega) _)
set_option maxHeartbeats 1000000 in
theorem gres_moved (b bc n kc i : Nat) (st tv : Int) (w : World) (c4 : w.cell? ⟨b, 4, none⟩ = some (.slice (some ⟨bc, 0, none⟩) n kc)) (p0 : w.cell? ⟨bc, i * 8, none⟩ = some (iv st)) (p6 : w.cell? ⟨bc, i * 8 + 6, none⟩ = some (iv tv)) (hi : i < n) (s2 : (st == 2) = true) :
    Calls Tryz.prog 110 #[.pointer (some ⟨b, 0, none⟩), .agg #[iv 2, iv 0, iv i]] w fun e w' => e = .returned (.agg #[iv 2, iv 0, iv tv]) ∧ Ext w w' := by
  have hb : b < w.heap.size := cell_lt c4
  have hb' : bc < w.heap.size := cell_lt p0
  have i0 : (0 : Int) ≤ (i : Int) := by omega
  have i1 : (i : Int) < (n : Int) := by omega
  go_enter Tryz.func110, Tryz.ntmps110
  go_wp2_with fail
  go_quiet (fail)
  go_wp2_with fail
  go_region
  all_goals
    go_wp2_with fail
    refine bodyPost_ret (v := .agg #[iv 2, iv 0, iv tv]) (by simp [results, Tryz.results110, go_sem]) rfl ⟨rfl, ?_⟩
    repeat (first | exact Ext.refl _ | refine Ext.drewN ?_ _ | refine Ext.drew ?_ | refine Ext.alloc ?_ _ | refine Ext.setCell ?_ (by show w.heap.size ≤ w.heap.size + 1; omega) _)
theorem gres_any {B : Nat} {g : Nat} {x : Hp} {ar : Option Addr} {kr : Nat} {ac : Option Addr} {kc : Nat} {vg : Value} {br bc : Nat} {pb : Nat → Nat} {pa : Nat → Option Addr} {pk : Nat → Nat} {role : Nat → Nat} (y : Wd) (w : World) (h : GAt B w g x ar kr ac kc vg br bc pb pa pk role) (hy : Formed y x.cells.length) :
    Calls Tryz.prog 110 #[.pointer (some ⟨g, 0, none⟩), y.v] w fun e w' => e = .returned (resW x y).v ∧ Ext w w' := by
  cases q : (y.k == 2)
  · have e : resW x y = y := by
      unfold resW; rw [if_neg]; intro h; simp [h.1] at q
    rw [e]
    exact gres_num y g w q
  · have hk : y.k = 2 := by simpa using q
    obtain ⟨k, n, a⟩ := y
    simp only at hk
    subst hk
    unfold Formed at hy
    simp only at hy
    obtain ⟨i, rfl⟩ : ∃ i : Nat, a = (i : Int) := ⟨a.toNat, by omega⟩
    obtain rfl : n = 0 := by omega
    have hi : i < x.cells.length := by omega
    have hn : 0 < x.cells.length := by omega
    have c4 := h.bx.2.2.2.2.1
    rw [h.hc hn] at c4
    obtain ⟨p0, _, _, _, _, _, p6⟩ := h.rw.s i hi
    have ei : ((i : Int)).toNat = i := by omega
    cases q2 : ((x.c i).st == 2)
    · have e : resW x ⟨2, 0, i⟩ = ⟨2, 0, i⟩ := by
        unfold resW; rw [if_neg]; intro h; simp only [ei] at h; simp [h.2] at q2
      rw [e]
      exact gres_used g bc _ kc i _ w c4 p0 hi q2
    · have e : resW x ⟨2, 0, i⟩ = ⟨2, 0, (x.c i).to⟩ := by
        unfold resW; simp only [ei]; rw [if_pos ⟨trivial, by simpa using q2⟩]
      rw [e]
      exact gres_moved g bc _ kc i _ _ w c4 p0 p6 hi q2
/-- one pair of a cell has turned -/
theorem GAt.setp {B : Nat} {w w' : World} {g : Nat} {x : Hp} {ar : Option Addr} {kr : Nat} {ac : Option Addr} {kc : Nat} {vg : Value} {br bc : Nat} {pb : Nat → Nat} {pa : Nat → Option Addr} {pk : Nat → Nat} {role : Nat → Nat} (h : GAt B w g x ar kr ac kc vg br bc pb pa pk role) (i : Nat) (hi : i < x.cells.length) (k : Nat) (hk : k < (x.c i).prs.length) (p' : Pr) (o : Only (fun q => q = pb i) w w') (nf : Nf1 (pb i) w') (hp : PrAt w' (pb i) (k * 6) p') (ho : ∀ j, (j < k * 6 ∨ k * 6 + 6 ≤ j) → w'.cell? ⟨pb i, j, none⟩ = w.cell? ⟨pb i, j, none⟩) :
    GAt B w' g { x with cells := x.cells.set i { x.c i with prs := (x.c i).prs.set k p' } } ar kr ac kc vg br bc pb pa pk role := by
  have hl0 : 0 < (x.c i).prs.length := by omega
  have ri := h.sp.p i hi hl0
  have far : ∀ q, q < w.heap.size → role q ≠ 6 + i → w'.heap[q]? = w.heap[q]? := fun q hq hr => o.block q hq (fun e => hr (by rw [e]; exact ri))
  have hn : 0 < x.cells.length := by omega
  have hl : ({ x with cells := x.cells.set i { x.c i with prs := (x.c i).prs.set k p' } } : Hp).cells.length = x.cells.length := by simp
  have hc := Hp.c_set x i { x.c i with prs := (x.c i).prs.set k p' } hi
  have hne : ∀ q, q ≠ i → (({ x with cells := x.cells.set i { x.c i with prs := (x.c i).prs.set k p' } } : Hp).c q) = x.c q := fun q e => by rw [hc q, if_neg e]
  have hei : (({ x with cells := x.cells.set i { x.c i with prs := (x.c i).prs.set k p' } } : Hp).c i) = { x.c i with prs := (x.c i).prs.set k p' } := by rw [hc i, if_pos rfl]
  have hpl : ∀ q, (({ x with cells := x.cells.set i { x.c i with prs := (x.c i).prs.set k p' } } : Hp).c q).prs.length = (x.c q).prs.length := fun q => by
    by_cases e : q = i
    · rw [e, hei]; simp
    · rw [hne q e]
  have fg := far g h.nf.1 (by rw [h.sp.g]; omega)
  have fc := far bc (h.rw.nc hn).1.1 (by rw [h.sp.c hn]; omega)
  have pf : ∀ q, q < x.cells.length → q ≠ i → 0 < (x.c q).prs.length → w'.heap[pb q]? = w.heap[pb q]? := fun q hq hqi hl => far (pb q) (h.rw.pl q hq hl).2.1.1 (by rw [h.sp.p q hq hl]; omega)
  refine ⟨?_, nf1_block h.nf fg o.size, h.lo, h.ha, fun _ => h.hc hn, ⟨fun j hj => ?_, fun q hq => ?_, fun q hq => ?_, fun q hq j hj => ?_, fun q hq hlq => ?_, fun hr => ⟨nf1_block (h.rw.nr hr).1 (far br (h.rw.nr hr).1.1 (by rw [h.sp.r hr]; omega)) o.size, (h.rw.nr hr).2⟩, fun _ => ⟨nf1_block (h.rw.nc hn).1 fc o.size, (h.rw.nc hn).2⟩, fun _ => h.rw.d hn, fun q q' hq hq' hne h1 h2 => ?_⟩, h.gr.block (fun q hq => far q (h.gr.lt q hq).2 (by rw [h.sp.y q hq]; omega)), ⟨h.sp.g, h.sp.r, fun _ => h.sp.c hn, h.sp.y, fun q hq hlq => ?_⟩, by rw [hl]; exact h.kl⟩
  · rw [hl]; exact (h.bx.block fg)
  · exact (h.rw.r j hj).of fun m _ => World.cell?_of_block (a := ⟨br, _, none⟩) (far br (h.rw.nr (by have : j < x.regs.length := hj; omega)).1.1 (by rw [h.sp.r (by have : j < x.regs.length := hj; omega)]; omega))
  · rw [hl] at hq
    have key : S7 w' bc (q * 8) (x.c q) := (h.rw.s q hq).of fun m _ => World.cell?_of_block (a := ⟨bc, _, none⟩) fc
    by_cases e : q = i
    · subst e; rw [hei]; exact key
    · rw [hne q e]; exact key
  · rw [hl] at hq
    rw [hpl q, World.cell?_of_block (a := ⟨bc, _, none⟩) fc]; exact h.rw.p7 q hq
  · rw [hl] at hq
    rw [hpl q] at hj
    by_cases e : q = i
    · subst e
      rw [hei]
      by_cases ej : j = k
      · subst ej
        have : ({ x.c q with prs := (x.c q).prs.set j p' } : Cl).p j = p' := by simp [Cl.p, hj]
        rw [this]; exact hp
      · have : ({ x.c q with prs := (x.c q).prs.set k p' } : Cl).p j = (x.c q).p j := by
          have hkj : k ≠ j := fun e => ej e.symm
          simp [Cl.p, List.getElem?_set_ne hkj]
        rw [this]
        exact (h.rw.p q hq j hj).of fun m hm => ho _ (by omega)
    · rw [hne q e]
      exact (h.rw.p q hq j hj).of fun m _ => World.cell?_of_block (a := ⟨pb q, _, none⟩) (pf q hq e (by omega))
  · rw [hl] at hq; rw [hpl q] at hlq
    obtain ⟨a1, a2, a3⟩ := h.rw.pl q hq hlq
    by_cases e : q = i
    · subst e; exact ⟨a1, nf, a3⟩
    · exact ⟨a1, nf1_block a2 (pf q hq e hlq) o.size, a3⟩
  · rw [hl] at hq hq'; rw [hpl] at h1 h2; exact h.rw.dp q q' hq hq' hne h1 h2
  · rw [hl] at hq; rw [hpl q] at hlq; exact h.sp.p q hq hlq
end Go.Proofs.YtkabcfhemljnbaaGreat

namespace Go.Proofs.YtkabcfhemljnbaaGreat
open Go.RowKit
attribute [local go_sem ↓] Go.wp_at_zero Go.wp_at_succ

/-! The model's units: PMove. -/
theorem fstFree_at (x : Hp) (k : Nat) (hk : k < x.cells.length) (h0 : ∀ q, q < k → (x.c q).st ≠ 0) (h1 : (x.c k).st = 0) : fstFree x = k := by
  obtain ⟨_, a, b⟩ := fstFree_is x
  rcases Nat.lt_trichotomy (fstFree x) k with e | e | e
  · exact absurd (b (by omega)) (h0 _ e)
  · exact e
  · exact absurd h1 (a k e)
theorem fstFree_no (x : Hp) (h0 : ∀ q, q < x.cells.length → (x.c q).st ≠ 0) : fstFree x = x.cells.length := by
  obtain ⟨a, _, b⟩ := fstFree_is x
  rcases Nat.lt_or_ge (fstFree x) x.cells.length with e | e
  · exact absurd (b e) (h0 _ e)
  · omega
set_option maxRecDepth 100000 in
set_option maxHeartbeats 600000 in
theorem l3free_any {B g : Nat} {x : Hp} {w : World} {ar : Option Addr} {kr : Nat} {ac : Option Addr} {kc : Nat} {vg : Value} {br bc : Nat} {pb : Nat → Nat} {pa : Nat → Option Addr} {pk : Nat → Nat} {role : Nat → Nat} (h : GAt B w g x ar kr ac kc vg br bc pb pa pk role) (n8 : x.cells.length ≤ 8000) :
    Calls Tryz.prog 192 #[.pointer (some ⟨g, 0, none⟩)] w fun e w' => e = .returned (.int .i64 (fstFree x)) ∧ Ext w w' := by
  have H := hide h
  have c4 := h.bx.2.2.2.2.1
  have hgw : g < w.heap.size := cell_lt c4
  clear h
  go_enter Tryz.func192, Tryz.ntmps192
  go_wp2_with fail
  go_loopw [10] (fun i wr => ∃ k : Nat, k ≤ x.cells.length ∧ i = .int .i64 k ∧ Hid (∀ q, q < k → (x.c q).st ≠ 0) ∧ Ext w wr) (fun i _ => x.cells.length - (intOf i).toNat)
  case atStart => exact ⟨0, Nat.zero_le _, rfl, (fun q hq => by omega), Ext.refl _⟩
  case round =>
    obtain ⟨k, hk, rfl, h0, hxr⟩ := hrel
    by_cases hlt : k < x.cells.length
    · have hn : 0 < x.cells.length := by omega
      have Hr := hide ((unhide H).ext hxr)
      obtain ⟨p0, p1, p2, p3, p4, p5, p6⟩ := (unhide Hr).rw.s k hlt
      have p7 := (unhide Hr).rw.p7 k hlt
      have hbc : bc < wr.heap.size := cell_lt p0
      obtain rfl : ac = some ⟨bc, 0, none⟩ := (unhide H).hc hn
      have k0 : (0:Int) ≤ (k:Int) := by omega
      have k1 : (k:Int) < (x.cells.length:Int) := by omega
      clear c4
      cases q : ((x.c k).st == 0)
      · have Q := hide (show ∀ q, q < k + 1 → (x.c q).st ≠ 0 from fun q hq => by
          by_cases e : q = k
          · rw [e]; simpa using ‹((x.c k).st == 0) = false›
          · exact unhide h0 q (by omega))
        go_wp2_with fail
        go_roundw
        case rel => exact ⟨k + 1, by omega, by go_num, unhide Q, hxr.alloc _⟩
        case measure => simp [intOf]; omega
      · have Q := hide (fstFree_at x k hlt (unhide h0) (by simpa using q))
        go_wp2_with fail
        go_ret
        exact ⟨by rw [unhide Q]; rfl, hxr.alloc _⟩
    · have Q := hide (show fstFree x = x.cells.length from fstFree_no x (fun q hq => unhide h0 q (by omega)))
      have hk2 : k = x.cells.length := by omega
      subst hk2
      have d4 := hxr.keep c4
      clear c4
      go_wp2_with fail
      go_ret
      exact ⟨by rw [unhide Q]; rfl, hxr⟩
end Go.Proofs.YtkabcfhemljnbaaGreat

namespace Go.Proofs.YtkabcfhemljnbaaGreat
open Go.RowKit
attribute [local go_sem ↓] Go.wp_at_zero Go.wp_at_succ

/-- a cell written over with another, its row of pairs with it -/
def cellW (w : World) (b o : Nat) (c : Cl) (v : Value) : World := (((((((w.setCell ⟨b, o, none⟩ (iv c.st)).setCell ⟨b, o + 1, none⟩ (iv c.kind)).setCell ⟨b, o + 2, none⟩ (iv c.weak)).setCell ⟨b, o + 3, none⟩ (iv c.last)).setCell ⟨b, o + 4, none⟩ (iv c.born)).setCell ⟨b, o + 5, none⟩ (iv c.color)).setCell ⟨b, o + 6, none⟩ (iv c.to)).setCell ⟨b, o + 7, none⟩ v
theorem cellW_drew (w : World) (b o : Nat) (c : Cl) (v : Value) : (cellW w b o c v).drew = cellW w.drew b o c v := by
  have key : ∀ (W : World) (p : Addr) (u : Value), (W.setCell p u).drew = W.drew.setCell p u := fun _ _ _ => rfl
  unfold cellW
  simp only [key]
theorem cellW_only (w : World) (b o : Nat) (c : Cl) (v : Value) : Only (fun q => q = b) w (cellW w b o c v) :=
  Only.setCell (S := fun q => q = b) (Only.setCell (S := fun q => q = b) (Only.setCell (S := fun q => q = b) (Only.setCell (S := fun q => q = b) (Only.setCell (S := fun q => q = b) (Only.setCell (S := fun q => q = b) (Only.setCell (S := fun q => q = b) (Only.setCell (S := fun q => q = b) (Only.refl _ w) (p := ⟨b, o, none⟩) rfl _) (p := ⟨b, o + 1, none⟩) rfl _) (p := ⟨b, o + 2, none⟩) rfl _) (p := ⟨b, o + 3, none⟩) rfl _) (p := ⟨b, o + 4, none⟩) rfl _) (p := ⟨b, o + 5, none⟩) rfl _) (p := ⟨b, o + 6, none⟩) rfl _) (p := ⟨b, o + 7, none⟩) rfl _
theorem cellW_nf {w : World} {b : Nat} (h : Nf1 b w) (o : Nat) (c : Cl) (v : Value) : Nf1 b (cellW w b o c v) := (((((((h.set _ _).set _ _).set _ _).set _ _).set _ _).set _ _).set _ _).set _ _
theorem cellW_other (w : World) (b o : Nat) (c : Cl) (v : Value) (k : Nat) (hk : k < o ∨ o + 8 ≤ k) : (cellW w b o c v).cell? ⟨b, k, none⟩ = w.cell? ⟨b, k, none⟩ := by
  unfold cellW
  iterate 8 rw [cell_other _ (.inr (by omega))]
theorem cellW_same (w : World) (b o : Nat) (c d : Cl) (v u : Value) (h : S7 w b o d) (h7 : w.cell? ⟨b, o + 7, none⟩ = some u) : S7 (cellW w b o c v) b o c ∧ (cellW w b o c v).cell? ⟨b, o + 7, none⟩ = some v := by
  obtain ⟨a0, a1, a2, a3, a4, a5, a6⟩ := h
  unfold cellW
  refine ⟨⟨?_, ?_, ?_, ?_, ?_, ?_, ?_⟩, ?_⟩
  · iterate 7 rw [cell_other _ (.inr (by omega))]
    exact cs_same a0
  · iterate 6 rw [cell_other _ (.inr (by omega))]
    exact cs_same ((cell_other _ (.inr (by omega))).trans a1)
  · iterate 5 rw [cell_other _ (.inr (by omega))]
    refine cs_same (u := iv d.weak) ?_
    iterate 2 rw [cell_other _ (.inr (by omega))]
    exact a2
  · iterate 4 rw [cell_other _ (.inr (by omega))]
    refine cs_same (u := iv d.last) ?_
    iterate 3 rw [cell_other _ (.inr (by omega))]
    exact a3
  · iterate 3 rw [cell_other _ (.inr (by omega))]
    refine cs_same (u := iv d.born) ?_
    iterate 4 rw [cell_other _ (.inr (by omega))]
    exact a4
  · iterate 2 rw [cell_other _ (.inr (by omega))]
    refine cs_same (u := iv d.color) ?_
    iterate 5 rw [cell_other _ (.inr (by omega))]
    exact a5
  · rw [cell_other _ (.inr (by omega))]
    refine cs_same (u := iv d.to) ?_
    iterate 6 rw [cell_other _ (.inr (by omega))]
    exact a6
  · refine cs_same (u := u) ?_
    iterate 7 rw [cell_other _ (.inr (by omega))]
    exact h7
/-- the heap with the cell moved, its registers not yet -/
def mvdH (x : Hp) (t f : Nat) : Hp := { x with cells := (x.cells.set t (x.c f)).set f (mvC t) }
theorem move_world {B g : Nat} {x : Hp} {w : World} {ar : Option Addr} {kr : Nat} {ac : Option Addr} {kc : Nat} {vg : Value} {br bc : Nat} {pb : Nat → Nat} {pa : Nat → Option Addr} {pk : Nat → Nat} {role : Nat → Nat} (h : GAt B w g x ar kr ac kc vg br bc pb pa pk role) (t f : Nat) (htf : t ≠ f) (ht : t < x.cells.length) (hf : f < x.cells.length) :
    ∃ pb' pa' pk' role', GAt B (wipeW (cellW w bc (t * 8) (x.c f) (.slice (pa f) (x.c f).prs.length (pk f))) bc (f * 8) 2 t) g (mvdH x t f) ar kr ac kc vg br bc pb' pa' pk' role' := by
  have hn : 0 < x.cells.length := by omega
  obtain ⟨k1, k2⟩ := cellW_same w bc (t * 8) (x.c f) (x.c t) (.slice (pa f) (x.c f).prs.length (pk f)) _ (h.rw.s t ht) (h.rw.p7 t ht)
  have o1 := cellW_other w bc (t * 8) (x.c f) (.slice (pa f) (x.c f).prs.length (pk f))
  have s2 : S7 (cellW w bc (t * 8) (x.c f) (.slice (pa f) (x.c f).prs.length (pk f))) bc (f * 8) (x.c f) := (h.rw.s f hf).of fun j hj => o1 _ (by omega)
  have s7 := (o1 (f * 8 + 7) (by omega)).trans (h.rw.p7 f hf)
  obtain ⟨m1, m2⟩ := wipe_same (cellW w bc (t * 8) (x.c f) (.slice (pa f) (x.c f).prs.length (pk f))) bc (f * 8) 2 t _ _ s2 s7
  have o2 := wipe_other (cellW w bc (t * 8) (x.c f) (.slice (pa f) (x.c f).prs.length (pk f))) bc (f * 8) 2 t
  refine h.move t f htf ht hf ((cellW_only _ _ _ _ _).trans (wipe_only _ _ _ _ _)) (wipe_nf (cellW_nf (h.rw.nc hn).1 _ _ _) _ _ _) ?_ ?_ m1 m2 (fun q hq h1 h2 k hk => ?_)
  · exact k1.of fun j hj => o2 _ (by omega)
  · rw [o2 _ (by omega)]; exact k2
  · rw [o2 _ (by omega), o1 _ (by omega)]
theorem mvd_c (x : Hp) (t f : Nat) (ht : t < x.cells.length) (hf : f < x.cells.length) (q : Nat) : (mvdH x t f).c q = if q = f then mvC t else if q = t then x.c f else x.c q := by
  have h1 := Hp.c_set { x with cells := x.cells.set t (x.c f) } f (mvC t) (by simpa using hf) q
  have h2 := Hp.c_set x t (x.c f) ht q
  have e : mvdH x t f = { ({ x with cells := x.cells.set t (x.c f) } : Hp) with cells := ({ x with cells := x.cells.set t (x.c f) } : Hp).cells.set f (mvC t) } := rfl
  rw [e, h1]
  by_cases e1 : q = f
  · rw [if_pos e1, if_pos e1]
  · rw [if_neg e1, if_neg e1]; exact h2
/-- j of the registers have followed -/
def mvdR (x : Hp) (t f j : Nat) : Hp := { mvdH x t f with regs := (x.regs.take j).map (mvW t f) ++ x.regs.drop j }
theorem res_mv (x : Hp) (t f j : Nat) (ht : t < x.cells.length) (hf : f < x.cells.length) (h0 : (x.c t).st = 0) (r : Wd) (hr : Leads x r False) : resW (mvdR x t f j) r = mvW t f r := by
  have hc : ∀ q, (mvdR x t f j).c q = (mvdH x t f).c q := fun _ => rfl
  unfold resW mvW
  rw [hc, mvd_c x t f ht hf]
  by_cases hk : r.k = 2
  · have h1 : (x.c r.a.toNat).st = 1 := by
      rcases hr.2 hk with h | h
      · exact h.2.elim
      · exact h.1
    have ha : 0 ≤ r.a := by have := hr.1; unfold Formed at this; omega
    by_cases e : r.a.toNat = f
    · have ea : r.a = (f : Int) := by omega
      rw [if_pos e, if_pos ⟨hk, rfl⟩, if_pos ⟨hk, ea⟩]; rfl
    · have ea : ¬ r.a = (f : Int) := by omega
      have et : ¬ r.a.toNat = t := fun e2 => by rw [e2] at h1; omega
      rw [if_neg e, if_neg et, if_neg (fun h => by have := h.2; omega), if_neg (fun h => ea h.2)]
  · rw [if_neg (fun h => hk h.1), if_neg (fun h => hk h.1)]
theorem mvdR_at (x : Hp) (t f j : Nat) (hj : j < x.regs.length) : ∃ h : j < (mvdR x t f j).regs.length, (mvdR x t f j).regs[j] = x.regs[j] := by
  have hl : j < (mvdR x t f j).regs.length := by simp [mvdR]; omega
  refine ⟨hl, ?_⟩
  simp only [mvdR]
  rw [List.getElem_append_right (by simp; omega)]
  simp [Nat.min_eq_left (Nat.le_of_lt hj)]
theorem mvdR_succ (x : Hp) (t f j : Nat) (hj : j < x.regs.length) : ({ mvdR x t f j with regs := (mvdR x t f j).regs.set j (mvW t f x.regs[j]) } : Hp) = mvdR x t f (j + 1) := by
  have : (mvdR x t f j).regs.set j (mvW t f x.regs[j]) = (mvdR x t f (j + 1)).regs := by
    simp only [mvdR]
    rw [List.set_append_right _ _ (by simp; omega), List.take_succ_eq_append_getElem hj, List.map_append]
    simp only [List.length_map, List.length_take, Nat.min_eq_left (Nat.le_of_lt hj), Nat.sub_self]
    have hd := List.drop_eq_getElem_cons hj
    rw [hd]
    simp only [List.set_cons_zero, List.map_cons, List.map_nil, List.append_assoc, List.singleton_append]
  rw [this]; rfl
theorem mvdR_zero (x : Hp) (t f : Nat) : mvdR x t f 0 = mvdH x t f := by simp [mvdR, mvdH]
theorem mvdR_all (x : Hp) (t f : Nat) : mvdR x t f x.regs.length = moveH x t f := by simp [mvdR, mvdH, moveH]
/-- a word written into a row -/
def wordO (w : World) (b o : Nat) (y : Wd) : World := ((w.setCell ⟨b, o, none⟩ (iv y.k)).setCell ⟨b, o + 1, none⟩ (iv y.n)).setCell ⟨b, o + 2, none⟩ (iv y.a)
theorem wordO_at (w : World) (b o : Nat) (y z : Wd) (h : WdAt w b o z) : WdAt (wordO w b o y) b o y := by
  obtain ⟨h0, h1, h2⟩ := h
  unfold wordO
  refine ⟨?_, ?_, ?_⟩
  · iterate 2 rw [cell_other _ (.inr (by omega))]
    exact cs_same h0
  · rw [cell_other _ (.inr (by omega))]
    exact cs_same ((cell_other _ (.inr (by omega))).trans h1)
  · refine cs_same (u := iv z.a) ?_
    iterate 2 rw [cell_other _ (.inr (by omega))]
    exact h2
theorem wordO_only (w : World) (b o : Nat) (y : Wd) : Only (fun q => q = b) w (wordO w b o y) :=
  Only.setCell (S := fun q => q = b) (Only.setCell (S := fun q => q = b) (Only.setCell (S := fun q => q = b) (Only.refl _ w) (p := ⟨b, o, none⟩) rfl _) (p := ⟨b, o + 1, none⟩) rfl _) (p := ⟨b, o + 2, none⟩) rfl _
theorem wordO_nf {w : World} {b : Nat} (h : Nf1 b w) (o : Nat) (y : Wd) : Nf1 b (wordO w b o y) := ((h.set _ _).set _ _).set _ _
theorem wordO_other (w : World) (b o : Nat) (y : Wd) (k : Nat) (hk : k < o ∨ o + 3 ≤ k) : (wordO w b o y).cell? ⟨b, k, none⟩ = w.cell? ⟨b, k, none⟩ := by
  unfold wordO
  iterate 3 rw [cell_other _ (.inr (by omega))]
set_option maxRecDepth 100000 in
set_option maxHeartbeats 4000000 in
theorem l3move_any (B g : Nat) (x : Hp) (w : World) (h : GOk B w g x) (s : Snd x) (a : World) (ha : a.heap.size ≤ B) (hx : Ext a w) :
    Calls Tryz.prog 168 #[.pointer (some ⟨g, 0, none⟩)] w fun e w' => e = .returned (.tuple #[]) ∧ GOk B w' g (unit4 x) ∧ Ext a w' := by
  obtain ⟨ar, kr, ac, kc, vg, br, bc, pb, pa, pk, role, h⟩ := h
  have H := hide h
  have n8 := s.ok.n8
  have lo := h.lo
  have S := hide s
  have c4 := h.bx.2.2.2.2.1
  have FT := hide (fstFree_is x)
  obtain ⟨t, ht⟩ : ∃ t, t = fstFree x := ⟨_, rfl⟩
  have HT := hide ht
  have EU := hide (show unit4 x = if lstUsed x x.cells.length ≤ (t : Int) then toPh x 5 0 else moveH x t (lstUsed x x.cells.length).toNat by unfold unit4; rw [← ht])
  have QF := hide (l3free_any h n8)
  rw [← ht] at QF FT
  have hwr : wrap64 ((x.cells.length : Int) - 1) = (x.cells.length : Int) - 1 := wrap_fit _ (by omega) (by omega)
  have LU := hide (lstUsed_is x)
  have r0 : 0 < x.regs.length := by have := s.r1.regs; omega
  have r16 : x.regs.length ≤ 16 := by have := s.r1.regs; omega
  clear h s ht
  go_enter Tryz.func168, Tryz.ntmps168
  go_wp2_with fail
  refine (unhide QF).mono ?_
  rintro e w1 ⟨rfl, x1⟩
  have H1 := hide ((unhide H).ext x1)
  have d4 := x1.keep c4
  have hgw : g < w1.heap.size := cell_lt d4
  have X1 := hx.trans x1
  clear c4 QF H hx x1
  go_wp2_with fail
  go_loopw [3] (fun fr wr => ∃ m : Nat, m ≤ x.cells.length ∧ fr = .int .i64 ((m : Int) - 1) ∧ Hid (∀ q, m ≤ q → q < x.cells.length → (x.c q).st ≠ 1) ∧ Ext w1 wr) (fun fr _ => (intOf fr + 1).toNat)
  case atStart => exact ⟨x.cells.length, Nat.le_refl _, rfl, (fun q h1 h2 => by omega), Ext.refl _⟩
  case round =>
    obtain ⟨m, hm, rfl, hno, hxr⟩ := hrel
    cases m with
    | zero =>
      have e4 := hxr.keep d4
      have tn : ((t : Int) ≥ -1) = True := by simp
      have LE := hide (show lstUsed x x.cells.length = -1 by
        rcases unhide LU x.cells.length with ⟨e, _⟩ | ⟨f, _, hf, h1, _⟩
        · exact e
        · exact absurd h1 (unhide hno f (Nat.zero_le _) hf))
      clear d4
      have EF := hide (show unit4 x = toPh x 5 0 by rw [unhide EU, if_pos (by rw [unhide LE]; omega)])
      go_wp2_with fail
      refine (l3phase_any B g x 5 0 _ ⟨_, _, _, _, _, _, _, _, _, _, _, (unhide H1).ext hxr⟩ a ha (X1.trans hxr)).mono ?_
      rintro e w3 ⟨rfl, h3, x3⟩
      have H3 := hide h3
      clear h3
      go_wp2_with fail
      try simp only [Exit.inBlock, Exit.then]
      refine bodyPost_ret (results_none rfl _ _ _) rfl ?_
      exact ⟨rfl, by rw [unhide EF]; exact unhide H3, x3⟩
    | succ f =>
      have hfn : f < x.cells.length := by omega
      have hn : 0 < x.cells.length := by omega
      have ef : (((f + 1 : Nat) : Int) - 1) = (f : Int) := by omega
      rw [ef]
      have e4 := hxr.keep d4
      rw [(unhide H1).hc hn] at e4
      have e0 := (((unhide H1).ext hxr).rw.s f hfn).1
      have hgr : g < wr.heap.size := cell_lt e4
      have hbc : bc < wr.heap.size := cell_lt e0
      have f0 : (0:Int) ≤ (f:Int) := by omega
      have f1 : (f:Int) < (x.cells.length:Int) := by omega
      clear d4
      cases q : ((x.c f).st == 1)
      · have qb : ((x.c f).st != 1) = true := by simpa using q
        have Q := hide (show ∀ q, f ≤ q → q < x.cells.length → (x.c q).st ≠ 1 from fun q h1 h2 => by
          by_cases e : q = f
          · rw [e]; simpa using ‹((x.c f).st == 1) = false›
          · exact unhide hno q (by omega) h2)
        go_wp2_with fail
        go_roundw
        case rel => exact ⟨f, by omega, by go_num, unhide Q, hxr⟩
        case measure => simp [intOf]
      · have qb : ((x.c f).st != 1) = false := by simpa using q
        have LE := hide (show lstUsed x x.cells.length = (f : Int) by
          rcases unhide LU x.cells.length with ⟨_, h1⟩ | ⟨f', e, hf, h1, h2⟩
          · exact absurd (by simpa using q) (h1 f hfn)
          · rcases Nat.lt_trichotomy f' f with e2 | e2 | e2
            · exact absurd (by simpa using q) (h2 f e2 hfn)
            · rw [e, e2]
            · exact absurd h1 (unhide hno f' (by omega) hf))
        by_cases htf : (t : Int) ≥ (f : Int)
        · have EF := hide (show unit4 x = toPh x 5 0 by rw [unhide EU, if_pos (by rw [unhide LE]; omega)])
          go_wp2_with fail
          refine (l3phase_any B g x 5 0 _ ⟨_, _, _, _, _, _, _, _, _, _, _, (unhide H1).ext hxr⟩ a ha (X1.trans hxr)).mono ?_
          rintro e w3 ⟨rfl, h3, x3⟩
          have H3 := hide h3
          clear h3
          go_wp2_with fail
          try simp only [Exit.inBlock, Exit.then]
          refine bodyPost_ret (results_none rfl _ _ _) rfl ?_
          exact ⟨rfl, by rw [unhide EF]; exact unhide H3, x3⟩
        · have EF := hide (show unit4 x = moveH x t f by rw [unhide EU, if_neg (by rw [unhide LE]; omega), unhide LE]; rfl)
          have HR := hide ((unhide H1).ext hxr)
          have htn : t < x.cells.length := by omega
          obtain ⟨a0, a1, a2, a3, a4, a5, a6⟩ := (unhide HR).rw.s f hfn
          have a7 := (unhide HR).rw.p7 f hfn
          obtain ⟨b0, b1, b2, b3, b4, b5, b6⟩ := (unhide HR).rw.s t htn
          have b7 := (unhide HR).rw.p7 t htn
          have fc := ((unhide HR).rw.nc hn).1.2
          have t0 : (0:Int) ≤ (t:Int) := by omega
          have t1 : (t:Int) < (x.cells.length:Int) := by omega
          have XR := X1.trans hxr
          have NGC := hide (show ¬ g = bc from fun e => by have h1 := (unhide HR).sp.g; have h2 := (unhide HR).sp.c hn; rw [e] at h1; omega)
          have ngc : ¬ g = bc := unhide NGC
          have ncg : ¬ bc = g := fun e => unhide NGC e.symm
          have nof : ¬ f * 8 = t * 8 := by omega
          clear e0 hxr H1 hno
          go_wp2_with fail
          go_region
          all_goals
            obtain ⟨W5, hW5⟩ : ∃ W, W = (cellW wr bc (t * 8) (x.c f) (.slice (pa f) (x.c f).prs.length (pk f))).drew := ⟨_, rfl⟩
            have W5E := hide (show W5 = cellW wr.drew bc (t * 8) (x.c f) (.slice (pa f) (x.c f).prs.length (pk f)) by rw [hW5, cellW_drew])
            have O5 := cellW_other wr.drew bc (t * 8) (x.c f) (.slice (pa f) (x.c f).prs.length (pk f))
            have d4 : W5.cell? ⟨g, 4, none⟩ = some (.slice (some ⟨bc, 0, none⟩) x.cells.length kc) := by
              rw [unhide W5E, World.cell?_of_block (a := ⟨g, 4, none⟩) ((cellW_only wr.drew bc (t * 8) (x.c f) _).block g (by simpa using hgr) (by omega))]
              exact e4
            have g3 : W5.cell? ⟨g, 3, none⟩ = some (.slice (some ⟨br, 0, none⟩) x.regs.length kr) := by
              rw [unhide W5E, World.cell?_of_block (a := ⟨g, 3, none⟩) ((cellW_only wr.drew bc (t * 8) (x.c f) _).block g (by simpa using hgr) (by omega))]
              have := (unhide HR).bx.2.2.2.1
              rw [(unhide HR).ha r0] at this
              exact this
            have d0 : W5.cell? ⟨bc, f * 8, none⟩ = some (iv (x.c f).st) := by rw [unhide W5E, O5 _ (by omega)]; exact a0
            have d1 : W5.cell? ⟨bc, f * 8 + 1, none⟩ = some (iv (x.c f).kind) := by rw [unhide W5E, O5 _ (by omega)]; exact a1
            have d2 : W5.cell? ⟨bc, f * 8 + 2, none⟩ = some (iv (x.c f).weak) := by rw [unhide W5E, O5 _ (by omega)]; exact a2
            have d3 : W5.cell? ⟨bc, f * 8 + 3, none⟩ = some (iv (x.c f).last) := by rw [unhide W5E, O5 _ (by omega)]; exact a3
            have dd4 : W5.cell? ⟨bc, f * 8 + 4, none⟩ = some (iv (x.c f).born) := by rw [unhide W5E, O5 _ (by omega)]; exact a4
            have d5 : W5.cell? ⟨bc, f * 8 + 5, none⟩ = some (iv (x.c f).color) := by rw [unhide W5E, O5 _ (by omega)]; exact a5
            have d6 : W5.cell? ⟨bc, f * 8 + 6, none⟩ = some (iv (x.c f).to) := by rw [unhide W5E, O5 _ (by omega)]; exact a6
            have d7 : W5.cell? ⟨bc, f * 8 + 7, none⟩ = some (.slice (pa f) (x.c f).prs.length (pk f)) := by rw [unhide W5E, O5 _ (by omega)]; exact a7
            have fc5 : ∀ j, W5.frozen? ⟨bc, j, none⟩ = false := by rw [unhide W5E]; exact (cellW_nf (w := wr.drew) (nf1_block ((unhide HR).rw.nc hn).1 rfl (by simp)) _ _ _).2
            have hg5 : g < W5.heap.size := cell_lt d4
            have hb5 : bc < W5.heap.size := cell_lt d0
            have X5 : Ext a W5 := by rw [unhide W5E]; exact (cellW_only wr.drew bc (t * 8) (x.c f) _).ext XR.drew (fun q hq e => by have := ((unhide HR).rw.nc hn).2; omega)
            unfold cellW at hW5
            rw [← hW5]
            clear hW5 O5 a0 a1 a2 a3 a4 a5 a6 a7 b0 b1 b2 b3 b4 b5 b6 b7 fc e4 hgr hbc XR q qb ef hm nof LE EU LU HT hwr hgw X1 n8 lo t0 f0
            have FT0 := hide (unhide FT)
            have LTS := hide (show t < x.cells.length ∧ f < x.cells.length ∧ t ≠ f by omega)
            clear FT htf htn hfn
            have T0 := hide (show (x.c t).st = 0 from (unhide FT0).2.2 (unhide LTS).1)
            have G6 := hide (show Hid (∃ pb' pa' pk' role', GAt B (wipeW W5 bc (f * 8) 2 t) g (mvdR x t f 0) ar kr ac kc vg br bc pb' pa' pk' role') by
              rw [mvdR_zero, unhide W5E]
              exact move_world ((unhide HR).ext (Ext.refl wr).drew) t f (unhide LTS).2.2 (unhide LTS).1 (unhide LTS).2.1)
            have X6 : Ext a (wipeW W5 bc (f * 8) 2 t) := (wipe_only W5 bc (f * 8) 2 t).ext X5 (fun q hq e => by have := ((unhide HR).rw.nc hn).2; omega)
            obtain ⟨W6, hW6⟩ : ∃ W, W = wipeW W5 bc (f * 8) 2 t := ⟨_, rfl⟩
            rw [← hW6] at G6 X6
            unfold wipeW at hW6
            go_wp2_with fail
            rw [← hW6]
            clear hW6 d0 d1 d2 d3 d4 dd4 d5 d6 d7 fc5 hg5 hb5 g3 X5
            go_loopw [59] (fun i wr => ∃ j : Nat, j ≤ x.regs.length ∧ i = .int .i64 j ∧ Hid (∃ pb' pa' pk' role', GAt B wr g (mvdR x t f j) ar kr ac kc vg br bc pb' pa' pk' role') ∧ Ext a wr) (fun i _ => x.regs.length - (intOf i).toNat)
            case atStart => exact ⟨0, Nat.zero_le _, rfl, unhide G6, X6⟩
            case round =>
              obtain ⟨j, hj, rfl, hG, hxr⟩ := hrel
              by_cases hlt : j < x.regs.length
              · obtain ⟨pb', pa', pk', role', hG⟩ := unhide hG
                obtain ⟨hl, er⟩ := mvdR_at x t f j hlt
                have RL := hide (show (mvdR x t f j).regs.length = x.regs.length by simp [mvdR]; omega)
                have CL := hide (show (mvdR x t f j).cells.length = x.cells.length by simp [mvdR, mvdH])
                have HJ := hide hG
                have c3 := hG.bx.2.2.2.1
                rw [hG.ha (by omega), unhide RL] at c3
                obtain ⟨w0, w1, w2⟩ := hG.rw.r j hl
                rw [er] at w0 w1 w2
                have LD := hide ((unhide S).r4.1 j hlt)
                have RS := hide (res_mv x t f j (unhide LTS).1 (unhide LTS).2.1 (unhide T0) x.regs[j] (unhide LD))
                have fb := (hG.rw.nr (by omega)).1.2
                have hgr : g < wr.heap.size := cell_lt c3
                have hbr : br < wr.heap.size := cell_lt w0
                have hbB := (hG.rw.nr (by omega)).2
                have j0 : (0:Int) ≤ (j:Int) := by omega
                have j1 : (j:Int) < (x.regs.length:Int) := by omega
                clear hG er
                obtain ⟨rr, hrr⟩ : ∃ r, r = mvW t f x.regs[j] := ⟨_, rfl⟩
                have SU := hide (mvdR_succ x t f j hlt)
                rw [← hrr] at RS SU
                clear hrr
                have FN := hide (show ∀ W, Ext wr W → Hid (∃ pb' pa' pk' role', GAt B (wordO W br (j * 3) rr) g (mvdR x t f (j + 1)) ar kr ac kc vg br bc pb' pa' pk' role') ∧ Ext a (wordO W br (j * 3) rr) from fun W xW => by
                  have g1 := (unhide HJ).ext xW
                  refine ⟨⟨pb', pa', pk', role', ?_⟩, (wordO_only W br (j * 3) rr).ext (hxr.trans xW) (fun q hq e => by omega)⟩
                  rw [← unhide SU]
                  exact g1.setr j hl rr (wordO_only _ _ _ _) (wordO_nf (g1.rw.nr (by omega)).1 _ _) (wordO_at _ _ _ _ _ (g1.rw.r j hl)) (fun m hm => wordO_other _ _ _ _ m hm))
                unfold wordO at FN
                go_wp2_with fail
                go_region_with (go_at_call 110; refine (gres_any x.regs[j] _ ((unhide HJ).ext (Ext.refl wr).drew) (by rw [unhide CL]; exact (unhide LD).1)).mono ?_; rintro e w5 ⟨rfl, x5⟩; rw [unhide RS]; have xw5 := Ext.trans (Ext.refl wr).drew x5; have k3 := xw5.keep c3; have k0 := xw5.keep w0; have k1 := xw5.keep w1; have k2 := xw5.keep w2; have kf := fun m => ((bcell xw5).2 br m hbr).trans (fb m); have XW := hide xw5; clear x5 xw5)
                all_goals
                  go_wp2_with fail
                  go_roundw
                  case rel => exact ⟨j + 1, by omega, by go_num, (unhide FN w5 (unhide XW)).1, (unhide FN w5 (unhide XW)).2⟩
                  case measure => simp [intOf]; omega
              · have je : j = x.regs.length := by omega
                subst je
                rw [mvdR_all] at hG
                go_wp2_with fail
                go_end0
                exact ⟨rfl, by
                  rw [unhide EF]
                  obtain ⟨pb', pa', pk', role', hG⟩ := unhide hG
                  exact ⟨_, _, _, _, _, _, _, _, _, _, _, hG⟩, hxr⟩
end Go.Proofs.YtkabcfhemljnbaaGreat
