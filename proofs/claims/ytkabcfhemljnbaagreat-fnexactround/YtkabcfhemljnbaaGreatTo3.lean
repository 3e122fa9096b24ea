import Derived.Test.YtkabcfhemljnbaaGreatLm
namespace Go.Proofs.YtkabcfhemljnbaaGreat
open Go.RowKit
attribute [local go_sem ↓] Go.wp_at_zero Go.wp_at_succ

/-! The laws' own measure of an argument: left less what it holds, or below 0. -/

theorem szWordS_any (ad : Option Addr) (n cap : Nat) (l : Int) (w : World) (hn : n ≤ 35184372088832) (h0 : 0 ≤ l) (h1 : l ≤ 1048576) :
    Calls Tryz.prog 44 #[.slice ad n cap, .int .i64 l] w fun e w' => ∃ r : Int, e = .returned (.int .i64 r) ∧ ((0 ≤ r ∧ r = l - n) ∨ r = -1) ∧ w' = w := by
  by_cases h : l - (n : Int) < 0
  · go_enter Tryz.func44, Tryz.ntmps44
    go_wp2
    go_ret
    exact ⟨-1, rfl, Or.inr rfl, rfl⟩
  · go_enter Tryz.func44, Tryz.ntmps44
    go_wp2
    go_ret
    exact ⟨_, rfl, Or.inl ⟨by omega, rfl⟩, rfl⟩

theorem szPairS_any (ad : Option Addr) (n cap : Nat) (l : Int) (w : World) (hn : n ≤ 35184372088832) (h0 : 0 ≤ l) (h1 : l ≤ 1048576) :
    Calls Tryz.prog 132 #[.slice ad n cap, .int .i64 l] w fun e w' => ∃ r : Int, e = .returned (.int .i64 r) ∧ ((0 ≤ r ∧ r = l - n) ∨ r = -1) ∧ w' = w := by
  by_cases h : l - (n : Int) < 0
  · go_enter Tryz.func132, Tryz.ntmps132
    go_wp2
    go_ret
    exact ⟨-1, rfl, Or.inr rfl, rfl⟩
  · go_enter Tryz.func132, Tryz.ntmps132
    go_wp2
    go_ret
    exact ⟨_, rfl, Or.inl ⟨by omega, rfl⟩, rfl⟩

theorem szIntS_any (ad : Option Addr) (n cap : Nat) (l : Int) (w : World) (hn : n ≤ 35184372088832) (h0 : 0 ≤ l) (h1 : l ≤ 1048576) :
    Calls Tryz.prog 46 #[.slice ad n cap, .int .i64 l] w fun e w' => ∃ r : Int, e = .returned (.int .i64 r) ∧ ((0 ≤ r ∧ r = l - n) ∨ r = -1) ∧ w' = w := by
  by_cases h : l - (n : Int) < 0
  · go_enter Tryz.func46, Tryz.ntmps46
    go_wp2
    go_ret
    exact ⟨-1, rfl, Or.inr rfl, rfl⟩
  · go_enter Tryz.func46, Tryz.ntmps46
    go_wp2
    go_ret
    exact ⟨_, rfl, Or.inl ⟨by omega, rfl⟩, rfl⟩

def prsum (cs : List Cl) : Nat := (cs.map fun c => c.prs.length).sum
theorem prsum_take (cs : List Cl) (k : Nat) (h : k < cs.length) : prsum (cs.take (k + 1)) = prsum (cs.take k) + cs[k].prs.length := by
  unfold prsum
  rw [List.take_succ_eq_append_getElem h]
  simp only [List.map_append, List.sum_append, List.map_cons, List.map_nil, List.sum_cons, List.sum_nil, Nat.add_zero]
theorem prs_le (cs : List Cl) (k : Nat) (h : k < cs.length) : cs[k].prs.length ≤ prsum cs := by
  induction cs generalizing k with
  | nil => simp at h
  | cons c cs ih =>
    cases k with
    | zero => simp [prsum]
    | succ k =>
      have := ih k (by simpa using h)
      simp only [prsum, List.map_cons, List.sum_cons, List.getElem_cons_succ] at *
      omega

theorem szCell_any (x : Cl) (vp : Value) (l : Int) (w : World) (hP : SlP w vp x.prs) (h0 : 0 ≤ l) (h1 : l ≤ 1048576) :
    Calls Tryz.prog 86 #[x.v vp, .int .i64 l] w fun e w' => ∃ r : Int, e = .returned (.int .i64 r) ∧ ((0 ≤ r ∧ r = l - x.prs.length) ∨ r = -1) ∧ Ext w w' := by
  obtain ⟨ad, cap, rfl, hl, hx⟩ := hP
  go_enter Tryz.func86, Tryz.ntmps86
  go_wp2_with fail
  refine (szPairS_any _ _ _ _ _ hl h0 h1).mono ?_
  rintro e w1 ⟨r, rfl, hr, rfl⟩
  by_cases hlt : r < 0
  · go_wp2_with fail
    go_ret
    exact ⟨-1, rfl, Or.inr rfl, (Ext.refl w).alloc _⟩
  · have hr2 : 0 ≤ r ∧ r = l - x.prs.length := by omega
    have H := hide hr2
    clear hr hr2
    go_wp2_with fail
    go_ret
    exact ⟨r, rfl, Or.inl (unhide H), (Ext.refl w).alloc _⟩

set_option maxHeartbeats 1000000 in
theorem szCellS_any (xs : List Cl) (v : Value) (l : Int) (w : World) (h : SlC w v xs) (h0 : 0 ≤ l) (h1 : l ≤ 1048576) :
    Calls Tryz.prog 45 #[v, .int .i64 l] w fun e w' => ∃ r : Int, e = .returned (.int .i64 r) ∧ ((0 ≤ r ∧ r = l - xs.length - prsum xs) ∨ r = -1) ∧ Ext w w' := by
  obtain ⟨ad, cap, rfl, hl, hx⟩ := h
  by_cases hs : l - (xs.length : Int) < 0
  · go_enter Tryz.func45, Tryz.ntmps45
    go_wp2_with fail
    go_ret
    exact ⟨-1, rfl, Or.inr rfl, Ext.refl _⟩
  · go_enter Tryz.func45, Tryz.ntmps45
    go_wp2_with fail
    go_loopw [1, 5] (fun lv i wr => ∃ (k : Nat) (r : Int), k ≤ xs.length ∧ i = .int .i64 k ∧ lv = .int .i64 r ∧ 0 ≤ r ∧ Hid (r = l - xs.length - prsum (xs.take k)) ∧ r ≤ 1048576 ∧ Ext w wr) (fun _ i _ => xs.length - (intOf i).toNat)
    case atStart => exact ⟨0, _, Nat.zero_le _, rfl, rfl, by omega, by show _ = _; simp [prsum], by omega, Ext.refl _⟩
    case round =>
      obtain ⟨k, r, hk, rfl, rfl, hr0, hr1, hr2, hbl⟩ := hrel
      by_cases hlt : k < xs.length
      · obtain ⟨b, o, rfl, vp, p0, p1, p2, p3, p4, p5, p6, p7, hP⟩ := hx k hlt
        have e0 := hbl.keep p0
        have e1 := hbl.keep p1
        have e2 := hbl.keep p2
        have e3 := hbl.keep p3
        have e4 := hbl.keep p4
        have e5 := hbl.keep p5
        have e6 := hbl.keep p6
        have e7 := hbl.keep p7
        have hP := SlP.ext hbl hP
        clear p0 p1 p2 p3 p4 p5 p6 p7
        have hk0 : (0:Int) ≤ (k:Int) := by omega
        have hk1 : (k:Int) < (xs.length:Int) := by omega
        go_wp2_with fail
        refine (szCell_any xs[k] vp r _ hP hr0 hr2).mono ?_
        rintro e w1 ⟨r', rfl, hq, hq1⟩
        by_cases hneg : r' < 0
        · go_wp2_with fail
          go_ret
          exact ⟨-1, rfl, Or.inr rfl, hbl.trans hq1⟩
        · have hq2 : 0 ≤ r' ∧ r' = r - xs[k].prs.length := by omega
          have H : Hid (r' = l - xs.length - prsum (xs.take (k + 1))) := by
            have := prsum_take xs k hlt
            have h' := unhide hr1
            show _ = _
            omega
          have hq3 : r' ≤ 1048576 := by omega
          have hq4 := hq2.1
          clear hq hq2
          go_wp2_with fail
          go_roundw
          case rel => exact ⟨k + 1, r', by omega, by go_num, rfl, hq4, H, hq3, hbl.trans hq1⟩
          case measure => simp [intOf]; omega
      · have hk2 : k = xs.length := by omega
        have H : r = l - xs.length - prsum xs := by have h' := unhide hr1; rw [hk2, List.take_length] at h'; exact h'
        have H := hide H
        clear hk2
        go_wp2_with fail
        go_ret
        exact ⟨r, rfl, Or.inl ⟨hr0, unhide H⟩, hbl⟩

set_option maxRecDepth 100000 in
set_option maxHeartbeats 1000000 in
theorem szHeap_any (x : Hp) (vr vc vg : Value) (l : Int) (w : World) (hR : SlW w vr x.regs) (hC : SlC w vc x.cells) (hG : SlI w vg x.gray) (h0 : 0 ≤ l) (h1 : l ≤ 1048576) :
    Calls Tryz.prog 12 #[x.v vr vc vg, .int .i64 l] w fun e w' => ∃ r : Int, e = .returned (.int .i64 r) ∧ ((0 ≤ r ∧ r = l - x.regs.length - x.cells.length - prsum x.cells - x.gray.length) ∨ r = -1) ∧ Ext w w' := by
  obtain ⟨adr, capr, rfl, hlr, hxr⟩ := hR
  obtain ⟨adg, capg, rfl, hlg, hxg⟩ := hG
  have HX := hide hxr
  have HG := hide hxg
  clear hxr hxg
  go_enter Tryz.func12, Tryz.ntmps12
  go_wp2_with fail
  refine (szWordS_any _ _ _ _ _ hlr h0 h1).mono ?_
  rintro e w1 ⟨r, rfl, hr, rfl⟩
  by_cases hlt : r < 0
  · go_wp2_with fail
    go_ret
    exact ⟨-1, rfl, Or.inr rfl, (Ext.refl w).alloc _⟩
  · have hr2 : 0 ≤ r ∧ r = l - x.regs.length := by omega
    have hr3 : r ≤ 1048576 := by omega
    have hr4 := hr2.1
    have H := hide hr2.2
    clear hr hr2
    go_wp2_with fail
    refine (szCellS_any x.cells vc r _ (SlC.ext ((Ext.refl w).alloc _) hC) hr4 hr3).mono ?_
    rintro e w2 ⟨r', rfl, hs, x2⟩
    have hc2 := (bcell x2).1
    by_cases hlt2 : r' < 0
    · go_wp2_with fail
      go_ret
      exact ⟨-1, rfl, Or.inr rfl, Ext.trans ((Ext.refl w).alloc _) x2⟩
    · have hs2 : 0 ≤ r' ∧ r' = r - x.cells.length - prsum x.cells := by omega
      have hs3 : r' ≤ 1048576 := by omega
      have hs4 := hs2.1
      have H2 := hide hs2.2
      clear hs hs2
      go_wp2_with fail
      refine (szIntS_any _ _ _ _ _ hlg hs4 hs3).mono ?_
      rintro e w3 ⟨r'', rfl, ht, rfl⟩
      by_cases hlt3 : r'' < 0
      · go_wp2_with fail
        go_ret
        exact ⟨-1, rfl, Or.inr rfl, Ext.trans ((Ext.refl w).alloc _) x2⟩
      · have ht2 : 0 ≤ r'' ∧ r'' = l - x.regs.length - x.cells.length - prsum x.cells - x.gray.length := by
          have e1 := unhide H
          have e2 := unhide H2
          omega
        have H3 := hide ht2
        clear ht ht2
        go_wp2_with fail
        go_ret
        exact ⟨r'', rfl, Or.inl (unhide H3), Ext.trans ((Ext.refl w).alloc _) x2⟩
end Go.Proofs.YtkabcfhemljnbaaGreat

namespace Go.Proofs.YtkabcfhemljnbaaGreat
open Go.RowKit
attribute [local go_sem ↓] Go.wp_at_zero Go.wp_at_succ

theorem ints_step {w wr : World} {xs : List Int} {k : Nat} (hlt : k < xs.length) (hm : ∀ j (hj : j < xs.length), j < k → InAt wr w.heap.size (0 + j * 1) xs[j]) (ho : ∀ j, j < xs.length * 1 → Open wr w.heap.size j) (hbl : Ext w wr) (hnf : Nf1 w.heap.size wr) :
    let W := wr.setCell ⟨w.heap.size, k, none⟩ (iv xs[k])
    (∀ j (hj : j < xs.length), j < k + 1 → InAt W w.heap.size (0 + j * 1) xs[j]) ∧ (∀ j, j < xs.length * 1 → Open W w.heap.size j) ∧ Ext w W ∧ Nf1 w.heap.size W := by
  intro W
  refine ⟨fun j hj hjk => ?_, fun j hj => (ho j hj).set _ _, hbl.setCell (Nat.le_refl _) _, hnf.set _ _⟩
  by_cases e : j = k
  · subst e
    show W.cell? _ = _
    have := (ho j (by omega)).same (iv xs[j])
    simpa using this
  · show W.cell? _ = _
    rw [cell_other _ (Or.inr (by omega))]
    exact hm j hj (by omega)

set_option maxHeartbeats 1000000 in
theorem toIntS_any (xs : List Int) (v : Value) (w : World) (h : SlI w v xs) (hn : xs.length ≤ 1048576) :
    Calls Tryz.prog 51 #[v] w fun e w' => ∃ v', e = .returned v' ∧ SlI w' v' xs ∧ Fn0 w.heap.size w' v' ∧ Ext w w' := by
  obtain ⟨ad, cap, rfl, hl, hx⟩ := h
  obtain ⟨z, hmk⟩ := mkInts xs.length hn w
  go_enter Tryz.func51, Tryz.ntmps51
  go_wp2_with fail
  go_loopw [4] (fun i wr => ∃ k : Nat, k ≤ xs.length ∧ i = .int .i64 k ∧ (∀ j (hj : j < xs.length), j < k → InAt wr w.heap.size (0 + j * 1) xs[j]) ∧ (∀ j, j < xs.length * 1 → Open wr w.heap.size j) ∧ Ext w wr ∧ Hid (Nf1 w.heap.size wr)) (fun i _ => xs.length - (intOf i).toNat)
  case atStart => exact ⟨0, Nat.zero_le _, rfl, fun j hj h => by omega, fun j hj => made_open _ _ _ _ _ (by omega), (Ext.refl w).alloc _, Nf1.made _ _ _ _⟩
  case round =>
    obtain ⟨k, hk, rfl, hm, hop, hbl, hnf⟩ := hrel
    by_cases hlt : k < xs.length
    · obtain ⟨b, o, rfl, p0⟩ := hx k hlt
      have e0 := hbl.keep p0
      simp only [Nat.mul_one] at e0
      clear p0
      have hk0 : (0:Int) ≤ (k:Int) := by omega
      have hk1 : (k:Int) < (xs.length:Int) := by omega
      obtain ⟨⟨v0, c0⟩, f0⟩ := hop k (by omega)
      have R := hide (ints_step hlt hm hop hbl (unhide hnf))
      clear hm hop
      go_wp2_with fail
      go_roundw
      case rel => exact ⟨k + 1, by omega, by go_num, (unhide R).1, (unhide R).2.1, (unhide R).2.2.1, (unhide R).2.2.2⟩
      case measure => simp [intOf]; omega
    · have hk2 : k = xs.length := by omega
      have HM : SlOf (InAt wr) 1 (.slice (some ⟨w.heap.size, 0, none⟩) xs.length xs.length) xs := ⟨_, _, rfl, hl, fun i hi => ⟨_, _, rfl, hm i hi (by omega)⟩⟩
      have HM := hide HM
      clear hm hop hk2
      go_wp2_with fail
      go_ret
      exact ⟨_, rfl, unhide HM, (unhide hnf).fn, hbl⟩

set_option maxRecDepth 100000 in
set_option maxHeartbeats 1000000 in
theorem toCell_any (x : Cl) (vp : Value) (w : World) (hP : SlP w vp x.prs) (hn : x.prs.length ≤ 1048576) : Calls Tryz.prog 98 #[x.v vp] w fun e w' => ∃ vp', e = .returned (x.v vp') ∧ SlP w' vp' x.prs ∧ Fn0 w.heap.size w' vp' ∧ Ext w w' := by
  go_enter Tryz.func98, Tryz.ntmps98
  go_wp2_with fail
  refine (toPairS_any x.prs vp _ (SlP.ext ((((Ext.refl w).alloc _).alloc _).alloc _) hP) hn).mono ?_
  rintro e w1 ⟨vp', rfl, hP', hF, x1⟩
  obtain ⟨ad', cap', rfl⟩ : ∃ ad cap, vp' = .slice ad x.prs.length cap := let ⟨a, c, h, _⟩ := hP'; ⟨a, c, h⟩
  have hc1 := (bcell x1).1
  have hf1 := (bcell x1).2
  have z1 : w.heap.size + 2 < w1.heap.size := by have := x1.size; simp at this; omega
  have F2 := hide (hF.mono (C := w.heap.size + 3) (by simp))
  have y : Ext w w1 := Ext.trans ((((Ext.refl w).alloc _).alloc _).alloc _) x1
  have fin : ∀ W, Only (fun q => q = w.heap.size + 1 ∨ q = w.heap.size + 1 + 1) w1 W → SlP W (.slice ad' x.prs.length cap') x.prs ∧ Fn0 w.heap.size W (.slice ad' x.prs.length cap') ∧ Ext w W := fun W h =>
    ⟨slP_only h (fun b o n c e => by have := (unhide F2).1 b o n c e; omega) hP', ((unhide F2).only h (by intro q hq; omega)).mono (by omega), h.ext y (by intro k hk; omega)⟩
  have FIN := hide fin
  clear hF fin hP' hP
  go_wp2_with fail
  refine bodyPost_ret (v := x.v (.slice ad' x.prs.length cap')) (by simp [results, Tryz.results98, go_sem, hc1]) rfl ⟨_, rfl, unhide FIN _ ?_⟩
  repeat (first | refine Only.setCell ?_ (by simp) _ | exact Only.refl _ _)

/-- the pairs' block: from B on, none frozen, another one than the cell's -/
def Fn2 (B : Nat) (w : World) (b : Nat) (v : Value) : Prop := Fn0 B w v ∧ ∀ b' o n c, v = .slice (some ⟨b', o, none⟩) n c → b' ≠ b
/-- a cell whose pairs lie in a block from B on -/
def ClAtF (B : Nat) (w : World) (b o : Nat) (x : Cl) : Prop :=
  ∃ vp, w.cell? ⟨b, o, none⟩ = some (iv x.st) ∧ w.cell? ⟨b, o + 1, none⟩ = some (iv x.kind) ∧ w.cell? ⟨b, o + 2, none⟩ = some (iv x.weak) ∧
    w.cell? ⟨b, o + 3, none⟩ = some (iv x.last) ∧ w.cell? ⟨b, o + 4, none⟩ = some (iv x.born) ∧ w.cell? ⟨b, o + 5, none⟩ = some (iv x.color) ∧
    w.cell? ⟨b, o + 6, none⟩ = some (iv x.to) ∧ w.cell? ⟨b, o + 7, none⟩ = some vp ∧ SlP w vp x.prs ∧ Fn2 B w b vp
theorem ClAtF.at {B : Nat} {w : World} {b o : Nat} {x : Cl} (h : ClAtF B w b o x) : ClAt w b o x := by
  obtain ⟨vp, h0, h1, h2, h3, h4, h5, h6, h7, h8, _⟩ := h
  exact ⟨vp, h0, h1, h2, h3, h4, h5, h6, h7, h8⟩

theorem ClAtF.less {B C : Nat} {w : World} {b o : Nat} {x : Cl} (h : ClAtF B w b o x) (hc : C ≤ B) : ClAtF C w b o x := by
  obtain ⟨vp, h0, h1, h2, h3, h4, h5, h6, h7, h8, h9⟩ := h
  exact ⟨vp, h0, h1, h2, h3, h4, h5, h6, h7, h8, h9.1.mono hc, h9.2⟩
/-- cells, and their pairs, in blocks from B on -/
def SlCF (B : Nat) (w : World) (v : Value) (xs : List Cl) : Prop := SlOf (ClAtF B w) 8 v xs ∧ Fn0 B w v
theorem SlCF.sl {B : Nat} {w : World} {v : Value} {xs : List Cl} (h : SlCF B w v xs) : SlC w v xs := h.1.mono fun _ _ _ k => k.at
theorem SlCF.only {S : Nat → Prop} {B : Nat} {w w' : World} {v : Value} {xs : List Cl} (h : SlCF B w v xs) (ho : Only S w w') (hS : ∀ q, S q → q < B) : SlCF B w' v xs := by
  refine ⟨h.1.mono2 fun b o n c e o' x hx => ?_, h.2.only ho hS⟩
  have hb : ¬ S b := fun s => by have := hS b s; have := h.2.1 b o n c e; omega
  obtain ⟨vp, h0, h1, h2, h3, h4, h5, h6, h7, h8, h9⟩ := hx
  exact ⟨vp, ho.keep hb h0, ho.keep hb h1, ho.keep hb h2, ho.keep hb h3, ho.keep hb h4, ho.keep hb h5, ho.keep hb h6, ho.keep hb h7, slP_only ho (fun b o n c e s => by have := hS b s; have := h9.1.1 b o n c e; omega) h8, h9.1.only ho hS, h9.2⟩
theorem SlCF.less {B C : Nat} {w : World} {v : Value} {xs : List Cl} (h : SlCF B w v xs) (hc : C ≤ B) : SlCF C w v xs := ⟨h.1.mono fun _ _ _ k => k.less hc, h.2.mono hc⟩
theorem SlCF.ext {B : Nat} {w w' : World} {v : Value} {xs : List Cl} (h : SlCF B w v xs) (he : Ext w w') : SlCF B w' v xs :=
  h.only (S := fun _ => False) (Only.of_ext he) (fun _ f => f.elim)
def SlWF (B : Nat) (w : World) (v : Value) (xs : List Wd) : Prop := SlW w v xs ∧ Fn0 B w v
theorem SlWF.only {S : Nat → Prop} {B : Nat} {w w' : World} {v : Value} {xs : List Wd} (h : SlWF B w v xs) (ho : Only S w w') (hS : ∀ q, S q → q < B) : SlWF B w' v xs := by
  refine ⟨SlOf.mono2 h.1 fun b o n c e o' x hx => ?_, h.2.only ho hS⟩
  have hb : ¬ S b := fun s => by have := hS b s; have := h.2.1 b o n c e; omega
  exact ⟨ho.keep hb hx.1, ho.keep hb hx.2.1, ho.keep hb hx.2.2⟩
theorem SlWF.ext {B : Nat} {w w' : World} {v : Value} {xs : List Wd} (h : SlWF B w v xs) (he : Ext w w') : SlWF B w' v xs := ⟨SlW.ext he h.1, h.2.ext he⟩
def SlIF (B : Nat) (w : World) (v : Value) (xs : List Int) : Prop := SlI w v xs ∧ Fn0 B w v
theorem SlIF.only {S : Nat → Prop} {B : Nat} {w w' : World} {v : Value} {xs : List Int} (h : SlIF B w v xs) (ho : Only S w w') (hS : ∀ q, S q → q < B) : SlIF B w' v xs := by
  refine ⟨SlOf.mono2 h.1 fun b o n c e o' x hx => ?_, h.2.only ho hS⟩
  have hb : ¬ S b := fun s => by have := hS b s; have := h.2.1 b o n c e; omega
  exact ho.keep hb hx
theorem SlIF.ext {B : Nat} {w w' : World} {v : Value} {xs : List Int} (h : SlIF B w v xs) (he : Ext w w') : SlIF B w' v xs := ⟨SlI.ext he h.1, h.2.ext he⟩

theorem cells_step {w wr w1 : World} {xs : List Cl} {k : Nat} {vp : Value} (hlt : k < xs.length) (hm : ∀ j (hj : j < xs.length), j < k → ClAtF (w.heap.size + 1) wr w.heap.size (0 + j * 8) xs[j]) (ho : ∀ j, j < xs.length * 8 → Open wr w.heap.size j) (hbl : Ext w wr) (hg : w.heap.size < wr.heap.size) (hq : Ext wr w1) (hP : SlP w1 vp xs[k].prs) (hF : Fn0 wr.heap.size w1 vp) (hnf : Nf1 w.heap.size wr) :
    let W := w1.setCells w.heap.size (k * 8) [iv xs[k].st, iv xs[k].kind, iv xs[k].weak, iv xs[k].last, iv xs[k].born, iv xs[k].color, iv xs[k].to, vp]
    (∀ j (hj : j < xs.length), j < k + 1 → ClAtF (w.heap.size + 1) W w.heap.size (0 + j * 8) xs[j]) ∧ (∀ j, j < xs.length * 8 → Open W w.heap.size j) ∧ Ext w W ∧ w.heap.size < W.heap.size ∧ Nf1 w.heap.size W := by
  intro W
  have ho1 : ∀ j, j < [iv xs[k].st, iv xs[k].kind, iv xs[k].weak, iv xs[k].last, iv xs[k].born, iv xs[k].color, iv xs[k].to, vp].length → Open w1 w.heap.size (k * 8 + j) := fun j hj => (ho (k * 8 + j) (by simp at hj; omega)).ext hq
  have hon : Only (fun q => q = w.heap.size) w1 W := put_only (S := fun q => q = w.heap.size) rfl (Only.refl _ w1)
  refine ⟨fun j hj hjk => ?_, fun j hj => put_open ((ho j hj).ext hq), hon.ext (hbl.trans hq) (by intro k hk; omega), by have := hon.size; have := hq.size; omega, (hnf.ext hq).put⟩
  by_cases e : j = k
  · subst e
    refine ⟨vp, ?_, ?_, ?_, ?_, ?_, ?_, ?_, ?_, slP_only hon (fun b o n c e => by have := hF.1 b o n c e; omega) hP, (hF.only hon (by intro q hq; omega)).mono (by omega), fun b o n c e => by have := hF.1 b o n c e; omega⟩
    · have := put_in ho1 0 (by simp)
      simpa using this
    · have := put_in ho1 1 (by simp)
      simpa using this
    · have := put_in ho1 2 (by simp)
      simpa using this
    · have := put_in ho1 3 (by simp)
      simpa using this
    · have := put_in ho1 4 (by simp)
      simpa using this
    · have := put_in ho1 5 (by simp)
      simpa using this
    · have := put_in ho1 6 (by simp)
      simpa using this
    · have := put_in ho1 7 (by simp)
      simpa using this
  · obtain ⟨vq, h0, h1, h2, h3, h4, h5, h6, h7, h8, h9⟩ := hm j hj (by omega)
    refine ⟨vq, ?_, ?_, ?_, ?_, ?_, ?_, ?_, ?_, slP_only hon (fun b o n c e => by have := h9.1.1 b o n c e; omega) (SlP.ext hq h8), (h9.1.ext hq).only hon (by intro q hq; omega), h9.2⟩
    · rw [put_out _ _ (Or.inr (by simp; omega))]; exact hq.keep h0
    · rw [put_out _ _ (Or.inr (by simp; omega))]; exact hq.keep h1
    · rw [put_out _ _ (Or.inr (by simp; omega))]; exact hq.keep h2
    · rw [put_out _ _ (Or.inr (by simp; omega))]; exact hq.keep h3
    · rw [put_out _ _ (Or.inr (by simp; omega))]; exact hq.keep h4
    · rw [put_out _ _ (Or.inr (by simp; omega))]; exact hq.keep h5
    · rw [put_out _ _ (Or.inr (by simp; omega))]; exact hq.keep h6
    · rw [put_out _ _ (Or.inr (by simp; omega))]; exact hq.keep h7

set_option maxRecDepth 100000 in
set_option maxHeartbeats 1000000 in
theorem toCellS_any (xs : List Cl) (v : Value) (w : World) (h : SlC w v xs) (hn : xs.length ≤ 1048576) (hp : prsum xs ≤ 1048576) :
    Calls Tryz.prog 50 #[v] w fun e w' => ∃ v', e = .returned v' ∧ SlCF w.heap.size w' v' xs ∧ Ext w w' := by
  obtain ⟨ad, cap, rfl, hl, hx⟩ := h
  obtain ⟨z, hmk⟩ := mkCells xs.length hn w
  go_enter Tryz.func50, Tryz.ntmps50
  go_wp2_with fail
  go_loopw [4] (fun i wr => ∃ k : Nat, k ≤ xs.length ∧ i = .int .i64 k ∧ (∀ j (hj : j < xs.length), j < k → ClAtF (w.heap.size + 1) wr w.heap.size (0 + j * 8) xs[j]) ∧ (∀ j, j < xs.length * 8 → Open wr w.heap.size j) ∧ Ext w wr ∧ w.heap.size < wr.heap.size ∧ Hid (Nf1 w.heap.size wr)) (fun i _ => xs.length - (intOf i).toNat)
  case atStart => exact ⟨0, Nat.zero_le _, rfl, fun j hj h => by omega, fun j hj => made_open _ _ _ _ _ (by omega), (Ext.refl w).alloc _, by simp, Nf1.made _ _ _ _⟩
  case round =>
    obtain ⟨k, hk, rfl, hm, hop, hbl, hg, hnf⟩ := hrel
    by_cases hlt : k < xs.length
    · obtain ⟨b, o, rfl, vp, p0, p1, p2, p3, p4, p5, p6, p7, hP⟩ := hx k hlt
      have e0 := hbl.keep p0
      have e1 := hbl.keep p1
      have e2 := hbl.keep p2
      have e3 := hbl.keep p3
      have e4 := hbl.keep p4
      have e5 := hbl.keep p5
      have e6 := hbl.keep p6
      have e7 := hbl.keep p7
      have hP := SlP.ext hbl hP
      have hpl : xs[k].prs.length ≤ 1048576 := Nat.le_trans (prs_le xs k hlt) hp
      clear p0 p1 p2 p3 p4 p5 p6 p7
      have hk0 : (0:Int) ≤ (k:Int) := by omega
      have hk1 : (k:Int) < (xs.length:Int) := by omega
      go_wp2_with fail
      refine (toCell_any xs[k] vp _ hP hpl).mono ?_
      rintro e w1 ⟨vp', rfl, hP', hF', hq1⟩
      obtain ⟨⟨v0, c0⟩, f0⟩ := (hop (k * 8) (by omega)).ext hq1
      obtain ⟨⟨v1, c1⟩, f1⟩ := (hop (k * 8 + 1) (by omega)).ext hq1
      obtain ⟨⟨v2, c2⟩, f2⟩ := (hop (k * 8 + 2) (by omega)).ext hq1
      obtain ⟨⟨v3, c3⟩, f3⟩ := (hop (k * 8 + 3) (by omega)).ext hq1
      obtain ⟨⟨v4, c4⟩, f4⟩ := (hop (k * 8 + 4) (by omega)).ext hq1
      obtain ⟨⟨v5, c5⟩, f5⟩ := (hop (k * 8 + 5) (by omega)).ext hq1
      obtain ⟨⟨v6, c6⟩, f6⟩ := (hop (k * 8 + 6) (by omega)).ext hq1
      obtain ⟨⟨v7, c7⟩, f7⟩ := (hop (k * 8 + 7) (by omega)).ext hq1
      have R := hide (cells_step hlt hm hop hbl hg hq1 hP' hF' (unhide hnf))
      obtain ⟨ad', cap', rfl⟩ : ∃ ad cap, vp' = .slice ad xs[k].prs.length cap := let ⟨a, c, h, _⟩ := hP'; ⟨a, c, h⟩
      clear hm hop hP' hF'
      go_wp2_with fail
      go_roundw
      case rel => exact ⟨k + 1, by omega, by go_num, (unhide R).1, (unhide R).2.1, (unhide R).2.2.1, (unhide R).2.2.2.1, (unhide R).2.2.2.2⟩
      case measure => simp [intOf]; omega
    · have hk2 : k = xs.length := by omega
      have HM : SlOf (ClAtF w.heap.size wr) 8 (.slice (some ⟨w.heap.size, 0, none⟩) xs.length xs.length) xs := ⟨_, _, rfl, hl, fun i hi => ⟨_, _, rfl, (hm i hi (by omega)).less (by omega)⟩⟩
      have HM := hide HM
      clear hm hop hk2
      go_wp2_with fail
      go_ret
      exact ⟨_, rfl, ⟨unhide HM, (unhide hnf).fn⟩, hbl⟩
end Go.Proofs.YtkabcfhemljnbaaGreat

namespace Go.Proofs.YtkabcfhemljnbaaGreat
open Go.RowKit
attribute [local go_sem ↓] Go.wp_at_zero Go.wp_at_succ

/-! markWordS writes the numbers from k on into the cells of the row, heldWordS finds them there. -/
theorem mark_step {w wr : World} {b o n k : Nat} {k0 : Int} (hk : k < n) (hm : ∀ j, j < 3 * k → wr.cell? ⟨b, o + j, none⟩ = some (iv (k0 + j))) (ho : ∀ j, j < 3 * n → Open wr b (o + j)) (hon : Only (fun q => q = b) w wr) :
    let W := ((wr.setCell ⟨b, o + k * 3, none⟩ (iv (k0 + 3 * k))).setCell ⟨b, o + k * 3 + 1, none⟩ (iv (k0 + 3 * k + 1))).setCell ⟨b, o + k * 3 + 2, none⟩ (iv (k0 + 3 * k + 1 + 1))
    (∀ j, j < 3 * (k + 1) → W.cell? ⟨b, o + j, none⟩ = some (iv (k0 + j))) ∧ (∀ j, j < 3 * n → Open W b (o + j)) ∧ Only (fun q => q = b) w W := by
  intro W
  refine ⟨?_, fun j hj => (((ho j hj).set _ _).set _ _).set _ _, ((hon.setCell rfl _).setCell rfl _).setCell rfl _⟩
  intro j hj
  have o0 : Open wr b (o + k * 3) := by rw [Nat.mul_comm]; exact ho (3 * k) (by omega)
  have o1 : Open wr b (o + k * 3 + 1) := by rw [Nat.mul_comm]; exact ho (3 * k + 1) (by omega)
  have o2 : Open wr b (o + k * 3 + 2) := by rw [Nat.mul_comm]; exact ho (3 * k + 2) (by omega)
  by_cases h2 : j = 3 * k + 2
  · subst h2
    have e : o + (3 * k + 2) = o + k * 3 + 2 := by omega
    rw [e]
    show (World.setCell _ _ _).cell? _ = _
    rw [((o2.set _ _).set _ _).same]
    congr 2; omega
  · show (World.setCell _ _ _).cell? _ = _
    rw [cell_other _ (Or.inr (by omega))]
    by_cases h1 : j = 3 * k + 1
    · subst h1
      have e : o + (3 * k + 1) = o + k * 3 + 1 := by omega
      rw [e, (o1.set _ _).same]
      congr 2; omega
    · rw [cell_other _ (Or.inr (by omega))]
      by_cases h0 : j = 3 * k
      · subst h0
        have e : o + 3 * k = o + k * 3 := by omega
        rw [e, o0.same]
        congr 2
      · rw [cell_other _ (Or.inr (by omega))]
        exact hm j (by omega)

set_option maxHeartbeats 1000000 in
theorem markWordS_any (b o n cap : Nat) (k0 : Int) (w : World) (hn : n ≤ 1099511627776) (h0 : 0 ≤ k0) (h1 : k0 ≤ 1099511627776) (ho : ∀ j, j < 3 * n → Open w b (o + j)) :
    Calls Tryz.prog 58 #[.slice (some ⟨b, o, none⟩) n cap, .int .i64 k0] w fun e w' =>
      e = .returned (.int .i64 (k0 + 3 * n)) ∧ (∀ j, j < 3 * n → w'.cell? ⟨b, o + j, none⟩ = some (iv (k0 + j))) ∧ (∀ j, j < 3 * n → Open w' b (o + j)) ∧ Only (fun q => q = b) w w' := by
  go_enter Tryz.func58, Tryz.ntmps58
  go_wp2
  go_loopw [1, 5] (fun kk i wr => ∃ k : Nat, k ≤ n ∧ i = .int .i64 k ∧ kk = .int .i64 (k0 + 3 * k) ∧ (∀ j, j < 3 * k → wr.cell? ⟨b, o + j, none⟩ = some (iv (k0 + j))) ∧ (∀ j, j < 3 * n → Open wr b (o + j)) ∧ Only (fun q => q = b) w wr) (fun _ i _ => n - (intOf i).toNat)
  case atStart => exact ⟨0, Nat.zero_le _, rfl, by simp, fun j hj => by omega, ho, Only.refl _ _⟩
  case round =>
    obtain ⟨k, hk, rfl, rfl, hm, hop, hon⟩ := hrel
    by_cases hlt : k < n
    · have R := mark_step hlt hm hop hon
      have HR := hide R
      obtain ⟨⟨v0, c0⟩, f0⟩ : Open wr b (o + k * 3) := by rw [Nat.mul_comm]; exact hop (3 * k) (by omega)
      obtain ⟨⟨v1, c1⟩, f1⟩ : Open wr b (o + k * 3 + 1) := by rw [Nat.mul_comm]; exact hop (3 * k + 1) (by omega)
      obtain ⟨⟨v2, c2⟩, f2⟩ : Open wr b (o + k * 3 + 2) := by rw [Nat.mul_comm]; exact hop (3 * k + 2) (by omega)
      clear R hm hop hon
      go_wp2
      go_roundw
      case rel => exact ⟨k + 1, by omega, by go_num, by go_num, (unhide HR).1, (unhide HR).2.1, (unhide HR).2.2⟩
      case measure => simp [intOf]; omega
    · obtain rfl : k = n := by omega
      go_wp2
      go_ret
      exact ⟨rfl, hm, hop, hon⟩

set_option maxHeartbeats 1000000 in
theorem heldWordS_any (b o n cap : Nat) (k0 : Int) (w : World) (hn : n ≤ 1099511627776) (h0 : 0 ≤ k0) (h1 : k0 ≤ 1099511627776) (hm : ∀ j, j < 3 * n → w.cell? ⟨b, o + j, none⟩ = some (iv (k0 + j))) :
    Calls Tryz.prog 70 #[.slice (some ⟨b, o, none⟩) n cap, .int .i64 k0] w fun e w' =>
      e = .returned (.int .i64 (k0 + 3 * n)) ∧ w' = w := by
  go_enter Tryz.func70, Tryz.ntmps70
  go_wp2
  go_loop [1, 5] (fun kk i => ∃ k : Nat, k ≤ n ∧ i = .int .i64 k ∧ kk = .int .i64 (k0 + 3 * k)) (fun _ i => n - (intOf i).toNat)
  case atStart => exact ⟨0, Nat.zero_le _, rfl, by simp⟩
  case round =>
    obtain ⟨k, hk, rfl, rfl⟩ := hrel
    by_cases hlt : k < n
    · have c0 : w.cell? ⟨b, o + k * 3, none⟩ = some (iv (k0 + 3 * k)) := by rw [Nat.mul_comm, hm (3 * k) (by omega)]; congr 2
      have c1 : w.cell? ⟨b, o + k * 3 + 1, none⟩ = some (iv (k0 + 3 * k + 1)) := by rw [Nat.mul_comm, Nat.add_assoc, hm (3 * k + 1) (by omega)]; congr 2; omega
      have c2 : w.cell? ⟨b, o + k * 3 + 2, none⟩ = some (iv (k0 + 3 * k + 1 + 1)) := by rw [Nat.mul_comm, Nat.add_assoc, hm (3 * k + 2) (by omega)]; congr 2; omega
      go_wp2
      go_round
      case rel => exact ⟨k + 1, by omega, by go_num, by go_num⟩
      case measure => simp [intOf]; omega
    · obtain rfl : k = n := by omega
      go_wp2
      go_ret
      exact ⟨rfl, rfl⟩
end Go.Proofs.YtkabcfhemljnbaaGreat

namespace Go.Proofs.YtkabcfhemljnbaaGreat
open Go.RowKit
attribute [local go_sem ↓] Go.wp_at_zero Go.wp_at_succ

set_option maxHeartbeats 1000000 in
/-- markIntS writes the numbers from k0 on -/
theorem markIntS_any (b o n cap : Nat) (k0 : Int) (w : World) (hn : n ≤ 1099511627776) (h0 : 0 ≤ k0) (h1 : k0 ≤ 1099511627776) (ho : ∀ j, j < n → Open w b (o + j)) :
    Calls Tryz.prog 60 #[.slice (some ⟨b, o, none⟩) n cap, .int .i64 k0] w fun e w' =>
      e = .returned (.int .i64 (k0 + n)) ∧ (∀ j, j < n → w'.cell? ⟨b, o + j, none⟩ = some (iv (k0 + j))) ∧ (∀ j, j < n → Open w' b (o + j)) ∧ Only (fun q => q = b) w w' := by
  have H0 := hide ho
  clear ho
  go_enter Tryz.func60, Tryz.ntmps60
  go_wp2_with fail
  go_loopw [1, 5] (fun kk i wr => ∃ k : Nat, k ≤ n ∧ i = .int .i64 k ∧ kk = .int .i64 (k0 + k) ∧ Hid ((∀ j, j < k → wr.cell? ⟨b, o + j, none⟩ = some (iv (k0 + j))) ∧ (∀ j, j < n → Open wr b (o + j)) ∧ Only (fun q => q = b) w wr)) (fun _ i _ => n - (intOf i).toNat)
  case atStart => exact ⟨0, Nat.zero_le _, rfl, by simp, fun j hj => by omega, unhide H0, Only.refl _ _⟩
  case round =>
    obtain ⟨k, hk, rfl, rfl, hm⟩ := hrel
    by_cases hlt : k < n
    · have R := hide (show (∀ j, j < k + 1 → (wr.setCell ⟨b, o + k, none⟩ (iv (k0 + k))).cell? ⟨b, o + j, none⟩ = some (iv (k0 + j))) ∧ (∀ j, j < n → Open (wr.setCell ⟨b, o + k, none⟩ (iv (k0 + k))) b (o + j)) ∧ Only (fun q => q = b) w (wr.setCell ⟨b, o + k, none⟩ (iv (k0 + k))) from
        ⟨fun j hj => by
          by_cases e : j = k
          · subst e; exact ((unhide hm).2.1 j hlt).same _
          · rw [cell_other _ (.inr (by omega))]; exact (unhide hm).1 j (by omega), fun j hj => ((unhide hm).2.1 j hj).set _ _, (unhide hm).2.2.setCell rfl _⟩)
      obtain ⟨⟨v0, c0⟩, f0⟩ : Open wr b (o + k) := (unhide hm).2.1 k hlt
      have g0 : (0:Int) ≤ (k:Int) := by omega
      have g1 : (k:Int) < (n:Int) := by omega
      go_wp2_with fail
      go_roundw
      case rel => exact ⟨k + 1, by omega, by go_num, by go_num, (unhide R).1, (unhide R).2.1, (unhide R).2.2⟩
      case measure => simp [intOf]; omega
    · have hk2 : k = n := by omega
      subst hk2
      go_wp2_with fail
      go_ret
      exact ⟨rfl, (unhide hm).1, (unhide hm).2.1, (unhide hm).2.2⟩

theorem mark6_step {w wr : World} {b o n k : Nat} {k0 : Int} (hk : k < n) (hm : ∀ j, j < 6 * k → wr.cell? ⟨b, o + j, none⟩ = some (iv (k0 + j))) (ho : ∀ j, j < 6 * n → Open wr b (o + j)) (hon : Only (fun q => q = b) w wr) :
    let W := ((((((wr.setCell ⟨b, o + k * 6, none⟩ (iv (k0 + 6 * k))).setCell ⟨b, o + k * 6 + 1, none⟩ (iv (k0 + 6 * k + 1))).setCell ⟨b, o + k * 6 + 2, none⟩ (iv (k0 + 6 * k + 1 + 1))).setCell ⟨b, o + k * 6 + 3, none⟩ (iv (k0 + 6 * k + 1 + 1 + 1))).setCell ⟨b, o + k * 6 + 4, none⟩ (iv (k0 + 6 * k + 1 + 1 + 1 + 1))).setCell ⟨b, o + k * 6 + 5, none⟩ (iv (k0 + 6 * k + 1 + 1 + 1 + 1 + 1)))
    (∀ j, j < 6 * (k + 1) → W.cell? ⟨b, o + j, none⟩ = some (iv (k0 + j))) ∧ (∀ j, j < 6 * n → Open W b (o + j)) ∧ Only (fun q => q = b) w W := by
  intro W
  refine ⟨?_, fun j hj => ((((((ho j hj).set _ _).set _ _).set _ _).set _ _).set _ _).set _ _, (((((hon.setCell rfl _).setCell rfl _).setCell rfl _).setCell rfl _).setCell rfl _).setCell rfl _⟩
  intro j hj
  have op : ∀ i, i < 6 → Open wr b (o + k * 6 + i) := fun i hi => by
    have := ho (6 * k + i) (by omega)
    have e : o + (6 * k + i) = o + k * 6 + i := by omega
    rw [e] at this; exact this
  show (World.setCell _ _ _).cell? _ = _
  by_cases h5 : j = 6 * k + 5
  · subst h5
    have e : o + (6 * k + 5) = o + k * 6 + 5 := by omega
    rw [e]
    rw [Open.same (Open.set (Open.set (Open.set (Open.set (Open.set (op 5 (by omega)) _ _) _ _) _ _) _ _) _ _)]
    congr 2; omega
  · rw [cell_other _ (Or.inr (by omega))]
    by_cases h4 : j = 6 * k + 4
    · subst h4
      have e : o + (6 * k + 4) = o + k * 6 + 4 := by omega
      rw [e]
      rw [Open.same (Open.set (Open.set (Open.set (Open.set (op 4 (by omega)) _ _) _ _) _ _) _ _)]
      congr 2; omega
    · rw [cell_other _ (Or.inr (by omega))]
      by_cases h3 : j = 6 * k + 3
      · subst h3
        have e : o + (6 * k + 3) = o + k * 6 + 3 := by omega
        rw [e]
        rw [Open.same (Open.set (Open.set (Open.set (op 3 (by omega)) _ _) _ _) _ _)]
        congr 2; omega
      · rw [cell_other _ (Or.inr (by omega))]
        by_cases h2 : j = 6 * k + 2
        · subst h2
          have e : o + (6 * k + 2) = o + k * 6 + 2 := by omega
          rw [e]
          rw [Open.same (Open.set (Open.set (op 2 (by omega)) _ _) _ _)]
          congr 2; omega
        · rw [cell_other _ (Or.inr (by omega))]
          by_cases h1 : j = 6 * k + 1
          · subst h1
            have e : o + (6 * k + 1) = o + k * 6 + 1 := by omega
            rw [e]
            rw [Open.same (Open.set (op 1 (by omega)) _ _)]
            congr 2; omega
          · rw [cell_other _ (Or.inr (by omega))]
            by_cases h0 : j = 6 * k + 0
            · subst h0
              have e : o + (6 * k + 0) = o + k * 6 := by omega
              rw [e]
              rw [Open.same (show Open wr b (o + k * 6) from op 0 (by omega))]
              congr 2
            · rw [cell_other _ (Or.inr (by omega))]
              exact hm j (by omega)

set_option maxHeartbeats 2000000 in
theorem markPairS_any (b o n cap : Nat) (k0 : Int) (w : World) (hn : n ≤ 1099511627776) (h0 : 0 ≤ k0) (h1 : k0 ≤ 1099511627776) (ho : ∀ j, j < 6 * n → Open w b (o + j)) :
    Calls Tryz.prog 109 #[.slice (some ⟨b, o, none⟩) n cap, .int .i64 k0] w fun e w' =>
      e = .returned (.int .i64 (k0 + 6 * n)) ∧ (∀ j, j < 6 * n → w'.cell? ⟨b, o + j, none⟩ = some (iv (k0 + j))) ∧ (∀ j, j < 6 * n → Open w' b (o + j)) ∧ Only (fun q => q = b) w w' := by
  have H0 := hide ho
  clear ho
  go_enter Tryz.func109, Tryz.ntmps109
  go_wp2_with fail
  go_loopw [1, 5] (fun kk i wr => ∃ k : Nat, k ≤ n ∧ i = .int .i64 k ∧ kk = .int .i64 (k0 + 6 * k) ∧ Hid ((∀ j, j < 6 * k → wr.cell? ⟨b, o + j, none⟩ = some (iv (k0 + j))) ∧ (∀ j, j < 6 * n → Open wr b (o + j)) ∧ Only (fun q => q = b) w wr)) (fun _ i _ => n - (intOf i).toNat)
  case atStart => exact ⟨0, Nat.zero_le _, rfl, by simp, fun j hj => by omega, unhide H0, Only.refl _ _⟩
  case round =>
    obtain ⟨k, hk, rfl, rfl, hm⟩ := hrel
    by_cases hlt : k < n
    · have HR := hide (mark6_step hlt (unhide hm).1 (unhide hm).2.1 (unhide hm).2.2)
      have op : ∀ i, i < 6 → Open wr b (o + k * 6 + i) := fun i hi => by
        have := (unhide hm).2.1 (6 * k + i) (by omega)
        have e : o + (6 * k + i) = o + k * 6 + i := by omega
        rw [e] at this; exact this
      obtain ⟨⟨v0, c0⟩, f0⟩ : Open wr b (o + k * 6) := op 0 (by omega)
      obtain ⟨⟨v1, c1⟩, f1⟩ := op 1 (by omega)
      obtain ⟨⟨v2, c2⟩, f2⟩ := op 2 (by omega)
      obtain ⟨⟨v3, c3⟩, f3⟩ := op 3 (by omega)
      obtain ⟨⟨v4, c4⟩, f4⟩ := op 4 (by omega)
      obtain ⟨⟨v5, c5⟩, f5⟩ := op 5 (by omega)
      have g0 : (0:Int) ≤ (k:Int) := by omega
      have g1 : (k:Int) < (n:Int) := by omega
      clear op
      go_wp2_with fail
      go_roundw
      case rel => exact ⟨k + 1, by omega, by go_num, by go_num, (unhide HR).1, (unhide HR).2.1, (unhide HR).2.2⟩
      case measure => simp [intOf]; omega
    · have hk2 : k = n := by omega
      subst hk2
      go_wp2_with fail
      go_ret
      exact ⟨rfl, (unhide hm).1, (unhide hm).2.1, (unhide hm).2.2⟩
end Go.Proofs.YtkabcfhemljnbaaGreat

namespace Go.Proofs.YtkabcfhemljnbaaGreat
open Go.RowKit
attribute [local go_sem ↓] Go.wp_at_zero Go.wp_at_succ

/-- the two lie in two blocks -/
def Dis (vr vc : Value) : Prop := ∀ b o n c b' o' n' c', vr = .slice (some ⟨b, o, none⟩) n c → vc = .slice (some ⟨b', o', none⟩) n' c' → b ≠ b'
def SlIG (B : Nat) (w : World) (v : Value) (xs : List Int) (vr vc : Value) : Prop := SlI w v xs ∧ Fn0 B w v ∧ Dis vr vc
/-- the three slices of a heap, in blocks from B on -/
def HpF (B : Nat) (w : World) (x : Hp) (vr vc vg : Value) : Prop := SlWF B w vr x.regs ∧ SlCF B w vc x.cells ∧ SlIG B w vg x.gray vr vc
theorem HpF.only {S : Nat → Prop} {B : Nat} {w w' : World} {x : Hp} {vr vc vg : Value} (h : HpF B w x vr vc vg) (ho : Only S w w') (hS : ∀ q, S q → q < B) : HpF B w' x vr vc vg :=
  ⟨h.1.only ho hS, h.2.1.only ho hS, (SlIF.only ⟨h.2.2.1, h.2.2.2.1⟩ ho hS).1, h.2.2.2.1.only ho hS, h.2.2.2.2⟩
theorem HpF.ext {B : Nat} {w w' : World} {x : Hp} {vr vc vg : Value} (h : HpF B w x vr vc vg) (he : Ext w w') : HpF B w' x vr vc vg := ⟨h.1.ext he, h.2.1.ext he, SlI.ext he h.2.2.1, h.2.2.2.1.ext he, h.2.2.2.2⟩

set_option maxRecDepth 100000 in
set_option maxHeartbeats 2000000 in
theorem toHeap_any (x : Hp) (vr vc vg : Value) (w : World) (hR : SlW w vr x.regs) (hC : SlC w vc x.cells) (hG : SlI w vg x.gray) (n1 : x.regs.length ≤ 1048576) (n2 : x.cells.length ≤ 1048576) (n3 : prsum x.cells ≤ 1048576) (n4 : x.gray.length ≤ 1048576) :
    Calls Tryz.prog 14 #[x.v vr vc vg] w fun e w' => ∃ vr' vc' vg', e = .returned (x.v vr' vc' vg') ∧ HpF w.heap.size w' x vr' vc' vg' ∧ Ext w w' := by
  go_enter Tryz.func14, Tryz.ntmps14
  go_wp2_with fail
  refine (toWordS_any x.regs vr _ (SlW.ext ((((Ext.refl w).alloc _).alloc _).alloc _) hR) n1).mono ?_
  rintro e w1 ⟨vr', rfl, hR', hFr, x1⟩
  obtain ⟨adr, capr, rfl⟩ : ∃ ad cap, vr' = .slice ad x.regs.length cap := let ⟨a, c, h, _⟩ := hR'; ⟨a, c, h⟩
  have hc1 := (bcell x1).1
  have hf1 := (bcell x1).2
  have z1 : w.heap.size + 1 + 1 < w1.heap.size := by have := x1.size; simp at this; omega
  have z1a : w.heap.size < w1.heap.size := by omega
  have z1b : w.heap.size + 1 < w1.heap.size := by omega
  have y1 : Ext w w1 := Ext.trans ((((Ext.refl w).alloc _).alloc _).alloc _) x1
  have A1 : SlWF (w.heap.size + 3) w1 (.slice adr x.regs.length capr) x.regs := ⟨hR', hFr.mono (by simp)⟩
  have A1 := hide A1
  clear hR' hFr
  go_wp2_with fail
  have s1 : ∀ v, Only (fun q => q = w.heap.size + 1 + 1) w1 (w1.setCell ⟨w.heap.size + 1 + 1, 3, none⟩ v) := fun v => Only.setCell (S := fun q => q = w.heap.size + 1 + 1) (p := ⟨w.heap.size + 1 + 1, 3, none⟩) (Only.refl _ _) rfl v
  have e1 : ∀ v, Ext w (w1.setCell ⟨w.heap.size + 1 + 1, 3, none⟩ v) := fun v => (s1 v).ext y1 (by intro k hk; omega)
  refine (toCellS_any x.cells vc _ (SlC.ext (e1 _) hC) n2 n3).mono ?_
  rintro e w2 ⟨vc', rfl, hC', x2⟩
  obtain ⟨adc, capc, rfl⟩ : ∃ ad cap, vc' = .slice ad x.cells.length cap := let ⟨a, c, h, _⟩ := hC'.1; ⟨a, c, h⟩
  have hc2 := (bcell x2).1
  have hf2 := (bcell x2).2
  have z2 : w.heap.size + 1 + 1 < w2.heap.size := by have := x2.size; simp at this; omega
  have z2a : w.heap.size < w2.heap.size := by omega
  have z2b : w.heap.size + 1 < w2.heap.size := by omega
  have y2 : Ext w w2 := Ext.trans (e1 _) x2
  have A2 := hide (((unhide A1).only (s1 _) (by intro q hq; omega)).ext x2)
  have DI := hide (show Dis (.slice adr x.regs.length capr) (.slice adc x.cells.length capc) from fun b o n c b' o' n' c' e1 e2 => by
    have q1 := ((unhide A1).2.2 b o n c e1).1
    have q2 := (hC'.2.1 b' o' n' c' e2).1
    simp at q2
    omega)
  have B2 := hide (hC'.less (C := w.heap.size + 3) (by simp; omega))
  clear hC' A1
  go_wp2_with fail
  have s2 : ∀ v a b c, Only (fun q => q = w.heap.size + 1 + 1) w2 ((((w2.setCell ⟨w.heap.size + 1 + 1, 4, none⟩ v).setCell ⟨w.heap.size + 1 + 1, 5, none⟩ a).setCell ⟨w.heap.size + 1 + 1, 6, none⟩ b).setCell ⟨w.heap.size + 1 + 1, 7, none⟩ c) := fun v a b c => by
    repeat (first | refine Only.setCell ?_ (by simp) _ | exact Only.refl _ _)
  have e2 : ∀ v a b c, Ext w ((((w2.setCell ⟨w.heap.size + 1 + 1, 4, none⟩ v).setCell ⟨w.heap.size + 1 + 1, 5, none⟩ a).setCell ⟨w.heap.size + 1 + 1, 6, none⟩ b).setCell ⟨w.heap.size + 1 + 1, 7, none⟩ c) := fun v a b c => (s2 v a b c).ext y2 (by intro k hk; omega)
  refine (toIntS_any x.gray vg _ (SlI.ext (e2 _ _ _ _) hG) n4).mono ?_
  rintro e w3 ⟨vg', rfl, hG', hFg, x3⟩
  obtain ⟨adg, capg, rfl⟩ : ∃ ad cap, vg' = .slice ad x.gray.length cap := let ⟨a, c, h, _⟩ := hG'; ⟨a, c, h⟩
  have hc3 := (bcell x3).1
  have hf3 := (bcell x3).2
  have z3 : w.heap.size + 1 + 1 < w3.heap.size := by have := x3.size; simp at this; omega
  have z3a : w.heap.size < w3.heap.size := by omega
  have z3b : w.heap.size + 1 < w3.heap.size := by omega
  have y3 : Ext w w3 := Ext.trans (e2 _ _ _ _) x3
  have G : SlIF (w.heap.size + 3) w3 (.slice adg x.gray.length capg) x.gray := ⟨hG', hFg.mono (by simp; omega)⟩
  have HF : HpF (w.heap.size + 3) w3 x (.slice adr x.regs.length capr) (.slice adc x.cells.length capc) (.slice adg x.gray.length capg) :=
    ⟨((unhide A2).only (s2 _ _ _ _) (by intro q hq; omega)).ext x3, ((unhide B2).only (s2 _ _ _ _) (by intro q hq; omega)).ext x3, G.1, G.2, unhide DI⟩
  have fin : ∀ W, Only (fun q => q = w.heap.size + 1 ∨ q = w.heap.size + 1 + 1) w3 W → HpF w.heap.size W x (.slice adr x.regs.length capr) (.slice adc x.cells.length capc) (.slice adg x.gray.length capg) ∧ Ext w W := fun W h => by
    have h1 := HF.only h (by intro q hq; omega)
    exact ⟨⟨⟨h1.1.1, h1.1.2.mono (by omega)⟩, h1.2.1.less (by omega), ⟨h1.2.2.1, h1.2.2.2.1.mono (by omega), h1.2.2.2.2⟩⟩, h.ext y3 (by intro k hk; omega)⟩
  have FIN := hide fin
  clear hG' hFg A2 B2 G HF fin s2 e2 s1 e1 DI
  go_wp2_with fail
  refine bodyPost_ret (v := x.v (.slice adr x.regs.length capr) (.slice adc x.cells.length capc) (.slice adg x.gray.length capg)) ?_ rfl ⟨_, _, _, rfl, unhide FIN _ ?_⟩
  · simp [results, Tryz.results14, go_sem, hc1, hc2, hc3, z2b, z1b]
  repeat (first | refine Only.setCell ?_ (by simp) _ | exact Only.refl _ _)
end Go.Proofs.YtkabcfhemljnbaaGreat
