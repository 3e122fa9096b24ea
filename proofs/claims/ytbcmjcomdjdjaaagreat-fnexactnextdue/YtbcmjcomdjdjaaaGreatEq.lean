import Derived.Test.YtbcmjcomdjdjaaaGreatBase
namespace Go.Proofs.YtbcmjcomdjdjaaaGreat
open Go.RowKit
attribute [local go_sem ↓] Go.wp_at_zero Go.wp_at_succ

/-! The comparers of the laws, at two equal values. -/
theorem eqWord_same (x : Wd) (w : World) : Calls Tryz.prog 58 #[x.v, x.v] w fun e w' => e = .returned (.bool true) ∧ Ext w w' := by
  go_enter Tryz.func58, Tryz.ntmps58
  go_wp2
  go_ret
  exact ⟨by simp, ((Ext.refl w).alloc _).alloc _⟩

theorem eqWordS_same (xs : List Wd) (v v' : Value) (w : World) (h : SlW w v xs) (h' : SlW w v' xs) :
    Calls Tryz.prog 27 #[v, v'] w fun e w' => e = .returned (.bool true) ∧ Ext w w' := by
  obtain ⟨ad, cap, rfl, hl, hx⟩ := h
  obtain ⟨ad', cap', rfl, _, hx'⟩ := h'
  go_enter Tryz.func27, Tryz.ntmps27
  go_wp2
  go_loopw [5] (fun i wr => ∃ k : Nat, k ≤ xs.length ∧ i = .int .i64 k ∧ Ext w wr) (fun i _ => xs.length - (intOf i).toNat)
  case atStart => exact ⟨0, Nat.zero_le _, rfl, Ext.refl _⟩
  case round =>
    obtain ⟨k, hk, rfl, hbl⟩ := hrel
    by_cases hlt : k < xs.length
    · obtain ⟨b, o, rfl, p1, p2, p3⟩ := hx k hlt
      obtain ⟨b', o', rfl, q1, q2, q3⟩ := hx' k hlt
      have e1 := hbl.keep p1
      have e2 := hbl.keep p2
      have e3 := hbl.keep p3
      have f1 := hbl.keep q1
      have f2 := hbl.keep q2
      have f3 := hbl.keep q3
      have hbr : b < wr.heap.size := cell_lt e1
      have hbr' : b' < wr.heap.size := cell_lt f1
      clear p1 p2 p3 q1 q2 q3
      have hk0 : (0:Int) ≤ (k:Int) := by omega
      have hk1 : (k:Int) < (xs.length:Int) := by omega
      go_wp2
      go_region_held3 (fun w' => w'.cell? ⟨b, o + k * 3, none⟩ = some (iv xs[k].k) ∧ w'.cell? ⟨b, o + k * 3 + 1, none⟩ = some (iv xs[k].n) ∧ w'.cell? ⟨b, o + k * 3 + 2, none⟩ = some (iv xs[k].a) ∧ w'.cell? ⟨b', o' + k * 3, none⟩ = some (iv xs[k].k) ∧ w'.cell? ⟨b', o' + k * 3 + 1, none⟩ = some (iv xs[k].n) ∧ w'.cell? ⟨b', o' + k * 3 + 2, none⟩ = some (iv xs[k].a)) (first | (simp [*]; done) | go_keep)
        (first | (go_at_call 58; refine (eqWord_same xs[k] _).mono ?_; rintro e w1 ⟨rfl, hq1⟩; have hc1 := (bcell hq1).1; simp only [World.size_drew] at hc1))
      go_wp2
      go_roundw
      case rel => exact ⟨k + 1, by omega, by go_num, hbl.trans (Ext.trans (Ext.drew (Ext.refl _)) hq1)⟩
      case measure => simp [intOf]; omega
    · go_wp2
      go_ret
      exact ⟨rfl, hbl⟩

theorem eqPair_same (x : Pr) (w : World) : Calls Tryz.prog 148 #[x.v, x.v] w fun e w' => e = .returned (.bool true) ∧ Ext w w' := by
  go_enter Tryz.func148, Tryz.ntmps148
  go_wp2_with fail
  refine (eqWord_same x.key _).mono ?_
  rintro e w1 ⟨rfl, hq1⟩
  have hc1 := (bcell hq1).1
  go_wp2_with fail
  refine (eqWord_same x.val _).mono ?_
  rintro e w2 ⟨rfl, hq2⟩
  go_wp2_with fail
  go_ret
  exact ⟨rfl, Ext.trans (Ext.trans (((Ext.refl w).alloc _).alloc _) hq1) hq2⟩

set_option maxHeartbeats 1000000 in
theorem eqPairS_same (xs : List Pr) (v v' : Value) (w : World) (h : SlP w v xs) (h' : SlP w v' xs) :
    Calls Tryz.prog 109 #[v, v'] w fun e w' => e = .returned (.bool true) ∧ Ext w w' := by
  obtain ⟨ad, cap, rfl, hl, hx⟩ := h
  obtain ⟨ad', cap', rfl, _, hx'⟩ := h'
  go_enter Tryz.func109, Tryz.ntmps109
  go_wp2
  go_loopw [5] (fun i wr => ∃ k : Nat, k ≤ xs.length ∧ i = .int .i64 k ∧ Ext w wr) (fun i _ => xs.length - (intOf i).toNat)
  case atStart => exact ⟨0, Nat.zero_le _, rfl, Ext.refl _⟩
  case round =>
    obtain ⟨k, hk, rfl, hbl⟩ := hrel
    by_cases hlt : k < xs.length
    · obtain ⟨b, o, rfl, p0, p1, p2, p3, p4, p5⟩ := hx k hlt
      obtain ⟨b', o', rfl, q0, q1, q2, q3, q4, q5⟩ := hx' k hlt
      have e0 := hbl.keep p0
      have e1 := hbl.keep p1
      have e2 := hbl.keep p2
      have e3 := hbl.keep p3
      have e4 := hbl.keep p4
      have e5 := hbl.keep p5
      have f0 := hbl.keep q0
      have f1 := hbl.keep q1
      have f2 := hbl.keep q2
      have f3 := hbl.keep q3
      have f4 := hbl.keep q4
      have f5 := hbl.keep q5
      have hbr : b < wr.heap.size := cell_lt e0
      have hbr' : b' < wr.heap.size := cell_lt f0
      clear p0 p1 p2 p3 p4 p5 q0 q1 q2 q3 q4 q5
      have hk0 : (0:Int) ≤ (k:Int) := by omega
      have hk1 : (k:Int) < (xs.length:Int) := by omega
      go_wp2
      go_region_held3 (fun w' => w'.cell? ⟨b, o + k * 6, none⟩ = some (iv xs[k].key.k) ∧ w'.cell? ⟨b, o + k * 6 + 1, none⟩ = some (iv xs[k].key.n) ∧ w'.cell? ⟨b, o + k * 6 + 2, none⟩ = some (iv xs[k].key.a) ∧ w'.cell? ⟨b, o + k * 6 + 3, none⟩ = some (iv xs[k].val.k) ∧ w'.cell? ⟨b, o + k * 6 + 4, none⟩ = some (iv xs[k].val.n) ∧ w'.cell? ⟨b, o + k * 6 + 5, none⟩ = some (iv xs[k].val.a) ∧ w'.cell? ⟨b', o' + k * 6, none⟩ = some (iv xs[k].key.k) ∧ w'.cell? ⟨b', o' + k * 6 + 1, none⟩ = some (iv xs[k].key.n) ∧ w'.cell? ⟨b', o' + k * 6 + 2, none⟩ = some (iv xs[k].key.a) ∧ w'.cell? ⟨b', o' + k * 6 + 3, none⟩ = some (iv xs[k].val.k) ∧ w'.cell? ⟨b', o' + k * 6 + 4, none⟩ = some (iv xs[k].val.n) ∧ w'.cell? ⟨b', o' + k * 6 + 5, none⟩ = some (iv xs[k].val.a)) (first | (simp [*]; done) | go_keep)
        (first | (go_at_call 148; refine (eqPair_same xs[k] _).mono ?_; rintro e w1 ⟨rfl, hq1⟩; have hc1 := (bcell hq1).1; simp only [World.size_drew] at hc1))
      go_wp2
      go_roundw
      case rel => exact ⟨k + 1, by omega, by go_num, hbl.trans (Ext.trans (Ext.drew (Ext.refl _)) hq1)⟩
      case measure => simp [intOf]; omega
    · go_wp2
      go_ret
      exact ⟨rfl, hbl⟩

theorem eqCell_same (x : Cl) (vp vp2 : Value) (w : World) (h : SlP w vp x.prs) (h' : SlP w vp2 x.prs) : Calls Tryz.prog 59 #[x.v vp, x.v vp2] w fun e w' => e = .returned (.bool true) ∧ Ext w w' := by
  go_enter Tryz.func59, Tryz.ntmps59
  go_wp2_with fail
  refine (eqPairS_same x.prs _ _ _ (SlP.ext (((Ext.refl w).alloc _).alloc _) h) (SlP.ext (((Ext.refl w).alloc _).alloc _) h')).mono ?_
  rintro e w1 ⟨rfl, hq1⟩
  go_wp2_with fail
  go_ret
  exact ⟨rfl, Ext.trans (((Ext.refl w).alloc _).alloc _) hq1⟩

set_option maxHeartbeats 1000000 in
theorem eqCellS_same (xs : List Cl) (v v' : Value) (w : World) (h : SlC w v xs) (h' : SlC w v' xs) :
    Calls Tryz.prog 28 #[v, v'] w fun e w' => e = .returned (.bool true) ∧ Ext w w' := by
  obtain ⟨ad, cap, rfl, hl, hx⟩ := h
  obtain ⟨ad', cap', rfl, _, hx'⟩ := h'
  go_enter Tryz.func28, Tryz.ntmps28
  go_wp2
  go_loopw [5] (fun i wr => ∃ k : Nat, k ≤ xs.length ∧ i = .int .i64 k ∧ Ext w wr) (fun i _ => xs.length - (intOf i).toNat)
  case atStart => exact ⟨0, Nat.zero_le _, rfl, Ext.refl _⟩
  case round =>
    obtain ⟨k, hk, rfl, hbl⟩ := hrel
    by_cases hlt : k < xs.length
    · obtain ⟨b, o, rfl, vp, p0, p1, p2, p3, p4, p5, p6, p7, hP⟩ := hx k hlt
      obtain ⟨b', o', rfl, vp2, q0, q1, q2, q3, q4, q5, q6, q7, hP2⟩ := hx' k hlt
      have e0 := hbl.keep p0
      have e1 := hbl.keep p1
      have e2 := hbl.keep p2
      have e3 := hbl.keep p3
      have e4 := hbl.keep p4
      have e5 := hbl.keep p5
      have e6 := hbl.keep p6
      have e7 := hbl.keep p7
      have f0 := hbl.keep q0
      have f1 := hbl.keep q1
      have f2 := hbl.keep q2
      have f3 := hbl.keep q3
      have f4 := hbl.keep q4
      have f5 := hbl.keep q5
      have f6 := hbl.keep q6
      have f7 := hbl.keep q7
      have hP := SlP.ext hbl hP
      have hP2 := SlP.ext hbl hP2
      have hbr : b < wr.heap.size := cell_lt e0
      have hbr' : b' < wr.heap.size := cell_lt f0
      clear p0 p1 p2 p3 p4 p5 p6 p7 q0 q1 q2 q3 q4 q5 q6 q7
      have hk0 : (0:Int) ≤ (k:Int) := by omega
      have hk1 : (k:Int) < (xs.length:Int) := by omega
      go_wp2
      go_region_held3 (fun w' => w'.cell? ⟨b, o + k * 8, none⟩ = some (iv xs[k].st) ∧ w'.cell? ⟨b, o + k * 8 + 1, none⟩ = some (iv xs[k].kind) ∧ w'.cell? ⟨b, o + k * 8 + 2, none⟩ = some (iv xs[k].weak) ∧ w'.cell? ⟨b, o + k * 8 + 3, none⟩ = some (iv xs[k].last) ∧ w'.cell? ⟨b, o + k * 8 + 4, none⟩ = some (iv xs[k].born) ∧ w'.cell? ⟨b, o + k * 8 + 5, none⟩ = some (iv xs[k].color) ∧ w'.cell? ⟨b, o + k * 8 + 6, none⟩ = some (iv xs[k].to) ∧ w'.cell? ⟨b, o + k * 8 + 7, none⟩ = some (vp) ∧ w'.cell? ⟨b', o' + k * 8, none⟩ = some (iv xs[k].st) ∧ w'.cell? ⟨b', o' + k * 8 + 1, none⟩ = some (iv xs[k].kind) ∧ w'.cell? ⟨b', o' + k * 8 + 2, none⟩ = some (iv xs[k].weak) ∧ w'.cell? ⟨b', o' + k * 8 + 3, none⟩ = some (iv xs[k].last) ∧ w'.cell? ⟨b', o' + k * 8 + 4, none⟩ = some (iv xs[k].born) ∧ w'.cell? ⟨b', o' + k * 8 + 5, none⟩ = some (iv xs[k].color) ∧ w'.cell? ⟨b', o' + k * 8 + 6, none⟩ = some (iv xs[k].to) ∧ w'.cell? ⟨b', o' + k * 8 + 7, none⟩ = some (vp2)) (first | (simp [*]; done) | go_keep)
        (first | (go_at_call 59; refine (eqCell_same xs[k] vp vp2 _ (by exact SlP.ext (Ext.drew (Ext.refl _)) hP) (by exact SlP.ext (Ext.drew (Ext.refl _)) hP2)).mono ?_; rintro e w1 ⟨rfl, hq1⟩; have hc1 := (bcell hq1).1; simp only [World.size_drew] at hc1))
      go_wp2
      go_roundw
      case rel => exact ⟨k + 1, by omega, by go_num, hbl.trans (Ext.trans (Ext.drew (Ext.refl _)) hq1)⟩
      case measure => simp [intOf]; omega
    · go_wp2
      go_ret
      exact ⟨rfl, hbl⟩

theorem eqIntS_same (xs : List Int) (v v' : Value) (w : World) (h : SlI w v xs) (h' : SlI w v' xs) :
    Calls Tryz.prog 29 #[v, v'] w fun e w' => e = .returned (.bool true) ∧ Ext w w' := by
  obtain ⟨ad, cap, rfl, hl, hx⟩ := h
  obtain ⟨ad', cap', rfl, _, hx'⟩ := h'
  go_enter Tryz.func29, Tryz.ntmps29
  go_wp2
  go_loopw [5] (fun i wr => ∃ k : Nat, k ≤ xs.length ∧ i = .int .i64 k ∧ Ext w wr) (fun i _ => xs.length - (intOf i).toNat)
  case atStart => exact ⟨0, Nat.zero_le _, rfl, Ext.refl _⟩
  case round =>
    obtain ⟨k, hk, rfl, hbl⟩ := hrel
    by_cases hlt : k < xs.length
    · obtain ⟨b, o, rfl, p0⟩ := hx k hlt
      obtain ⟨b', o', rfl, q0⟩ := hx' k hlt
      have e0 := hbl.keep p0
      have f0 := hbl.keep q0
      simp only [Nat.mul_one] at e0 f0
      clear p0 q0
      have hk0 : (0:Int) ≤ (k:Int) := by omega
      have hk1 : (k:Int) < (xs.length:Int) := by omega
      go_wp2
      go_region_held3 (fun w' => w'.cell? ⟨b, o + k, none⟩ = some (iv xs[k]) ∧ w'.cell? ⟨b', o' + k, none⟩ = some (iv xs[k])) (go_keep) (fail)
      go_wp2
      go_roundw
      case rel => exact ⟨k + 1, by omega, by go_num, Ext.drew hbl⟩
      case measure => simp [intOf]; omega
    · go_wp2
      go_ret
      exact ⟨rfl, hbl⟩

set_option maxRecDepth 100000 in
set_option maxHeartbeats 1000000 in
theorem eqHeap_same (x : Hp) (vr vc vg vr2 vc2 vg2 : Value) (w : World) (h1 : SlW w vr x.regs) (h2 : SlW w vr2 x.regs) (h3 : SlC w vc x.cells) (h4 : SlC w vc2 x.cells) (h5 : SlI w vg x.gray) (h6 : SlI w vg2 x.gray) :
    Calls Tryz.prog 10 #[x.v vr vc vg, x.v vr2 vc2 vg2] w fun e w' => e = .returned (.bool true) ∧ Ext w w' := by
  go_enter Tryz.func10, Tryz.ntmps10
  go_wp2_with fail
  refine (eqWordS_same x.regs _ _ _ (SlW.ext (((Ext.refl w).alloc _).alloc _) h1) (SlW.ext (((Ext.refl w).alloc _).alloc _) h2)).mono ?_
  rintro e w1 ⟨rfl, hq1⟩
  have hc1 := (bcell hq1).1
  have x1 : Ext w w1 := Ext.trans (((Ext.refl w).alloc _).alloc _) hq1
  go_wp2_with fail
  refine (eqCellS_same x.cells _ _ _ (SlC.ext x1 h3) (SlC.ext x1 h4)).mono ?_
  rintro e w2 ⟨rfl, hq2⟩
  have hc2 := (bcell (Ext.trans hq1 hq2)).1
  have x2 := Ext.trans x1 hq2
  clear hc1
  go_wp2_with fail
  refine (eqIntS_same x.gray _ _ _ (SlI.ext x2 h5) (SlI.ext x2 h6)).mono ?_
  rintro e w3 ⟨rfl, hq3⟩
  have hc3 := (bcell (Ext.trans (Ext.trans hq1 hq2) hq3)).1
  have x3 := Ext.trans x2 hq3
  clear hc2
  go_wp2_with fail
  go_ret
  exact ⟨rfl, x3⟩

end Go.Proofs.YtbcmjcomdjdjaaaGreat
