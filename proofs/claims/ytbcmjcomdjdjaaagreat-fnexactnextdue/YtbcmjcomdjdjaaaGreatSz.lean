import Derived.Test.YtbcmjcomdjdjaaaGreatBase
namespace Go.Proofs.YtbcmjcomdjdjaaaGreat
open Go.RowKit
attribute [local go_sem ↓] Go.wp_at_zero Go.wp_at_succ

/-! The laws' own measure of an argument: left less what it holds, or below 0. -/

theorem szWordS_any (ad : Option Addr) (n cap : Nat) (l : Int) (w : World) (hn : n ≤ 35184372088832) (h0 : 0 ≤ l) (h1 : l ≤ 1048576) :
    Calls Tryz.prog 16 #[.slice ad n cap, .int .i64 l] w fun e w' => ∃ r : Int, e = .returned (.int .i64 r) ∧ ((0 ≤ r ∧ r = l - n) ∨ r = -1) ∧ w' = w := by
  by_cases h : l - (n : Int) < 0
  · go_enter Tryz.func16, Tryz.ntmps16
    go_wp2
    go_ret
    exact ⟨-1, rfl, Or.inr rfl, rfl⟩
  · go_enter Tryz.func16, Tryz.ntmps16
    go_wp2
    go_ret
    exact ⟨_, rfl, Or.inl ⟨by omega, rfl⟩, rfl⟩

theorem szPairS_any (ad : Option Addr) (n cap : Nat) (l : Int) (w : World) (hn : n ≤ 35184372088832) (h0 : 0 ≤ l) (h1 : l ≤ 1048576) :
    Calls Tryz.prog 84 #[.slice ad n cap, .int .i64 l] w fun e w' => ∃ r : Int, e = .returned (.int .i64 r) ∧ ((0 ≤ r ∧ r = l - n) ∨ r = -1) ∧ w' = w := by
  by_cases h : l - (n : Int) < 0
  · go_enter Tryz.func84, Tryz.ntmps84
    go_wp2
    go_ret
    exact ⟨-1, rfl, Or.inr rfl, rfl⟩
  · go_enter Tryz.func84, Tryz.ntmps84
    go_wp2
    go_ret
    exact ⟨_, rfl, Or.inl ⟨by omega, rfl⟩, rfl⟩

theorem szIntS_any (ad : Option Addr) (n cap : Nat) (l : Int) (w : World) (hn : n ≤ 35184372088832) (h0 : 0 ≤ l) (h1 : l ≤ 1048576) :
    Calls Tryz.prog 18 #[.slice ad n cap, .int .i64 l] w fun e w' => ∃ r : Int, e = .returned (.int .i64 r) ∧ ((0 ≤ r ∧ r = l - n) ∨ r = -1) ∧ w' = w := by
  by_cases h : l - (n : Int) < 0
  · go_enter Tryz.func18, Tryz.ntmps18
    go_wp2
    go_ret
    exact ⟨-1, rfl, Or.inr rfl, rfl⟩
  · go_enter Tryz.func18, Tryz.ntmps18
    go_wp2
    go_ret
    exact ⟨_, rfl, Or.inl ⟨by omega, rfl⟩, rfl⟩

def prsum (cs : List Cl) : Nat := (cs.map fun c => c.prs.length).sum
theorem prsum_take (cs : List Cl) (k : Nat) (h : k < cs.length) : prsum (cs.take (k + 1)) = prsum (cs.take k) + cs[k].prs.length := by
  unfold prsum
  rw [List.take_succ_eq_append_getElem h]
  simp only [List.map_append, List.sum_append, List.map_cons, List.map_nil, List.sum_cons, List.sum_nil, Nat.add_zero]
theorem prs_le (cs : List Cl) (k : Nat) (h : k < cs.length) : cs[k].prs.length ≤ prsum cs := by
  induction cs generalizing k with
  | nil => simp at h
  | cons c cs ih =>
    cases k with
    | zero => simp [prsum]
    | succ k =>
      have := ih k (by simpa using h)
      simp only [prsum, List.map_cons, List.sum_cons, List.getElem_cons_succ] at *
      omega

theorem szCell_any (x : Cl) (vp : Value) (l : Int) (w : World) (hP : SlP w vp x.prs) (h0 : 0 ≤ l) (h1 : l ≤ 1048576) :
    Calls Tryz.prog 36 #[x.v vp, .int .i64 l] w fun e w' => ∃ r : Int, e = .returned (.int .i64 r) ∧ ((0 ≤ r ∧ r = l - x.prs.length) ∨ r = -1) ∧ Ext w w' := by
  obtain ⟨ad, cap, rfl, hl, hx⟩ := hP
  go_enter Tryz.func36, Tryz.ntmps36
  go_wp2_with fail
  refine (szPairS_any _ _ _ _ _ hl h0 h1).mono ?_
  rintro e w1 ⟨r, rfl, hr, rfl⟩
  by_cases hlt : r < 0
  · go_wp2_with fail
    go_ret
    exact ⟨-1, rfl, Or.inr rfl, (Ext.refl w).alloc _⟩
  · have hr2 : 0 ≤ r ∧ r = l - x.prs.length := by omega
    have H := hide hr2
    clear hr hr2
    go_wp2_with fail
    go_ret
    exact ⟨r, rfl, Or.inl (unhide H), (Ext.refl w).alloc _⟩

set_option maxHeartbeats 1000000 in
theorem szCellS_any (xs : List Cl) (v : Value) (l : Int) (w : World) (h : SlC w v xs) (h0 : 0 ≤ l) (h1 : l ≤ 1048576) :
    Calls Tryz.prog 17 #[v, .int .i64 l] w fun e w' => ∃ r : Int, e = .returned (.int .i64 r) ∧ ((0 ≤ r ∧ r = l - xs.length - prsum xs) ∨ r = -1) ∧ Ext w w' := by
  obtain ⟨ad, cap, rfl, hl, hx⟩ := h
  by_cases hs : l - (xs.length : Int) < 0
  · go_enter Tryz.func17, Tryz.ntmps17
    go_wp2_with fail
    go_ret
    exact ⟨-1, rfl, Or.inr rfl, Ext.refl _⟩
  · go_enter Tryz.func17, Tryz.ntmps17
    go_wp2_with fail
    go_loopw [1, 5] (fun lv i wr => ∃ (k : Nat) (r : Int), k ≤ xs.length ∧ i = .int .i64 k ∧ lv = .int .i64 r ∧ 0 ≤ r ∧ Hid (r = l - xs.length - prsum (xs.take k)) ∧ r ≤ 1048576 ∧ Ext w wr) (fun _ i _ => xs.length - (intOf i).toNat)
    case atStart => exact ⟨0, _, Nat.zero_le _, rfl, rfl, by omega, by show _ = _; simp [prsum], by omega, Ext.refl _⟩
    case round =>
      obtain ⟨k, r, hk, rfl, rfl, hr0, hr1, hr2, hbl⟩ := hrel
      by_cases hlt : k < xs.length
      · obtain ⟨b, o, rfl, vp, p0, p1, p2, p3, p4, p5, p6, p7, hP⟩ := hx k hlt
        have e0 := hbl.keep p0
        have e1 := hbl.keep p1
        have e2 := hbl.keep p2
        have e3 := hbl.keep p3
        have e4 := hbl.keep p4
        have e5 := hbl.keep p5
        have e6 := hbl.keep p6
        have e7 := hbl.keep p7
        have hP := SlP.ext hbl hP
        clear p0 p1 p2 p3 p4 p5 p6 p7
        have hk0 : (0:Int) ≤ (k:Int) := by omega
        have hk1 : (k:Int) < (xs.length:Int) := by omega
        go_wp2_with fail
        refine (szCell_any xs[k] vp r _ hP hr0 hr2).mono ?_
        rintro e w1 ⟨r', rfl, hq, hq1⟩
        by_cases hneg : r' < 0
        · go_wp2_with fail
          go_ret
          exact ⟨-1, rfl, Or.inr rfl, hbl.trans hq1⟩
        · have hq2 : 0 ≤ r' ∧ r' = r - xs[k].prs.length := by omega
          have H : Hid (r' = l - xs.length - prsum (xs.take (k + 1))) := by
            have := prsum_take xs k hlt
            have h' := unhide hr1
            show _ = _
            omega
          have hq3 : r' ≤ 1048576 := by omega
          have hq4 := hq2.1
          clear hq hq2
          go_wp2_with fail
          go_roundw
          case rel => exact ⟨k + 1, r', by omega, by go_num, rfl, hq4, H, hq3, hbl.trans hq1⟩
          case measure => simp [intOf]; omega
      · have hk2 : k = xs.length := by omega
        have H : r = l - xs.length - prsum xs := by have h' := unhide hr1; rw [hk2, List.take_length] at h'; exact h'
        have H := hide H
        clear hk2
        go_wp2_with fail
        go_ret
        exact ⟨r, rfl, Or.inl ⟨hr0, unhide H⟩, hbl⟩

set_option maxRecDepth 100000 in
set_option maxHeartbeats 1000000 in
theorem szHeap_any (x : Hp) (vr vc vg : Value) (l : Int) (w : World) (hR : SlW w vr x.regs) (hC : SlC w vc x.cells) (hG : SlI w vg x.gray) (h0 : 0 ≤ l) (h1 : l ≤ 1048576) :
    Calls Tryz.prog 6 #[x.v vr vc vg, .int .i64 l] w fun e w' => ∃ r : Int, e = .returned (.int .i64 r) ∧ ((0 ≤ r ∧ r = l - x.regs.length - x.cells.length - prsum x.cells - x.gray.length) ∨ r = -1) ∧ Ext w w' := by
  obtain ⟨adr, capr, rfl, hlr, hxr⟩ := hR
  obtain ⟨adg, capg, rfl, hlg, hxg⟩ := hG
  have HX := hide hxr
  have HG := hide hxg
  clear hxr hxg
  go_enter Tryz.func6, Tryz.ntmps6
  go_wp2_with fail
  refine (szWordS_any _ _ _ _ _ hlr h0 h1).mono ?_
  rintro e w1 ⟨r, rfl, hr, rfl⟩
  by_cases hlt : r < 0
  · go_wp2_with fail
    go_ret
    exact ⟨-1, rfl, Or.inr rfl, (Ext.refl w).alloc _⟩
  · have hr2 : 0 ≤ r ∧ r = l - x.regs.length := by omega
    have hr3 : r ≤ 1048576 := by omega
    have hr4 := hr2.1
    have H := hide hr2.2
    clear hr hr2
    go_wp2_with fail
    refine (szCellS_any x.cells vc r _ (SlC.ext ((Ext.refl w).alloc _) hC) hr4 hr3).mono ?_
    rintro e w2 ⟨r', rfl, hs, x2⟩
    have hc2 := (bcell x2).1
    by_cases hlt2 : r' < 0
    · go_wp2_with fail
      go_ret
      exact ⟨-1, rfl, Or.inr rfl, Ext.trans ((Ext.refl w).alloc _) x2⟩
    · have hs2 : 0 ≤ r' ∧ r' = r - x.cells.length - prsum x.cells := by omega
      have hs3 : r' ≤ 1048576 := by omega
      have hs4 := hs2.1
      have H2 := hide hs2.2
      clear hs hs2
      go_wp2_with fail
      refine (szIntS_any _ _ _ _ _ hlg hs4 hs3).mono ?_
      rintro e w3 ⟨r'', rfl, ht, rfl⟩
      by_cases hlt3 : r'' < 0
      · go_wp2_with fail
        go_ret
        exact ⟨-1, rfl, Or.inr rfl, Ext.trans ((Ext.refl w).alloc _) x2⟩
      · have ht2 : 0 ≤ r'' ∧ r'' = l - x.regs.length - x.cells.length - prsum x.cells - x.gray.length := by
          have e1 := unhide H
          have e2 := unhide H2
          omega
        have H3 := hide ht2
        clear ht ht2
        go_wp2_with fail
        go_ret
        exact ⟨r'', rfl, Or.inl (unhide H3), Ext.trans ((Ext.refl w).alloc _) x2⟩
end Go.Proofs.YtbcmjcomdjdjaaaGreat
