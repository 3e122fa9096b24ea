import Derived.Test.YtbcmjcomdjdjaaaGreatImpA
namespace Go.Proofs.YtbcmjcomdjdjaaaGreat
open Go.RowKit
attribute [local go_sem ↓] Go.wp_at_zero Go.wp_at_succ

/-! The program's small questions of a node and of its view. -/
def whiteN (c : Cl) : Bool := (c.st == 1) && (c.color == 0)
def speaksN (c : Cl) : Bool := (c.last == 1) || (c.last == 2)
theorem speaksN_iff {c : Cl} : speaksN c = true ↔ Speaks c := by simp [speaksN, Speaks]

theorem white_any (c : Cl) (bn q bc r : Nat) (ap : Option Addr) (kp : Nat) (w : World) (m1 : w.cell? ⟨bn, q + 1, none⟩ = some (.pointer (some ⟨bc, r, none⟩))) (h : CAt w bc r c ap kp) :
    Calls Tryz.prog 142 #[.pointer (some ⟨bn, q, none⟩)] w fun e w' => e = .returned (.bool (whiteN c)) ∧ w' = w := by
  have p0 := h.p0
  have p5 := h.p5
  clear h
  cases t : (c.st == 1)
  all_goals
    go_enter Tryz.func142, Tryz.ntmps142
    go_wp2
    go_ret
    exact ⟨by simp [whiteN, t], rfl⟩

theorem speaks_any (c : Cl) (bn q bc r : Nat) (ap : Option Addr) (kp : Nat) (w : World) (m1 : w.cell? ⟨bn, q + 1, none⟩ = some (.pointer (some ⟨bc, r, none⟩))) (h : CAt w bc r c ap kp) :
    Calls Tryz.prog 104 #[.pointer (some ⟨bn, q, none⟩)] w fun e w' => e = .returned (.bool (speaksN c)) ∧ w' = w := by
  have p3 := h.p3
  clear h
  cases t : (c.last == 1)
  all_goals
    go_enter Tryz.func104, Tryz.ntmps104
    go_wp2
    go_ret
    exact ⟨by simp [speaksN, t], rfl⟩

def markingB (x : Hp) : Bool := (x.phase == 1) || (x.phase == 2)
theorem marking_any (x : Hp) (b : Nat) (w : World) (c5 : w.cell? ⟨b, 5, none⟩ = some (iv x.phase)) :
    Calls Tryz.prog 138 #[.pointer (some ⟨b, 0, none⟩)] w fun e w' => e = .returned (.bool (markingB x)) ∧ w' = w := by
  cases t : (x.phase == 1)
  all_goals
    go_enter Tryz.func138, Tryz.ntmps138
    go_wp2
    go_ret
    exact ⟨by simp [markingB, t], rfl⟩

theorem white_is (c : Cl) (bn q bc r : Nat) (ap : Option Addr) (kp : Nat) (s : Bool) (hs : whiteN c = s) (w : World) (m1 : w.cell? ⟨bn, q + 1, none⟩ = some (.pointer (some ⟨bc, r, none⟩))) (h : CAt w bc r c ap kp) :
    Calls Tryz.prog 142 #[.pointer (some ⟨bn, q, none⟩)] w fun e w' => e = .returned (.bool s) ∧ w' = w := by
  rw [← hs]; exact white_any c bn q bc r ap kp w m1 h

/-- doomed answers as the model's l1doomed -/
theorem doomed_any (x : Hp) (b i : Nat) (w : World) {ar : Option Addr} {kr : Nat} {ac : Option Addr} {kc : Nat} {ag : Option Addr} {kg : Nat} {an : Option Addr} {kn : Nat} (h : VAt w b x ar kr ac kc ag kg an kn) (hi : i < x.cells.length) (bn on : Nat) (ha : an = some ⟨bn, on, none⟩) :
    Calls Tryz.prog 134 #[.pointer (some ⟨b, 0, none⟩), .pointer (some ⟨bn, on + i * 2, none⟩)] w fun e w' => e = .returned (.bool (doomedB x i)) ∧ Ext w w' := by
  obtain ⟨bn', on', bc, oc, e1, rfl, m0, m1⟩ := h.N i hi
  rw [ha] at e1
  cases e1
  obtain ⟨bc', oc', ap, kp, e2, C⟩ := h.H.cell i hi
  cases e2
  have c5 := h.H.c5
  have c6 := h.H.c6
  have HW := hide (fun n s (hs : whiteN (x.c i) = s) => white_is (x.c i) bn (on + i * 2) bc (oc + i * 8) ap kp s hs (w.drewN n) (((Ext.refl w).drewN n).keep m1) (C.ext ((Ext.refl w).drewN n)))
  clear h C
  cases t1 : (x.phase == 3)
  · go_enter Tryz.func134, Tryz.ntmps134
    go_wp2_with fail
    go_quiet (fail)
    go_wp2_with fail
    go_ret
    exact ⟨by simp [doomedB, t1], (Ext.refl w).drewN _⟩
  · cases t2 : whiteN (x.c i)
    · go_enter Tryz.func134, Tryz.ntmps134
      go_wp2_with fail
      go_quiet ((go_at_call 142; exact Calls.quiet_of_same (unhide HW _ _ t2)))
      go_wp2_with fail
      go_ret
      exact ⟨by unfold whiteN at t2; unfold doomedB; cases q : ((x.c i).st == 1) <;> simp_all, (Ext.refl w).drewN _⟩
    · go_enter Tryz.func134, Tryz.ntmps134
      go_wp2_with fail
      go_quiet ((go_at_call 142; exact Calls.quiet_of_same (unhide HW _ _ t2)))
      go_wp2_with fail
      go_ret
      exact ⟨by unfold whiteN at t2; unfold doomedB; simp_all, (Ext.refl w).drewN _⟩
end Go.Proofs.YtbcmjcomdjdjaaaGreat

namespace Go.Proofs.YtbcmjcomdjdjaaaGreat
open Go.RowKit
attribute [local go_sem ↓] Go.wp_at_zero Go.wp_at_succ

/-- rootSeen of the node at place i -/
theorem rootSeen_any (x : Hp) (b bn q i : Nat) (w : World) (c5 : w.cell? ⟨b, 5, none⟩ = some (iv x.phase)) (c6 : w.cell? ⟨b, 6, none⟩ = some (iv x.hand)) (m0 : w.cell? ⟨bn, q, none⟩ = some (iv i)) :
    Calls Tryz.prog 143 #[.pointer (some ⟨b, 0, none⟩), .pointer (some ⟨bn, q, none⟩)] w fun e w' => e = .returned (.bool ((x.phase == 2) || decide ((i : Int) < x.hand))) ∧ Ext w w' := by
  cases t1 : (x.phase == 2)
  all_goals
    go_enter Tryz.func143, Tryz.ntmps143
    go_wp2_with fail
    go_quiet (fail)
    go_wp2_with fail
    go_ret
    exact ⟨by simp, (Ext.refl w).drewN _⟩

set_option maxHeartbeats 600000 in
theorem mended_any (x : Hp) (b bn q i k : Nat) (w : World) (c5 : w.cell? ⟨b, 5, none⟩ = some (iv x.phase)) (c6 : w.cell? ⟨b, 6, none⟩ = some (iv x.hand)) (c7 : w.cell? ⟨b, 7, none⟩ = some (iv x.sub)) (m0 : w.cell? ⟨bn, q, none⟩ = some (iv i)) :
    Calls Tryz.prog 162 #[.pointer (some ⟨b, 0, none⟩), .pointer (some ⟨bn, q, none⟩), .int .i64 k] w fun e w' => e = .returned (.bool (mendedB x i k)) ∧ Ext w w' := by
  cases h4 : (x.phase == 4)
  · cases h5 : (x.phase == 5)
    · have E := hide (show mendedB x i k = true by simp at h4 h5; simp [mendedB, h4, h5])
      go_enter Tryz.func162, Tryz.ntmps162
      go_wp2_with fail
      go_ret
      exact ⟨by rw [unhide E]; rfl, Ext.refl w⟩
    · have E := hide (show mendedB x i k = (decide ((i : Int) < x.hand) || ((i : Int) == x.hand && decide ((k : Int) < x.sub))) by simp at h5; simp [mendedB, h5])
      cases q1 : decide ((i : Int) < x.hand)
      · cases q2 : ((i : Int) == x.hand)
        · go_enter Tryz.func162, Tryz.ntmps162
          go_wp2_with fail
          go_quiet (fail)
          go_wp2_with fail
          go_ret
          exact ⟨by rw [unhide E, q1, q2]; simp, (Ext.refl w).drewN _⟩
        · go_enter Tryz.func162, Tryz.ntmps162
          go_wp2_with fail
          go_quiet (fail)
          go_wp2_with fail
          go_ret
          exact ⟨by rw [unhide E, q1, q2]; simp, (Ext.refl w).drewN _⟩
      · go_enter Tryz.func162, Tryz.ntmps162
        go_wp2_with fail
        go_quiet (fail)
        go_wp2_with fail
        go_ret
        exact ⟨by rw [unhide E, q1]; simp, (Ext.refl w).drewN _⟩
  · have E := hide (show mendedB x i k = false by simp at h4; simp [mendedB, h4])
    go_enter Tryz.func162, Tryz.ntmps162
    go_wp2_with fail
    go_ret
    exact ⟨by rw [unhide E]; rfl, Ext.refl w⟩
end Go.Proofs.YtbcmjcomdjdjaaaGreat

namespace Go.Proofs.YtbcmjcomdjdjaaaGreat
open Go.RowKit
attribute [local go_sem ↓] Go.wp_at_zero Go.wp_at_succ

theorem withinB_true {n lo hi : Int} (h : withinB n lo hi = true) : lo ≤ n ∧ n ≤ hi := by simpa [withinB] using h
theorem withinB_false {n lo hi : Int} (h : withinB n lo hi = false) : ¬ (lo ≤ n ∧ n ≤ hi) := by unfold withinB at h; exact of_decide_eq_false h
theorem within_is (n lo hi : Int) (r : Bool) (h : withinB n lo hi = r) (w : World) : Calls Tryz.prog 83 #[.int .i64 n, .int .i64 lo, .int .i64 hi] w fun e w' => e = .returned (.bool r) ∧ w' = w := by
  rw [← h]; exact within_any n lo hi w

set_option maxHeartbeats 600000 in
theorem formed_any (y : Wd) (b n : Nat) (an : Option Addr) (kn : Nat) (w : World) (c13 : w.cell? ⟨b, 13, none⟩ = some (.slice an n kn)) (hn : n ≤ 35184372088832) :
    Calls Tryz.prog 161 #[.pointer (some ⟨b, 0, none⟩), y.v] w fun e w' => e = .returned (.bool (formedB y n)) ∧ Ext w w' := by
  have hb : b < w.heap.size := cell_lt c13
  cases k0 : (y.k == 0)
  · cases k1 : (y.k == 1)
    · cases k2 : (y.k == 2)
      · have E := hide (show formedB y n = false by simp at k0 k1 k2; simp [formedB, k0, k1, k2])
        go_enter Tryz.func161, Tryz.ntmps161
        go_wp2_with fail
        go_ret
        exact ⟨by rw [unhide E]; rfl, (Ext.refl w).alloc _⟩
      · cases q : (y.n == 0)
        · have E := hide (show formedB y n = false by simp at k2; simp [formedB, k2, q])
          go_enter Tryz.func161, Tryz.ntmps161
          go_wp2_with fail
          go_quiet (fail)
          go_wp2_with fail
          go_ret
          exact ⟨by rw [unhide E]; rfl, ((Ext.refl w).alloc _).drewN _⟩
        · cases t : withinB y.a 0 ((n : Int) - 1)
          · have E := hide (show formedB y n = false by
              have := withinB_false t
              simp at k2 q
              simp [formedB, k2, q]
              omega)
            go_enter Tryz.func161, Tryz.ntmps161
            go_wp2_with fail
            go_quiet ((go_at_call 83; refine Calls.quiet_of_same (within_is _ _ _ false ?_ _); assumption))
            go_wp2_with fail
            go_ret
            exact ⟨by rw [unhide E]; rfl, ((Ext.refl w).alloc _).drewN _⟩
          · have E := hide (show formedB y n = true by
              have := withinB_true t
              simp at k2 q
              simp [formedB, k2, q]
              omega)
            go_enter Tryz.func161, Tryz.ntmps161
            go_wp2_with fail
            go_quiet ((go_at_call 83; refine Calls.quiet_of_same (within_is _ _ _ true ?_ _); assumption))
            go_wp2_with fail
            go_ret
            exact ⟨by rw [unhide E]; rfl, ((Ext.refl w).alloc _).drewN _⟩
    · have E := hide (show formedB y n = (y.a == 0) by simp at k1; simp [formedB, k1])
      go_enter Tryz.func161, Tryz.ntmps161
      go_wp2_with fail
      go_ret
      exact ⟨by rw [unhide E]; simp, (Ext.refl w).alloc _⟩
  · have E := hide (show formedB y n = (y.n == 0 && y.a == 0) by simp at k0; simp [formedB, k0])
    cases q : (y.n == 0)
    all_goals
      go_enter Tryz.func161, Tryz.ntmps161
      go_wp2_with fail
      go_ret
      exact ⟨by rw [unhide E]; simp [q], (Ext.refl w).alloc _⟩

theorem find_none (y : Wd) (b : Nat) (w : World) (k2 : (y.k == 2) = false) :
    Calls Tryz.prog 108 #[.pointer (some ⟨b, 0, none⟩), y.v] w fun e w' => e = .returned (.pointer none) ∧ Ext w w' := by
  have k2b : (y.k != 2) = true := by simpa using k2
  go_enter Tryz.func108, Tryz.ntmps108
  go_wp2_with fail
  go_ret
  exact ⟨rfl, (Ext.refl w).alloc _⟩

theorem find_some (y : Wd) (b n bn on kn i : Nat) (w : World) (k2 : (y.k == 2) = true) (c13 : w.cell? ⟨b, 13, none⟩ = some (.slice (some ⟨bn, on, none⟩) n kn)) (hn : i < n) :
    Calls Tryz.prog 108 #[.pointer (some ⟨b, 0, none⟩), .agg #[iv y.k, iv y.n, iv i]] w fun e w' => e = .returned (.pointer (some ⟨bn, on + i * 2, none⟩)) ∧ Ext w w' := by
  have hb : b < w.heap.size := cell_lt c13
  have k2b : (y.k != 2) = false := by simpa using k2
  have hi0 : (0 : Int) ≤ (i : Int) := by omega
  have hi1 : (i : Int) < (n : Int) := by omega
  go_enter Tryz.func108, Tryz.ntmps108
  go_wp2_with fail
  go_quiet (fail)
  go_wp2_with fail
  go_ret
  exact ⟨rfl, ((Ext.refl w).alloc _).drewN _⟩
end Go.Proofs.YtbcmjcomdjdjaaaGreat
