import Derived.Test.YtbcmjcomdjdjaaaGreatRule
import Derived.Test.YtbcmjcomdjdjaaaGreatIn
import Derived.Deep.QuietTactic
import Derived.BigQuiet
namespace Go.Proofs.YtbcmjcomdjdjaaaGreat
open Go.RowKit
attribute [local go_sem ↓] Go.wp_at_zero Go.wp_at_succ

theorem Ext.drewN {a w : World} (h : Ext a w) (n : Nat) : Ext a (w.drewN n) := below_drewN h n
theorem l1in_is (n lo hi : Int) (r : Bool) (h : l1inB n lo hi = r) (w : World) : Calls Tryz.prog 33 #[.int .i64 n, .int .i64 lo, .int .i64 hi] w fun e w' => e = .returned (.bool r) ∧ w' = w := by
  rw [← h]; exact l1in_any n lo hi w
/-- a callee that leaves the world, met behind an elder draw -/
theorem quiet2 {P : Program} {f : FuncId} {args : Array Value} {w : World} {k n : Nat} {v : Value} (h : Calls P f args (w.drewN (k + n)) fun e w' => e = .returned v ∧ w' = w.drewN (k + n)) :
    Calls P f args (w.drewN (k + n)) fun e w'' => e = .returned v ∧ ∃ m, w'' = w.drewN (k + m) := h.mono fun _ _ ⟨he, hm⟩ => ⟨he, n, hm⟩
theorem l1inB_true {n lo hi : Int} (h : l1inB n lo hi = true) : lo ≤ n ∧ n ≤ hi := by simpa [l1inB] using h
theorem l1inB_false {n lo hi : Int} (h : l1inB n lo hi = false) : ¬ (lo ≤ n ∧ n ≤ hi) := by unfold l1inB at h; exact of_decide_eq_false h

/-! l1sizes: one way for each limit that is the first to be passed, and the way on which all are kept. -/

set_option maxRecDepth 100000 in
set_option maxHeartbeats 600000 in
theorem l1sizes_0 (x : Hp) (b : Nat) (w : World) {ar : Option Addr} {kr : Nat} {ac : Option Addr} {kc : Nat} {ag : Option Addr} {kg : Nat} (h : HAt w b x ar kr ac kc ag kg) (q0 : l1inB x.room 1 4000 = false) :
    Calls Tryz.prog 37 #[.pointer (some ⟨b, 0, none⟩)] w fun e w' => e = .returned (.bool false) ∧ Ext w w' := by
  obtain ⟨c0, c1, c2, c3, c4, c5, c6, c7, c8, c9, c10, c11, c12, lr, lc, lg, R, C, G⟩ := h
  clear R C G
  go_enter Tryz.func37, Tryz.ntmps37
  go_wp2_with fail
  go_quiet ((go_at_call 33; exact Calls.quiet_of_same (l1in_any _ _ _ _)))
  go_wp2_with fail
  go_ret
  exact ⟨rfl, by repeat (first | exact Ext.refl _ | refine Ext.drewN ?_ _)⟩

set_option maxRecDepth 100000 in
set_option maxHeartbeats 600000 in
theorem l1sizes_1 (x : Hp) (b : Nat) (w : World) {ar : Option Addr} {kr : Nat} {ac : Option Addr} {kc : Nat} {ag : Option Addr} {kg : Nat} (h : HAt w b x ar kr ac kc ag kg) (q0 : l1inB x.room 1 4000 = true) (q1 : ((x.regs.length : Int) != 16) = true) :
    Calls Tryz.prog 37 #[.pointer (some ⟨b, 0, none⟩)] w fun e w' => e = .returned (.bool false) ∧ Ext w w' := by
  obtain ⟨c0, c1, c2, c3, c4, c5, c6, c7, c8, c9, c10, c11, c12, lr, lc, lg, R, C, G⟩ := h
  clear R C G
  have p0 := l1inB_true q0
  go_enter Tryz.func37, Tryz.ntmps37
  go_wp2_with fail
  go_quiet ((go_at_call 33; exact Calls.quiet_of_same (l1in_any _ _ _ _)))
  go_wp2_with fail
  go_ret
  exact ⟨rfl, by repeat (first | exact Ext.refl _ | refine Ext.drewN ?_ _)⟩

set_option maxRecDepth 100000 in
set_option maxHeartbeats 600000 in
theorem l1sizes_2 (x : Hp) (b : Nat) (w : World) {ar : Option Addr} {kr : Nat} {ac : Option Addr} {kc : Nat} {ag : Option Addr} {kg : Nat} (h : HAt w b x ar kr ac kc ag kg) (q0 : l1inB x.room 1 4000 = true) (q1 : ((x.regs.length : Int) != 16) = false) (q2 : decide (2 * x.room < (x.cells.length : Int)) = true) :
    Calls Tryz.prog 37 #[.pointer (some ⟨b, 0, none⟩)] w fun e w' => e = .returned (.bool false) ∧ Ext w w' := by
  obtain ⟨c0, c1, c2, c3, c4, c5, c6, c7, c8, c9, c10, c11, c12, lr, lc, lg, R, C, G⟩ := h
  clear R C G
  have p0 := l1inB_true q0
  go_enter Tryz.func37, Tryz.ntmps37
  go_wp2_with fail
  go_quiet ((go_at_call 33; exact Calls.quiet_of_same (l1in_any _ _ _ _)))
  go_wp2_with fail
  go_ret
  exact ⟨rfl, by repeat (first | exact Ext.refl _ | refine Ext.drewN ?_ _)⟩

set_option maxRecDepth 100000 in
set_option maxHeartbeats 600000 in
theorem l1sizes_3 (x : Hp) (b : Nat) (w : World) {ar : Option Addr} {kr : Nat} {ac : Option Addr} {kc : Nat} {ag : Option Addr} {kg : Nat} (h : HAt w b x ar kr ac kc ag kg) (q0 : l1inB x.room 1 4000 = true) (q1 : ((x.regs.length : Int) != 16) = false) (q2 : decide (2 * x.room < (x.cells.length : Int)) = false) (q3 : decide (x.cells.length < x.gray.length) = true) :
    Calls Tryz.prog 37 #[.pointer (some ⟨b, 0, none⟩)] w fun e w' => e = .returned (.bool false) ∧ Ext w w' := by
  obtain ⟨c0, c1, c2, c3, c4, c5, c6, c7, c8, c9, c10, c11, c12, lr, lc, lg, R, C, G⟩ := h
  clear R C G
  have p0 := l1inB_true q0
  go_enter Tryz.func37, Tryz.ntmps37
  go_wp2_with fail
  go_quiet ((go_at_call 33; exact Calls.quiet_of_same (l1in_any _ _ _ _)))
  go_wp2_with fail
  go_ret
  exact ⟨rfl, by repeat (first | exact Ext.refl _ | refine Ext.drewN ?_ _)⟩

set_option maxRecDepth 100000 in
set_option maxHeartbeats 600000 in
theorem l1sizes_4 (x : Hp) (b : Nat) (w : World) {ar : Option Addr} {kr : Nat} {ac : Option Addr} {kc : Nat} {ag : Option Addr} {kg : Nat} (h : HAt w b x ar kr ac kc ag kg) (q0 : l1inB x.room 1 4000 = true) (q1 : ((x.regs.length : Int) != 16) = false) (q2 : decide (2 * x.room < (x.cells.length : Int)) = false) (q3 : decide (x.cells.length < x.gray.length) = false) (q4 : l1inB x.born 0 1000000000 = false) :
    Calls Tryz.prog 37 #[.pointer (some ⟨b, 0, none⟩)] w fun e w' => e = .returned (.bool false) ∧ Ext w w' := by
  obtain ⟨c0, c1, c2, c3, c4, c5, c6, c7, c8, c9, c10, c11, c12, lr, lc, lg, R, C, G⟩ := h
  clear R C G
  have p0 := l1inB_true q0
  go_enter Tryz.func37, Tryz.ntmps37
  go_wp2_with fail
  go_quiet ((go_at_call 33; exact Calls.quiet_of_same (l1in_any _ _ _ _)))
  go_wp2_with (go_at_call 33; refine (l1in_any _ _ _ _).mono ?_; rintro e w' ⟨rfl, rfl⟩)
  go_ret
  exact ⟨rfl, by repeat (first | exact Ext.refl _ | refine Ext.drewN ?_ _)⟩

set_option maxRecDepth 100000 in
set_option maxHeartbeats 600000 in
theorem l1sizes_5 (x : Hp) (b : Nat) (w : World) {ar : Option Addr} {kr : Nat} {ac : Option Addr} {kc : Nat} {ag : Option Addr} {kg : Nat} (h : HAt w b x ar kr ac kc ag kg) (q0 : l1inB x.room 1 4000 = true) (q1 : ((x.regs.length : Int) != 16) = false) (q2 : decide (2 * x.room < (x.cells.length : Int)) = false) (q3 : decide (x.cells.length < x.gray.length) = false) (q4 : l1inB x.born 0 1000000000 = true) (q5 : l1inB x.rounds 0 1000000000 = false) :
    Calls Tryz.prog 37 #[.pointer (some ⟨b, 0, none⟩)] w fun e w' => e = .returned (.bool false) ∧ Ext w w' := by
  obtain ⟨c0, c1, c2, c3, c4, c5, c6, c7, c8, c9, c10, c11, c12, lr, lc, lg, R, C, G⟩ := h
  clear R C G
  have p0 := l1inB_true q0
  go_enter Tryz.func37, Tryz.ntmps37
  go_wp2_with fail
  go_quiet ((go_at_call 33; exact Calls.quiet_of_same (l1in_any _ _ _ _)))
  go_wp2_with (go_at_call 33; refine (l1in_any _ _ _ _).mono ?_; rintro e w' ⟨rfl, rfl⟩)
  go_ret
  exact ⟨rfl, by repeat (first | exact Ext.refl _ | refine Ext.drewN ?_ _)⟩

set_option maxRecDepth 100000 in
set_option maxHeartbeats 600000 in
theorem l1sizes_6 (x : Hp) (b : Nat) (w : World) {ar : Option Addr} {kr : Nat} {ac : Option Addr} {kc : Nat} {ag : Option Addr} {kg : Nat} (h : HAt w b x ar kr ac kc ag kg) (q0 : l1inB x.room 1 4000 = true) (q1 : ((x.regs.length : Int) != 16) = false) (q2 : decide (2 * x.room < (x.cells.length : Int)) = false) (q3 : decide (x.cells.length < x.gray.length) = false) (q4 : l1inB x.born 0 1000000000 = true) (q5 : l1inB x.rounds 0 1000000000 = true) (q6 : l1inB x.forced 0 1000000000 = false) :
    Calls Tryz.prog 37 #[.pointer (some ⟨b, 0, none⟩)] w fun e w' => e = .returned (.bool false) ∧ Ext w w' := by
  obtain ⟨c0, c1, c2, c3, c4, c5, c6, c7, c8, c9, c10, c11, c12, lr, lc, lg, R, C, G⟩ := h
  clear R C G
  have p0 := l1inB_true q0
  go_enter Tryz.func37, Tryz.ntmps37
  go_wp2_with fail
  go_quiet ((go_at_call 33; exact Calls.quiet_of_same (l1in_any _ _ _ _)))
  go_wp2_with (go_at_call 33; refine (l1in_any _ _ _ _).mono ?_; rintro e w' ⟨rfl, rfl⟩)
  go_ret
  exact ⟨rfl, by repeat (first | exact Ext.refl _ | refine Ext.drewN ?_ _)⟩

end Go.Proofs.YtbcmjcomdjdjaaaGreat
