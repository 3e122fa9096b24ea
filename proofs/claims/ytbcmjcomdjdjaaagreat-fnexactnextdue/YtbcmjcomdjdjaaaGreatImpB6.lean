import Derived.Test.YtbcmjcomdjdjaaaGreatImpB
namespace Go.Proofs.YtbcmjcomdjdjaaaGreat
open Go.RowKit
attribute [local go_sem ↓] Go.wp_at_zero Go.wp_at_succ

set_option maxRecDepth 100000 in
set_option maxHeartbeats 4000000 in
theorem limits_12 (x : Hp) (b : Nat) (w : World) {ar : Option Addr} {kr : Nat} {ac : Option Addr} {kc : Nat} {ag : Option Addr} {kg : Nat} (h : HAt w b x ar kr ac kc ag kg) (q0 : withinB x.room 1 4000 = true) (q1 : ((x.regs.length : Int) == 16) = true) (q2 : decide ((x.cells.length : Int) ≤ 2 * x.room) = true) (q3 : decide ((x.gray.length : Int) ≤ (x.cells.length : Int)) = true) (q4 : withinB x.born 0 1000000000 = true) (q5 : withinB x.rounds 0 1000000000 = true) (q6 : withinB x.forced 0 1000000000 = true) (q7 : withinB x.per 0 64 = true) (q8 : withinB x.start 0 4000 = true) (q9 : withinB x.phase 0 6 = true) (q10 : withinB x.hand 0 (x.cells.length : Int) = true) (q11 : withinB x.sub 0 200 = true) :
    Calls Tryz.prog 95 #[.pointer (some ⟨b, 0, none⟩)] w fun e w' => e = .returned (.bool true) ∧ Ext w w' := by
  obtain ⟨c0, c1, c2, c3, c4, c5, c6, c7, c8, c9, c10, c11, c12, lr, lc, lg, R, C, G⟩ := h
  clear R C G
  have p0 := withinB_true q0
  have p1 : (0 : Int) ≤ x.room := by omega
  have q2b : (x.cells.length : Int) ≤ 2 * x.room := of_decide_eq_true q2
  clear q2
  have q3b : x.gray.length ≤ x.cells.length := by have := of_decide_eq_true q3; omega
  clear q3
  have q1b : (x.regs.length : Int) = 16 := by simpa using q1
  clear q1
  go_enter Tryz.func95, Tryz.ntmps95
  go_wp2_with fail
  simp only [List.append]
  refine wp_region_quiet_lit (by kernel_rfl) lim_lex ?_
  repeat (go_big_quiet_step ((go_at_call 83; first | (refine Calls.quiet_of_same (within_is _ _ _ true ?_ _); assumption) | (refine Calls.quiet_of_same (within_is _ _ _ false ?_ _); assumption))))
  refine wpQuiet_nil ?_
  intro _ hw'
  obtain ⟨nq, hw''⟩ := hw'
  subst hw''
  go_wp2_with fail
  go_ret
  exact ⟨rfl, Ext.drewN (Ext.refl w) _⟩

end Go.Proofs.YtbcmjcomdjdjaaaGreat

namespace Go.Proofs.YtbcmjcomdjdjaaaGreat
open Go.RowKit
attribute [local go_sem ↓] Go.wp_at_zero Go.wp_at_succ

set_option maxRecDepth 100000 in
set_option maxHeartbeats 4000000 in
theorem limits_11 (x : Hp) (b : Nat) (w : World) {ar : Option Addr} {kr : Nat} {ac : Option Addr} {kc : Nat} {ag : Option Addr} {kg : Nat} (h : HAt w b x ar kr ac kc ag kg) (q0 : withinB x.room 1 4000 = true) (q1 : ((x.regs.length : Int) == 16) = true) (q2 : decide ((x.cells.length : Int) ≤ 2 * x.room) = true) (q3 : decide ((x.gray.length : Int) ≤ (x.cells.length : Int)) = true) (q4 : withinB x.born 0 1000000000 = true) (q5 : withinB x.rounds 0 1000000000 = true) (q6 : withinB x.forced 0 1000000000 = true) (q7 : withinB x.per 0 64 = true) (q8 : withinB x.start 0 4000 = true) (q9 : withinB x.phase 0 6 = true) (q10 : withinB x.hand 0 (x.cells.length : Int) = true) (q11 : withinB x.sub 0 200 = false) :
    Calls Tryz.prog 95 #[.pointer (some ⟨b, 0, none⟩)] w fun e w' => e = .returned (.bool false) ∧ Ext w w' := by
  obtain ⟨c0, c1, c2, c3, c4, c5, c6, c7, c8, c9, c10, c11, c12, lr, lc, lg, R, C, G⟩ := h
  clear R C G
  have p0 := withinB_true q0
  have p1 : (0 : Int) ≤ x.room := by omega
  have q2b : (x.cells.length : Int) ≤ 2 * x.room := of_decide_eq_true q2
  clear q2
  have q3b : x.gray.length ≤ x.cells.length := by have := of_decide_eq_true q3; omega
  clear q3
  have q1b : (x.regs.length : Int) = 16 := by simpa using q1
  clear q1
  go_enter Tryz.func95, Tryz.ntmps95
  go_wp2_with fail
  simp only [List.append]
  refine wp_region_quiet_lit (by kernel_rfl) lim_lex ?_
  repeat (go_big_quiet_step ((go_at_call 83; first | (refine Calls.quiet_of_same (within_is _ _ _ true ?_ _); assumption) | (refine Calls.quiet_of_same (within_is _ _ _ false ?_ _); assumption))))
  refine wpQuiet_nil ?_
  intro _ hw'
  obtain ⟨nq, hw''⟩ := hw'
  subst hw''
  go_wp2_with fail
  go_ret
  exact ⟨rfl, Ext.drewN (Ext.refl w) _⟩

set_option maxRecDepth 100000 in
set_option maxHeartbeats 4000000 in
theorem limits_10 (x : Hp) (b : Nat) (w : World) {ar : Option Addr} {kr : Nat} {ac : Option Addr} {kc : Nat} {ag : Option Addr} {kg : Nat} (h : HAt w b x ar kr ac kc ag kg) (q0 : withinB x.room 1 4000 = true) (q1 : ((x.regs.length : Int) == 16) = true) (q2 : decide ((x.cells.length : Int) ≤ 2 * x.room) = true) (q3 : decide ((x.gray.length : Int) ≤ (x.cells.length : Int)) = true) (q4 : withinB x.born 0 1000000000 = true) (q5 : withinB x.rounds 0 1000000000 = true) (q6 : withinB x.forced 0 1000000000 = true) (q7 : withinB x.per 0 64 = true) (q8 : withinB x.start 0 4000 = true) (q9 : withinB x.phase 0 6 = true) (q10 : withinB x.hand 0 (x.cells.length : Int) = false) :
    Calls Tryz.prog 95 #[.pointer (some ⟨b, 0, none⟩)] w fun e w' => e = .returned (.bool false) ∧ Ext w w' := by
  obtain ⟨c0, c1, c2, c3, c4, c5, c6, c7, c8, c9, c10, c11, c12, lr, lc, lg, R, C, G⟩ := h
  clear R C G
  have p0 := withinB_true q0
  have p1 : (0 : Int) ≤ x.room := by omega
  have q2b : (x.cells.length : Int) ≤ 2 * x.room := of_decide_eq_true q2
  clear q2
  have q3b : x.gray.length ≤ x.cells.length := by have := of_decide_eq_true q3; omega
  clear q3
  have q1b : (x.regs.length : Int) = 16 := by simpa using q1
  clear q1
  go_enter Tryz.func95, Tryz.ntmps95
  go_wp2_with fail
  simp only [List.append]
  refine wp_region_quiet_lit (by kernel_rfl) lim_lex ?_
  repeat (go_big_quiet_step ((go_at_call 83; first | (refine Calls.quiet_of_same (within_is _ _ _ true ?_ _); assumption) | (refine Calls.quiet_of_same (within_is _ _ _ false ?_ _); assumption))))
  refine wpQuiet_nil ?_
  intro _ hw'
  obtain ⟨nq, hw''⟩ := hw'
  subst hw''
  go_wp2_with fail
  go_ret
  exact ⟨rfl, Ext.drewN (Ext.refl w) _⟩

end Go.Proofs.YtbcmjcomdjdjaaaGreat

namespace Go.Proofs.YtbcmjcomdjdjaaaGreat
open Go.RowKit
attribute [local go_sem ↓] Go.wp_at_zero Go.wp_at_succ

set_option maxRecDepth 100000 in
set_option maxHeartbeats 4000000 in
theorem limits_9 (x : Hp) (b : Nat) (w : World) {ar : Option Addr} {kr : Nat} {ac : Option Addr} {kc : Nat} {ag : Option Addr} {kg : Nat} (h : HAt w b x ar kr ac kc ag kg) (q0 : withinB x.room 1 4000 = true) (q1 : ((x.regs.length : Int) == 16) = true) (q2 : decide ((x.cells.length : Int) ≤ 2 * x.room) = true) (q3 : decide ((x.gray.length : Int) ≤ (x.cells.length : Int)) = true) (q4 : withinB x.born 0 1000000000 = true) (q5 : withinB x.rounds 0 1000000000 = true) (q6 : withinB x.forced 0 1000000000 = true) (q7 : withinB x.per 0 64 = true) (q8 : withinB x.start 0 4000 = true) (q9 : withinB x.phase 0 6 = false) :
    Calls Tryz.prog 95 #[.pointer (some ⟨b, 0, none⟩)] w fun e w' => e = .returned (.bool false) ∧ Ext w w' := by
  obtain ⟨c0, c1, c2, c3, c4, c5, c6, c7, c8, c9, c10, c11, c12, lr, lc, lg, R, C, G⟩ := h
  clear R C G
  have p0 := withinB_true q0
  have p1 : (0 : Int) ≤ x.room := by omega
  have q2b : (x.cells.length : Int) ≤ 2 * x.room := of_decide_eq_true q2
  clear q2
  have q3b : x.gray.length ≤ x.cells.length := by have := of_decide_eq_true q3; omega
  clear q3
  have q1b : (x.regs.length : Int) = 16 := by simpa using q1
  clear q1
  go_enter Tryz.func95, Tryz.ntmps95
  go_wp2_with fail
  simp only [List.append]
  refine wp_region_quiet_lit (by kernel_rfl) lim_lex ?_
  repeat (go_big_quiet_step ((go_at_call 83; first | (refine Calls.quiet_of_same (within_is _ _ _ true ?_ _); assumption) | (refine Calls.quiet_of_same (within_is _ _ _ false ?_ _); assumption))))
  refine wpQuiet_nil ?_
  intro _ hw'
  obtain ⟨nq, hw''⟩ := hw'
  subst hw''
  go_wp2_with fail
  go_ret
  exact ⟨rfl, Ext.drewN (Ext.refl w) _⟩

set_option maxRecDepth 100000 in
set_option maxHeartbeats 4000000 in
theorem limits_8 (x : Hp) (b : Nat) (w : World) {ar : Option Addr} {kr : Nat} {ac : Option Addr} {kc : Nat} {ag : Option Addr} {kg : Nat} (h : HAt w b x ar kr ac kc ag kg) (q0 : withinB x.room 1 4000 = true) (q1 : ((x.regs.length : Int) == 16) = true) (q2 : decide ((x.cells.length : Int) ≤ 2 * x.room) = true) (q3 : decide ((x.gray.length : Int) ≤ (x.cells.length : Int)) = true) (q4 : withinB x.born 0 1000000000 = true) (q5 : withinB x.rounds 0 1000000000 = true) (q6 : withinB x.forced 0 1000000000 = true) (q7 : withinB x.per 0 64 = true) (q8 : withinB x.start 0 4000 = false) :
    Calls Tryz.prog 95 #[.pointer (some ⟨b, 0, none⟩)] w fun e w' => e = .returned (.bool false) ∧ Ext w w' := by
  obtain ⟨c0, c1, c2, c3, c4, c5, c6, c7, c8, c9, c10, c11, c12, lr, lc, lg, R, C, G⟩ := h
  clear R C G
  have p0 := withinB_true q0
  have p1 : (0 : Int) ≤ x.room := by omega
  have q2b : (x.cells.length : Int) ≤ 2 * x.room := of_decide_eq_true q2
  clear q2
  have q3b : x.gray.length ≤ x.cells.length := by have := of_decide_eq_true q3; omega
  clear q3
  have q1b : (x.regs.length : Int) = 16 := by simpa using q1
  clear q1
  go_enter Tryz.func95, Tryz.ntmps95
  go_wp2_with fail
  simp only [List.append]
  refine wp_region_quiet_lit (by kernel_rfl) lim_lex ?_
  repeat (go_big_quiet_step ((go_at_call 83; first | (refine Calls.quiet_of_same (within_is _ _ _ true ?_ _); assumption) | (refine Calls.quiet_of_same (within_is _ _ _ false ?_ _); assumption))))
  refine wpQuiet_nil ?_
  intro _ hw'
  obtain ⟨nq, hw''⟩ := hw'
  subst hw''
  go_wp2_with fail
  go_ret
  exact ⟨rfl, Ext.drewN (Ext.refl w) _⟩

set_option maxRecDepth 100000 in
set_option maxHeartbeats 4000000 in
theorem limits_0 (x : Hp) (b : Nat) (w : World) {ar : Option Addr} {kr : Nat} {ac : Option Addr} {kc : Nat} {ag : Option Addr} {kg : Nat} (h : HAt w b x ar kr ac kc ag kg) (q0 : withinB x.room 1 4000 = false) :
    Calls Tryz.prog 95 #[.pointer (some ⟨b, 0, none⟩)] w fun e w' => e = .returned (.bool false) ∧ Ext w w' := by
  obtain ⟨c0, c1, c2, c3, c4, c5, c6, c7, c8, c9, c10, c11, c12, lr, lc, lg, R, C, G⟩ := h
  clear R C G
  go_enter Tryz.func95, Tryz.ntmps95
  go_wp2_with fail
  simp only [List.append]
  refine wp_region_quiet_lit (by kernel_rfl) lim_lex ?_
  repeat (go_big_quiet_step ((go_at_call 83; first | (refine Calls.quiet_of_same (within_is _ _ _ true ?_ _); assumption) | (refine Calls.quiet_of_same (within_is _ _ _ false ?_ _); assumption))))
  refine wpQuiet_nil ?_
  intro _ hw'
  obtain ⟨nq, hw''⟩ := hw'
  subst hw''
  go_wp2_with fail
  go_ret
  exact ⟨rfl, Ext.drewN (Ext.refl w) _⟩

set_option maxRecDepth 100000 in
set_option maxHeartbeats 4000000 in
theorem limits_1 (x : Hp) (b : Nat) (w : World) {ar : Option Addr} {kr : Nat} {ac : Option Addr} {kc : Nat} {ag : Option Addr} {kg : Nat} (h : HAt w b x ar kr ac kc ag kg) (q0 : withinB x.room 1 4000 = true) (q1 : ((x.regs.length : Int) == 16) = false) :
    Calls Tryz.prog 95 #[.pointer (some ⟨b, 0, none⟩)] w fun e w' => e = .returned (.bool false) ∧ Ext w w' := by
  obtain ⟨c0, c1, c2, c3, c4, c5, c6, c7, c8, c9, c10, c11, c12, lr, lc, lg, R, C, G⟩ := h
  clear R C G
  go_enter Tryz.func95, Tryz.ntmps95
  go_wp2_with fail
  simp only [List.append]
  refine wp_region_quiet_lit (by kernel_rfl) lim_lex ?_
  repeat (go_big_quiet_step ((go_at_call 83; first | (refine Calls.quiet_of_same (within_is _ _ _ true ?_ _); assumption) | (refine Calls.quiet_of_same (within_is _ _ _ false ?_ _); assumption))))
  refine wpQuiet_nil ?_
  intro _ hw'
  obtain ⟨nq, hw''⟩ := hw'
  subst hw''
  go_wp2_with fail
  go_ret
  exact ⟨rfl, Ext.drewN (Ext.refl w) _⟩

end Go.Proofs.YtbcmjcomdjdjaaaGreat

namespace Go.Proofs.YtbcmjcomdjdjaaaGreat
open Go.RowKit
attribute [local go_sem ↓] Go.wp_at_zero Go.wp_at_succ

set_option maxRecDepth 100000 in
set_option maxHeartbeats 4000000 in
theorem limits_7 (x : Hp) (b : Nat) (w : World) {ar : Option Addr} {kr : Nat} {ac : Option Addr} {kc : Nat} {ag : Option Addr} {kg : Nat} (h : HAt w b x ar kr ac kc ag kg) (q0 : withinB x.room 1 4000 = true) (q1 : ((x.regs.length : Int) == 16) = true) (q2 : decide ((x.cells.length : Int) ≤ 2 * x.room) = true) (q3 : decide ((x.gray.length : Int) ≤ (x.cells.length : Int)) = true) (q4 : withinB x.born 0 1000000000 = true) (q5 : withinB x.rounds 0 1000000000 = true) (q6 : withinB x.forced 0 1000000000 = true) (q7 : withinB x.per 0 64 = false) :
    Calls Tryz.prog 95 #[.pointer (some ⟨b, 0, none⟩)] w fun e w' => e = .returned (.bool false) ∧ Ext w w' := by
  obtain ⟨c0, c1, c2, c3, c4, c5, c6, c7, c8, c9, c10, c11, c12, lr, lc, lg, R, C, G⟩ := h
  clear R C G
  have p0 := withinB_true q0
  have p1 : (0 : Int) ≤ x.room := by omega
  have q2b : (x.cells.length : Int) ≤ 2 * x.room := of_decide_eq_true q2
  clear q2
  have q3b : x.gray.length ≤ x.cells.length := by have := of_decide_eq_true q3; omega
  clear q3
  have q1b : (x.regs.length : Int) = 16 := by simpa using q1
  clear q1
  go_enter Tryz.func95, Tryz.ntmps95
  go_wp2_with fail
  simp only [List.append]
  refine wp_region_quiet_lit (by kernel_rfl) lim_lex ?_
  repeat (go_big_quiet_step ((go_at_call 83; first | (refine Calls.quiet_of_same (within_is _ _ _ true ?_ _); assumption) | (refine Calls.quiet_of_same (within_is _ _ _ false ?_ _); assumption))))
  refine wpQuiet_nil ?_
  intro _ hw'
  obtain ⟨nq, hw''⟩ := hw'
  subst hw''
  go_wp2_with fail
  go_ret
  exact ⟨rfl, Ext.drewN (Ext.refl w) _⟩

set_option maxRecDepth 100000 in
set_option maxHeartbeats 4000000 in
theorem limits_6 (x : Hp) (b : Nat) (w : World) {ar : Option Addr} {kr : Nat} {ac : Option Addr} {kc : Nat} {ag : Option Addr} {kg : Nat} (h : HAt w b x ar kr ac kc ag kg) (q0 : withinB x.room 1 4000 = true) (q1 : ((x.regs.length : Int) == 16) = true) (q2 : decide ((x.cells.length : Int) ≤ 2 * x.room) = true) (q3 : decide ((x.gray.length : Int) ≤ (x.cells.length : Int)) = true) (q4 : withinB x.born 0 1000000000 = true) (q5 : withinB x.rounds 0 1000000000 = true) (q6 : withinB x.forced 0 1000000000 = false) :
    Calls Tryz.prog 95 #[.pointer (some ⟨b, 0, none⟩)] w fun e w' => e = .returned (.bool false) ∧ Ext w w' := by
  obtain ⟨c0, c1, c2, c3, c4, c5, c6, c7, c8, c9, c10, c11, c12, lr, lc, lg, R, C, G⟩ := h
  clear R C G
  have p0 := withinB_true q0
  have p1 : (0 : Int) ≤ x.room := by omega
  have q2b : (x.cells.length : Int) ≤ 2 * x.room := of_decide_eq_true q2
  clear q2
  have q3b : x.gray.length ≤ x.cells.length := by have := of_decide_eq_true q3; omega
  clear q3
  have q1b : (x.regs.length : Int) = 16 := by simpa using q1
  clear q1
  go_enter Tryz.func95, Tryz.ntmps95
  go_wp2_with fail
  simp only [List.append]
  refine wp_region_quiet_lit (by kernel_rfl) lim_lex ?_
  repeat (go_big_quiet_step ((go_at_call 83; first | (refine Calls.quiet_of_same (within_is _ _ _ true ?_ _); assumption) | (refine Calls.quiet_of_same (within_is _ _ _ false ?_ _); assumption))))
  refine wpQuiet_nil ?_
  intro _ hw'
  obtain ⟨nq, hw''⟩ := hw'
  subst hw''
  go_wp2_with fail
  go_ret
  exact ⟨rfl, Ext.drewN (Ext.refl w) _⟩

set_option maxRecDepth 100000 in
set_option maxHeartbeats 4000000 in
theorem limits_5 (x : Hp) (b : Nat) (w : World) {ar : Option Addr} {kr : Nat} {ac : Option Addr} {kc : Nat} {ag : Option Addr} {kg : Nat} (h : HAt w b x ar kr ac kc ag kg) (q0 : withinB x.room 1 4000 = true) (q1 : ((x.regs.length : Int) == 16) = true) (q2 : decide ((x.cells.length : Int) ≤ 2 * x.room) = true) (q3 : decide ((x.gray.length : Int) ≤ (x.cells.length : Int)) = true) (q4 : withinB x.born 0 1000000000 = true) (q5 : withinB x.rounds 0 1000000000 = false) :
    Calls Tryz.prog 95 #[.pointer (some ⟨b, 0, none⟩)] w fun e w' => e = .returned (.bool false) ∧ Ext w w' := by
  obtain ⟨c0, c1, c2, c3, c4, c5, c6, c7, c8, c9, c10, c11, c12, lr, lc, lg, R, C, G⟩ := h
  clear R C G
  have p0 := withinB_true q0
  have p1 : (0 : Int) ≤ x.room := by omega
  have q2b : (x.cells.length : Int) ≤ 2 * x.room := of_decide_eq_true q2
  clear q2
  have q3b : x.gray.length ≤ x.cells.length := by have := of_decide_eq_true q3; omega
  clear q3
  have q1b : (x.regs.length : Int) = 16 := by simpa using q1
  clear q1
  go_enter Tryz.func95, Tryz.ntmps95
  go_wp2_with fail
  simp only [List.append]
  refine wp_region_quiet_lit (by kernel_rfl) lim_lex ?_
  repeat (go_big_quiet_step ((go_at_call 83; first | (refine Calls.quiet_of_same (within_is _ _ _ true ?_ _); assumption) | (refine Calls.quiet_of_same (within_is _ _ _ false ?_ _); assumption))))
  refine wpQuiet_nil ?_
  intro _ hw'
  obtain ⟨nq, hw''⟩ := hw'
  subst hw''
  go_wp2_with fail
  go_ret
  exact ⟨rfl, Ext.drewN (Ext.refl w) _⟩

end Go.Proofs.YtbcmjcomdjdjaaaGreat

namespace Go.Proofs.YtbcmjcomdjdjaaaGreat
open Go.RowKit
attribute [local go_sem ↓] Go.wp_at_zero Go.wp_at_succ

set_option maxRecDepth 100000 in
set_option maxHeartbeats 4000000 in
theorem limits_4 (x : Hp) (b : Nat) (w : World) {ar : Option Addr} {kr : Nat} {ac : Option Addr} {kc : Nat} {ag : Option Addr} {kg : Nat} (h : HAt w b x ar kr ac kc ag kg) (q0 : withinB x.room 1 4000 = true) (q1 : ((x.regs.length : Int) == 16) = true) (q2 : decide ((x.cells.length : Int) ≤ 2 * x.room) = true) (q3 : decide ((x.gray.length : Int) ≤ (x.cells.length : Int)) = true) (q4 : withinB x.born 0 1000000000 = false) :
    Calls Tryz.prog 95 #[.pointer (some ⟨b, 0, none⟩)] w fun e w' => e = .returned (.bool false) ∧ Ext w w' := by
  obtain ⟨c0, c1, c2, c3, c4, c5, c6, c7, c8, c9, c10, c11, c12, lr, lc, lg, R, C, G⟩ := h
  clear R C G
  have p0 := withinB_true q0
  have p1 : (0 : Int) ≤ x.room := by omega
  have q2b : (x.cells.length : Int) ≤ 2 * x.room := of_decide_eq_true q2
  clear q2
  have q3b : x.gray.length ≤ x.cells.length := by have := of_decide_eq_true q3; omega
  clear q3
  have q1b : (x.regs.length : Int) = 16 := by simpa using q1
  clear q1
  go_enter Tryz.func95, Tryz.ntmps95
  go_wp2_with fail
  simp only [List.append]
  refine wp_region_quiet_lit (by kernel_rfl) lim_lex ?_
  repeat (go_big_quiet_step ((go_at_call 83; first | (refine Calls.quiet_of_same (within_is _ _ _ true ?_ _); assumption) | (refine Calls.quiet_of_same (within_is _ _ _ false ?_ _); assumption))))
  refine wpQuiet_nil ?_
  intro _ hw'
  obtain ⟨nq, hw''⟩ := hw'
  subst hw''
  go_wp2_with fail
  go_ret
  exact ⟨rfl, Ext.drewN (Ext.refl w) _⟩

set_option maxRecDepth 100000 in
set_option maxHeartbeats 4000000 in
theorem limits_3 (x : Hp) (b : Nat) (w : World) {ar : Option Addr} {kr : Nat} {ac : Option Addr} {kc : Nat} {ag : Option Addr} {kg : Nat} (h : HAt w b x ar kr ac kc ag kg) (q0 : withinB x.room 1 4000 = true) (q1 : ((x.regs.length : Int) == 16) = true) (q2 : decide ((x.cells.length : Int) ≤ 2 * x.room) = true) (q3 : decide ((x.gray.length : Int) ≤ (x.cells.length : Int)) = false) :
    Calls Tryz.prog 95 #[.pointer (some ⟨b, 0, none⟩)] w fun e w' => e = .returned (.bool false) ∧ Ext w w' := by
  obtain ⟨c0, c1, c2, c3, c4, c5, c6, c7, c8, c9, c10, c11, c12, lr, lc, lg, R, C, G⟩ := h
  clear R C G
  have p0 := withinB_true q0
  have p1 : (0 : Int) ≤ x.room := by omega
  have q2b : (x.cells.length : Int) ≤ 2 * x.room := of_decide_eq_true q2
  clear q2
  have q3b : decide (x.gray.length ≤ x.cells.length) = false := by have := of_decide_eq_false q3; exact decide_eq_false (by omega)
  have q1b : (x.regs.length : Int) = 16 := by simpa using q1
  clear q1
  go_enter Tryz.func95, Tryz.ntmps95
  go_wp2_with fail
  simp only [List.append]
  refine wp_region_quiet_lit (by kernel_rfl) lim_lex ?_
  repeat (go_big_quiet_step ((go_at_call 83; first | (refine Calls.quiet_of_same (within_is _ _ _ true ?_ _); assumption) | (refine Calls.quiet_of_same (within_is _ _ _ false ?_ _); assumption))))
  refine wpQuiet_nil ?_
  intro _ hw'
  obtain ⟨nq, hw''⟩ := hw'
  subst hw''
  go_wp2_with fail
  go_ret
  exact ⟨rfl, Ext.drewN (Ext.refl w) _⟩

set_option maxRecDepth 100000 in
set_option maxHeartbeats 4000000 in
theorem limits_2 (x : Hp) (b : Nat) (w : World) {ar : Option Addr} {kr : Nat} {ac : Option Addr} {kc : Nat} {ag : Option Addr} {kg : Nat} (h : HAt w b x ar kr ac kc ag kg) (q0 : withinB x.room 1 4000 = true) (q1 : ((x.regs.length : Int) == 16) = true) (q2 : decide ((x.cells.length : Int) ≤ 2 * x.room) = false) :
    Calls Tryz.prog 95 #[.pointer (some ⟨b, 0, none⟩)] w fun e w' => e = .returned (.bool false) ∧ Ext w w' := by
  obtain ⟨c0, c1, c2, c3, c4, c5, c6, c7, c8, c9, c10, c11, c12, lr, lc, lg, R, C, G⟩ := h
  clear R C G
  have p0 := withinB_true q0
  have p1 : (0 : Int) ≤ x.room := by omega
  have q1b : (x.regs.length : Int) = 16 := by simpa using q1
  clear q1
  go_enter Tryz.func95, Tryz.ntmps95
  go_wp2_with fail
  simp only [List.append]
  refine wp_region_quiet_lit (by kernel_rfl) lim_lex ?_
  repeat (go_big_quiet_step ((go_at_call 83; first | (refine Calls.quiet_of_same (within_is _ _ _ true ?_ _); assumption) | (refine Calls.quiet_of_same (within_is _ _ _ false ?_ _); assumption))))
  refine wpQuiet_nil ?_
  intro _ hw'
  obtain ⟨nq, hw''⟩ := hw'
  subst hw''
  go_wp2_with fail
  go_ret
  exact ⟨rfl, Ext.drewN (Ext.refl w) _⟩

end Go.Proofs.YtbcmjcomdjdjaaaGreat

namespace Go.Proofs.YtbcmjcomdjdjaaaGreat
open Go.RowKit

theorem limitsKept_any (x : Hp) (b : Nat) (w : World) {ar : Option Addr} {kr : Nat} {ac : Option Addr} {kc : Nat} {ag : Option Addr} {kg : Nat} (h : HAt w b x ar kr ac kc ag kg) :
    Calls Tryz.prog 95 #[.pointer (some ⟨b, 0, none⟩)] w fun e w' => ∃ r : Bool, Hid (e = .returned (.bool r)) ∧ (r = true ↔ R1 x) ∧ Ext w w' := by
  cases q0 : withinB x.room 1 4000
  · exact (limits_0 x b w h q0).mono fun _ _ ⟨he, hx⟩ => ⟨false, he, ⟨fun f => by simp at f, fun r => by exfalso; exact withinB_false q0 r.room⟩, hx⟩
  cases q1 : ((x.regs.length : Int) == 16)
  · exact (limits_1 x b w h q0 q1).mono fun _ _ ⟨he, hx⟩ => ⟨false, he, ⟨fun f => by simp at f, fun r => by exfalso; simp at q1; exact q1 (by have := r.regs; omega)⟩, hx⟩
  cases q2 : decide ((x.cells.length : Int) ≤ 2 * x.room)
  · exact (limits_2 x b w h q0 q1 q2).mono fun _ _ ⟨he, hx⟩ => ⟨false, he, ⟨fun f => by simp at f, fun r => by exfalso; exact of_decide_eq_false q2 r.cells⟩, hx⟩
  cases q3 : decide ((x.gray.length : Int) ≤ (x.cells.length : Int))
  · exact (limits_3 x b w h q0 q1 q2 q3).mono fun _ _ ⟨he, hx⟩ => ⟨false, he, ⟨fun f => by simp at f, fun r => by exfalso; exact of_decide_eq_false q3 (by have := r.gray; omega)⟩, hx⟩
  cases q4 : withinB x.born 0 1000000000
  · exact (limits_4 x b w h q0 q1 q2 q3 q4).mono fun _ _ ⟨he, hx⟩ => ⟨false, he, ⟨fun f => by simp at f, fun r => by exfalso; exact withinB_false q4 r.born⟩, hx⟩
  cases q5 : withinB x.rounds 0 1000000000
  · exact (limits_5 x b w h q0 q1 q2 q3 q4 q5).mono fun _ _ ⟨he, hx⟩ => ⟨false, he, ⟨fun f => by simp at f, fun r => by exfalso; exact withinB_false q5 r.rounds⟩, hx⟩
  cases q6 : withinB x.forced 0 1000000000
  · exact (limits_6 x b w h q0 q1 q2 q3 q4 q5 q6).mono fun _ _ ⟨he, hx⟩ => ⟨false, he, ⟨fun f => by simp at f, fun r => by exfalso; exact withinB_false q6 r.forced⟩, hx⟩
  cases q7 : withinB x.per 0 64
  · exact (limits_7 x b w h q0 q1 q2 q3 q4 q5 q6 q7).mono fun _ _ ⟨he, hx⟩ => ⟨false, he, ⟨fun f => by simp at f, fun r => by exfalso; exact withinB_false q7 r.per⟩, hx⟩
  cases q8 : withinB x.start 0 4000
  · exact (limits_8 x b w h q0 q1 q2 q3 q4 q5 q6 q7 q8).mono fun _ _ ⟨he, hx⟩ => ⟨false, he, ⟨fun f => by simp at f, fun r => by exfalso; exact withinB_false q8 r.start⟩, hx⟩
  cases q9 : withinB x.phase 0 6
  · exact (limits_9 x b w h q0 q1 q2 q3 q4 q5 q6 q7 q8 q9).mono fun _ _ ⟨he, hx⟩ => ⟨false, he, ⟨fun f => by simp at f, fun r => by exfalso; exact withinB_false q9 r.phase⟩, hx⟩
  cases q10 : withinB x.hand 0 (x.cells.length : Int)
  · exact (limits_10 x b w h q0 q1 q2 q3 q4 q5 q6 q7 q8 q9 q10).mono fun _ _ ⟨he, hx⟩ => ⟨false, he, ⟨fun f => by simp at f, fun r => by exfalso; exact withinB_false q10 r.hand⟩, hx⟩
  cases q11 : withinB x.sub 0 200
  · exact (limits_11 x b w h q0 q1 q2 q3 q4 q5 q6 q7 q8 q9 q10 q11).mono fun _ _ ⟨he, hx⟩ => ⟨false, he, ⟨fun f => by simp at f, fun r => by exfalso; exact withinB_false q11 r.sub⟩, hx⟩
  exact (limits_12 x b w h q0 q1 q2 q3 q4 q5 q6 q7 q8 q9 q10 q11).mono fun _ _ ⟨he, hx⟩ => ⟨true, he, ⟨fun _ => ⟨withinB_true q0, by simp at q1; omega, of_decide_eq_true q2, by have := of_decide_eq_true q3; omega, withinB_true q4, withinB_true q5, withinB_true q6, withinB_true q7, withinB_true q8, withinB_true q9, withinB_true q10, withinB_true q11⟩, fun _ => rfl⟩, hx⟩
end Go.Proofs.YtbcmjcomdjdjaaaGreat
