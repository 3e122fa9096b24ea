import Derived.Test.YtkabcfhemljnbaaGreatImpB1
namespace Go.Proofs.YtkabcfhemljnbaaGreat
open Go.RowKit
attribute [local go_sem ↓] Go.wp_at_zero Go.wp_at_succ

set_option maxRecDepth 100000 in
set_option maxHeartbeats 4000000 in
theorem limits_11 (x : Hp) (b : Nat) (w : World) {ar : Option Addr} {kr : Nat} {ac : Option Addr} {kc : Nat} {ag : Option Addr} {kg : Nat} (h : HAt w b x ar kr ac kc ag kg) (q0 : withinB x.room 1 4000 = true) (q1 : ((x.regs.length : Int) == 16) = true) (q2 : decide ((x.cells.length : Int) ≤ 2 * x.room) = true) (q3 : decide ((x.gray.length : Int) ≤ (x.cells.length : Int)) = true) (q4 : withinB x.born 0 1000000000 = true) (q5 : withinB x.rounds 0 1000000000 = true) (q6 : withinB x.forced 0 1000000000 = true) (q7 : withinB x.per 0 64 = true) (q8 : withinB x.start 0 4000 = true) (q9 : withinB x.phase 0 6 = true) (q10 : withinB x.hand 0 (x.cells.length : Int) = true) (q11 : withinB x.sub 0 200 = false) :
    Calls Tryz.prog 142 #[.pointer (some ⟨b, 0, none⟩)] w fun e w' => e = .returned (.bool false) ∧ Ext w w' := by
  obtain ⟨c0, c1, c2, c3, c4, c5, c6, c7, c8, c9, c10, c11, c12, lr, lc, lg, R, C, G⟩ := h
  clear R C G
  have p0 := withinB_true q0
  have p1 : (0 : Int) ≤ x.room := by omega
  have q2b : (x.cells.length : Int) ≤ 2 * x.room := of_decide_eq_true q2
  clear q2
  have q3b : x.gray.length ≤ x.cells.length := by have := of_decide_eq_true q3; omega
  clear q3
  have q1b : (x.regs.length : Int) = 16 := by simpa using q1
  clear q1
  go_enter Tryz.func142, Tryz.ntmps142
  go_wp2_with fail
  simp only [List.append]
  refine wp_region_quiet_lit (by kernel_rfl) lim_lex ?_
  repeat (go_big_quiet_step ((go_at_call 74; first | (refine Calls.quiet_of_same (within_is _ _ _ true ?_ _); assumption) | (refine Calls.quiet_of_same (within_is _ _ _ false ?_ _); assumption))))
  refine wpQuiet_nil ?_
  intro _ hw'
  obtain ⟨nq, hw''⟩ := hw'
  subst hw''
  go_wp2_with fail
  go_ret
  exact ⟨rfl, Ext.drewN (Ext.refl w) _⟩

set_option maxRecDepth 100000 in
set_option maxHeartbeats 4000000 in
theorem limits_10 (x : Hp) (b : Nat) (w : World) {ar : Option Addr} {kr : Nat} {ac : Option Addr} {kc : Nat} {ag : Option Addr} {kg : Nat} (h : HAt w b x ar kr ac kc ag kg) (q0 : withinB x.room 1 4000 = true) (q1 : ((x.regs.length : Int) == 16) = true) (q2 : decide ((x.cells.length : Int) ≤ 2 * x.room) = true) (q3 : decide ((x.gray.length : Int) ≤ (x.cells.length : Int)) = true) (q4 : withinB x.born 0 1000000000 = true) (q5 : withinB x.rounds 0 1000000000 = true) (q6 : withinB x.forced 0 1000000000 = true) (q7 : withinB x.per 0 64 = true) (q8 : withinB x.start 0 4000 = true) (q9 : withinB x.phase 0 6 = true) (q10 : withinB x.hand 0 (x.cells.length : Int) = false) :
    Calls Tryz.prog 142 #[.pointer (some ⟨b, 0, none⟩)] w fun e w' => e = .returned (.bool false) ∧ Ext w w' := by
  obtain ⟨c0, c1, c2, c3, c4, c5, c6, c7, c8, c9, c10, c11, c12, lr, lc, lg, R, C, G⟩ := h
  clear R C G
  have p0 := withinB_true q0
  have p1 : (0 : Int) ≤ x.room := by omega
  have q2b : (x.cells.length : Int) ≤ 2 * x.room := of_decide_eq_true q2
  clear q2
  have q3b : x.gray.length ≤ x.cells.length := by have := of_decide_eq_true q3; omega
  clear q3
  have q1b : (x.regs.length : Int) = 16 := by simpa using q1
  clear q1
  go_enter Tryz.func142, Tryz.ntmps142
  go_wp2_with fail
  simp only [List.append]
  refine wp_region_quiet_lit (by kernel_rfl) lim_lex ?_
  repeat (go_big_quiet_step ((go_at_call 74; first | (refine Calls.quiet_of_same (within_is _ _ _ true ?_ _); assumption) | (refine Calls.quiet_of_same (within_is _ _ _ false ?_ _); assumption))))
  refine wpQuiet_nil ?_
  intro _ hw'
  obtain ⟨nq, hw''⟩ := hw'
  subst hw''
  go_wp2_with fail
  go_ret
  exact ⟨rfl, Ext.drewN (Ext.refl w) _⟩

end Go.Proofs.YtkabcfhemljnbaaGreat

namespace Go.Proofs.YtkabcfhemljnbaaGreat
open Go.RowKit
attribute [local go_sem ↓] Go.wp_at_zero Go.wp_at_succ

set_option maxRecDepth 100000 in
set_option maxHeartbeats 4000000 in
theorem limits_9 (x : Hp) (b : Nat) (w : World) {ar : Option Addr} {kr : Nat} {ac : Option Addr} {kc : Nat} {ag : Option Addr} {kg : Nat} (h : HAt w b x ar kr ac kc ag kg) (q0 : withinB x.room 1 4000 = true) (q1 : ((x.regs.length : Int) == 16) = true) (q2 : decide ((x.cells.length : Int) ≤ 2 * x.room) = true) (q3 : decide ((x.gray.length : Int) ≤ (x.cells.length : Int)) = true) (q4 : withinB x.born 0 1000000000 = true) (q5 : withinB x.rounds 0 1000000000 = true) (q6 : withinB x.forced 0 1000000000 = true) (q7 : withinB x.per 0 64 = true) (q8 : withinB x.start 0 4000 = true) (q9 : withinB x.phase 0 6 = false) :
    Calls Tryz.prog 142 #[.pointer (some ⟨b, 0, none⟩)] w fun e w' => e = .returned (.bool false) ∧ Ext w w' := by
  obtain ⟨c0, c1, c2, c3, c4, c5, c6, c7, c8, c9, c10, c11, c12, lr, lc, lg, R, C, G⟩ := h
  clear R C G
  have p0 := withinB_true q0
  have p1 : (0 : Int) ≤ x.room := by omega
  have q2b : (x.cells.length : Int) ≤ 2 * x.room := of_decide_eq_true q2
  clear q2
  have q3b : x.gray.length ≤ x.cells.length := by have := of_decide_eq_true q3; omega
  clear q3
  have q1b : (x.regs.length : Int) = 16 := by simpa using q1
  clear q1
  go_enter Tryz.func142, Tryz.ntmps142
  go_wp2_with fail
  simp only [List.append]
  refine wp_region_quiet_lit (by kernel_rfl) lim_lex ?_
  repeat (go_big_quiet_step ((go_at_call 74; first | (refine Calls.quiet_of_same (within_is _ _ _ true ?_ _); assumption) | (refine Calls.quiet_of_same (within_is _ _ _ false ?_ _); assumption))))
  refine wpQuiet_nil ?_
  intro _ hw'
  obtain ⟨nq, hw''⟩ := hw'
  subst hw''
  go_wp2_with fail
  go_ret
  exact ⟨rfl, Ext.drewN (Ext.refl w) _⟩

set_option maxRecDepth 100000 in
set_option maxHeartbeats 4000000 in
theorem limits_8 (x : Hp) (b : Nat) (w : World) {ar : Option Addr} {kr : Nat} {ac : Option Addr} {kc : Nat} {ag : Option Addr} {kg : Nat} (h : HAt w b x ar kr ac kc ag kg) (q0 : withinB x.room 1 4000 = true) (q1 : ((x.regs.length : Int) == 16) = true) (q2 : decide ((x.cells.length : Int) ≤ 2 * x.room) = true) (q3 : decide ((x.gray.length : Int) ≤ (x.cells.length : Int)) = true) (q4 : withinB x.born 0 1000000000 = true) (q5 : withinB x.rounds 0 1000000000 = true) (q6 : withinB x.forced 0 1000000000 = true) (q7 : withinB x.per 0 64 = true) (q8 : withinB x.start 0 4000 = false) :
    Calls Tryz.prog 142 #[.pointer (some ⟨b, 0, none⟩)] w fun e w' => e = .returned (.bool false) ∧ Ext w w' := by
  obtain ⟨c0, c1, c2, c3, c4, c5, c6, c7, c8, c9, c10, c11, c12, lr, lc, lg, R, C, G⟩ := h
  clear R C G
  have p0 := withinB_true q0
  have p1 : (0 : Int) ≤ x.room := by omega
  have q2b : (x.cells.length : Int) ≤ 2 * x.room := of_decide_eq_true q2
  clear q2
  have q3b : x.gray.length ≤ x.cells.length := by have := of_decide_eq_true q3; omega
  clear q3
  have q1b : (x.regs.length : Int) = 16 := by simpa using q1
  clear q1
  go_enter Tryz.func142, Tryz.ntmps142
  go_wp2_with fail
  simp only [List.append]
  refine wp_region_quiet_lit (by kernel_rfl) lim_lex ?_
  repeat (go_big_quiet_step ((go_at_call 74; first | (refine Calls.quiet_of_same (within_is _ _ _ true ?_ _); assumption) | (refine Calls.quiet_of_same (within_is _ _ _ false ?_ _); assumption))))
  refine wpQuiet_nil ?_
  intro _ hw'
  obtain ⟨nq, hw''⟩ := hw'
  subst hw''
  go_wp2_with fail
  go_ret
  exact ⟨rfl, Ext.drewN (Ext.refl w) _⟩

set_option maxRecDepth 100000 in
set_option maxHeartbeats 4000000 in
theorem limits_0 (x : Hp) (b : Nat) (w : World) {ar : Option Addr} {kr : Nat} {ac : Option Addr} {kc : Nat} {ag : Option Addr} {kg : Nat} (h : HAt w b x ar kr ac kc ag kg) (q0 : withinB x.room 1 4000 = false) :
    Calls Tryz.prog 142 #[.pointer (some ⟨b, 0, none⟩)] w fun e w' => e = .returned (.bool false) ∧ Ext w w' := by
  obtain ⟨c0, c1, c2, c3, c4, c5, c6, c7, c8, c9, c10, c11, c12, lr, lc, lg, R, C, G⟩ := h
  clear R C G
  go_enter Tryz.func142, Tryz.ntmps142
  go_wp2_with fail
  simp only [List.append]
  refine wp_region_quiet_lit (by kernel_rfl) lim_lex ?_
  repeat (go_big_quiet_step ((go_at_call 74; first | (refine Calls.quiet_of_same (within_is _ _ _ true ?_ _); assumption) | (refine Calls.quiet_of_same (within_is _ _ _ false ?_ _); assumption))))
  refine wpQuiet_nil ?_
  intro _ hw'
  obtain ⟨nq, hw''⟩ := hw'
  subst hw''
  go_wp2_with fail
  go_ret
  exact ⟨rfl, Ext.drewN (Ext.refl w) _⟩

set_option maxRecDepth 100000 in
set_option maxHeartbeats 4000000 in
theorem limits_1 (x : Hp) (b : Nat) (w : World) {ar : Option Addr} {kr : Nat} {ac : Option Addr} {kc : Nat} {ag : Option Addr} {kg : Nat} (h : HAt w b x ar kr ac kc ag kg) (q0 : withinB x.room 1 4000 = true) (q1 : ((x.regs.length : Int) == 16) = false) :
    Calls Tryz.prog 142 #[.pointer (some ⟨b, 0, none⟩)] w fun e w' => e = .returned (.bool false) ∧ Ext w w' := by
  obtain ⟨c0, c1, c2, c3, c4, c5, c6, c7, c8, c9, c10, c11, c12, lr, lc, lg, R, C, G⟩ := h
  clear R C G
  go_enter Tryz.func142, Tryz.ntmps142
  go_wp2_with fail
  simp only [List.append]
  refine wp_region_quiet_lit (by kernel_rfl) lim_lex ?_
  repeat (go_big_quiet_step ((go_at_call 74; first | (refine Calls.quiet_of_same (within_is _ _ _ true ?_ _); assumption) | (refine Calls.quiet_of_same (within_is _ _ _ false ?_ _); assumption))))
  refine wpQuiet_nil ?_
  intro _ hw'
  obtain ⟨nq, hw''⟩ := hw'
  subst hw''
  go_wp2_with fail
  go_ret
  exact ⟨rfl, Ext.drewN (Ext.refl w) _⟩

end Go.Proofs.YtkabcfhemljnbaaGreat
