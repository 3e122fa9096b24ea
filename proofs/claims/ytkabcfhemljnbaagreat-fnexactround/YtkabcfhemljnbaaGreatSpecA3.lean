import Derived.Test.YtkabcfhemljnbaaGreatSpecA
import Derived.Deep.QuietTactic
import Derived.BigQuiet
namespace Go.Proofs.YtkabcfhemljnbaaGreat
open Go.RowKit
attribute [local go_sem ↓] Go.wp_at_zero Go.wp_at_succ

set_option maxRecDepth 100000 in
set_option maxHeartbeats 1000000 in
theorem l1sizes_10 (x : Hp) (b : Nat) (w : World) {ar : Option Addr} {kr : Nat} {ac : Option Addr} {kc : Nat} {ag : Option Addr} {kg : Nat} (h : HAt w b x ar kr ac kc ag kg) (q0 : l1inB x.room 1 4000 = true) (q1 : ((x.regs.length : Int) != 16) = false) (q2 : decide (2 * x.room < (x.cells.length : Int)) = false) (q3 : decide (x.cells.length < x.gray.length) = false) (q4 : l1inB x.born 0 1000000000 = true) (q5 : l1inB x.rounds 0 1000000000 = true) (q6 : l1inB x.forced 0 1000000000 = true) (q7 : l1inB x.per 0 64 = true) (q8 : l1inB x.start 0 4000 = true) (q9 : l1inB x.phase 0 6 = true) (q10 : l1inB x.hand 0 (x.cells.length : Int) = false) :
    Calls Tryz.prog 87 #[.pointer (some ⟨b, 0, none⟩)] w fun e w' => e = .returned (.bool false) ∧ Ext w w' := by
  obtain ⟨c0, c1, c2, c3, c4, c5, c6, c7, c8, c9, c10, c11, c12, lr, lc, lg, R, C, G⟩ := h
  clear R C G
  have p0 := l1inB_true q0
  go_enter Tryz.func87, Tryz.ntmps87
  go_wp2_with fail
  go_quiet ((go_at_call 133; exact Calls.quiet_of_same (l1in_any _ _ _ _)))
  go_wp2_with (go_at_call 133; refine (l1in_any _ _ _ _).mono ?_; rintro e w' ⟨rfl, rfl⟩)
  refine wp_region_quiet_lit (by kernel_rfl) (by kernel_rfl) ?_
  iterate 39 go_big_quiet_step ((go_at_call 133; first | (refine quiet2 (l1in_is _ _ _ true ?_ _); assumption) | (refine quiet2 (l1in_is _ _ _ false ?_ _); assumption)))
  refine wpQuiet_nil ?_
  intro w9 hw9
  obtain ⟨nq9, hw9⟩ := hw9
  have hx : Ext w w9 := by rw [hw9]; exact Ext.drewN (Ext.drewN (Ext.refl w) _) _
  clear hw9 c0 c1 c2 c3 c4 c5 c6 c7 c8 c9 c10 c11 c12 q0 q1 q2 q3 q4 q5 q6 q7 q8 q9
  go_wp2_with fail
  go_ret
  exact ⟨rfl, hx⟩

set_option maxRecDepth 100000 in
set_option maxHeartbeats 1000000 in
theorem l1sizes_11 (x : Hp) (b : Nat) (w : World) {ar : Option Addr} {kr : Nat} {ac : Option Addr} {kc : Nat} {ag : Option Addr} {kg : Nat} (h : HAt w b x ar kr ac kc ag kg) (q0 : l1inB x.room 1 4000 = true) (q1 : ((x.regs.length : Int) != 16) = false) (q2 : decide (2 * x.room < (x.cells.length : Int)) = false) (q3 : decide (x.cells.length < x.gray.length) = false) (q4 : l1inB x.born 0 1000000000 = true) (q5 : l1inB x.rounds 0 1000000000 = true) (q6 : l1inB x.forced 0 1000000000 = true) (q7 : l1inB x.per 0 64 = true) (q8 : l1inB x.start 0 4000 = true) (q9 : l1inB x.phase 0 6 = true) (q10 : l1inB x.hand 0 (x.cells.length : Int) = true) (q11 : l1inB x.sub 0 200 = false) :
    Calls Tryz.prog 87 #[.pointer (some ⟨b, 0, none⟩)] w fun e w' => e = .returned (.bool false) ∧ Ext w w' := by
  obtain ⟨c0, c1, c2, c3, c4, c5, c6, c7, c8, c9, c10, c11, c12, lr, lc, lg, R, C, G⟩ := h
  clear R C G
  have p0 := l1inB_true q0
  go_enter Tryz.func87, Tryz.ntmps87
  go_wp2_with fail
  go_quiet ((go_at_call 133; exact Calls.quiet_of_same (l1in_any _ _ _ _)))
  go_wp2_with (go_at_call 133; refine (l1in_any _ _ _ _).mono ?_; rintro e w' ⟨rfl, rfl⟩)
  refine wp_region_quiet_lit (by kernel_rfl) (by kernel_rfl) ?_
  iterate 39 go_big_quiet_step ((go_at_call 133; first | (refine quiet2 (l1in_is _ _ _ true ?_ _); assumption) | (refine quiet2 (l1in_is _ _ _ false ?_ _); assumption)))
  refine wpQuiet_nil ?_
  intro w9 hw9
  obtain ⟨nq9, hw9⟩ := hw9
  have hx : Ext w w9 := by rw [hw9]; exact Ext.drewN (Ext.drewN (Ext.refl w) _) _
  clear hw9 c0 c1 c2 c3 c4 c5 c6 c7 c8 c9 c10 c11 c12 q0 q1 q2 q3 q4 q5 q6 q7 q8 q9 q10
  go_wp2_with fail
  go_ret
  exact ⟨rfl, hx⟩

set_option maxRecDepth 100000 in
set_option maxHeartbeats 1000000 in
theorem l1sizes_12 (x : Hp) (b : Nat) (w : World) {ar : Option Addr} {kr : Nat} {ac : Option Addr} {kc : Nat} {ag : Option Addr} {kg : Nat} (h : HAt w b x ar kr ac kc ag kg) (q0 : l1inB x.room 1 4000 = true) (q1 : ((x.regs.length : Int) != 16) = false) (q2 : decide (2 * x.room < (x.cells.length : Int)) = false) (q3 : decide (x.cells.length < x.gray.length) = false) (q4 : l1inB x.born 0 1000000000 = true) (q5 : l1inB x.rounds 0 1000000000 = true) (q6 : l1inB x.forced 0 1000000000 = true) (q7 : l1inB x.per 0 64 = true) (q8 : l1inB x.start 0 4000 = true) (q9 : l1inB x.phase 0 6 = true) (q10 : l1inB x.hand 0 (x.cells.length : Int) = true) (q11 : l1inB x.sub 0 200 = true) :
    Calls Tryz.prog 87 #[.pointer (some ⟨b, 0, none⟩)] w fun e w' => e = .returned (.bool true) ∧ Ext w w' := by
  obtain ⟨c0, c1, c2, c3, c4, c5, c6, c7, c8, c9, c10, c11, c12, lr, lc, lg, R, C, G⟩ := h
  clear R C G
  have p0 := l1inB_true q0
  go_enter Tryz.func87, Tryz.ntmps87
  go_wp2_with fail
  go_quiet ((go_at_call 133; exact Calls.quiet_of_same (l1in_any _ _ _ _)))
  go_wp2_with (go_at_call 133; refine (l1in_any _ _ _ _).mono ?_; rintro e w' ⟨rfl, rfl⟩)
  refine wp_region_quiet_lit (by kernel_rfl) (by kernel_rfl) ?_
  iterate 39 go_big_quiet_step ((go_at_call 133; first | (refine quiet2 (l1in_is _ _ _ true ?_ _); assumption) | (refine quiet2 (l1in_is _ _ _ false ?_ _); assumption)))
  refine wpQuiet_nil ?_
  intro w9 hw9
  obtain ⟨nq9, hw9⟩ := hw9
  have hx : Ext w w9 := by rw [hw9]; exact Ext.drewN (Ext.drewN (Ext.refl w) _) _
  clear hw9 c0 c1 c2 c3 c4 c5 c6 c7 c8 c9 c10 c11 c12 q0 q1 q2 q3 q4 q5 q6 q7 q8 q9 q10
  go_wp2_with fail
  go_ret
  exact ⟨rfl, hx⟩

end Go.Proofs.YtkabcfhemljnbaaGreat
