import Derived.Test.YtbcmjcomdjdjaaaGreatSpecA
import Derived.Deep.QuietTactic
import Derived.BigQuiet
namespace Go.Proofs.YtbcmjcomdjdjaaaGreat
open Go.RowKit
attribute [local go_sem ↓] Go.wp_at_zero Go.wp_at_succ

set_option maxRecDepth 100000 in
set_option maxHeartbeats 1000000 in
theorem l1sizes_7 (x : Hp) (b : Nat) (w : World) {ar : Option Addr} {kr : Nat} {ac : Option Addr} {kc : Nat} {ag : Option Addr} {kg : Nat} (h : HAt w b x ar kr ac kc ag kg) (q0 : l1inB x.room 1 4000 = true) (q1 : ((x.regs.length : Int) != 16) = false) (q2 : decide (2 * x.room < (x.cells.length : Int)) = false) (q3 : decide (x.cells.length < x.gray.length) = false) (q4 : l1inB x.born 0 1000000000 = true) (q5 : l1inB x.rounds 0 1000000000 = true) (q6 : l1inB x.forced 0 1000000000 = true) (q7 : l1inB x.per 0 64 = false) :
    Calls Tryz.prog 37 #[.pointer (some ⟨b, 0, none⟩)] w fun e w' => e = .returned (.bool false) ∧ Ext w w' := by
  obtain ⟨c0, c1, c2, c3, c4, c5, c6, c7, c8, c9, c10, c11, c12, lr, lc, lg, R, C, G⟩ := h
  clear R C G
  have p0 := l1inB_true q0
  go_enter Tryz.func37, Tryz.ntmps37
  go_wp2_with fail
  go_quiet ((go_at_call 33; exact Calls.quiet_of_same (l1in_any _ _ _ _)))
  go_wp2_with (go_at_call 33; refine (l1in_any _ _ _ _).mono ?_; rintro e w' ⟨rfl, rfl⟩)
  refine wp_region_quiet_lit (by kernel_rfl) (by kernel_rfl) ?_
  iterate 39 go_big_quiet_step ((go_at_call 33; first | (refine quiet2 (l1in_is _ _ _ true ?_ _); assumption) | (refine quiet2 (l1in_is _ _ _ false ?_ _); assumption)))
  refine wpQuiet_nil ?_
  intro w9 hw9
  obtain ⟨nq9, hw9⟩ := hw9
  have hx : Ext w w9 := by rw [hw9]; exact Ext.drewN (Ext.drewN (Ext.refl w) _) _
  clear hw9 c0 c1 c2 c3 c4 c5 c6 c7 c8 c9 c10 c11 c12 q0 q1 q2 q3 q4 q5 q6
  go_wp2_with fail
  go_ret
  exact ⟨rfl, hx⟩

set_option maxRecDepth 100000 in
set_option maxHeartbeats 1000000 in
theorem l1sizes_8 (x : Hp) (b : Nat) (w : World) {ar : Option Addr} {kr : Nat} {ac : Option Addr} {kc : Nat} {ag : Option Addr} {kg : Nat} (h : HAt w b x ar kr ac kc ag kg) (q0 : l1inB x.room 1 4000 = true) (q1 : ((x.regs.length : Int) != 16) = false) (q2 : decide (2 * x.room < (x.cells.length : Int)) = false) (q3 : decide (x.cells.length < x.gray.length) = false) (q4 : l1inB x.born 0 1000000000 = true) (q5 : l1inB x.rounds 0 1000000000 = true) (q6 : l1inB x.forced 0 1000000000 = true) (q7 : l1inB x.per 0 64 = true) (q8 : l1inB x.start 0 4000 = false) :
    Calls Tryz.prog 37 #[.pointer (some ⟨b, 0, none⟩)] w fun e w' => e = .returned (.bool false) ∧ Ext w w' := by
  obtain ⟨c0, c1, c2, c3, c4, c5, c6, c7, c8, c9, c10, c11, c12, lr, lc, lg, R, C, G⟩ := h
  clear R C G
  have p0 := l1inB_true q0
  go_enter Tryz.func37, Tryz.ntmps37
  go_wp2_with fail
  go_quiet ((go_at_call 33; exact Calls.quiet_of_same (l1in_any _ _ _ _)))
  go_wp2_with (go_at_call 33; refine (l1in_any _ _ _ _).mono ?_; rintro e w' ⟨rfl, rfl⟩)
  refine wp_region_quiet_lit (by kernel_rfl) (by kernel_rfl) ?_
  iterate 39 go_big_quiet_step ((go_at_call 33; first | (refine quiet2 (l1in_is _ _ _ true ?_ _); assumption) | (refine quiet2 (l1in_is _ _ _ false ?_ _); assumption)))
  refine wpQuiet_nil ?_
  intro w9 hw9
  obtain ⟨nq9, hw9⟩ := hw9
  have hx : Ext w w9 := by rw [hw9]; exact Ext.drewN (Ext.drewN (Ext.refl w) _) _
  clear hw9 c0 c1 c2 c3 c4 c5 c6 c7 c8 c9 c10 c11 c12 q0 q1 q2 q3 q4 q5 q6 q7
  go_wp2_with fail
  go_ret
  exact ⟨rfl, hx⟩

set_option maxRecDepth 100000 in
set_option maxHeartbeats 1000000 in
theorem l1sizes_9 (x : Hp) (b : Nat) (w : World) {ar : Option Addr} {kr : Nat} {ac : Option Addr} {kc : Nat} {ag : Option Addr} {kg : Nat} (h : HAt w b x ar kr ac kc ag kg) (q0 : l1inB x.room 1 4000 = true) (q1 : ((x.regs.length : Int) != 16) = false) (q2 : decide (2 * x.room < (x.cells.length : Int)) = false) (q3 : decide (x.cells.length < x.gray.length) = false) (q4 : l1inB x.born 0 1000000000 = true) (q5 : l1inB x.rounds 0 1000000000 = true) (q6 : l1inB x.forced 0 1000000000 = true) (q7 : l1inB x.per 0 64 = true) (q8 : l1inB x.start 0 4000 = true) (q9 : l1inB x.phase 0 6 = false) :
    Calls Tryz.prog 37 #[.pointer (some ⟨b, 0, none⟩)] w fun e w' => e = .returned (.bool false) ∧ Ext w w' := by
  obtain ⟨c0, c1, c2, c3, c4, c5, c6, c7, c8, c9, c10, c11, c12, lr, lc, lg, R, C, G⟩ := h
  clear R C G
  have p0 := l1inB_true q0
  go_enter Tryz.func37, Tryz.ntmps37
  go_wp2_with fail
  go_quiet ((go_at_call 33; exact Calls.quiet_of_same (l1in_any _ _ _ _)))
  go_wp2_with (go_at_call 33; refine (l1in_any _ _ _ _).mono ?_; rintro e w' ⟨rfl, rfl⟩)
  refine wp_region_quiet_lit (by kernel_rfl) (by kernel_rfl) ?_
  iterate 39 go_big_quiet_step ((go_at_call 33; first | (refine quiet2 (l1in_is _ _ _ true ?_ _); assumption) | (refine quiet2 (l1in_is _ _ _ false ?_ _); assumption)))
  refine wpQuiet_nil ?_
  intro w9 hw9
  obtain ⟨nq9, hw9⟩ := hw9
  have hx : Ext w w9 := by rw [hw9]; exact Ext.drewN (Ext.drewN (Ext.refl w) _) _
  clear hw9 c0 c1 c2 c3 c4 c5 c6 c7 c8 c9 c10 c11 c12 q0 q1 q2 q3 q4 q5 q6 q7 q8
  go_wp2_with fail
  go_ret
  exact ⟨rfl, hx⟩

end Go.Proofs.YtbcmjcomdjdjaaaGreat

namespace Go.Proofs.YtbcmjcomdjdjaaaGreat
open Go.RowKit
attribute [local go_sem ↓] Go.wp_at_zero Go.wp_at_succ

set_option maxRecDepth 100000 in
set_option maxHeartbeats 1000000 in
theorem l1sizes_10 (x : Hp) (b : Nat) (w : World) {ar : Option Addr} {kr : Nat} {ac : Option Addr} {kc : Nat} {ag : Option Addr} {kg : Nat} (h : HAt w b x ar kr ac kc ag kg) (q0 : l1inB x.room 1 4000 = true) (q1 : ((x.regs.length : Int) != 16) = false) (q2 : decide (2 * x.room < (x.cells.length : Int)) = false) (q3 : decide (x.cells.length < x.gray.length) = false) (q4 : l1inB x.born 0 1000000000 = true) (q5 : l1inB x.rounds 0 1000000000 = true) (q6 : l1inB x.forced 0 1000000000 = true) (q7 : l1inB x.per 0 64 = true) (q8 : l1inB x.start 0 4000 = true) (q9 : l1inB x.phase 0 6 = true) (q10 : l1inB x.hand 0 (x.cells.length : Int) = false) :
    Calls Tryz.prog 37 #[.pointer (some ⟨b, 0, none⟩)] w fun e w' => e = .returned (.bool false) ∧ Ext w w' := by
  obtain ⟨c0, c1, c2, c3, c4, c5, c6, c7, c8, c9, c10, c11, c12, lr, lc, lg, R, C, G⟩ := h
  clear R C G
  have p0 := l1inB_true q0
  go_enter Tryz.func37, Tryz.ntmps37
  go_wp2_with fail
  go_quiet ((go_at_call 33; exact Calls.quiet_of_same (l1in_any _ _ _ _)))
  go_wp2_with (go_at_call 33; refine (l1in_any _ _ _ _).mono ?_; rintro e w' ⟨rfl, rfl⟩)
  refine wp_region_quiet_lit (by kernel_rfl) (by kernel_rfl) ?_
  iterate 39 go_big_quiet_step ((go_at_call 33; first | (refine quiet2 (l1in_is _ _ _ true ?_ _); assumption) | (refine quiet2 (l1in_is _ _ _ false ?_ _); assumption)))
  refine wpQuiet_nil ?_
  intro w9 hw9
  obtain ⟨nq9, hw9⟩ := hw9
  have hx : Ext w w9 := by rw [hw9]; exact Ext.drewN (Ext.drewN (Ext.refl w) _) _
  clear hw9 c0 c1 c2 c3 c4 c5 c6 c7 c8 c9 c10 c11 c12 q0 q1 q2 q3 q4 q5 q6 q7 q8 q9
  go_wp2_with fail
  go_ret
  exact ⟨rfl, hx⟩

set_option maxRecDepth 100000 in
set_option maxHeartbeats 1000000 in
theorem l1sizes_11 (x : Hp) (b : Nat) (w : World) {ar : Option Addr} {kr : Nat} {ac : Option Addr} {kc : Nat} {ag : Option Addr} {kg : Nat} (h : HAt w b x ar kr ac kc ag kg) (q0 : l1inB x.room 1 4000 = true) (q1 : ((x.regs.length : Int) != 16) = false) (q2 : decide (2 * x.room < (x.cells.length : Int)) = false) (q3 : decide (x.cells.length < x.gray.length) = false) (q4 : l1inB x.born 0 1000000000 = true) (q5 : l1inB x.rounds 0 1000000000 = true) (q6 : l1inB x.forced 0 1000000000 = true) (q7 : l1inB x.per 0 64 = true) (q8 : l1inB x.start 0 4000 = true) (q9 : l1inB x.phase 0 6 = true) (q10 : l1inB x.hand 0 (x.cells.length : Int) = true) (q11 : l1inB x.sub 0 200 = false) :
    Calls Tryz.prog 37 #[.pointer (some ⟨b, 0, none⟩)] w fun e w' => e = .returned (.bool false) ∧ Ext w w' := by
  obtain ⟨c0, c1, c2, c3, c4, c5, c6, c7, c8, c9, c10, c11, c12, lr, lc, lg, R, C, G⟩ := h
  clear R C G
  have p0 := l1inB_true q0
  go_enter Tryz.func37, Tryz.ntmps37
  go_wp2_with fail
  go_quiet ((go_at_call 33; exact Calls.quiet_of_same (l1in_any _ _ _ _)))
  go_wp2_with (go_at_call 33; refine (l1in_any _ _ _ _).mono ?_; rintro e w' ⟨rfl, rfl⟩)
  refine wp_region_quiet_lit (by kernel_rfl) (by kernel_rfl) ?_
  iterate 39 go_big_quiet_step ((go_at_call 33; first | (refine quiet2 (l1in_is _ _ _ true ?_ _); assumption) | (refine quiet2 (l1in_is _ _ _ false ?_ _); assumption)))
  refine wpQuiet_nil ?_
  intro w9 hw9
  obtain ⟨nq9, hw9⟩ := hw9
  have hx : Ext w w9 := by rw [hw9]; exact Ext.drewN (Ext.drewN (Ext.refl w) _) _
  clear hw9 c0 c1 c2 c3 c4 c5 c6 c7 c8 c9 c10 c11 c12 q0 q1 q2 q3 q4 q5 q6 q7 q8 q9 q10
  go_wp2_with fail
  go_ret
  exact ⟨rfl, hx⟩

set_option maxRecDepth 100000 in
set_option maxHeartbeats 1000000 in
theorem l1sizes_12 (x : Hp) (b : Nat) (w : World) {ar : Option Addr} {kr : Nat} {ac : Option Addr} {kc : Nat} {ag : Option Addr} {kg : Nat} (h : HAt w b x ar kr ac kc ag kg) (q0 : l1inB x.room 1 4000 = true) (q1 : ((x.regs.length : Int) != 16) = false) (q2 : decide (2 * x.room < (x.cells.length : Int)) = false) (q3 : decide (x.cells.length < x.gray.length) = false) (q4 : l1inB x.born 0 1000000000 = true) (q5 : l1inB x.rounds 0 1000000000 = true) (q6 : l1inB x.forced 0 1000000000 = true) (q7 : l1inB x.per 0 64 = true) (q8 : l1inB x.start 0 4000 = true) (q9 : l1inB x.phase 0 6 = true) (q10 : l1inB x.hand 0 (x.cells.length : Int) = true) (q11 : l1inB x.sub 0 200 = true) :
    Calls Tryz.prog 37 #[.pointer (some ⟨b, 0, none⟩)] w fun e w' => e = .returned (.bool true) ∧ Ext w w' := by
  obtain ⟨c0, c1, c2, c3, c4, c5, c6, c7, c8, c9, c10, c11, c12, lr, lc, lg, R, C, G⟩ := h
  clear R C G
  have p0 := l1inB_true q0
  go_enter Tryz.func37, Tryz.ntmps37
  go_wp2_with fail
  go_quiet ((go_at_call 33; exact Calls.quiet_of_same (l1in_any _ _ _ _)))
  go_wp2_with (go_at_call 33; refine (l1in_any _ _ _ _).mono ?_; rintro e w' ⟨rfl, rfl⟩)
  refine wp_region_quiet_lit (by kernel_rfl) (by kernel_rfl) ?_
  iterate 39 go_big_quiet_step ((go_at_call 33; first | (refine quiet2 (l1in_is _ _ _ true ?_ _); assumption) | (refine quiet2 (l1in_is _ _ _ false ?_ _); assumption)))
  refine wpQuiet_nil ?_
  intro w9 hw9
  obtain ⟨nq9, hw9⟩ := hw9
  have hx : Ext w w9 := by rw [hw9]; exact Ext.drewN (Ext.drewN (Ext.refl w) _) _
  clear hw9 c0 c1 c2 c3 c4 c5 c6 c7 c8 c9 c10 c11 c12 q0 q1 q2 q3 q4 q5 q6 q7 q8 q9 q10
  go_wp2_with fail
  go_ret
  exact ⟨rfl, hx⟩

end Go.Proofs.YtbcmjcomdjdjaaaGreat

namespace Go.Proofs.YtbcmjcomdjdjaaaGreat
open Go.RowKit
attribute [local go_sem ↓] Go.wp_at_zero Go.wp_at_succ

theorem l1sizes_any (x : Hp) (b : Nat) (w : World) {ar : Option Addr} {kr : Nat} {ac : Option Addr} {kc : Nat} {ag : Option Addr} {kg : Nat} (h : HAt w b x ar kr ac kc ag kg) :
    Calls Tryz.prog 37 #[.pointer (some ⟨b, 0, none⟩)] w fun e w' => ∃ r : Bool, e = .returned (.bool r) ∧ (r = true ↔ R1 x) ∧ Ext w w' := by
  cases q0 : l1inB x.room 1 4000
  · exact (l1sizes_0 x b w h q0).mono fun e w' ⟨he, hx⟩ => ⟨false, he, ⟨fun f => by simp at f, fun r => False.elim (l1inB_false q0 r.room)⟩, hx⟩
  ·
    cases q1 : ((x.regs.length : Int) != 16)
    rotate_left
    · exact (l1sizes_1 x b w h q0 q1).mono fun e w' ⟨he, hx⟩ => ⟨false, he, ⟨fun f => by simp at f, fun r => False.elim ((by have := r.regs; simp at q1; omega))⟩, hx⟩
    ·
      cases q2 : decide (2 * x.room < (x.cells.length : Int))
      rotate_left
      · exact (l1sizes_2 x b w h q0 q1 q2).mono fun e w' ⟨he, hx⟩ => ⟨false, he, ⟨fun f => by simp at f, fun r => False.elim ((by have := r.cells; simp at q2; omega))⟩, hx⟩
      ·
        cases q3 : decide (x.cells.length < x.gray.length)
        rotate_left
        · exact (l1sizes_3 x b w h q0 q1 q2 q3).mono fun e w' ⟨he, hx⟩ => ⟨false, he, ⟨fun f => by simp at f, fun r => False.elim ((by have := r.gray; simp at q3; omega))⟩, hx⟩
        ·
          cases q4 : l1inB x.born 0 1000000000
          · exact (l1sizes_4 x b w h q0 q1 q2 q3 q4).mono fun e w' ⟨he, hx⟩ => ⟨false, he, ⟨fun f => by simp at f, fun r => False.elim (l1inB_false q4 r.born)⟩, hx⟩
          ·
            cases q5 : l1inB x.rounds 0 1000000000
            · exact (l1sizes_5 x b w h q0 q1 q2 q3 q4 q5).mono fun e w' ⟨he, hx⟩ => ⟨false, he, ⟨fun f => by simp at f, fun r => False.elim (l1inB_false q5 r.rounds)⟩, hx⟩
            ·
              cases q6 : l1inB x.forced 0 1000000000
              · exact (l1sizes_6 x b w h q0 q1 q2 q3 q4 q5 q6).mono fun e w' ⟨he, hx⟩ => ⟨false, he, ⟨fun f => by simp at f, fun r => False.elim (l1inB_false q6 r.forced)⟩, hx⟩
              ·
                cases q7 : l1inB x.per 0 64
                · exact (l1sizes_7 x b w h q0 q1 q2 q3 q4 q5 q6 q7).mono fun e w' ⟨he, hx⟩ => ⟨false, he, ⟨fun f => by simp at f, fun r => False.elim (l1inB_false q7 r.per)⟩, hx⟩
                ·
                  cases q8 : l1inB x.start 0 4000
                  · exact (l1sizes_8 x b w h q0 q1 q2 q3 q4 q5 q6 q7 q8).mono fun e w' ⟨he, hx⟩ => ⟨false, he, ⟨fun f => by simp at f, fun r => False.elim (l1inB_false q8 r.start)⟩, hx⟩
                  ·
                    cases q9 : l1inB x.phase 0 6
                    · exact (l1sizes_9 x b w h q0 q1 q2 q3 q4 q5 q6 q7 q8 q9).mono fun e w' ⟨he, hx⟩ => ⟨false, he, ⟨fun f => by simp at f, fun r => False.elim (l1inB_false q9 r.phase)⟩, hx⟩
                    ·
                      cases q10 : l1inB x.hand 0 (x.cells.length : Int)
                      · exact (l1sizes_10 x b w h q0 q1 q2 q3 q4 q5 q6 q7 q8 q9 q10).mono fun e w' ⟨he, hx⟩ => ⟨false, he, ⟨fun f => by simp at f, fun r => False.elim (l1inB_false q10 r.hand)⟩, hx⟩
                      ·
                        cases q11 : l1inB x.sub 0 200
                        · exact (l1sizes_11 x b w h q0 q1 q2 q3 q4 q5 q6 q7 q8 q9 q10 q11).mono fun e w' ⟨he, hx⟩ => ⟨false, he, ⟨fun f => by simp at f, fun r => False.elim (l1inB_false q11 r.sub)⟩, hx⟩
                        ·
                          refine (l1sizes_12 x b w h q0 q1 q2 q3 q4 q5 q6 q7 q8 q9 q10 q11).mono fun e w' ⟨he, hx⟩ => ⟨true, he, ⟨fun _ => ?_, fun _ => rfl⟩, hx⟩
                          refine ⟨l1inB_true q0, by simp at q1; omega, by simp at q2; omega, by simp at q3; omega, l1inB_true q4, l1inB_true q5, l1inB_true q6, l1inB_true q7, l1inB_true q8, l1inB_true q9, l1inB_true q10, l1inB_true q11⟩

end Go.Proofs.YtbcmjcomdjdjaaaGreat
