import Derived.Test.YtbcmjcomdjdjaaaGreatImpB
namespace Go.Proofs.YtbcmjcomdjdjaaaGreat
open Go.RowKit
attribute [local go_sem ↓] Go.wp_at_zero Go.wp_at_succ

def bareC (c : Cl) : Bool := (c.kind == 0) && (c.weak == 0) && (c.last == 0) && (c.born == 0) && (c.color == 0) && ((c.prs.length : Int) == 0)
theorem bareC_iff {c : Cl} : bareC c = true ↔ Bare c := by
  unfold bareC Bare
  simp only [Bool.and_eq_true, beq_iff_eq]
  constructor
  · intro h; omega
  · intro h; omega

set_option maxHeartbeats 2000000 in
theorem bare_any (c : Cl) (bn q bc r : Nat) (ap : Option Addr) (kp : Nat) (w : World) (m1 : w.cell? ⟨bn, q + 1, none⟩ = some (.pointer (some ⟨bc, r, none⟩))) (h : CAt w bc r c ap kp) :
    Calls Tryz.prog 129 #[.pointer (some ⟨bn, q, none⟩)] w fun e w' => e = .returned (.bool (bareC c)) ∧ w' = w := by
  obtain ⟨p0, p1, p2, p3, p4, p5, p6, p7, lp, P⟩ := h
  clear P p0 p6
  cases q0 : (c.kind == 0)
  · have E := hide (show bareC c = false by simp [bareC, q0])
    go_enter Tryz.func129, Tryz.ntmps129
    go_wp2
    go_ret
    exact ⟨by rw [unhide E]; rfl, rfl⟩
  cases q1 : (c.weak == 0)
  · have E := hide (show bareC c = false by simp [bareC, q0, q1])
    go_enter Tryz.func129, Tryz.ntmps129
    go_wp2
    go_ret
    exact ⟨by rw [unhide E]; rfl, rfl⟩
  cases q2 : (c.last == 0)
  · have E := hide (show bareC c = false by simp [bareC, q0, q1, q2])
    go_enter Tryz.func129, Tryz.ntmps129
    go_wp2
    go_ret
    exact ⟨by rw [unhide E]; rfl, rfl⟩
  cases q3 : (c.born == 0)
  · have E := hide (show bareC c = false by simp [bareC, q0, q1, q2, q3])
    go_enter Tryz.func129, Tryz.ntmps129
    go_wp2
    go_ret
    exact ⟨by rw [unhide E]; rfl, rfl⟩
  cases q4 : (c.color == 0)
  · have E := hide (show bareC c = false by simp [bareC, q0, q1, q2, q3, q4])
    go_enter Tryz.func129, Tryz.ntmps129
    go_wp2
    go_ret
    exact ⟨by rw [unhide E]; rfl, rfl⟩
  cases q5 : ((c.prs.length : Int) == 0)
  · have E := hide (show bareC c = false by simp [bareC, q0, q1, q2, q3, q4, q5])
    go_enter Tryz.func129, Tryz.ntmps129
    go_wp2
    go_ret
    exact ⟨by rw [unhide E]; rfl, rfl⟩
  have E := hide (show bareC c = true by simp only [bareC, q0, q1, q2, q3, q4, q5, Bool.and_self])
  go_enter Tryz.func129, Tryz.ntmps129
  go_wp2
  go_ret
  exact ⟨by rw [unhide E]; rfl, rfl⟩

theorem bare_is (c : Cl) (bn q bc r : Nat) (ap : Option Addr) (kp : Nat) (s : Bool) (hs : bareC c = s) (w : World) (m1 : w.cell? ⟨bn, q + 1, none⟩ = some (.pointer (some ⟨bc, r, none⟩))) (h : CAt w bc r c ap kp) :
    Calls Tryz.prog 129 #[.pointer (some ⟨bn, q, none⟩)] w fun e w' => e = .returned (.bool s) ∧ w' = w := by
  rw [← hs]; exact bare_any c bn q bc r ap kp w m1 h

theorem used_lex : Region.lexB .any (third Tryz.f130.body) = true := lexB_rows _ _ (by kernel_rfl) (by kernel_rfl)

set_option maxRecDepth 100000 in
set_option maxHeartbeats 4000000 in
theorem used_0 (x : Hp) (c : Cl) (b bn q bc r : Nat) (ap : Option Addr) (kp : Nat) (w : World) (_ : w.cell? ⟨b, 2, none⟩ = some (iv x.born)) (m1 : w.cell? ⟨bn, q + 1, none⟩ = some (.pointer (some ⟨bc, r, none⟩))) (h : CAt w bc r c ap kp) (q0 : withinB c.kind 0 255 = false) :
    Calls Tryz.prog 130 #[.pointer (some ⟨b, 0, none⟩), .pointer (some ⟨bn, q, none⟩)] w fun e w' => e = .returned (.bool false) ∧ Ext w w' := by
  obtain ⟨p0, p1, p2, p3, p4, p5, p6, p7, lp, P⟩ := h
  clear P p0
  go_enter Tryz.func130, Tryz.ntmps130
  go_wp2_with fail
  try simp only [List.append]
  refine wp_region_quiet_lit (by kernel_rfl) used_lex ?_
  repeat (go_big_quiet_step ((go_at_call 83; first | (refine Calls.quiet_of_same (within_is _ _ _ true ?_ _); assumption) | (refine Calls.quiet_of_same (within_is _ _ _ false ?_ _); assumption))))
  refine wpQuiet_nil ?_
  intro _ hw'
  obtain ⟨nq, hw''⟩ := hw'
  subst hw''
  go_wp2_with fail
  go_ret
  exact ⟨rfl, Ext.drewN (Ext.refl w) _⟩

set_option maxRecDepth 100000 in
set_option maxHeartbeats 4000000 in
theorem used_1 (x : Hp) (c : Cl) (b bn q bc r : Nat) (ap : Option Addr) (kp : Nat) (w : World) (_ : w.cell? ⟨b, 2, none⟩ = some (iv x.born)) (m1 : w.cell? ⟨bn, q + 1, none⟩ = some (.pointer (some ⟨bc, r, none⟩))) (h : CAt w bc r c ap kp) (q0 : withinB c.kind 0 255 = true) (q1 : withinB c.weak 0 3 = false) :
    Calls Tryz.prog 130 #[.pointer (some ⟨b, 0, none⟩), .pointer (some ⟨bn, q, none⟩)] w fun e w' => e = .returned (.bool false) ∧ Ext w w' := by
  obtain ⟨p0, p1, p2, p3, p4, p5, p6, p7, lp, P⟩ := h
  clear P p0
  go_enter Tryz.func130, Tryz.ntmps130
  go_wp2_with fail
  try simp only [List.append]
  refine wp_region_quiet_lit (by kernel_rfl) used_lex ?_
  repeat (go_big_quiet_step ((go_at_call 83; first | (refine Calls.quiet_of_same (within_is _ _ _ true ?_ _); assumption) | (refine Calls.quiet_of_same (within_is _ _ _ false ?_ _); assumption))))
  refine wpQuiet_nil ?_
  intro _ hw'
  obtain ⟨nq, hw''⟩ := hw'
  subst hw''
  go_wp2_with fail
  go_ret
  exact ⟨rfl, Ext.drewN (Ext.refl w) _⟩

set_option maxRecDepth 100000 in
set_option maxHeartbeats 4000000 in
theorem used_2 (x : Hp) (c : Cl) (b bn q bc r : Nat) (ap : Option Addr) (kp : Nat) (w : World) (_ : w.cell? ⟨b, 2, none⟩ = some (iv x.born)) (m1 : w.cell? ⟨bn, q + 1, none⟩ = some (.pointer (some ⟨bc, r, none⟩))) (h : CAt w bc r c ap kp) (q0 : withinB c.kind 0 255 = true) (q1 : withinB c.weak 0 3 = true) (q2 : withinB c.last 0 3 = false) :
    Calls Tryz.prog 130 #[.pointer (some ⟨b, 0, none⟩), .pointer (some ⟨bn, q, none⟩)] w fun e w' => e = .returned (.bool false) ∧ Ext w w' := by
  obtain ⟨p0, p1, p2, p3, p4, p5, p6, p7, lp, P⟩ := h
  clear P p0
  go_enter Tryz.func130, Tryz.ntmps130
  go_wp2_with fail
  try simp only [List.append]
  refine wp_region_quiet_lit (by kernel_rfl) used_lex ?_
  repeat (go_big_quiet_step ((go_at_call 83; first | (refine Calls.quiet_of_same (within_is _ _ _ true ?_ _); assumption) | (refine Calls.quiet_of_same (within_is _ _ _ false ?_ _); assumption))))
  refine wpQuiet_nil ?_
  intro _ hw'
  obtain ⟨nq, hw''⟩ := hw'
  subst hw''
  go_wp2_with fail
  go_ret
  exact ⟨rfl, Ext.drewN (Ext.refl w) _⟩

set_option maxRecDepth 100000 in
set_option maxHeartbeats 4000000 in
theorem used_3 (x : Hp) (c : Cl) (b bn q bc r : Nat) (ap : Option Addr) (kp : Nat) (w : World) (v2 : w.cell? ⟨b, 2, none⟩ = some (iv x.born)) (m1 : w.cell? ⟨bn, q + 1, none⟩ = some (.pointer (some ⟨bc, r, none⟩))) (h : CAt w bc r c ap kp) (q0 : withinB c.kind 0 255 = true) (q1 : withinB c.weak 0 3 = true) (q2 : withinB c.last 0 3 = true) (q3 : withinB c.born 1 x.born = false) :
    Calls Tryz.prog 130 #[.pointer (some ⟨b, 0, none⟩), .pointer (some ⟨bn, q, none⟩)] w fun e w' => e = .returned (.bool false) ∧ Ext w w' := by
  obtain ⟨p0, p1, p2, p3, p4, p5, p6, p7, lp, P⟩ := h
  clear P p0
  go_enter Tryz.func130, Tryz.ntmps130
  go_wp2_with fail
  try simp only [List.append]
  refine wp_region_quiet_lit (by kernel_rfl) used_lex ?_
  repeat (go_big_quiet_step ((go_at_call 83; first | (refine Calls.quiet_of_same (within_is _ _ _ true ?_ _); assumption) | (refine Calls.quiet_of_same (within_is _ _ _ false ?_ _); assumption))))
  refine wpQuiet_nil ?_
  intro _ hw'
  obtain ⟨nq, hw''⟩ := hw'
  subst hw''
  go_wp2_with fail
  go_ret
  exact ⟨rfl, Ext.drewN (Ext.refl w) _⟩

set_option maxRecDepth 100000 in
set_option maxHeartbeats 4000000 in
theorem used_4 (x : Hp) (c : Cl) (b bn q bc r : Nat) (ap : Option Addr) (kp : Nat) (w : World) (v2 : w.cell? ⟨b, 2, none⟩ = some (iv x.born)) (m1 : w.cell? ⟨bn, q + 1, none⟩ = some (.pointer (some ⟨bc, r, none⟩))) (h : CAt w bc r c ap kp) (q0 : withinB c.kind 0 255 = true) (q1 : withinB c.weak 0 3 = true) (q2 : withinB c.last 0 3 = true) (q3 : withinB c.born 1 x.born = true) (q4 : withinB c.color 0 2 = false) :
    Calls Tryz.prog 130 #[.pointer (some ⟨b, 0, none⟩), .pointer (some ⟨bn, q, none⟩)] w fun e w' => e = .returned (.bool false) ∧ Ext w w' := by
  obtain ⟨p0, p1, p2, p3, p4, p5, p6, p7, lp, P⟩ := h
  clear P p0
  go_enter Tryz.func130, Tryz.ntmps130
  go_wp2_with fail
  try simp only [List.append]
  refine wp_region_quiet_lit (by kernel_rfl) used_lex ?_
  repeat (go_big_quiet_step ((go_at_call 83; first | (refine Calls.quiet_of_same (within_is _ _ _ true ?_ _); assumption) | (refine Calls.quiet_of_same (within_is _ _ _ false ?_ _); assumption))))
  refine wpQuiet_nil ?_
  intro _ hw'
  obtain ⟨nq, hw''⟩ := hw'
  subst hw''
  go_wp2_with fail
  go_ret
  exact ⟨rfl, Ext.drewN (Ext.refl w) _⟩

set_option maxRecDepth 100000 in
set_option maxHeartbeats 4000000 in
theorem used_5 (x : Hp) (c : Cl) (b bn q bc r : Nat) (ap : Option Addr) (kp : Nat) (w : World) (v2 : w.cell? ⟨b, 2, none⟩ = some (iv x.born)) (m1 : w.cell? ⟨bn, q + 1, none⟩ = some (.pointer (some ⟨bc, r, none⟩))) (h : CAt w bc r c ap kp) (q0 : withinB c.kind 0 255 = true) (q1 : withinB c.weak 0 3 = true) (q2 : withinB c.last 0 3 = true) (q3 : withinB c.born 1 x.born = true) (q4 : withinB c.color 0 2 = true) (q5 : (c.to == 0) = false) :
    Calls Tryz.prog 130 #[.pointer (some ⟨b, 0, none⟩), .pointer (some ⟨bn, q, none⟩)] w fun e w' => e = .returned (.bool false) ∧ Ext w w' := by
  obtain ⟨p0, p1, p2, p3, p4, p5, p6, p7, lp, P⟩ := h
  clear P p0
  go_enter Tryz.func130, Tryz.ntmps130
  go_wp2_with fail
  try simp only [List.append]
  refine wp_region_quiet_lit (by kernel_rfl) used_lex ?_
  repeat (go_big_quiet_step ((go_at_call 83; first | (refine Calls.quiet_of_same (within_is _ _ _ true ?_ _); assumption) | (refine Calls.quiet_of_same (within_is _ _ _ false ?_ _); assumption))))
  refine wpQuiet_nil ?_
  intro _ hw'
  obtain ⟨nq, hw''⟩ := hw'
  subst hw''
  go_wp2_with fail
  go_ret
  exact ⟨rfl, Ext.drewN (Ext.refl w) _⟩

set_option maxRecDepth 100000 in
set_option maxHeartbeats 4000000 in
theorem used_6 (x : Hp) (c : Cl) (b bn q bc r : Nat) (ap : Option Addr) (kp : Nat) (w : World) (v2 : w.cell? ⟨b, 2, none⟩ = some (iv x.born)) (m1 : w.cell? ⟨bn, q + 1, none⟩ = some (.pointer (some ⟨bc, r, none⟩))) (h : CAt w bc r c ap kp) (q0 : withinB c.kind 0 255 = true) (q1 : withinB c.weak 0 3 = true) (q2 : withinB c.last 0 3 = true) (q3 : withinB c.born 1 x.born = true) (q4 : withinB c.color 0 2 = true) (q5 : (c.to == 0) = true) (q6 : decide ((c.prs.length : Int) ≤ 200) = false) :
    Calls Tryz.prog 130 #[.pointer (some ⟨b, 0, none⟩), .pointer (some ⟨bn, q, none⟩)] w fun e w' => e = .returned (.bool false) ∧ Ext w w' := by
  obtain ⟨p0, p1, p2, p3, p4, p5, p6, p7, lp, P⟩ := h
  clear P p0
  go_enter Tryz.func130, Tryz.ntmps130
  go_wp2_with fail
  try simp only [List.append]
  refine wp_region_quiet_lit (by kernel_rfl) used_lex ?_
  repeat (go_big_quiet_step ((go_at_call 83; first | (refine Calls.quiet_of_same (within_is _ _ _ true ?_ _); assumption) | (refine Calls.quiet_of_same (within_is _ _ _ false ?_ _); assumption))))
  refine wpQuiet_nil ?_
  intro _ hw'
  obtain ⟨nq, hw''⟩ := hw'
  subst hw''
  go_wp2_with fail
  go_ret
  exact ⟨rfl, Ext.drewN (Ext.refl w) _⟩

set_option maxRecDepth 100000 in
set_option maxHeartbeats 4000000 in
theorem used_7 (x : Hp) (c : Cl) (b bn q bc r : Nat) (ap : Option Addr) (kp : Nat) (w : World) (v2 : w.cell? ⟨b, 2, none⟩ = some (iv x.born)) (m1 : w.cell? ⟨bn, q + 1, none⟩ = some (.pointer (some ⟨bc, r, none⟩))) (h : CAt w bc r c ap kp) (q0 : withinB c.kind 0 255 = true) (q1 : withinB c.weak 0 3 = true) (q2 : withinB c.last 0 3 = true) (q3 : withinB c.born 1 x.born = true) (q4 : withinB c.color 0 2 = true) (q5 : (c.to == 0) = true) (q6 : decide ((c.prs.length : Int) ≤ 200) = true) :
    Calls Tryz.prog 130 #[.pointer (some ⟨b, 0, none⟩), .pointer (some ⟨bn, q, none⟩)] w fun e w' => e = .returned (.bool true) ∧ Ext w w' := by
  obtain ⟨p0, p1, p2, p3, p4, p5, p6, p7, lp, P⟩ := h
  clear P p0
  go_enter Tryz.func130, Tryz.ntmps130
  go_wp2_with fail
  try simp only [List.append]
  refine wp_region_quiet_lit (by kernel_rfl) used_lex ?_
  repeat (go_big_quiet_step ((go_at_call 83; first | (refine Calls.quiet_of_same (within_is _ _ _ true ?_ _); assumption) | (refine Calls.quiet_of_same (within_is _ _ _ false ?_ _); assumption))))
  refine wpQuiet_nil ?_
  intro _ hw'
  obtain ⟨nq, hw''⟩ := hw'
  subst hw''
  go_wp2_with fail
  go_ret
  exact ⟨rfl, Ext.drewN (Ext.refl w) _⟩

theorem usedKept_any (x : Hp) (c : Cl) (b bn q bc r : Nat) (ap : Option Addr) (kp : Nat) (w : World) (v2 : w.cell? ⟨b, 2, none⟩ = some (iv x.born)) (m1 : w.cell? ⟨bn, q + 1, none⟩ = some (.pointer (some ⟨bc, r, none⟩))) (h : CAt w bc r c ap kp) :
    Calls Tryz.prog 130 #[.pointer (some ⟨b, 0, none⟩), .pointer (some ⟨bn, q, none⟩)] w fun e w' => ∃ r : Bool, Hid (e = .returned (.bool r)) ∧ (r = true ↔ UsedOk x c) ∧ Ext w w' := by
  cases q0 : withinB c.kind 0 255
  · exact (used_0 x c b bn q bc r ap kp w v2 m1 h q0).mono fun _ _ ⟨he, hx⟩ => ⟨false, he, ⟨fun f => by simp at f, fun u => by exfalso; exact withinB_false q0 u.1⟩, hx⟩
  cases q1 : withinB c.weak 0 3
  · exact (used_1 x c b bn q bc r ap kp w v2 m1 h q0 q1).mono fun _ _ ⟨he, hx⟩ => ⟨false, he, ⟨fun f => by simp at f, fun u => by exfalso; exact withinB_false q1 u.2.1⟩, hx⟩
  cases q2 : withinB c.last 0 3
  · exact (used_2 x c b bn q bc r ap kp w v2 m1 h q0 q1 q2).mono fun _ _ ⟨he, hx⟩ => ⟨false, he, ⟨fun f => by simp at f, fun u => by exfalso; exact withinB_false q2 u.2.2.1⟩, hx⟩
  cases q3 : withinB c.born 1 x.born
  · exact (used_3 x c b bn q bc r ap kp w v2 m1 h q0 q1 q2 q3).mono fun _ _ ⟨he, hx⟩ => ⟨false, he, ⟨fun f => by simp at f, fun u => by exfalso; exact withinB_false q3 u.2.2.2.1⟩, hx⟩
  cases q4 : withinB c.color 0 2
  · exact (used_4 x c b bn q bc r ap kp w v2 m1 h q0 q1 q2 q3 q4).mono fun _ _ ⟨he, hx⟩ => ⟨false, he, ⟨fun f => by simp at f, fun u => by exfalso; exact withinB_false q4 u.2.2.2.2.1⟩, hx⟩
  cases q5 : (c.to == 0)
  · exact (used_5 x c b bn q bc r ap kp w v2 m1 h q0 q1 q2 q3 q4 q5).mono fun _ _ ⟨he, hx⟩ => ⟨false, he, ⟨fun f => by simp at f, fun u => by exfalso; have := u.2.2.2.2.2.1; simp at q5; omega⟩, hx⟩
  cases q6 : decide ((c.prs.length : Int) ≤ 200)
  · exact (used_6 x c b bn q bc r ap kp w v2 m1 h q0 q1 q2 q3 q4 q5 q6).mono fun _ _ ⟨he, hx⟩ => ⟨false, he, ⟨fun f => by simp at f, fun u => by exfalso; exact of_decide_eq_false q6 (by have := u.2.2.2.2.2.2; omega)⟩, hx⟩
  exact (used_7 x c b bn q bc r ap kp w v2 m1 h q0 q1 q2 q3 q4 q5 q6).mono fun _ _ ⟨he, hx⟩ => ⟨true, he, ⟨fun _ => ⟨withinB_true q0, withinB_true q1, withinB_true q2, withinB_true q3, withinB_true q4, by simpa using q5, by have := of_decide_eq_true q6; omega⟩, fun _ => rfl⟩, hx⟩
end Go.Proofs.YtbcmjcomdjdjaaaGreat
