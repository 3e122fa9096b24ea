import Derived.Test.YtkabcfhemljnbaaGreatImpA
namespace Go.Proofs.YtkabcfhemljnbaaGreat
open Go.RowKit
attribute [local go_sem ↓] Go.wp_at_zero Go.wp_at_succ

/-! The program's small questions of a node and of its view. -/
def whiteN (c : Cl) : Bool := (c.st == 1) && (c.color == 0)
def speaksN (c : Cl) : Bool := (c.last == 1) || (c.last == 2)
theorem speaksN_iff {c : Cl} : speaksN c = true ↔ Speaks c := by simp [speaksN, Speaks]

theorem white_any (c : Cl) (bn q bc r : Nat) (ap : Option Addr) (kp : Nat) (w : World) (m1 : w.cell? ⟨bn, q + 1, none⟩ = some (.pointer (some ⟨bc, r, none⟩))) (h : CAt w bc r c ap kp) :
    Calls Tryz.prog 126 #[.pointer (some ⟨bn, q, none⟩)] w fun e w' => e = .returned (.bool (whiteN c)) ∧ w' = w := by
  have p0 := h.p0
  have p5 := h.p5
  clear h
  cases t : (c.st == 1)
  all_goals
    go_enter Tryz.func126, Tryz.ntmps126
    go_wp2
    go_ret
    exact ⟨by simp [whiteN, t], rfl⟩

theorem speaks_any (c : Cl) (bn q bc r : Nat) (ap : Option Addr) (kp : Nat) (w : World) (m1 : w.cell? ⟨bn, q + 1, none⟩ = some (.pointer (some ⟨bc, r, none⟩))) (h : CAt w bc r c ap kp) :
    Calls Tryz.prog 151 #[.pointer (some ⟨bn, q, none⟩)] w fun e w' => e = .returned (.bool (speaksN c)) ∧ w' = w := by
  have p3 := h.p3
  clear h
  cases t : (c.last == 1)
  all_goals
    go_enter Tryz.func151, Tryz.ntmps151
    go_wp2
    go_ret
    exact ⟨by simp [speaksN, t], rfl⟩

def markingB (x : Hp) : Bool := (x.phase == 1) || (x.phase == 2)
theorem marking_any (x : Hp) (b : Nat) (w : World) (c5 : w.cell? ⟨b, 5, none⟩ = some (iv x.phase)) :
    Calls Tryz.prog 125 #[.pointer (some ⟨b, 0, none⟩)] w fun e w' => e = .returned (.bool (markingB x)) ∧ w' = w := by
  cases t : (x.phase == 1)
  all_goals
    go_enter Tryz.func125, Tryz.ntmps125
    go_wp2
    go_ret
    exact ⟨by simp [markingB, t], rfl⟩

theorem white_is (c : Cl) (bn q bc r : Nat) (ap : Option Addr) (kp : Nat) (s : Bool) (hs : whiteN c = s) (w : World) (m1 : w.cell? ⟨bn, q + 1, none⟩ = some (.pointer (some ⟨bc, r, none⟩))) (h : CAt w bc r c ap kp) :
    Calls Tryz.prog 126 #[.pointer (some ⟨bn, q, none⟩)] w fun e w' => e = .returned (.bool s) ∧ w' = w := by
  rw [← hs]; exact white_any c bn q bc r ap kp w m1 h

/-- doomed answers as the model's l1doomed -/
theorem doomed_any (x : Hp) (b i : Nat) (w : World) {ar : Option Addr} {kr : Nat} {ac : Option Addr} {kc : Nat} {ag : Option Addr} {kg : Nat} {an : Option Addr} {kn : Nat} (h : VAt w b x ar kr ac kc ag kg an kn) (hi : i < x.cells.length) (bn on : Nat) (ha : an = some ⟨bn, on, none⟩) :
    Calls Tryz.prog 179 #[.pointer (some ⟨b, 0, none⟩), .pointer (some ⟨bn, on + i * 2, none⟩)] w fun e w' => e = .returned (.bool (doomedB x i)) ∧ Ext w w' := by
  obtain ⟨bn', on', bc, oc, e1, rfl, m0, m1⟩ := h.N i hi
  rw [ha] at e1
  cases e1
  obtain ⟨bc', oc', ap, kp, e2, C⟩ := h.H.cell i hi
  cases e2
  have c5 := h.H.c5
  have c6 := h.H.c6
  have HW := hide (fun n s (hs : whiteN (x.c i) = s) => white_is (x.c i) bn (on + i * 2) bc (oc + i * 8) ap kp s hs (w.drewN n) (((Ext.refl w).drewN n).keep m1) (C.ext ((Ext.refl w).drewN n)))
  clear h C
  cases t1 : (x.phase == 3)
  · go_enter Tryz.func179, Tryz.ntmps179
    go_wp2_with fail
    go_quiet (fail)
    go_wp2_with fail
    go_ret
    exact ⟨by simp [doomedB, t1], (Ext.refl w).drewN _⟩
  · cases t2 : whiteN (x.c i)
    · go_enter Tryz.func179, Tryz.ntmps179
      go_wp2_with fail
      go_quiet ((go_at_call 126; exact Calls.quiet_of_same (unhide HW _ _ t2)))
      go_wp2_with fail
      go_ret
      exact ⟨by unfold whiteN at t2; unfold doomedB; cases q : ((x.c i).st == 1) <;> simp_all, (Ext.refl w).drewN _⟩
    · go_enter Tryz.func179, Tryz.ntmps179
      go_wp2_with fail
      go_quiet ((go_at_call 126; exact Calls.quiet_of_same (unhide HW _ _ t2)))
      go_wp2_with fail
      go_ret
      exact ⟨by unfold whiteN at t2; unfold doomedB; simp_all, (Ext.refl w).drewN _⟩
end Go.Proofs.YtkabcfhemljnbaaGreat
