import Derived.Test.YtojdehkcggbdeabImpJ
namespace Go.Proofs.Ytojdehkcggbdeab
open Go.RowKit
attribute [local go_sem ↓] Go.wp_at_zero Go.wp_at_succ

theorem grayPairs_none (b : Nat) (w : World) {ag : Option Addr} {kg : Nat} (c8 : w.cell? ⟨b, 8, none⟩ = some (.slice ag 0 kg)) :
    Calls Try.prog 103 #[.pointer (some ⟨b, 0, none⟩)] w fun e w' => e = .returned (.slice none 0 0) ∧ w' = w := by
  go_enter Try.func103, Try.ntmps103
  go_wp2_with fail
  go_ret
  exact ⟨rfl, rfl⟩

theorem grayPairs_some (x : Hp) (b i : Nat) (w : World) {ar : Option Addr} {kr : Nat} {ac : Option Addr} {kc : Nat} {ag : Option Addr} {kg : Nat} {an : Option Addr} {kn : Nat} (h : VAt w b x ar kr ac kc ag kg an kn) (hg : 0 < x.gray.length) (hi : x.gray[0] = (i : Int)) (hin : i < x.cells.length) (bc oc : Nat) (ap : Option Addr) (kp : Nat) (ha : ac = some ⟨bc, oc, none⟩) (C : CAt w bc (oc + i * 8) (x.c i) ap kp) :
    Calls Try.prog 103 #[.pointer (some ⟨b, 0, none⟩)] w fun e w' => e = .returned (.slice ap (x.c i).prs.length kp) ∧ ∃ m, w' = w.drewN m := by
  obtain ⟨bn, on, bc', oc', rfl, e1, m0, m1⟩ := h.N i hin
  rw [ha] at e1
  cases e1
  obtain ⟨bg, og, rfl, pg⟩ := h.H.G 0 hg
  unfold InAt at pg
  rw [hi] at pg
  simp only [Nat.zero_mul, Nat.add_zero] at pg
  have c8 := h.H.c8
  have n13 := h.n13
  have p7 := C.p7
  have hg3 : ((x.gray.length : Int) == 0) = false := beq_eq_false_iff_ne.2 (by omega)
  have hg4 : (0 : Int) < (x.gray.length : Int) := by omega
  have hi0 : (0 : Int) ≤ (i : Int) := by omega
  have hi1 : (i : Int) < (x.cells.length : Int) := by omega
  clear h C hi
  go_enter Try.func103, Try.ntmps103
  go_wp2_with fail
  go_quiet (fail)
  go_wp2_with fail
  go_ret
  exact ⟨rfl, _, rfl⟩

theorem handPairs_none (x : Hp) (b : Nat) (w : World) {an : Option Addr} {kn : Nat} (c6 : w.cell? ⟨b, 6, none⟩ = some (iv x.cells.length)) (n13 : w.cell? ⟨b, 13, none⟩ = some (.slice an x.cells.length kn)) :
    Calls Try.prog 104 #[.pointer (some ⟨b, 0, none⟩)] w fun e w' => e = .returned (.slice none 0 0) ∧ ∃ m, w' = w.drewN m := by
  go_enter Try.func104, Try.ntmps104
  go_wp2_with fail
  go_quiet (fail)
  go_wp2_with fail
  go_ret
  exact ⟨rfl, _, rfl⟩

theorem handPairs_some (x : Hp) (b i : Nat) (w : World) {ar : Option Addr} {kr : Nat} {ac : Option Addr} {kc : Nat} {ag : Option Addr} {kg : Nat} {an : Option Addr} {kn : Nat} (h : VAt w b x ar kr ac kc ag kg an kn) (hi : x.hand = (i : Int)) (hin : i < x.cells.length) (bc oc : Nat) (ap : Option Addr) (kp : Nat) (ha : ac = some ⟨bc, oc, none⟩) (C : CAt w bc (oc + i * 8) (x.c i) ap kp) :
    Calls Try.prog 104 #[.pointer (some ⟨b, 0, none⟩)] w fun e w' => e = .returned (.slice ap (x.c i).prs.length kp) ∧ ∃ m, w' = w.drewN m := by
  obtain ⟨bn, on, bc', oc', rfl, e1, m0, m1⟩ := h.N i hin
  rw [ha] at e1
  cases e1
  have c6 := h.H.c6
  rw [hi] at c6
  have n13 := h.n13
  have p7 := C.p7
  have hn : ((i : Int) == (x.cells.length : Int)) = false := beq_eq_false_iff_ne.2 (by omega)
  have hi0 : (0 : Int) ≤ (i : Int) := by omega
  have hi1 : (i : Int) < (x.cells.length : Int) := by omega
  clear h C hi
  go_enter Try.func104, Try.ntmps104
  go_wp2_with fail
  go_quiet (fail)
  go_wp2_with fail
  go_quiet (fail)
  go_wp2_with fail
  go_ret
  exact ⟨rfl, _, by rw [World.drewN_drewN]⟩

/-- holdsWhite of a word that leads to a used cell -/
theorem holdsWhite_no (y : Wd) (b : Nat) (w : World) (k2 : (y.k == 2) = false) :
    Calls Try.prog 121 #[.pointer (some ⟨b, 0, none⟩), y.v] w fun e w' => e = .returned (.bool false) ∧ Ext w w' := by
  go_enter Try.func121, Try.ntmps121
  go_wp2_with fail
  refine (find_none y b _ k2).mono ?_
  rintro e w1 ⟨rfl, hq⟩
  go_wp2_with fail
  go_ret
  exact ⟨rfl, Ext.trans ((Ext.refl w).alloc _) hq⟩
end Go.Proofs.Ytojdehkcggbdeab
