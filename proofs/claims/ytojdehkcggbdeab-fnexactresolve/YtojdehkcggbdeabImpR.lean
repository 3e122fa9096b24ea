import Derived.Test.YtojdehkcggbdeabImpM
import Derived.Test.YtojdehkcggbdeabImpQ
namespace Go.Proofs.Ytojdehkcggbdeab
open Go.RowKit
attribute [local go_sem ↓] Go.wp_at_zero Go.wp_at_succ

/-- every slice of pairs is no longer than its capacity -/
def CapAt (w : World) (x : Hp) (ac : Option Addr) : Prop := ∀ i, i < x.cells.length → ∀ bc oc ad l c, ac = some ⟨bc, oc, none⟩ → w.cell? ⟨bc, oc + i * 8 + 7, none⟩ = some (.slice ad l c) → l ≤ c ∨ l = 0
theorem CapAt.ext {w w' : World} {x : Hp} {ac : Option Addr} {b : Nat} {ar : Option Addr} {kr kc : Nat} {ag : Option Addr} {kg : Nat} (h : CapAt w x ac) (hh : HAt w b x ar kr ac kc ag kg) (e : Ext w w') : CapAt w' x ac := fun i hi bc oc ad l c ha hc => by
  obtain ⟨b2, o2, ap, kp, e2, C⟩ := hh.cell i hi
  rw [ha] at e2
  cases e2
  have := (C.ext e).p7
  rw [this] at hc
  cases hc
  exact h i hi _ _ _ _ _ ha C.p7

/-- in the Phases of marking, of the pairs of any cell: the words are formed, and what is white is used -/
theorem mark_pairs {x : Hp} (r4 : R4 x) (m : Marking x) (i k : Nat) (hi : i < x.cells.length) (hk : k < (x.c i).prs.length) :
    (Formed ((x.c i).p k).key x.cells.length ∧ Formed ((x.c i).p k).val x.cells.length) ∧ (hwB x ((x.c i).p k).key = true ↔ White x ((x.c i).p k).key) ∧ (hwB x ((x.c i).p k).val = true ↔ White x ((x.c i).p k).val) := by
  have nd : ∀ j, ¬ Doomed x j := fun j d => by have := d.1; unfold Marking at m; omega
  have hm : Mended x i k := ⟨by unfold Marking at m; omega, fun e => by unfold Marking at m; omega⟩
  have hp := ((r4.2 i hi).2 k hk).2 (nd i)
  have key : ∀ y : Wd, Leads x y (¬ Mended x i k) → (hwB x y = true ↔ White x y) := fun y hl => by
    unfold White hwB whiteN
    simp only [Bool.and_eq_true, beq_iff_eq]
    constructor
    · intro h; exact ⟨h.1, h.2.2⟩
    · intro h
      refine ⟨h.1, ?_, h.2⟩
      rcases hl.2 h.1 with h2 | h2
      · exact (h2.2 hm).elim
      · exact h2.1
  exact ⟨⟨hp.1.1, hp.2.1⟩, key _ hp.1, key _ hp.2⟩

theorem speaks_used {x : Hp} (r2 : R2 x) (i : Nat) (hi : i < x.cells.length) (h : Speaks (x.c i)) : (x.c i).st = 1 := by
  have := r2.1 i hi
  unfold Speaks at h
  unfold CellOk MovedOk Bare at this
  omega

def R7b (x : Hp) : Prop :=
  (∀ i, i < x.cells.length → ¬ (speaksN (x.c i) = true ∧ whiteN (x.c i) = true ∧ (x.phase = 2 ∨ (i : Int) < x.hand)) ∧ ((x.c i).color = 2 → ¬ ∃ k, k < (x.c i).prs.length ∧ (hwB x ((x.c i).p k).key = true ∨ hwB x ((x.c i).p k).val = true)))

/-- what the first Sub pairs of the first cell in Gray ask -/
def R7c (x : Hp) : Prop := x.phase = 2 → x.gray.length ≠ 0 → ∀ k : Nat, k < x.sub.toNat → ¬ (hwB x ((x.c x.g0).p k).key = true ∨ hwB x ((x.c x.g0).p k).val = true)

theorem g0_ok {x : Hp} (r5 : R5 x) (h : x.gray.length ≠ 0) : x.g0 < x.cells.length ∧ x.gray.getD 0 0 = (x.g0 : Int) ∧ (x.c x.g0).color = 1 := by
  have hm : x.gray.getD 0 0 ∈ x.gray := it_mem x.gray 0 (by omega)
  have := ((R5_iff x).1 r5).2.2.2.1 _ hm
  unfold Hp.g0
  exact ⟨by omega, by omega, this.2⟩

theorem R7_iff {x : Hp} (r2 : R2 x) (r4 : R4 x) (r5 : R5 x) (r6 : R6 x) (m : Marking x) : R7 x ↔ R7b x ∧ R7c x := by
  have mp := fun i k hi hk => mark_pairs r4 m i k hi hk
  have hsub : x.phase = 2 → x.gray.length ≠ 0 → x.sub ≤ (x.c x.g0).prs.length := fun p g => (r6.2.1 p).2.2 g
  constructor
  · intro h
    have h := h m
    refine ⟨fun i hi => ⟨fun ⟨a, b, c⟩ => ?_, fun hc ⟨k, hk, hw⟩ => ?_⟩, fun p g k hk hw => ?_⟩
    · refine (h i hi).1 ⟨speaksN_iff.1 a, ?_, c⟩
      unfold whiteN at b
      simp at b; exact b.2
    · have := (h i hi).2 k (by unfold looked; rw [if_pos hc]; exact hk)
      rcases hw with hw | hw
      · exact this.1 ((mp i k hi hk).2.1.1 hw)
      · exact this.2 ((mp i k hi hk).2.2.1 hw)
    · obtain ⟨g1, g2, g3⟩ := g0_ok r5 g
      have hs := hsub p g
      have hk2 : k < (x.c x.g0).prs.length := by omega
      have := (h x.g0 g1).2 k (by unfold looked; rw [if_neg (by omega), if_pos ⟨p, g, g2⟩]; exact hk)
      rcases hw with hw | hw
      · exact this.1 ((mp _ k g1 hk2).2.1.1 hw)
      · exact this.2 ((mp _ k g1 hk2).2.2.1 hw)
  · intro ⟨hb, hc⟩ _ i hi
    refine ⟨fun ⟨a, b, c⟩ => (hb i hi).1 ⟨speaksN_iff.2 a, ?_, c⟩, fun k hk => ?_⟩
    · unfold whiteN; simp; exact ⟨speaks_used r2 i hi a, b⟩
    · unfold looked at hk
      by_cases e1 : (x.c i).color = 2
      · rw [if_pos e1] at hk
        have := (hb i hi).2 e1
        exact ⟨fun w => this ⟨k, hk, .inl ((mp i k hi hk).2.1.2 w)⟩, fun w => this ⟨k, hk, .inr ((mp i k hi hk).2.2.2 w)⟩⟩
      · rw [if_neg e1] at hk
        by_cases e2 : x.phase = 2 ∧ x.gray.length ≠ 0 ∧ x.gray.getD 0 0 = (i : Int)
        · rw [if_pos e2] at hk
          obtain ⟨g1, g2, g3⟩ := g0_ok r5 e2.2.1
          have hig : i = x.g0 := by have := e2.2.2; omega
          have hs := hsub e2.1 e2.2.1
          have hk2 : k < (x.c i).prs.length := by rw [hig]; omega
          have := hc e2.1 e2.2.1 k hk
          rw [← hig] at this
          exact ⟨fun w => this (.inl ((mp i k hi hk2).2.1.2 w)), fun w => this (.inr ((mp i k hi hk2).2.2.2 w))⟩
        · rw [if_neg e2] at hk; omega
end Go.Proofs.Ytojdehkcggbdeab
