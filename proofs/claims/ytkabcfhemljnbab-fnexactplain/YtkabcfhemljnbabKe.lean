import Derived.Test.YtkabcfhemljnbabKd
import Derived.Deep.RegionWith
namespace Go.Proofs.Ytkabcfhemljnbab
open Go.RowKit
attribute [local go_sem ↓] Go.wp_at_zero Go.wp_at_succ

/-! FnExactPlain. -/
theorem markA0 (w : World) (cap : Nat) : Calls Try.prog 9 #[.slice none 0 cap, .int .i64 1] w fun e w' => e = .returned (.int .i64 1) ∧ w' = w := by
  go_enter Try.func9, Try.ntmps9
  go_wp2
  go_loop [1, 5] (fun kk i => kk = .int .i64 1 ∧ i = .int .i64 0) (fun _ _ => 0)
  case atStart => exact ⟨rfl, rfl⟩
  case round =>
    obtain ⟨rfl, rfl⟩ := hrel
    go_wp2
    go_ret
    exact ⟨rfl, rfl⟩
theorem heldA0 (w : World) (cap : Nat) : Calls Try.prog 10 #[.slice none 0 cap, .int .i64 1] w fun e w' => e = .returned (.int .i64 1) ∧ w' = w := by
  go_enter Try.func10, Try.ntmps10
  go_wp2
  go_loop [1, 5] (fun kk i => kk = .int .i64 1 ∧ i = .int .i64 0) (fun _ _ => 0)
  case atStart => exact ⟨rfl, rfl⟩
  case round =>
    obtain ⟨rfl, rfl⟩ := hrel
    go_wp2
    go_ret
    exact ⟨rfl, rfl⟩

/-- the block of a slice -/
def InSl (v : Value) (q : Nat) : Prop := ∃ o n c, v = .slice (some ⟨q, o, none⟩) n c
theorem markCopy {B : Nat} {w : World} {v : Value} {xs : List Ak} (h : SlA w v xs) (hf : Fn0 B w v) (hn : xs.length ≤ 1048576) :
    Calls Try.prog 9 #[v, .int .i64 1] w fun e w' => ∃ k : Int, e = .returned (.int .i64 k) ∧ 0 ≤ k ∧ Only (InSl v) w w' := by
  obtain ⟨ad, cap, rfl, _, hx⟩ := h
  by_cases h0 : xs.length = 0
  · cases ad with
    | none =>
      rw [h0]
      exact (markA0 w cap).mono fun e w' ⟨he, hw⟩ => ⟨1, he, by omega, by rw [hw]; exact Only.refl _ _⟩
    | some p =>
      obtain ⟨b, o, sp⟩ := p
      cases sp with
      | none =>
        refine (markActS_any b o xs.length cap 1 w (by omega) (by omega) (by omega) (fun j hj => by omega)).mono fun e w' ⟨he, _, _, ho⟩ => ⟨_, he, by omega, ?_⟩
        exact ⟨ho.os, ho.tape, ho.output, ho.size, fun k hk hs => ho.block k hk (fun e => hs (by rw [e]; exact ⟨_, _, _, rfl⟩))⟩
      | some r =>
        rw [h0]
        go_enter Try.func9, Try.ntmps9
        go_wp2
        go_loop [1, 5] (fun kk i => kk = .int .i64 1 ∧ i = .int .i64 0) (fun _ _ => 0)
        case atStart => exact ⟨rfl, rfl⟩
        case round =>
          obtain ⟨rfl, rfl⟩ := hrel
          go_wp2
          go_ret
          exact ⟨1, rfl, by omega, Only.refl _ _⟩
  · obtain ⟨b, o, rfl, _⟩ := hx 0 (by omega)
    refine (markActS_any b o xs.length cap 1 w (by omega) (by omega) (by omega) (fun j hj => ?_)).mono fun e w' ⟨he, _, _, ho⟩ => ⟨_, he, by omega, ?_⟩
    · have hq : j / 5 < xs.length := by omega
      obtain ⟨b', o', e', c0, c1, c2, c3, c4⟩ := hx (j / 5) hq
      cases e'
      have hfr := (hf.2 b o _ _ rfl).2 (o + j)
      refine ⟨?_, hfr⟩
      have hm : j % 5 = 0 ∨ j % 5 = 1 ∨ j % 5 = 2 ∨ j % 5 = 3 ∨ j % 5 = 4 := by omega
      rcases hm with hm | hm | hm | hm | hm
      · exact ⟨_, by rw [show o + j = o + j / 5 * 5 by omega]; exact c0⟩
      · exact ⟨_, by rw [show o + j = o + j / 5 * 5 + 1 by omega]; exact c1⟩
      · exact ⟨_, by rw [show o + j = o + j / 5 * 5 + 2 by omega]; exact c2⟩
      · exact ⟨_, by rw [show o + j = o + j / 5 * 5 + 3 by omega]; exact c3⟩
      · exact ⟨_, by rw [show o + j = o + j / 5 * 5 + 4 by omega]; exact c4⟩
    · exact ⟨ho.os, ho.tape, ho.output, ho.size, fun k hk hs => ho.block k hk (fun e => hs (by rw [e]; exact ⟨_, _, _, rfl⟩))⟩
/-- the marks of an answer -/
def HeldA (w : World) (v : Value) (n : Nat) : Prop := (v = .slice none 0 0 ∧ n = 0) ∨ ∃ g cap, v = .slice (some ⟨g, 0, none⟩) n cap ∧ ∀ j, j < 5 * n → w.cell? ⟨g, 0 + j, none⟩ = some (iv (1 + j))
theorem HeldA.ext {w w' : World} {v : Value} {n : Nat} (h : HeldA w v n) (e : Ext w w') : HeldA w' v n := by
  rcases h with h | ⟨g, cap, hv, hc⟩
  · exact .inl h
  · exact .inr ⟨g, cap, hv, fun j hj => e.keep (hc j hj)⟩
theorem markOwnA {B : Nat} {w : World} {v : Value} {L : List Ak} (h : w.ownsRow B 31 5 v L.length (L.flatMap fA)) (hn : L.length ≤ 1048576) :
    Calls Try.prog 9 #[v, .int .i64 1] w fun e w' => e = .returned (.int .i64 (1 + 5 * L.length)) ∧ HeldA w' v L.length ∧ Only (fun q => v.ownBlock = some q) w w' := by
  rcases h.2 with ⟨rfl, h0⟩ | ⟨g, cap, cur, rfl, _⟩
  · rw [h0]
    exact (markA0 w 0).mono fun e w' ⟨he, hw⟩ => ⟨by rw [he]; rfl, .inl ⟨rfl, rfl⟩, by rw [hw]; exact Only.refl _ _⟩
  · refine (markActS_any g 0 L.length cap 1 w (by omega) (by omega) (by omega) (fun j hj => ?_)).mono fun e w' ⟨he, hc, _, ho⟩ => ⟨he, .inr ⟨g, cap, rfl, hc⟩, ?_⟩
    · refine ⟨?_, h.frozenAt _⟩
      have := h.cellAt (0 + j) (by omega)
      have hl : 0 + j < (L.flatMap fA).length := by rw [flatA_len]; omega
      rw [List.getElem?_eq_getElem hl] at this
      exact ⟨_, this⟩
    · exact ⟨ho.os, ho.tape, ho.output, ho.size, fun k hk hs => ho.block k hk (fun e => hs (by rw [e]; rfl))⟩
theorem heldOwnA {w : World} {v : Value} {n : Nat} (h : HeldA w v n) (hn : n ≤ 1048576) :
    Calls Try.prog 10 #[v, .int .i64 1] w fun e w' => e = .returned (.int .i64 (1 + 5 * n)) ∧ w' = w := by
  rcases h with ⟨rfl, rfl⟩ | ⟨g, cap, rfl, hc⟩
  · exact (heldA0 w 0).mono fun e w' ⟨he, hw⟩ => ⟨by rw [he]; rfl, hw⟩
  · exact heldActS_any g 0 n cap 1 w (by omega) (by omega) (by omega) hc
end Go.Proofs.Ytkabcfhemljnbab
