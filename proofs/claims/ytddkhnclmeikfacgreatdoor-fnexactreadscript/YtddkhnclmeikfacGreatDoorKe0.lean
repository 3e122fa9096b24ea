import Derived.Test.YtddkhnclmeikfacGreatDoorKa
import Derived.Test.YtddkhnclmeikfacGreatDoorKb0
import Derived.Deep.RegionWith
namespace Go.Proofs.YtddkhnclmeikfacGreatDoor
open Go.RowKit
attribute [local go_sem ↓] Go.wp_at_zero Go.wp_at_succ

/-! Marks of acts that a call owns. -/
theorem flatA_len (M : List Ak) : (M.flatMap fA).length = M.length * 5 := flat_len fA 5 (fun _ => rfl) M
theorem markA0 (w : World) (cap : Nat) : Calls Tryz.prog 53 #[.slice none 0 cap, .int .i64 1] w fun e w' => e = .returned (.int .i64 1) ∧ w' = w := by
  go_enter Tryz.func53, Tryz.ntmps53
  go_wp2
  go_loop [1, 5] (fun kk i => kk = .int .i64 1 ∧ i = .int .i64 0) (fun _ _ => 0)
  case atStart => exact ⟨rfl, rfl⟩
  case round =>
    obtain ⟨rfl, rfl⟩ := hrel
    go_wp2
    go_ret
    exact ⟨rfl, rfl⟩
theorem heldA0 (w : World) (cap : Nat) : Calls Tryz.prog 54 #[.slice none 0 cap, .int .i64 1] w fun e w' => e = .returned (.int .i64 1) ∧ w' = w := by
  go_enter Tryz.func54, Tryz.ntmps54
  go_wp2
  go_loop [1, 5] (fun kk i => kk = .int .i64 1 ∧ i = .int .i64 0) (fun _ _ => 0)
  case atStart => exact ⟨rfl, rfl⟩
  case round =>
    obtain ⟨rfl, rfl⟩ := hrel
    go_wp2
    go_ret
    exact ⟨rfl, rfl⟩
/-- the marks of an answer -/
def HeldA (w : World) (v : Value) (n : Nat) : Prop := (v = .slice none 0 0 ∧ n = 0) ∨ ∃ g cap, v = .slice (some ⟨g, 0, none⟩) n cap ∧ ∀ j, j < 5 * n → w.cell? ⟨g, 0 + j, none⟩ = some (iv (1 + j))
theorem HeldA.ext {w w' : World} {v : Value} {n : Nat} (h : HeldA w v n) (e : Ext w w') : HeldA w' v n := by
  rcases h with h | ⟨g, cap, hv, hc⟩
  · exact .inl h
  · exact .inr ⟨g, cap, hv, fun j hj => e.keep (hc j hj)⟩
theorem markOwnA {B : Nat} {w : World} {v : Value} {L : List Ak} (h : w.ownsRow B 40 5 v L.length (L.flatMap fA)) (hn : L.length ≤ 1048576) :
    Calls Tryz.prog 53 #[v, .int .i64 1] w fun e w' => e = .returned (.int .i64 (1 + 5 * L.length)) ∧ HeldA w' v L.length ∧ Only (fun q => v.ownBlock = some q) w w' := by
  rcases h.2 with ⟨rfl, h0⟩ | ⟨g, cap, cur, rfl, _⟩
  · rw [h0]
    exact (markA0 w 0).mono fun e w' ⟨he, hw⟩ => ⟨by rw [he]; rfl, .inl ⟨rfl, rfl⟩, by rw [hw]; exact Only.refl _ _⟩
  · refine (markActS_any g 0 L.length cap 1 w (by omega) (by omega) (by omega) (fun j hj => ?_)).mono fun e w' ⟨he, hc, _, ho⟩ => ⟨he, .inr ⟨g, cap, rfl, hc⟩, ?_⟩
    · refine ⟨?_, h.frozenAt _⟩
      have := h.cellAt (0 + j) (by omega)
      have hl : 0 + j < (L.flatMap fA).length := by rw [flatA_len]; omega
      rw [List.getElem?_eq_getElem hl] at this
      exact ⟨_, this⟩
    · exact ⟨ho.os, ho.tape, ho.output, ho.size, fun k hk hs => ho.block k hk (fun e => hs (by rw [e]; rfl))⟩
theorem heldOwnA {w : World} {v : Value} {n : Nat} (h : HeldA w v n) (hn : n ≤ 1048576) :
    Calls Tryz.prog 54 #[v, .int .i64 1] w fun e w' => e = .returned (.int .i64 (1 + 5 * n)) ∧ w' = w := by
  rcases h with ⟨rfl, rfl⟩ | ⟨g, cap, rfl, hc⟩
  · exact (heldA0 w 0).mono fun e w' ⟨he, hw⟩ => ⟨by rw [he]; rfl, hw⟩
  · exact heldActS_any g 0 n cap 1 w (by omega) (by omega) (by omega) hc
end Go.Proofs.YtddkhnclmeikfacGreatDoor
