import Derived.Test.YtkabcfhemljnbaaEq
import Derived.Test.YtkabcfhemljnbaaMark
import Derived.Test.YtkabcfhemljnbaaIn
namespace Go.Proofs.Ytkabcfhemljnbaa
open Go.RowKit
attribute [local go_sem ↓] Go.wp_at_zero Go.wp_at_succ

theorem markWordS_nil (ad : Option Addr) (cap : Nat) (k0 : Int) (w : World) : Calls Try.prog 41 #[.slice ad 0 cap, .int .i64 k0] w fun e w' => e = .returned (.int .i64 k0) ∧ w' = w := by
  go_enter Try.func41, Try.ntmps41
  go_wp2
  go_loop [1, 5] (fun kk i => i = .int .i64 0 ∧ kk = .int .i64 k0) (fun _ _ => 0)
  case atStart => exact ⟨rfl, rfl⟩
  case round =>
    obtain ⟨rfl, rfl⟩ := hrel
    go_wp2
    go_ret
    exact ⟨rfl, rfl⟩

theorem markCellS_nil (ad : Option Addr) (cap : Nat) (k0 : Int) (w : World) : Calls Try.prog 42 #[.slice ad 0 cap, .int .i64 k0] w fun e w' => e = .returned (.int .i64 k0) ∧ w' = w := by
  go_enter Try.func42, Try.ntmps42
  go_wp2
  go_loop [1, 5] (fun kk i => i = .int .i64 0 ∧ kk = .int .i64 k0) (fun _ _ => 0)
  case atStart => exact ⟨rfl, rfl⟩
  case round =>
    obtain ⟨rfl, rfl⟩ := hrel
    go_wp2
    go_ret
    exact ⟨rfl, rfl⟩

theorem markIntS_nil (ad : Option Addr) (cap : Nat) (k0 : Int) (w : World) : Calls Try.prog 43 #[.slice ad 0 cap, .int .i64 k0] w fun e w' => e = .returned (.int .i64 k0) ∧ w' = w := by
  go_enter Try.func43, Try.ntmps43
  go_wp2
  go_loop [1, 5] (fun kk i => i = .int .i64 0 ∧ kk = .int .i64 k0) (fun _ _ => 0)
  case atStart => exact ⟨rfl, rfl⟩
  case round =>
    obtain ⟨rfl, rfl⟩ := hrel
    go_wp2
    go_ret
    exact ⟨rfl, rfl⟩

theorem heldWordS_nil (ad : Option Addr) (cap : Nat) (k0 : Int) (w : World) : Calls Try.prog 44 #[.slice ad 0 cap, .int .i64 k0] w fun e w' => e = .returned (.int .i64 k0) ∧ w' = w := by
  go_enter Try.func44, Try.ntmps44
  go_wp2
  go_loop [1, 5] (fun kk i => i = .int .i64 0 ∧ kk = .int .i64 k0) (fun _ _ => 0)
  case atStart => exact ⟨rfl, rfl⟩
  case round =>
    obtain ⟨rfl, rfl⟩ := hrel
    go_wp2
    go_ret
    exact ⟨rfl, rfl⟩

theorem heldCellS_nil (ad : Option Addr) (cap : Nat) (k0 : Int) (w : World) : Calls Try.prog 45 #[.slice ad 0 cap, .int .i64 k0] w fun e w' => e = .returned (.int .i64 k0) ∧ w' = w := by
  go_enter Try.func45, Try.ntmps45
  go_wp2
  go_loop [1, 5] (fun kk i => i = .int .i64 0 ∧ kk = .int .i64 k0) (fun _ _ => 0)
  case atStart => exact ⟨rfl, rfl⟩
  case round =>
    obtain ⟨rfl, rfl⟩ := hrel
    go_wp2
    go_ret
    exact ⟨rfl, rfl⟩

theorem heldIntS_nil (ad : Option Addr) (cap : Nat) (k0 : Int) (w : World) : Calls Try.prog 46 #[.slice ad 0 cap, .int .i64 k0] w fun e w' => e = .returned (.int .i64 k0) ∧ w' = w := by
  go_enter Try.func46, Try.ntmps46
  go_wp2
  go_loop [1, 5] (fun kk i => i = .int .i64 0 ∧ kk = .int .i64 k0) (fun _ _ => 0)
  case atStart => exact ⟨rfl, rfl⟩
  case round =>
    obtain ⟨rfl, rfl⟩ := hrel
    go_wp2
    go_ret
    exact ⟨rfl, rfl⟩

def zw (n : Nat) : Array Value := Array.replicate n (iv 0)
theorem mk16 (w : World) : (Instr.makeSlice 29 (.int .i64 16) (.int .i64 16)).run Try.prog w = .ok (.slice (some ⟨w.heap.size, 0, none⟩) 16 16) (w.alloc (.cells (zw 48) 41)) := by kernel_rfl

abbrev fr (n : Int) (vr : Value) : Value := .agg #[iv n, iv 0, iv 0, vr, .slice none 0 0, iv 0, iv 0, iv 0, .slice none 0 0, iv 0, iv 0, iv 0, iv 0]

set_option maxRecDepth 100000 in
theorem implFresh_in (n : Int) (w : World) (h1 : 1 ≤ n) (h2 : n ≤ 4000) : Calls Try.prog 12 #[.int .i64 n] w fun e w' => ∃ c, e = .returned (fr n (.slice (some ⟨w.heap.size + 1, 0, none⟩) 16 16)) ∧ w' = (w.alloc c).alloc (.cells (zw 48) 41) := by
  have hmk := mk16
  go_enter Try.func12, Try.ntmps12
  go_wp2_with (go_at_call 40; refine (within_in _ _ _ _ (by omega) (by omega)).mono ?_; rintro e w' ⟨rfl, rfl⟩)
  exact bodyPost_ret (v := fr n (.slice (some ⟨w.heap.size + 1, 0, none⟩) 16 16)) (by simp [results, Try.results12, go_sem]) rfl ⟨_, rfl, rfl⟩

set_option maxRecDepth 100000 in
theorem implFresh_out (n : Int) (w : World) (h : n < 1 ∨ 4000 < n) : Calls Try.prog 12 #[.int .i64 n] w fun e w' => e = .returned (fr 0 (.slice none 0 0)) ∧ Ext w w' := by
  go_enter Try.func12, Try.ntmps12
  go_wp2_with (go_at_call 40; refine (within_out _ _ _ _ (by omega)).mono ?_; rintro e w' ⟨rfl, rfl⟩)
  exact bodyPost_ret (v := fr 0 (.slice none 0 0)) (by simp [results, Try.results12, go_sem]) rfl ⟨rfl, (Ext.refl w).alloc _⟩

set_option maxRecDepth 100000 in
theorem l1fresh_any (n : Int) (w : World) : Calls Try.prog 39 #[.int .i64 n] w fun e w' => e = .returned (.pointer (some ⟨w.heap.size + 1, 0, none⟩)) ∧ w' = (w.alloc (.cells (zw 48) 41)).alloc (.cells #[iv n, iv 0, iv 0, .slice (some ⟨w.heap.size, 0, none⟩) 16 16, .slice none 0 0, iv 0, iv 0, iv 0, .slice none 0 0, iv 0, iv 0, iv 0, iv 0] 32) := by
  have hmk := mk16
  go_enter Try.func39, Try.ntmps39
  go_wp2
  go_ret
  exact ⟨rfl, rfl⟩
end Go.Proofs.Ytkabcfhemljnbaa
