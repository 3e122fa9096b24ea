import Derived.Test.YtkabcfhemljnbaaGreatLm
import Derived.BigRegion
import Derived.BigQuiet
import Derived.Deep.QuietTactic
namespace Go.Proofs.YtkabcfhemljnbaaGreat
open Go.RowKit
attribute [local go_sem ↓] Go.wp_at_zero Go.wp_at_succ

set_option maxRecDepth 100000 in
set_option maxHeartbeats 1000000 in
theorem swap_ne (w : World) (bq oq g og n cap i j : Nat) (xi xj : Int) (hf : w.cell? ⟨bq, oq, none⟩ = some (.slice (some ⟨g, og, none⟩) n cap)) (ci : w.cell? ⟨g, og + i, none⟩ = some (iv xi)) (cj : w.cell? ⟨g, og + j, none⟩ = some (iv xj)) (fi : w.frozen? ⟨g, og + i, none⟩ = false) (fj : w.frozen? ⟨g, og + j, none⟩ = false) (hi : i < n) (hj : j < n) (hij : i ≠ j) :
    Calls Tryz.prog 173 #[.pointer (some ⟨bq, oq, none⟩), .int .i64 i, .int .i64 j] w fun e w' => e = .returned (.tuple #[]) ∧ w'.heap = ((w.setCell ⟨g, og + i, none⟩ (iv xj)).setCell ⟨g, og + j, none⟩ (iv xi)).heap ∧ w'.os = w.os ∧ w'.tape = w.tape ∧ w'.output = w.output := by
  have hi0 : (0 : Int) ≤ (i : Int) := by omega
  have hi1 : (i : Int) < (n : Int) := by omega
  have hj0 : (0 : Int) ≤ (j : Int) := by omega
  have hj1 : (j : Int) < (n : Int) := by omega
  go_enter Tryz.func173, Tryz.ntmps173
  go_wp2
  go_region
  all_goals go_end0
  all_goals exact ⟨rfl, rfl, rfl, rfl, rfl⟩

set_option maxRecDepth 100000 in
set_option maxHeartbeats 1000000 in
theorem swap_eq (w : World) (bq oq g og n cap i : Nat) (xi : Int) (hf : w.cell? ⟨bq, oq, none⟩ = some (.slice (some ⟨g, og, none⟩) n cap)) (ci : w.cell? ⟨g, og + i, none⟩ = some (iv xi)) (fi : w.frozen? ⟨g, og + i, none⟩ = false) (hi : i < n) :
    Calls Tryz.prog 173 #[.pointer (some ⟨bq, oq, none⟩), .int .i64 i, .int .i64 i] w fun e w' => e = .returned (.tuple #[]) ∧ w'.heap = ((w.setCell ⟨g, og + i, none⟩ (iv xi)).setCell ⟨g, og + i, none⟩ (iv xi)).heap ∧ w'.os = w.os ∧ w'.tape = w.tape ∧ w'.output = w.output := by
  have hi0 : (0 : Int) ≤ (i : Int) := by omega
  have hi1 : (i : Int) < (n : Int) := by omega
  go_enter Tryz.func173, Tryz.ntmps173
  go_wp2
  go_region
  all_goals go_end0
  all_goals exact ⟨rfl, rfl, rfl, rfl, rfl⟩

theorem first_none (w : World) (bq oq : Nat) (ad : Option Addr) (cap : Nat) (hf : w.cell? ⟨bq, oq, none⟩ = some (.slice ad 0 cap)) :
    Calls Tryz.prog 193 #[.pointer (some ⟨bq, oq, none⟩)] w fun e w' => e = .returned (.tuple #[.int .i64 0, .bool false]) ∧ w' = w := by
  go_enter Tryz.func193, Tryz.ntmps193
  go_wp2
  go_ret2
  exact ⟨rfl, rfl⟩

theorem first_some (w : World) (bq oq g og n cap : Nat) (x0 : Int) (hn : 0 < n) (hf : w.cell? ⟨bq, oq, none⟩ = some (.slice (some ⟨g, og, none⟩) n cap)) (c0 : w.cell? ⟨g, og, none⟩ = some (iv x0)) :
    Calls Tryz.prog 193 #[.pointer (some ⟨bq, oq, none⟩)] w fun e w' => e = .returned (.tuple #[.int .i64 x0, .bool true]) ∧ w' = w := by
  have h0 : ((n : Int) == 0) = false := beq_eq_false_iff_ne.2 (by omega)
  have h1 : (0 : Int) < (n : Int) := by omega
  go_enter Tryz.func193, Tryz.ntmps193
  go_wp2
  go_ret2
  exact ⟨rfl, rfl⟩
end Go.Proofs.YtkabcfhemljnbaaGreat
