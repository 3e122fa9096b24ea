import Derived.Test.YtkabcfhemljnbaaFresh
namespace Go.Proofs.Ytkabcfhemljnbaa
open Go.RowKit
attribute [local go_sem ↓] Go.wp_at_zero Go.wp_at_succ

set_option maxRecDepth 100000 in
set_option maxHeartbeats 1000000 in
theorem specFresh_in (n : Int) (w : World) (h1 : 1 ≤ n) (h2 : n ≤ 4000) : Calls Try.prog 11 #[.int .i64 n] w fun e w' => ∃ c d, e = .returned (fr n (.slice (some ⟨w.heap.size + 1, 0, none⟩) 16 16)) ∧ w' = ((w.alloc c).alloc (.cells (zw 48) 41)).alloc d := by
  go_enter Try.func11, Try.ntmps11
  go_wp2_with fail
  refine (l1in_in _ _ _ _ (by omega) (by omega)).mono ?_
  rintro e w' ⟨rfl, rfl⟩
  go_wp2_with fail
  refine (l1fresh_any _ _).mono ?_
  rintro e w1 ⟨rfl, rfl⟩
  go_wp2_with fail
  exact bodyPost_ret (v := fr n (.slice (some ⟨w.heap.size + 1, 0, none⟩) 16 16)) (by simp [results, Try.results11, go_sem]) rfl ⟨_, _, rfl, rfl⟩

set_option maxRecDepth 100000 in
theorem specFresh_out (n : Int) (w : World) (h : n < 1 ∨ 4000 < n) : Calls Try.prog 11 #[.int .i64 n] w fun e w' => e = .returned (fr 0 (.slice none 0 0)) ∧ Ext w w' := by
  go_enter Try.func11, Try.ntmps11
  go_wp2_with (go_at_call 38; refine (l1in_out _ _ _ _ (by omega)).mono ?_; rintro e w' ⟨rfl, rfl⟩)
  exact bodyPost_ret (v := fr 0 (.slice none 0 0)) (by simp [results, Try.results11, go_sem]) rfl ⟨rfl, (Ext.refl w).alloc _⟩

set_option maxRecDepth 100000 in
set_option maxHeartbeats 1000000 in
theorem markHeap_fr (n k0 : Int) (b m cap : Nat) (w : World) (hm : m ≤ 1099511627776) (h0 : 0 ≤ k0) (h1 : k0 ≤ 1099511627776) (hb : b < w.heap.size) (ho : ∀ j, j < 3 * m → Open w b (0 + j)) :
    Calls Try.prog 13 #[fr n (.slice (some ⟨b, 0, none⟩) m cap), .int .i64 k0] w fun e w' =>
      e = .returned (.int .i64 (k0 + 3 * m)) ∧ (∀ j, j < 3 * m → w'.cell? ⟨b, 0 + j, none⟩ = some (iv (k0 + j))) ∧ Only (fun q => q = b) w w' := by
  go_enter Try.func13, Try.ntmps13
  go_wp2_with fail
  refine (markWordS_any b 0 m cap k0 _ hm h0 h1 (fun j hj => (ho j hj).ext ((Ext.refl w).alloc _))).mono ?_
  rintro e w1 ⟨rfl, hc1, _, hon⟩
  have x1 : Only (fun q => q = b) w w1 := (Only.of_ext ((Ext.refl w).alloc _)).trans hon
  have hq := hon.cells w.heap.size (by simp) (by omega)
  have HC := hide hc1
  clear hc1 ho
  go_wp2_with fail
  refine (markCellS_nil _ _ _ _).mono ?_
  rintro e w2 ⟨rfl, rfl⟩
  go_wp2_with fail
  refine (markIntS_nil _ _ _ _).mono ?_
  rintro e w2 ⟨rfl, rfl⟩
  go_wp2_with fail
  go_ret
  exact ⟨rfl, unhide HC, x1⟩

set_option maxRecDepth 100000 in
set_option maxHeartbeats 1000000 in
theorem heldHeap_fr (n k0 : Int) (b m cap : Nat) (w : World) (hm : m ≤ 1099511627776) (h0 : 0 ≤ k0) (h1 : k0 ≤ 1099511627776) (hc : ∀ j, j < 3 * m → w.cell? ⟨b, 0 + j, none⟩ = some (iv (k0 + j))) :
    Calls Try.prog 14 #[fr n (.slice (some ⟨b, 0, none⟩) m cap), .int .i64 k0] w fun e w' =>
      e = .returned (.int .i64 (k0 + 3 * m)) ∧ Ext w w' := by
  have HC := hide hc
  clear hc
  go_enter Try.func14, Try.ntmps14
  go_wp2_with fail
  refine (heldWordS_any b 0 m cap k0 _ hm h0 h1 (fun j hj => Ext.keep ((Ext.refl w).alloc _) (unhide HC j hj))).mono ?_
  rintro e w1 ⟨rfl, rfl⟩
  go_wp2_with fail
  refine (heldCellS_nil _ _ _ _).mono ?_
  rintro e w2 ⟨rfl, rfl⟩
  go_wp2_with fail
  refine (heldIntS_nil _ _ _ _).mono ?_
  rintro e w2 ⟨rfl, rfl⟩
  go_wp2_with fail
  go_ret
  exact ⟨rfl, (Ext.refl w).alloc _⟩

/-! The heap of nothing: its slices are nil. -/
set_option maxRecDepth 100000 in
theorem markHeap_no (k0 : Int) (w : World) :
    Calls Try.prog 13 #[fr 0 (.slice none 0 0), .int .i64 k0] w fun e w' => e = .returned (.int .i64 k0) ∧ Ext w w' := by
  go_enter Try.func13, Try.ntmps13
  go_wp2_with fail
  refine (markWordS_nil _ _ _ _).mono ?_
  rintro e w1 ⟨rfl, rfl⟩
  go_wp2_with fail
  refine (markCellS_nil _ _ _ _).mono ?_
  rintro e w2 ⟨rfl, rfl⟩
  go_wp2_with fail
  refine (markIntS_nil _ _ _ _).mono ?_
  rintro e w2 ⟨rfl, rfl⟩
  go_wp2_with fail
  go_ret
  exact ⟨rfl, (Ext.refl w).alloc _⟩

set_option maxRecDepth 100000 in
theorem heldHeap_no (k0 : Int) (w : World) (h0 : 0 ≤ k0) :
    Calls Try.prog 14 #[fr 0 (.slice none 0 0), .int .i64 k0] w fun e w' => e = .returned (.int .i64 k0) ∧ Ext w w' := by
  go_enter Try.func14, Try.ntmps14
  go_wp2_with fail
  refine (heldWordS_nil _ _ _ _).mono ?_
  rintro e w1 ⟨rfl, rfl⟩
  go_wp2_with fail
  refine (heldCellS_nil _ _ _ _).mono ?_
  rintro e w2 ⟨rfl, rfl⟩
  go_wp2_with fail
  refine (heldIntS_nil _ _ _ _).mono ?_
  rintro e w2 ⟨rfl, rfl⟩
  go_wp2_with fail
  go_ret
  exact ⟨rfl, (Ext.refl w).alloc _⟩
end Go.Proofs.Ytkabcfhemljnbaa
