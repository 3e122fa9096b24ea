import Derived.Test.YtkabcfhemljnbaaGreatImpE
namespace Go.Proofs.YtkabcfhemljnbaaGreat
open Go.RowKit
attribute [local go_sem ↓] Go.wp_at_zero Go.wp_at_succ

theorem withinB_true {n lo hi : Int} (h : withinB n lo hi = true) : lo ≤ n ∧ n ≤ hi := by simpa [withinB] using h
theorem withinB_false {n lo hi : Int} (h : withinB n lo hi = false) : ¬ (lo ≤ n ∧ n ≤ hi) := by unfold withinB at h; exact of_decide_eq_false h
theorem within_is (n lo hi : Int) (r : Bool) (h : withinB n lo hi = r) (w : World) : Calls Tryz.prog 74 #[.int .i64 n, .int .i64 lo, .int .i64 hi] w fun e w' => e = .returned (.bool r) ∧ w' = w := by
  rw [← h]; exact within_any n lo hi w

set_option maxHeartbeats 600000 in
theorem formed_any (y : Wd) (b n : Nat) (an : Option Addr) (kn : Nat) (w : World) (c13 : w.cell? ⟨b, 13, none⟩ = some (.slice an n kn)) (hn : n ≤ 35184372088832) :
    Calls Tryz.prog 195 #[.pointer (some ⟨b, 0, none⟩), y.v] w fun e w' => e = .returned (.bool (formedB y n)) ∧ Ext w w' := by
  have hb : b < w.heap.size := cell_lt c13
  cases k0 : (y.k == 0)
  · cases k1 : (y.k == 1)
    · cases k2 : (y.k == 2)
      · have E := hide (show formedB y n = false by simp at k0 k1 k2; simp [formedB, k0, k1, k2])
        go_enter Tryz.func195, Tryz.ntmps195
        go_wp2_with fail
        go_ret
        exact ⟨by rw [unhide E]; rfl, (Ext.refl w).alloc _⟩
      · cases q : (y.n == 0)
        · have E := hide (show formedB y n = false by simp at k2; simp [formedB, k2, q])
          go_enter Tryz.func195, Tryz.ntmps195
          go_wp2_with fail
          go_quiet (fail)
          go_wp2_with fail
          go_ret
          exact ⟨by rw [unhide E]; rfl, ((Ext.refl w).alloc _).drewN _⟩
        · cases t : withinB y.a 0 ((n : Int) - 1)
          · have E := hide (show formedB y n = false by
              have := withinB_false t
              simp at k2 q
              simp [formedB, k2, q]
              omega)
            go_enter Tryz.func195, Tryz.ntmps195
            go_wp2_with fail
            go_quiet ((go_at_call 74; refine Calls.quiet_of_same (within_is _ _ _ false ?_ _); assumption))
            go_wp2_with fail
            go_ret
            exact ⟨by rw [unhide E]; rfl, ((Ext.refl w).alloc _).drewN _⟩
          · have E := hide (show formedB y n = true by
              have := withinB_true t
              simp at k2 q
              simp [formedB, k2, q]
              omega)
            go_enter Tryz.func195, Tryz.ntmps195
            go_wp2_with fail
            go_quiet ((go_at_call 74; refine Calls.quiet_of_same (within_is _ _ _ true ?_ _); assumption))
            go_wp2_with fail
            go_ret
            exact ⟨by rw [unhide E]; rfl, ((Ext.refl w).alloc _).drewN _⟩
    · have E := hide (show formedB y n = (y.a == 0) by simp at k1; simp [formedB, k1])
      go_enter Tryz.func195, Tryz.ntmps195
      go_wp2_with fail
      go_ret
      exact ⟨by rw [unhide E]; simp, (Ext.refl w).alloc _⟩
  · have E := hide (show formedB y n = (y.n == 0 && y.a == 0) by simp at k0; simp [formedB, k0])
    cases q : (y.n == 0)
    all_goals
      go_enter Tryz.func195, Tryz.ntmps195
      go_wp2_with fail
      go_ret
      exact ⟨by rw [unhide E]; simp [q], (Ext.refl w).alloc _⟩

theorem find_none (y : Wd) (b : Nat) (w : World) (k2 : (y.k == 2) = false) :
    Calls Tryz.prog 155 #[.pointer (some ⟨b, 0, none⟩), y.v] w fun e w' => e = .returned (.pointer none) ∧ Ext w w' := by
  have k2b : (y.k != 2) = true := by simpa using k2
  go_enter Tryz.func155, Tryz.ntmps155
  go_wp2_with fail
  go_ret
  exact ⟨rfl, (Ext.refl w).alloc _⟩

theorem find_some (y : Wd) (b n bn on kn i : Nat) (w : World) (k2 : (y.k == 2) = true) (c13 : w.cell? ⟨b, 13, none⟩ = some (.slice (some ⟨bn, on, none⟩) n kn)) (hn : i < n) :
    Calls Tryz.prog 155 #[.pointer (some ⟨b, 0, none⟩), .agg #[iv y.k, iv y.n, iv i]] w fun e w' => e = .returned (.pointer (some ⟨bn, on + i * 2, none⟩)) ∧ Ext w w' := by
  have hb : b < w.heap.size := cell_lt c13
  have k2b : (y.k != 2) = false := by simpa using k2
  have hi0 : (0 : Int) ≤ (i : Int) := by omega
  have hi1 : (i : Int) < (n : Int) := by omega
  go_enter Tryz.func155, Tryz.ntmps155
  go_wp2_with fail
  go_quiet (fail)
  go_wp2_with fail
  go_ret
  exact ⟨rfl, ((Ext.refl w).alloc _).drewN _⟩
end Go.Proofs.YtkabcfhemljnbaaGreat
