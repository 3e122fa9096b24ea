import Derived.Test.YtkabcfhemljnbaaGreatImpC
namespace Go.Proofs.YtkabcfhemljnbaaGreat
open Go.RowKit
attribute [local go_sem ↓] Go.wp_at_zero Go.wp_at_succ

/-- rootSeen of the node at place i -/
theorem rootSeen_any (x : Hp) (b bn q i : Nat) (w : World) (c5 : w.cell? ⟨b, 5, none⟩ = some (iv x.phase)) (c6 : w.cell? ⟨b, 6, none⟩ = some (iv x.hand)) (m0 : w.cell? ⟨bn, q, none⟩ = some (iv i)) :
    Calls Tryz.prog 186 #[.pointer (some ⟨b, 0, none⟩), .pointer (some ⟨bn, q, none⟩)] w fun e w' => e = .returned (.bool ((x.phase == 2) || decide ((i : Int) < x.hand))) ∧ Ext w w' := by
  cases t1 : (x.phase == 2)
  all_goals
    go_enter Tryz.func186, Tryz.ntmps186
    go_wp2_with fail
    go_quiet (fail)
    go_wp2_with fail
    go_ret
    exact ⟨by simp, (Ext.refl w).drewN _⟩

set_option maxHeartbeats 600000 in
theorem mended_any (x : Hp) (b bn q i k : Nat) (w : World) (c5 : w.cell? ⟨b, 5, none⟩ = some (iv x.phase)) (c6 : w.cell? ⟨b, 6, none⟩ = some (iv x.hand)) (c7 : w.cell? ⟨b, 7, none⟩ = some (iv x.sub)) (m0 : w.cell? ⟨bn, q, none⟩ = some (iv i)) :
    Calls Tryz.prog 196 #[.pointer (some ⟨b, 0, none⟩), .pointer (some ⟨bn, q, none⟩), .int .i64 k] w fun e w' => e = .returned (.bool (mendedB x i k)) ∧ Ext w w' := by
  cases h4 : (x.phase == 4)
  · cases h5 : (x.phase == 5)
    · have E := hide (show mendedB x i k = true by simp at h4 h5; simp [mendedB, h4, h5])
      go_enter Tryz.func196, Tryz.ntmps196
      go_wp2_with fail
      go_ret
      exact ⟨by rw [unhide E]; rfl, Ext.refl w⟩
    · have E := hide (show mendedB x i k = (decide ((i : Int) < x.hand) || ((i : Int) == x.hand && decide ((k : Int) < x.sub))) by simp at h5; simp [mendedB, h5])
      cases q1 : decide ((i : Int) < x.hand)
      · cases q2 : ((i : Int) == x.hand)
        · go_enter Tryz.func196, Tryz.ntmps196
          go_wp2_with fail
          go_quiet (fail)
          go_wp2_with fail
          go_ret
          exact ⟨by rw [unhide E, q1, q2]; simp, (Ext.refl w).drewN _⟩
        · go_enter Tryz.func196, Tryz.ntmps196
          go_wp2_with fail
          go_quiet (fail)
          go_wp2_with fail
          go_ret
          exact ⟨by rw [unhide E, q1, q2]; simp, (Ext.refl w).drewN _⟩
      · go_enter Tryz.func196, Tryz.ntmps196
        go_wp2_with fail
        go_quiet (fail)
        go_wp2_with fail
        go_ret
        exact ⟨by rw [unhide E, q1]; simp, (Ext.refl w).drewN _⟩
  · have E := hide (show mendedB x i k = false by simp at h4; simp [mendedB, h4])
    go_enter Tryz.func196, Tryz.ntmps196
    go_wp2_with fail
    go_ret
    exact ⟨by rw [unhide E]; rfl, Ext.refl w⟩
end Go.Proofs.YtkabcfhemljnbaaGreat
