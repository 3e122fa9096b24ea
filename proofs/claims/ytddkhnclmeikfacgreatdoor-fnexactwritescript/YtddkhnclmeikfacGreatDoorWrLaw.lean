import Derived.Test.YtddkhnclmeikfacGreatDoorXg
namespace Go.Proofs.YtddkhnclmeikfacGreatDoor
open Go.RowKit
attribute [local go_sem ↓] Go.wp_at_zero Go.wp_at_succ

set_option maxRecDepth 100000 in
set_option maxHeartbeats 600000 in
theorem wrLaw_any (room : Int) (xs : List Ak) (v : Value) (w : World) (hr0 : -9223372036854775808 ≤ room) (hr1 : room ≤ 9223372036854775807) (h : SlA w v xs) (hf : ∀ x ∈ xs, x.Fit) (ht : Tab w) :
    Calls Tryz.prog 5 #[.int .i64 room, v] w fun e w' => e = .returned (.bool true) ∧ Ext w w' := by
  have S := hide h
  obtain ⟨ad, cap, hv, hl, _⟩ := h
  have QS := hide (szActS_any ad xs.length cap 1048576 w hl (by omega) (by omega))
  rw [← hv] at QS
  clear hv
  have HF := hide hf
  have HT := hide ht
  clear hf ht
  go_enter Tryz.func5, Tryz.ntmps5
  go_wp2_with fail
  refine (unhide QS).mono ?_
  rintro e w1 ⟨r, rfl, hr, hw1⟩
  subst hw1
  rcases hr with ⟨hq0, hq1⟩ | hq
  rotate_left
  · subst hq
    go_wp2_with fail
    go_ret
    exact ⟨rfl, Ext.refl _⟩
  have hr2 : ¬ r < 0 := by omega
  have n1 : xs.length ≤ 1048576 := by omega
  clear hq1 QS hl
  go_wp2_with fail
  refine (toActS_any xs v _ (unhide S) n1).mono ?_
  rintro e w2 ⟨v2, rfl, s2, _, q2⟩
  have S2 := hide s2
  clear s2
  go_wp2_with fail
  refine (specWrite_any room xs v2 _ hr0 hr1 (unhide S2) (unhide HF) n1).mono ?_
  rintro e w3 ⟨rfl, q3⟩
  have x3 := q2.trans q3
  go_wp2_with fail
  refine (toActS_any xs v _ (SlA.ext x3 (unhide S)) n1).mono ?_
  rintro e w4 ⟨v4, rfl, s4, _, q4⟩
  have S4 := hide s4
  have x4 := x3.trans q4
  clear s4
  go_wp2_with fail
  refine (implWrite_any room xs v4 _ hr0 hr1 (unhide S4) (unhide HF) n1 ((unhide HT).ext x4)).mono ?_
  rintro e w5 ⟨rfl, q5⟩
  have x5 := x4.trans q5
  go_wp2_with fail
  refine (toActS_any xs v _ (SlA.ext x5 (unhide S)) n1).mono ?_
  rintro e w6 ⟨v6, rfl, s6, _, q6⟩
  have S6 := hide s6
  have e46 := q5.trans q6
  clear s6
  go_wp2_with fail
  refine (eqActS_same xs v4 v6 _ (SlA.ext e46 (unhide S4)) (unhide S6)).mono ?_
  rintro e w7 ⟨rfl, q7⟩
  go_wp2_with fail
  go_ret
  exact ⟨rfl, (x5.trans q6).trans q7⟩
end Go.Proofs.YtddkhnclmeikfacGreatDoor
