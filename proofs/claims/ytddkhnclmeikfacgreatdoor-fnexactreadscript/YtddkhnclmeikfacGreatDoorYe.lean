import Derived.Test.YtddkhnclmeikfacGreatDoorYd
namespace Go.Proofs.YtddkhnclmeikfacGreatDoor
open Go.RowKit
attribute [local go_sem ↓] Go.wp_at_zero Go.wp_at_succ

/-! The model's lines. -/
theorem word_le {l : List UInt8} : ∀ w ∈ wordsL l, w.length ≤ l.length := by
  induction l with
  | nil => intro w hw; simp [wordsL] at hw; simp [hw]
  | cons c r ih =>
    intro w hw
    unfold wordsL at hw
    split at hw
    · rcases List.mem_cons.1 hw with rfl | hw
      · simp
      · have := ih w hw; simp; omega
    · split at hw
      · have e := List.mem_singleton.1 hw
        rw [e]; simp
      · rename_i q
        rcases List.mem_cons.1 hw with rfl | hw
        · have := ih _ (by rw [q]; exact List.mem_cons_self ..); simp; omega
        · have := ih w (by rw [q]; exact List.mem_cons_of_mem _ hw); simp; omega
theorem roomO_len {l : List UInt8} (h : (wordsL l).length ≠ 2) : roomO l = none := by
  unfold roomO
  split
  · rename_i q; rw [q] at h; simp at h
  · rfl
theorem roomO_name {l w0 r : List UInt8} (h : wordsL l = [w0, r]) (h0 : (w0 == [114, 111, 111, 109]) = false) : roomO l = none := by
  unfold roomO
  rw [h]
  simp [h0]
theorem roomO_two {l w0 r : List UInt8} (h : wordsL l = [w0, r]) (h0 : (w0 == [114, 111, 111, 109]) = true) : roomO l = if roomGood r = true then some (numV r) else none := by
  unfold roomO
  rw [h]
  simp [h0]
set_option maxRecDepth 100000 in
set_option maxHeartbeats 600000 in
theorem l7room_any (l : List UInt8) (hl : l.length ≤ 20000) (w : World) : Calls Tryz.prog 50 #[.string (sB l)] w fun e w' => ∃ n : Int, Hid (e = .returned (.tuple #[.int .i64 n, .bool (roomO l).isSome])) ∧ Hid (∀ r, roomO l = some r → n = r) ∧ Ext w w' := by
  have QW := hide (fun W => l7words_any l hl W)
  go_enter Tryz.func50, Tryz.ntmps50
  go_wp2_with fail
  refine (unhide QW _).mono ?_
  rintro e w2 ⟨v, he, hown, x2⟩
  have e2 := unhide he
  clear he
  subst e2
  have WL := hide (word_le (l := l))
  obtain ⟨ad, cap, hv, hx⟩ := own_strs (unhide hown)
  subst hv
  have HX := hide hx
  clear hx hown
  by_cases h2 : (wordsL l).length = 2
  rotate_left
  · have NO := hide (roomO_len h2)
    have q1 : (((wordsL l).length : Int) != 2) = true := by simp; omega
    go_wp2_with fail
    go_ret2
    exact ⟨0, hide (by rw [unhide NO]; rfl), hide (fun r h => by rw [unhide NO] at h; cases h), x2⟩
  · obtain ⟨w0, r, hw⟩ : ∃ w0 r, wordsL l = [w0, r] := by
      match q : wordsL l, h2 with
      | [a, b], _ => exact ⟨a, b, rfl⟩
    have RL := unhide WL r (by rw [hw]; simp)
    have HW := hide hw
    obtain ⟨L, hL⟩ : ∃ L, L = wordsL l := ⟨_, rfl⟩
    rw [← hL] at HX
    have hL2 : L = [w0, r] := hL.trans hw
    subst hL2
    obtain ⟨g, hg, c0⟩ := unhide HX 0 (by simp)
    obtain ⟨g1, hg1, c1⟩ := unhide HX 1 (by simp)
    subst hg
    cases hg1
    simp only [List.getElem_cons_zero, List.getElem_cons_succ] at c0 c1
    have hlen : (wordsL l).length = 2 := h2
    rw [hlen]
    have QN := hide (fun W => l7number_any r (by omega) W)
    clear HX hL hw h2 hlen QW
    cases q : (w0 == [114, 111, 111, 109])
    · have NO := hide (roomO_name (unhide HW) q)
      have q2 : (w0 != [114, 111, 111, 109]) = true := by simp [bne, q]
      go_wp2_with fail
      go_ret2
      exact ⟨0, hide (by rw [unhide NO]; rfl), hide (fun r h => by rw [unhide NO] at h; cases h), x2⟩
    · have TW := hide (roomO_two (unhide HW) q)
      have q2 : (w0 != [114, 111, 111, 109]) = false := by simp [bne, q]
      go_wp2_with fail
      refine (unhide QN _).mono ?_
      rintro e w3 ⟨n, he, hn, _, x3⟩
      have e2 := unhide he
      clear he
      subst e2
      cases qb : numB r
      · have NO := hide (show roomO l = none by rw [unhide TW, if_neg]; unfold roomGood; rw [qb]; simp)
        go_wp2_with fail
        go_ret2
        exact ⟨_, hide (by rw [unhide NO]; rfl), hide (fun r h => by rw [unhide NO] at h; cases h), x2.trans x3⟩
      · have en := unhide hn qb
        have YS := hide (show (roomO l).isSome = (decide (1 ≤ n) && decide (n ≤ 4000)) ∧ ∀ r, roomO l = some r → n = r by
          rw [unhide TW]
          unfold roomGood
          rw [qb, ← en, Bool.true_and]
          cases h : (decide (1 ≤ n) && decide (n ≤ 4000)) with
          | true => simp only [if_true]; exact ⟨rfl, fun r hr => Option.some.inj hr⟩
          | false => rw [if_neg (by simp)]; exact ⟨rfl, fun r hr => by cases hr⟩)
        clear en
        by_cases p1 : 1 ≤ n
        · have Z := hide (show (decide (1 ≤ n) && decide (n ≤ 4000)) = decide (n ≤ 4000) by rw [decide_eq_true p1, Bool.true_and])
          go_wp2_with fail
          go_ret2
          exact ⟨n, hide (by rw [(unhide YS).1, unhide Z]; rfl), hide (unhide YS).2, x2.trans x3⟩
        · have Z := hide (show (decide (1 ≤ n) && decide (n ≤ 4000)) = false by rw [decide_eq_false p1]; simp)
          go_wp2_with fail
          go_ret2
          exact ⟨n, hide (by rw [(unhide YS).1, unhide Z]; rfl), hide (unhide YS).2, x2.trans x3⟩
end Go.Proofs.YtddkhnclmeikfacGreatDoor
