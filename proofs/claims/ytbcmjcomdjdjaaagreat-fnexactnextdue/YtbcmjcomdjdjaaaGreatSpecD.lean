import Derived.Test.YtbcmjcomdjdjaaaGreatSpecC
namespace Go.Proofs.YtbcmjcomdjdjaaaGreat
open Go.RowKit
attribute [local go_sem ↓] Go.wp_at_zero Go.wp_at_succ

theorem units_take (cs : List Cl) (k : Nat) (h : k < cs.length) : units (cs.take (k + 1)) = units (cs.take k) + unitsOf cs[k] := by
  unfold units
  rw [List.take_succ_eq_append_getElem h]
  simp only [List.map_append, List.sum_append, List.map_cons, List.map_nil, List.sum_cons, List.sum_nil, Nat.add_zero]
theorem units_le (x : Hp) (hp : ∀ i, i < x.cells.length → (x.c i).prs.length ≤ 200) : ∀ k, k ≤ x.cells.length → units (x.cells.take k) ≤ 201 * k
  | 0, _ => by simp [units]
  | k + 1, h => by
    have := units_le x hp k (by omega)
    rw [units_take _ _ (by omega), Hp.c_eq]
    have := hp k (by omega)
    unfold unitsOf
    split <;> omega

set_option maxHeartbeats 600000 in
theorem l1units_any (x : Hp) (b : Nat) (w : World) {ar : Option Addr} {kr : Nat} {ac : Option Addr} {kc : Nat} {ag : Option Addr} {kg : Nat} (h : HAt w b x ar kr ac kc ag kg) (hn : x.cells.length ≤ 8000) (hp : ∀ i, i < x.cells.length → (x.c i).prs.length ≤ 200) :
    Calls Tryz.prog 39 #[.pointer (some ⟨b, 0, none⟩)] w fun e w' => e = .returned (.int .i64 (units x.cells)) ∧ Ext w w' := by
  have c4 := h.c4
  go_enter Tryz.func39, Tryz.ntmps39
  go_wp2_with fail
  go_loopw [3, 11] (fun n i wr => ∃ (k : Nat) (u : Nat), k ≤ x.cells.length ∧ i = .int .i64 k ∧ n = .int .i64 u ∧ Hid (u = units (x.cells.take k)) ∧ u ≤ 201 * k ∧ Ext w wr) (fun _ i _ => x.cells.length - (intOf i).toNat)
  case atStart => exact ⟨0, 0, Nat.zero_le _, rfl, rfl, by show _ = _; simp [units], by omega, Ext.refl _⟩
  case round =>
    obtain ⟨k, u, hk, rfl, rfl, hu, hu2, hbl⟩ := hrel
    by_cases hlt : k < x.cells.length
    · obtain ⟨b', o, ap, kp, rfl, p0, p1, p2, p3, p4, p5, p6, p7, lp, P⟩ := (h.ext hbl).cell k hlt
      have hpk := hp k hlt
      have hb' : b' < wr.heap.size := cell_lt p0
      clear P
      have hk0 : (0:Int) ≤ (k:Int) := by omega
      have hk1 : (k:Int) < (x.cells.length:Int) := by omega
      have hut := units_take x.cells k hlt
      rw [Hp.c_eq] at hut
      cases qs : ((x.c k).st == 1)
      · have qs' : ¬ (x.c k).st = 1 := by simpa using qs
        have H : Hid (u = units (x.cells.take (k + 1))) := by have := unhide hu; show _ = _; rw [hut, unitsOf, if_neg qs']; omega
        clear hut
        go_wp2_with fail
        go_roundw
        case rel => exact ⟨k + 1, u, by omega, by go_num, rfl, H, by omega, hbl.alloc _⟩
        case measure => simp [intOf]; omega
      · have qs' : (x.c k).st = 1 := by simpa using qs
        have H : Hid (u + (1 + (x.c k).prs.length) = units (x.cells.take (k + 1))) := by have := unhide hu; show _ = _; rw [hut, unitsOf, if_pos qs']; omega
        clear hut qs'
        go_wp2_with fail
        go_roundw
        case rel => exact ⟨k + 1, u + (1 + (x.c k).prs.length), by omega, by go_num, by go_num, H, by omega, hbl.alloc _⟩
        case measure => simp [intOf]; omega
    · have hk2 : k = x.cells.length := by omega
      have H := hide (show u = units x.cells by have := unhide hu; rw [hk2, List.take_length] at this; exact this)
      clear hk2
      go_wp2_with fail
      go_ret
      exact ⟨by rw [← unhide H]; rfl, hbl⟩

set_option maxHeartbeats 600000 in
theorem l1closing_any (x : Hp) (b : Nat) (w : World) {ar : Option Addr} {kr : Nat} {ac : Option Addr} {kc : Nat} {ag : Option Addr} {kg : Nat} (h : HAt w b x ar kr ac kc ag kg) :
    Calls Tryz.prog 44 #[.pointer (some ⟨b, 0, none⟩)] w fun e w' => ∃ r : Bool, e = .returned (.bool r) ∧ (r = true ↔ R8 x) ∧ Ext w w' := by
  have c4 := h.c4
  have lc := h.lc
  go_enter Tryz.func44, Tryz.ntmps44
  go_wp2_with fail
  go_loopw [10] (fun i wr => ∃ (k : Nat), k ≤ x.cells.length ∧ i = .int .i64 k ∧ (∀ j, j < k → ¬ (x.phase = 6 ∧ x.hand ≤ j ∧ (x.c j).st = 2)) ∧ Ext w wr) (fun i _ => x.cells.length - (intOf i).toNat)
  case atStart => exact ⟨0, Nat.zero_le _, rfl, fun j hj => by omega, Ext.refl _⟩
  case round =>
    obtain ⟨k, hk, rfl, hall, hbl⟩ := hrel
    have HA := hide hall
    clear hall
    by_cases hlt : k < x.cells.length
    · have h1 := h.ext hbl
      obtain ⟨b', o, ap, kp, rfl, p0, p1, p2, p3, p4, p5, p6, p7, lp, P⟩ := h1.cell k hlt
      have d5 := h1.c5
      have d6 := h1.c6
      have hb' : b' < wr.heap.size := cell_lt p0
      have hb : b < wr.heap.size := cell_lt d5
      clear P h1
      have hk0 : (0:Int) ≤ (k:Int) := by omega
      have hk1 : (k:Int) < (x.cells.length:Int) := by omega
      have step : ¬ (x.phase = 6 ∧ x.hand ≤ k ∧ (x.c k).st = 2) → Hid (∀ j, j < k + 1 → ¬ (x.phase = 6 ∧ x.hand ≤ j ∧ (x.c j).st = 2)) := fun hn j hj => by
        by_cases e : j = k
        · subst e; exact hn
        · exact unhide HA j (by omega)
      cases q1 : (x.phase == 6)
      · have S := step (by simp at q1; omega)
        clear step
        go_wp2_with fail
        go_roundw
        case rel => exact ⟨k + 1, by omega, by go_num, unhide S, hbl.alloc _⟩
        case measure => simp [intOf]; omega
      · cases q2 : decide (x.hand ≤ (k : Int))
        · have S := step (by simp at q2; omega)
          clear step
          go_wp2_with fail
          go_roundw
          case rel => exact ⟨k + 1, by omega, by go_num, unhide S, hbl.alloc _⟩
          case measure => simp [intOf]; omega
        · cases q3 : ((x.c k).st == 2)
          · have S := step (by simp at q3; omega)
            clear step
            go_wp2_with fail
            go_roundw
            case rel => exact ⟨k + 1, by omega, by go_num, unhide S, hbl.alloc _⟩
            case measure => simp [intOf]; omega
          · have N := hide (show ¬ R8 x from fun r => r k hlt ⟨by simpa using q1, by simpa using q2, by simpa using q3⟩)
            clear step
            go_wp2_with fail
            go_ret
            exact ⟨false, rfl, ⟨fun f => by simp at f, fun r => (unhide N r).elim⟩, hbl.alloc _⟩
    · have Y := hide (show R8 x from fun i hi => unhide HA i (by omega))
      go_wp2_with fail
      go_ret
      exact ⟨true, rfl, ⟨fun _ => unhide Y, fun _ => rfl⟩, hbl⟩
end Go.Proofs.YtbcmjcomdjdjaaaGreat
