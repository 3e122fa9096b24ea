import Derived.Test.YtbcmjcomdjdjaaaGreatSpecD
namespace Go.Proofs.YtbcmjcomdjdjaaaGreat
open Go.RowKit
attribute [local go_sem ↓] Go.wp_at_zero Go.wp_at_succ

/-! The program's view of a heap. -/
structure VAt (w : World) (b : Nat) (x : Hp) (ar : Option Addr) (kr : Nat) (ac : Option Addr) (kc : Nat) (ag : Option Addr) (kg : Nat) (an : Option Addr) (kn : Nat) : Prop where
  H : HAt w b x ar kr ac kc ag kg
  n13 : w.cell? ⟨b, 13, none⟩ = some (.slice an x.cells.length kn)
  N : ∀ i, i < x.cells.length → ∃ bn on bc oc, an = some ⟨bn, on, none⟩ ∧ ac = some ⟨bc, oc, none⟩ ∧ w.cell? ⟨bn, on + i * 2, none⟩ = some (iv i) ∧ w.cell? ⟨bn, on + i * 2 + 1, none⟩ = some (.pointer (some ⟨bc, oc + i * 8, none⟩))
theorem VAt.ext {w w' : World} {b : Nat} {x : Hp} {ar : Option Addr} {kr : Nat} {ac : Option Addr} {kc : Nat} {ag : Option Addr} {kg : Nat} {an : Option Addr} {kn : Nat} (h : VAt w b x ar kr ac kc ag kg an kn) (e : Ext w w') : VAt w' b x ar kr ac kc ag kg an kn :=
  ⟨h.H.ext e, e.keep h.n13, fun i hi => let ⟨bn, on, bc, oc, a, a', p, q⟩ := h.N i hi; ⟨bn, on, bc, oc, a, a', e.keep p, e.keep q⟩⟩

theorem units_any (c : Cl) (bn q bc r : Nat) (ap : Option Addr) (kp : Nat) (w : World) (m1 : w.cell? ⟨bn, q + 1, none⟩ = some (.pointer (some ⟨bc, r, none⟩))) (p7 : w.cell? ⟨bc, r + 7, none⟩ = some (.slice ap c.prs.length kp)) (lp : c.prs.length ≤ 35184372088832) :
    Calls Tryz.prog 52 #[.pointer (some ⟨bn, q, none⟩)] w fun e w' => e = .returned (.int .i64 (1 + (c.prs.length : Int))) ∧ w' = w := by
  go_enter Tryz.func52, Tryz.ntmps52
  go_wp2
  go_ret
  exact ⟨rfl, rfl⟩

set_option maxHeartbeats 600000 in
theorem roomKept_any (x : Hp) (b : Nat) (w : World) {ar : Option Addr} {kr : Nat} {ac : Option Addr} {kc : Nat} {ag : Option Addr} {kg : Nat} {an : Option Addr} {kn : Nat} (h : VAt w b x ar kr ac kc ag kg an kn) (hn : x.cells.length ≤ 8000) (hp : ∀ i, i < x.cells.length → (x.c i).prs.length ≤ 200) :
    Calls Tryz.prog 98 #[.pointer (some ⟨b, 0, none⟩)] w fun e w' => ∃ r : Bool, e = .returned (.bool r) ∧ (r = true ↔ R3 x) ∧ Ext w w' := by
  have n13 := h.n13
  have c0 := h.H.c0
  have c1 := h.H.c1
  go_enter Tryz.func98, Tryz.ntmps98
  go_wp2_with fail
  go_loop [3, 10] (fun n i => ∃ (k : Nat) (u : Nat), k ≤ x.cells.length ∧ i = .int .i64 k ∧ n = .int .i64 u ∧ Hid (u = units (x.cells.take k)) ∧ u ≤ 201 * k) (fun _ i => x.cells.length - (intOf i).toNat)
  case atStart => exact ⟨0, 0, Nat.zero_le _, rfl, rfl, by show _ = _; simp [units], by omega⟩
  case round =>
    obtain ⟨k, u, hk, rfl, rfl, hu, hu2⟩ := hrel
    by_cases hlt : k < x.cells.length
    · obtain ⟨b', o, ap, kp, rfl, p0, p1, p2, p3, p4, p5, p6, p7, lp, P⟩ := h.H.cell k hlt
      obtain ⟨bn, on, bc, oc, rfl, e2, m0, m1⟩ := h.N k hlt
      cases e2
      have hpk := hp k hlt
      clear P
      have hk0 : (0:Int) ≤ (k:Int) := by omega
      have hk1 : (k:Int) < (x.cells.length:Int) := by omega
      have hut := units_take x.cells k hlt
      rw [Hp.c_eq] at hut
      cases qs : ((x.c k).st == 1)
      · have qs' : ¬ (x.c k).st = 1 := by simpa using qs
        have H : Hid (u = units (x.cells.take (k + 1))) := by have := unhide hu; show _ = _; rw [hut, unitsOf, if_neg qs']; omega
        clear hut
        go_wp2_with fail
        go_round
        case rel => exact ⟨k + 1, u, by omega, by go_num, rfl, H, by omega⟩
        case measure => simp [intOf]; omega
      · have qs' : (x.c k).st = 1 := by simpa using qs
        have H : Hid (u + (1 + (x.c k).prs.length) = units (x.cells.take (k + 1))) := by have := unhide hu; show _ = _; rw [hut, unitsOf, if_pos qs']; omega
        clear hut qs'
        go_wp2_with fail
        refine (units_any (x.c k) bn (on + k * 2) _ _ ap kp _ m1 p7 lp).mono ?_
        rintro e w1 ⟨rfl, rfl⟩
        go_wp2_with fail
        go_round
        case rel => exact ⟨k + 1, u + (1 + (x.c k).prs.length), by omega, by go_num, by go_num, H, by omega⟩
        case measure => simp [intOf]; omega
    · have hk2 : k = x.cells.length := by omega
      have H := hide (show u = units x.cells by have := unhide hu; rw [hk2, List.take_length] at this; exact this)
      clear hk2
      cases t1 : (x.used == (u : Int))
      · have N := hide (show ¬ R3 x from fun r => by have := unhide H; have := r.1; simp at t1; omega)
        go_wp2_with fail
        go_ret
        first | (exact Or.inl ⟨rfl, unhide N, Ext.refl _⟩) | (exact ⟨false, rfl, ⟨fun f => by simp at f, fun r => (unhide N r).elim⟩, Ext.refl _⟩)
      · by_cases t2 : (u : Int) ≤ x.room
        · have Y := hide (show R3 x by
            have e1 := unhide H
            have e2 : x.used = (u : Int) := by simpa using t1
            exact ⟨by rw [e2, e1], by omega⟩)
          go_wp2_with fail
          go_ret
          first | (exact Or.inr ⟨rfl, unhide Y, Ext.refl _⟩) | (exact ⟨true, rfl, ⟨fun _ => unhide Y, fun _ => rfl⟩, Ext.refl _⟩)
        · have t3 : decide ((u : Int) ≤ x.room) = false := by simp; omega
          have N := hide (show ¬ R3 x from fun r => by
            have e2 : x.used = (u : Int) := by simpa using t1
            have := r.2
            omega)
          clear t2
          go_wp2_with fail
          go_ret
          first | (exact Or.inl ⟨by simp, unhide N, Ext.refl _⟩) | (exact ⟨false, by simp, ⟨fun f => by simp at f, fun r => (unhide N r).elim⟩, Ext.refl _⟩)

set_option maxHeartbeats 600000 in
theorem closingKept_any (x : Hp) (b : Nat) (w : World) {ar : Option Addr} {kr : Nat} {ac : Option Addr} {kc : Nat} {ag : Option Addr} {kg : Nat} {an : Option Addr} {kn : Nat} (h : VAt w b x ar kr ac kc ag kg an kn) :
    Calls Tryz.prog 103 #[.pointer (some ⟨b, 0, none⟩)] w fun e w' => ∃ r : Bool, e = .returned (.bool r) ∧ (r = true ↔ R8 x) ∧ Ext w w' := by
  have n13 := h.n13
  have c5 := h.H.c5
  have lc := h.H.lc
  cases q1 : (x.phase == 6)
  · have Y := hide (show R8 x from fun i hi hb => by simp [hb.1] at q1)
    have q1n : (x.phase != 6) = true := by simpa using q1
    go_enter Tryz.func103, Tryz.ntmps103
    go_wp2_with fail
    go_ret
    first | (exact Or.inr ⟨rfl, unhide Y, Ext.refl _⟩) | (exact ⟨true, rfl, ⟨fun _ => unhide Y, fun _ => rfl⟩, Ext.refl _⟩)
  · have q1n : (x.phase != 6) = false := by simpa using q1
    have PH := hide (show x.phase = 6 by simpa using q1)
    go_enter Tryz.func103, Tryz.ntmps103
    go_wp2_with fail
    go_loopw [16] (fun i wr => ∃ (k : Nat), k ≤ x.cells.length ∧ i = .int .i64 k ∧ (∀ j, j < k → ¬ (x.phase = 6 ∧ x.hand ≤ j ∧ (x.c j).st = 2)) ∧ Ext w wr) (fun i _ => x.cells.length - (intOf i).toNat)
    case atStart => exact ⟨0, Nat.zero_le _, rfl, fun j hj => by omega, Ext.refl _⟩
    case round =>
      obtain ⟨k, hk, rfl, hall, hbl⟩ := hrel
      have HA := hide hall
      clear hall
      by_cases hlt : k < x.cells.length
      · have h1 := h.ext hbl
        obtain ⟨b', o, ap, kp, rfl, p0, p1, p2, p3, p4, p5, p6, p7, lp, P⟩ := h1.H.cell k hlt
        obtain ⟨bn, on, bc, oc, rfl, e2, m0, m1⟩ := h1.N k hlt
        cases e2
        have d6 := h1.H.c6
        have d13 := h1.n13
        clear P h1 n13 c5
        have hk0 : (0:Int) ≤ (k:Int) := by omega
        have hk1 : (k:Int) < (x.cells.length:Int) := by omega
        have step : ¬ (x.phase = 6 ∧ x.hand ≤ k ∧ (x.c k).st = 2) → Hid (∀ j, j < k + 1 → ¬ (x.phase = 6 ∧ x.hand ≤ j ∧ (x.c j).st = 2)) := fun hn j hj => by
          by_cases e : j = k
          · subst e; exact hn
          · exact unhide HA j (by omega)
        cases q3 : ((x.c k).st == 2)
        · have S := step (by simp at q3; omega)
          clear step
          go_wp2_with fail
          go_quiet (fail)
          go_wp2_with fail
          go_roundw
          case rel => exact ⟨k + 1, by omega, by go_num, unhide S, Ext.drewN hbl _⟩
          case measure => simp [intOf]; omega
        · by_cases q2 : x.hand ≤ (k : Int)
          · have N := hide (show ¬ R8 x from fun r => r k hlt ⟨unhide PH, q2, by simpa using q3⟩)
            clear step
            go_wp2_with fail
            go_quiet (fail)
            go_wp2_with fail
            go_ret
            first | (exact Or.inl ⟨rfl, unhide N, Ext.drewN hbl _⟩) | (exact ⟨false, rfl, ⟨fun f => by simp at f, fun r => (unhide N r).elim⟩, Ext.drewN hbl _⟩)
          · have S := step (by omega)
            clear step
            go_wp2_with fail
            go_quiet (fail)
            go_wp2_with fail
            go_roundw
            case rel => exact ⟨k + 1, by omega, by go_num, unhide S, Ext.drewN hbl _⟩
            case measure => simp [intOf]; omega
      · have Y := hide (show R8 x from fun i hi => unhide HA i (by omega))
        go_wp2_with fail
        go_ret
        first | (exact Or.inr ⟨rfl, unhide Y, hbl⟩) | (exact ⟨true, rfl, ⟨fun _ => unhide Y, fun _ => rfl⟩, hbl⟩)
end Go.Proofs.YtbcmjcomdjdjaaaGreat
