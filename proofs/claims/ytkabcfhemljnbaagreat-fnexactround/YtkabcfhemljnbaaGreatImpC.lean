import Derived.Test.YtkabcfhemljnbaaGreatIn
import Derived.Test.YtkabcfhemljnbaaGreatSpecA
namespace Go.Proofs.YtkabcfhemljnbaaGreat
open Go.RowKit
attribute [local go_sem ↓] Go.wp_at_zero Go.wp_at_succ

def whiteB (x : Hp) (y : Wd) : Bool := (y.k == 2) && ((x.c y.a.toNat).color == 0)
theorem whiteB_iff {x : Hp} {y : Wd} : whiteB x y = true ↔ White x y := by simp [whiteB, White]

set_option maxHeartbeats 600000 in
theorem l1white_any (x : Hp) (b : Nat) (y : Wd) (w : World) {ar : Option Addr} {kr : Nat} {ac : Option Addr} {kc : Nat} {ag : Option Addr} {kg : Nat} (h : HAt w b x ar kr ac kc ag kg) (hy : y.k = 2 → 0 ≤ y.a ∧ y.a < x.cells.length) :
    Calls Tryz.prog 140 #[.pointer (some ⟨b, 0, none⟩), y.v] w fun e w' => e = .returned (.bool (whiteB x y)) ∧ Ext w w' := by
  cases q : (y.k == 2)
  · have E := hide (show whiteB x y = false by simp [whiteB, q])
    have c4 := h.c4
    have lc := h.lc
    clear h hy
    go_enter Tryz.func140, Tryz.ntmps140
    go_wp2_with fail
    go_quiet (fail)
    go_wp2_with fail
    go_ret
    exact ⟨by rw [unhide E]; rfl, ((Ext.refl w).alloc _).drewN _⟩
  · have q1 : y.k = 2 := by simpa using q
    obtain ⟨h0, h1⟩ := hy q1
    obtain ⟨i, hi⟩ := Int.eq_ofNat_of_zero_le h0
    have E := hide (show whiteB x y = ((x.c i).color == 0) by simp [whiteB, q1, hi])
    obtain ⟨b', o, rfl, vp, p0, p1, p2, p3, p4, p5, _⟩ := h.C i (by omega)
    have c4 := h.c4
    have lc := h.lc
    have hb : b < w.heap.size := cell_lt c4
    have hb' : b' < w.heap.size := cell_lt p5
    have hi0 : (0 : Int) ≤ (i : Int) := by omega
    have hi1 : (i : Int) < (x.cells.length : Int) := by omega
    clear h hy h0 h1
    go_enter Tryz.func140, Tryz.ntmps140
    go_wp2_with fail
    go_quiet (fail)
    go_wp2_with fail
    go_ret
    exact ⟨by rw [unhide E]; rfl, ((Ext.refl w).alloc _).drewN _⟩

def leadsB (x : Hp) (y : Wd) (m : Bool) : Bool := formedB y x.cells.length && (!(y.k == 2) || (if (x.c y.a.toNat).st = 2 then m else ((x.c y.a.toNat).st == 1) && !doomedB x y.a.toNat))
theorem leadsB_iff {x : Hp} {y : Wd} {m : Bool} {p : Prop} (hm : m = true ↔ p) : leadsB x y m = true ↔ Leads x y p := by
  unfold leadsB Leads
  rw [Bool.and_eq_true, formedB_iff]
  refine and_congr_right fun _ => ?_
  by_cases h2 : y.k = 2
  · by_cases hs : (x.c y.a.toNat).st = 2
    · simp [h2, hs, hm]
    · by_cases h1 : (x.c y.a.toNat).st = 1
      · have : doomedB x y.a.toNat = false ↔ ¬ Doomed x y.a.toNat := by rw [← doomedB_iff]; simp
        simp [h2, h1, this]
      · simp [h2, hs, h1]
  · simp [h2]

set_option maxRecDepth 100000 in
set_option maxHeartbeats 1000000 in
theorem l1leads_any (x : Hp) (b : Nat) (y : Wd) (m : Bool) (w : World) {ar : Option Addr} {kr : Nat} {ac : Option Addr} {kc : Nat} {ag : Option Addr} {kg : Nat} (h : HAt w b x ar kr ac kc ag kg) :
    Calls Tryz.prog 136 #[.pointer (some ⟨b, 0, none⟩), y.v, .bool m] w fun e w' => e = .returned (.bool (leadsB x y m)) ∧ Ext w w' := by
  have c4 := h.c4
  have lc := h.lc
  have hb : b < w.heap.size := cell_lt c4
  have hb2 : b < w.heap.size + 1 := by omega
  go_enter Tryz.func136, Tryz.ntmps136
  go_wp2_with fail
  go_region_held3 (fun w' => w'.cell? ⟨w.heap.size, 0, none⟩ = some (iv y.k) ∧ w'.cell? ⟨w.heap.size, 1, none⟩ = some (iv y.n) ∧ w'.cell? ⟨w.heap.size, 2, none⟩ = some (iv y.a) ∧ w'.cell? ⟨b, 4, none⟩ = some (.slice ac x.cells.length kc)) (first | (simp [*]; done) | go_keep)
        (first | (go_at_call 138; refine (l1formed_any y x.cells.length _).mono ?_; rintro e w1 ⟨rfl, hq1⟩; have hc1 := (bcell hq1).1; simp only [World.size_drew, World.size_alloc] at hc1))
  rename_i hHeld
  have x1 : Ext w w1 := Ext.trans (((Ext.refl w).alloc _).drew) hq1
  have z1 : w.heap.size < w1.heap.size := by have := hq1.size; simp at this; omega
  cases qf : formedB y x.cells.length
  · have E := hide (show leadsB x y m = false by simp [leadsB, qf])
    go_wp2_with fail
    go_ret
    exact ⟨by rw [unhide E]; rfl, x1⟩
  cases qk : (y.k == 2)
  · have E := hide (show leadsB x y m = true by simp [leadsB, qf, qk])
    go_wp2_with fail
    go_ret
    exact ⟨by rw [unhide E]; rfl, x1⟩
  have q1 : y.k = 2 := by simpa using qk
  have hf := formedB_iff.1 qf
  unfold Formed at hf
  have hr : 0 ≤ y.a ∧ y.a < x.cells.length := by omega
  have E0 := hide (show leadsB x y m = (if (x.c y.a.toNat).st = 2 then m else ((x.c y.a.toNat).st == 1) && !doomedB x y.a.toNat) by simp [leadsB, qf, q1])
  have h1 := h.ext x1
  have hd := hide (fun w' (e : Ext w1 w') => l1doomed_any x b y.a w' (h1.ext e) hr.1 hr.2)
  obtain ⟨i, hi⟩ := Int.eq_ofNat_of_zero_le hr.1
  rw [hi] at hd E0
  rw [Int.toNat_natCast] at E0
  obtain ⟨b', o, ap, kp, rfl, p0, p1, p2, p3, p4, p5, p6, p7, lp, P⟩ := h1.cell i (by omega)
  clear P
  have d4 := h1.c4
  have hi0 : (0 : Int) ≤ (i : Int) := by omega
  have hi1 : (i : Int) < (x.cells.length : Int) := by omega
  have hb3 : b < w1.heap.size := cell_lt d4
  have hb4 : b' < w1.heap.size := cell_lt p0
  clear h h1 c4 hf hr hb hb2
  go_wp2_with fail
  have a2 : w1.cell? ⟨w.heap.size, 2, none⟩ = some (iv i) := by rw [hHeld.2.2.1, hi]
  clear hHeld hc1
  go_region_held3 (fun w' => w'.cell? ⟨w.heap.size, 2, none⟩ = some (iv i) ∧ w'.cell? ⟨b, 4, none⟩ = some (.slice (some ⟨b', o, none⟩) x.cells.length kc) ∧ w'.cell? ⟨b', o + i * 8, none⟩ = some (iv (x.c i).st) ∧ w'.cell? ⟨b', o + i * 8 + 1, none⟩ = some (iv (x.c i).kind) ∧ w'.cell? ⟨b', o + i * 8 + 2, none⟩ = some (iv (x.c i).weak) ∧ w'.cell? ⟨b', o + i * 8 + 3, none⟩ = some (iv (x.c i).last) ∧ w'.cell? ⟨b', o + i * 8 + 4, none⟩ = some (iv (x.c i).born) ∧ w'.cell? ⟨b', o + i * 8 + 5, none⟩ = some (iv (x.c i).color) ∧ w'.cell? ⟨b', o + i * 8 + 6, none⟩ = some (iv (x.c i).to) ∧ w'.cell? ⟨b', o + i * 8 + 7, none⟩ = some (.slice ap (x.c i).prs.length kp)) (first | (simp [*]; done) | go_keep) (fail)
  have x2 : ∀ o1 : Obj, Ext w (w1.alloc o1).drew := fun o1 => (x1.alloc o1).drew
  have y2 : ∀ o1 : Obj, Ext w1 (w1.alloc o1).drew := fun o1 => ((Ext.refl w1).alloc o1).drew
  cases qs : ((x.c i).st == 2)
  · have qs' : ¬ (x.c i).st = 2 := by simpa using qs
    have E := hide (show leadsB x y m = (((x.c i).st == 1) && !doomedB x i) by rw [unhide E0, if_neg qs'])
    cases qu : ((x.c i).st == 1)
    · go_wp2_with fail
      go_ret
      exact ⟨by rw [unhide E, qu]; rfl, x2 _⟩
    · have hd2 := hide ((unhide hd) _ (y2 (.cells #[.int .i64 (x.c i).st, .int .i64 (x.c i).kind, .int .i64 (x.c i).weak, .int .i64 (x.c i).last, .int .i64 (x.c i).born, .int .i64 (x.c i).color, .int .i64 (x.c i).to, .slice ap (x.c i).prs.length kp] 86)))
      go_wp2_with (go_at_call 137; refine (unhide hd2).mono ?_; rintro e w' ⟨rfl, rfl⟩)
      go_ret
      exact ⟨by rw [unhide E, qu]; simp, x2 _⟩
  · have qs' : (x.c i).st = 2 := by simpa using qs
    have E := hide (show leadsB x y m = m by rw [unhide E0, if_pos qs'])
    clear qs'
    go_wp2_with fail
    go_ret
    exact ⟨by rw [unhide E]; rfl, x2 _⟩
end Go.Proofs.YtkabcfhemljnbaaGreat

namespace Go.Proofs.YtkabcfhemljnbaaGreat
open Go.RowKit
attribute [local go_sem ↓] Go.wp_at_zero Go.wp_at_succ

theorem units_take (cs : List Cl) (k : Nat) (h : k < cs.length) : units (cs.take (k + 1)) = units (cs.take k) + unitsOf cs[k] := by
  unfold units
  rw [List.take_succ_eq_append_getElem h]
  simp only [List.map_append, List.sum_append, List.map_cons, List.map_nil, List.sum_cons, List.sum_nil, Nat.add_zero]
theorem units_le (x : Hp) (hp : ∀ i, i < x.cells.length → (x.c i).prs.length ≤ 200) : ∀ k, k ≤ x.cells.length → units (x.cells.take k) ≤ 201 * k
  | 0, _ => by simp [units]
  | k + 1, h => by
    have := units_le x hp k (by omega)
    rw [units_take _ _ (by omega), Hp.c_eq]
    have := hp k (by omega)
    unfold unitsOf
    split <;> omega

set_option maxHeartbeats 600000 in
theorem l1units_any (x : Hp) (b : Nat) (w : World) {ar : Option Addr} {kr : Nat} {ac : Option Addr} {kc : Nat} {ag : Option Addr} {kg : Nat} (h : HAt w b x ar kr ac kc ag kg) (hn : x.cells.length ≤ 8000) (hp : ∀ i, i < x.cells.length → (x.c i).prs.length ≤ 200) :
    Calls Tryz.prog 89 #[.pointer (some ⟨b, 0, none⟩)] w fun e w' => e = .returned (.int .i64 (units x.cells)) ∧ Ext w w' := by
  have c4 := h.c4
  go_enter Tryz.func89, Tryz.ntmps89
  go_wp2_with fail
  go_loopw [3, 11] (fun n i wr => ∃ (k : Nat) (u : Nat), k ≤ x.cells.length ∧ i = .int .i64 k ∧ n = .int .i64 u ∧ Hid (u = units (x.cells.take k)) ∧ u ≤ 201 * k ∧ Ext w wr) (fun _ i _ => x.cells.length - (intOf i).toNat)
  case atStart => exact ⟨0, 0, Nat.zero_le _, rfl, rfl, by show _ = _; simp [units], by omega, Ext.refl _⟩
  case round =>
    obtain ⟨k, u, hk, rfl, rfl, hu, hu2, hbl⟩ := hrel
    by_cases hlt : k < x.cells.length
    · obtain ⟨b', o, ap, kp, rfl, p0, p1, p2, p3, p4, p5, p6, p7, lp, P⟩ := (h.ext hbl).cell k hlt
      have hpk := hp k hlt
      have hb' : b' < wr.heap.size := cell_lt p0
      clear P
      have hk0 : (0:Int) ≤ (k:Int) := by omega
      have hk1 : (k:Int) < (x.cells.length:Int) := by omega
      have hut := units_take x.cells k hlt
      rw [Hp.c_eq] at hut
      cases qs : ((x.c k).st == 1)
      · have qs' : ¬ (x.c k).st = 1 := by simpa using qs
        have H : Hid (u = units (x.cells.take (k + 1))) := by have := unhide hu; show _ = _; rw [hut, unitsOf, if_neg qs']; omega
        clear hut
        go_wp2_with fail
        go_roundw
        case rel => exact ⟨k + 1, u, by omega, by go_num, rfl, H, by omega, hbl.alloc _⟩
        case measure => simp [intOf]; omega
      · have qs' : (x.c k).st = 1 := by simpa using qs
        have H : Hid (u + (1 + (x.c k).prs.length) = units (x.cells.take (k + 1))) := by have := unhide hu; show _ = _; rw [hut, unitsOf, if_pos qs']; omega
        clear hut qs'
        go_wp2_with fail
        go_roundw
        case rel => exact ⟨k + 1, u + (1 + (x.c k).prs.length), by omega, by go_num, by go_num, H, by omega, hbl.alloc _⟩
        case measure => simp [intOf]; omega
    · have hk2 : k = x.cells.length := by omega
      have H := hide (show u = units x.cells by have := unhide hu; rw [hk2, List.take_length] at this; exact this)
      clear hk2
      go_wp2_with fail
      go_ret
      exact ⟨by rw [← unhide H]; rfl, hbl⟩

set_option maxHeartbeats 600000 in
theorem l1closing_any (x : Hp) (b : Nat) (w : World) {ar : Option Addr} {kr : Nat} {ac : Option Addr} {kc : Nat} {ag : Option Addr} {kg : Nat} (h : HAt w b x ar kr ac kc ag kg) :
    Calls Tryz.prog 94 #[.pointer (some ⟨b, 0, none⟩)] w fun e w' => ∃ r : Bool, e = .returned (.bool r) ∧ (r = true ↔ R8 x) ∧ Ext w w' := by
  have c4 := h.c4
  have lc := h.lc
  go_enter Tryz.func94, Tryz.ntmps94
  go_wp2_with fail
  go_loopw [10] (fun i wr => ∃ (k : Nat), k ≤ x.cells.length ∧ i = .int .i64 k ∧ (∀ j, j < k → ¬ (x.phase = 6 ∧ x.hand ≤ j ∧ (x.c j).st = 2)) ∧ Ext w wr) (fun i _ => x.cells.length - (intOf i).toNat)
  case atStart => exact ⟨0, Nat.zero_le _, rfl, fun j hj => by omega, Ext.refl _⟩
  case round =>
    obtain ⟨k, hk, rfl, hall, hbl⟩ := hrel
    have HA := hide hall
    clear hall
    by_cases hlt : k < x.cells.length
    · have h1 := h.ext hbl
      obtain ⟨b', o, ap, kp, rfl, p0, p1, p2, p3, p4, p5, p6, p7, lp, P⟩ := h1.cell k hlt
      have d5 := h1.c5
      have d6 := h1.c6
      have hb' : b' < wr.heap.size := cell_lt p0
      have hb : b < wr.heap.size := cell_lt d5
      clear P h1
      have hk0 : (0:Int) ≤ (k:Int) := by omega
      have hk1 : (k:Int) < (x.cells.length:Int) := by omega
      have step : ¬ (x.phase = 6 ∧ x.hand ≤ k ∧ (x.c k).st = 2) → Hid (∀ j, j < k + 1 → ¬ (x.phase = 6 ∧ x.hand ≤ j ∧ (x.c j).st = 2)) := fun hn j hj => by
        by_cases e : j = k
        · subst e; exact hn
        · exact unhide HA j (by omega)
      cases q1 : (x.phase == 6)
      · have S := step (by simp at q1; omega)
        clear step
        go_wp2_with fail
        go_roundw
        case rel => exact ⟨k + 1, by omega, by go_num, unhide S, hbl.alloc _⟩
        case measure => simp [intOf]; omega
      · cases q2 : decide (x.hand ≤ (k : Int))
        · have S := step (by simp at q2; omega)
          clear step
          go_wp2_with fail
          go_roundw
          case rel => exact ⟨k + 1, by omega, by go_num, unhide S, hbl.alloc _⟩
          case measure => simp [intOf]; omega
        · cases q3 : ((x.c k).st == 2)
          · have S := step (by simp at q3; omega)
            clear step
            go_wp2_with fail
            go_roundw
            case rel => exact ⟨k + 1, by omega, by go_num, unhide S, hbl.alloc _⟩
            case measure => simp [intOf]; omega
          · have N := hide (show ¬ R8 x from fun r => r k hlt ⟨by simpa using q1, by simpa using q2, by simpa using q3⟩)
            clear step
            go_wp2_with fail
            go_ret
            exact ⟨false, rfl, ⟨fun f => by simp at f, fun r => (unhide N r).elim⟩, hbl.alloc _⟩
    · have Y := hide (show R8 x from fun i hi => unhide HA i (by omega))
      go_wp2_with fail
      go_ret
      exact ⟨true, rfl, ⟨fun _ => unhide Y, fun _ => rfl⟩, hbl⟩
end Go.Proofs.YtkabcfhemljnbaaGreat

namespace Go.Proofs.YtkabcfhemljnbaaGreat
open Go.RowKit
attribute [local go_sem ↓] Go.wp_at_zero Go.wp_at_succ

/-! The program's view of a heap. -/
structure VAt (w : World) (b : Nat) (x : Hp) (ar : Option Addr) (kr : Nat) (ac : Option Addr) (kc : Nat) (ag : Option Addr) (kg : Nat) (an : Option Addr) (kn : Nat) : Prop where
  H : HAt w b x ar kr ac kc ag kg
  n13 : w.cell? ⟨b, 13, none⟩ = some (.slice an x.cells.length kn)
  N : ∀ i, i < x.cells.length → ∃ bn on bc oc, an = some ⟨bn, on, none⟩ ∧ ac = some ⟨bc, oc, none⟩ ∧ w.cell? ⟨bn, on + i * 2, none⟩ = some (iv i) ∧ w.cell? ⟨bn, on + i * 2 + 1, none⟩ = some (.pointer (some ⟨bc, oc + i * 8, none⟩))
theorem VAt.ext {w w' : World} {b : Nat} {x : Hp} {ar : Option Addr} {kr : Nat} {ac : Option Addr} {kc : Nat} {ag : Option Addr} {kg : Nat} {an : Option Addr} {kn : Nat} (h : VAt w b x ar kr ac kc ag kg an kn) (e : Ext w w') : VAt w' b x ar kr ac kc ag kg an kn :=
  ⟨h.H.ext e, e.keep h.n13, fun i hi => let ⟨bn, on, bc, oc, a, a', p, q⟩ := h.N i hi; ⟨bn, on, bc, oc, a, a', e.keep p, e.keep q⟩⟩

theorem units_any (c : Cl) (bn q bc r : Nat) (ap : Option Addr) (kp : Nat) (w : World) (m1 : w.cell? ⟨bn, q + 1, none⟩ = some (.pointer (some ⟨bc, r, none⟩))) (p7 : w.cell? ⟨bc, r + 7, none⟩ = some (.slice ap c.prs.length kp)) (lp : c.prs.length ≤ 35184372088832) :
    Calls Tryz.prog 113 #[.pointer (some ⟨bn, q, none⟩)] w fun e w' => e = .returned (.int .i64 (1 + (c.prs.length : Int))) ∧ w' = w := by
  go_enter Tryz.func113, Tryz.ntmps113
  go_wp2
  go_ret
  exact ⟨rfl, rfl⟩

set_option maxHeartbeats 600000 in
theorem roomKept_any (x : Hp) (b : Nat) (w : World) {ar : Option Addr} {kr : Nat} {ac : Option Addr} {kc : Nat} {ag : Option Addr} {kg : Nat} {an : Option Addr} {kn : Nat} (h : VAt w b x ar kr ac kc ag kg an kn) (hn : x.cells.length ≤ 8000) (hp : ∀ i, i < x.cells.length → (x.c i).prs.length ≤ 200) :
    Calls Tryz.prog 145 #[.pointer (some ⟨b, 0, none⟩)] w fun e w' => ∃ r : Bool, e = .returned (.bool r) ∧ (r = true ↔ R3 x) ∧ Ext w w' := by
  have n13 := h.n13
  have c0 := h.H.c0
  have c1 := h.H.c1
  go_enter Tryz.func145, Tryz.ntmps145
  go_wp2_with fail
  go_loop [3, 10] (fun n i => ∃ (k : Nat) (u : Nat), k ≤ x.cells.length ∧ i = .int .i64 k ∧ n = .int .i64 u ∧ Hid (u = units (x.cells.take k)) ∧ u ≤ 201 * k) (fun _ i => x.cells.length - (intOf i).toNat)
  case atStart => exact ⟨0, 0, Nat.zero_le _, rfl, rfl, by show _ = _; simp [units], by omega⟩
  case round =>
    obtain ⟨k, u, hk, rfl, rfl, hu, hu2⟩ := hrel
    by_cases hlt : k < x.cells.length
    · obtain ⟨b', o, ap, kp, rfl, p0, p1, p2, p3, p4, p5, p6, p7, lp, P⟩ := h.H.cell k hlt
      obtain ⟨bn, on, bc, oc, rfl, e2, m0, m1⟩ := h.N k hlt
      cases e2
      have hpk := hp k hlt
      clear P
      have hk0 : (0:Int) ≤ (k:Int) := by omega
      have hk1 : (k:Int) < (x.cells.length:Int) := by omega
      have hut := units_take x.cells k hlt
      rw [Hp.c_eq] at hut
      cases qs : ((x.c k).st == 1)
      · have qs' : ¬ (x.c k).st = 1 := by simpa using qs
        have H : Hid (u = units (x.cells.take (k + 1))) := by have := unhide hu; show _ = _; rw [hut, unitsOf, if_neg qs']; omega
        clear hut
        go_wp2_with fail
        go_round
        case rel => exact ⟨k + 1, u, by omega, by go_num, rfl, H, by omega⟩
        case measure => simp [intOf]; omega
      · have qs' : (x.c k).st = 1 := by simpa using qs
        have H : Hid (u + (1 + (x.c k).prs.length) = units (x.cells.take (k + 1))) := by have := unhide hu; show _ = _; rw [hut, unitsOf, if_pos qs']; omega
        clear hut qs'
        go_wp2_with fail
        refine (units_any (x.c k) bn (on + k * 2) _ _ ap kp _ m1 p7 lp).mono ?_
        rintro e w1 ⟨rfl, rfl⟩
        go_wp2_with fail
        go_round
        case rel => exact ⟨k + 1, u + (1 + (x.c k).prs.length), by omega, by go_num, by go_num, H, by omega⟩
        case measure => simp [intOf]; omega
    · have hk2 : k = x.cells.length := by omega
      have H := hide (show u = units x.cells by have := unhide hu; rw [hk2, List.take_length] at this; exact this)
      clear hk2
      cases t1 : (x.used == (u : Int))
      · have N := hide (show ¬ R3 x from fun r => by have := unhide H; have := r.1; simp at t1; omega)
        go_wp2_with fail
        go_ret
        first | (exact Or.inl ⟨rfl, unhide N, Ext.refl _⟩) | (exact ⟨false, rfl, ⟨fun f => by simp at f, fun r => (unhide N r).elim⟩, Ext.refl _⟩)
      · by_cases t2 : (u : Int) ≤ x.room
        · have Y := hide (show R3 x by
            have e1 := unhide H
            have e2 : x.used = (u : Int) := by simpa using t1
            exact ⟨by rw [e2, e1], by omega⟩)
          go_wp2_with fail
          go_ret
          first | (exact Or.inr ⟨rfl, unhide Y, Ext.refl _⟩) | (exact ⟨true, rfl, ⟨fun _ => unhide Y, fun _ => rfl⟩, Ext.refl _⟩)
        · have t3 : decide ((u : Int) ≤ x.room) = false := by simp; omega
          have N := hide (show ¬ R3 x from fun r => by
            have e2 : x.used = (u : Int) := by simpa using t1
            have := r.2
            omega)
          clear t2
          go_wp2_with fail
          go_ret
          first | (exact Or.inl ⟨by simp, unhide N, Ext.refl _⟩) | (exact ⟨false, by simp, ⟨fun f => by simp at f, fun r => (unhide N r).elim⟩, Ext.refl _⟩)

set_option maxHeartbeats 600000 in
theorem closingKept_any (x : Hp) (b : Nat) (w : World) {ar : Option Addr} {kr : Nat} {ac : Option Addr} {kc : Nat} {ag : Option Addr} {kg : Nat} {an : Option Addr} {kn : Nat} (h : VAt w b x ar kr ac kc ag kg an kn) :
    Calls Tryz.prog 150 #[.pointer (some ⟨b, 0, none⟩)] w fun e w' => ∃ r : Bool, e = .returned (.bool r) ∧ (r = true ↔ R8 x) ∧ Ext w w' := by
  have n13 := h.n13
  have c5 := h.H.c5
  have lc := h.H.lc
  cases q1 : (x.phase == 6)
  · have Y := hide (show R8 x from fun i hi hb => by simp [hb.1] at q1)
    have q1n : (x.phase != 6) = true := by simpa using q1
    go_enter Tryz.func150, Tryz.ntmps150
    go_wp2_with fail
    go_ret
    first | (exact Or.inr ⟨rfl, unhide Y, Ext.refl _⟩) | (exact ⟨true, rfl, ⟨fun _ => unhide Y, fun _ => rfl⟩, Ext.refl _⟩)
  · have q1n : (x.phase != 6) = false := by simpa using q1
    have PH := hide (show x.phase = 6 by simpa using q1)
    go_enter Tryz.func150, Tryz.ntmps150
    go_wp2_with fail
    go_loopw [16] (fun i wr => ∃ (k : Nat), k ≤ x.cells.length ∧ i = .int .i64 k ∧ (∀ j, j < k → ¬ (x.phase = 6 ∧ x.hand ≤ j ∧ (x.c j).st = 2)) ∧ Ext w wr) (fun i _ => x.cells.length - (intOf i).toNat)
    case atStart => exact ⟨0, Nat.zero_le _, rfl, fun j hj => by omega, Ext.refl _⟩
    case round =>
      obtain ⟨k, hk, rfl, hall, hbl⟩ := hrel
      have HA := hide hall
      clear hall
      by_cases hlt : k < x.cells.length
      · have h1 := h.ext hbl
        obtain ⟨b', o, ap, kp, rfl, p0, p1, p2, p3, p4, p5, p6, p7, lp, P⟩ := h1.H.cell k hlt
        obtain ⟨bn, on, bc, oc, rfl, e2, m0, m1⟩ := h1.N k hlt
        cases e2
        have d6 := h1.H.c6
        have d13 := h1.n13
        clear P h1 n13 c5
        have hk0 : (0:Int) ≤ (k:Int) := by omega
        have hk1 : (k:Int) < (x.cells.length:Int) := by omega
        have step : ¬ (x.phase = 6 ∧ x.hand ≤ k ∧ (x.c k).st = 2) → Hid (∀ j, j < k + 1 → ¬ (x.phase = 6 ∧ x.hand ≤ j ∧ (x.c j).st = 2)) := fun hn j hj => by
          by_cases e : j = k
          · subst e; exact hn
          · exact unhide HA j (by omega)
        cases q3 : ((x.c k).st == 2)
        · have S := step (by simp at q3; omega)
          clear step
          go_wp2_with fail
          go_quiet (fail)
          go_wp2_with fail
          go_roundw
          case rel => exact ⟨k + 1, by omega, by go_num, unhide S, Ext.drewN hbl _⟩
          case measure => simp [intOf]; omega
        · by_cases q2 : x.hand ≤ (k : Int)
          · have N := hide (show ¬ R8 x from fun r => r k hlt ⟨unhide PH, q2, by simpa using q3⟩)
            clear step
            go_wp2_with fail
            go_quiet (fail)
            go_wp2_with fail
            go_ret
            first | (exact Or.inl ⟨rfl, unhide N, Ext.drewN hbl _⟩) | (exact ⟨false, rfl, ⟨fun f => by simp at f, fun r => (unhide N r).elim⟩, Ext.drewN hbl _⟩)
          · have S := step (by omega)
            clear step
            go_wp2_with fail
            go_quiet (fail)
            go_wp2_with fail
            go_roundw
            case rel => exact ⟨k + 1, by omega, by go_num, unhide S, Ext.drewN hbl _⟩
            case measure => simp [intOf]; omega
      · have Y := hide (show R8 x from fun i hi => unhide HA i (by omega))
        go_wp2_with fail
        go_ret
        first | (exact Or.inr ⟨rfl, unhide Y, hbl⟩) | (exact ⟨true, rfl, ⟨fun _ => unhide Y, fun _ => rfl⟩, hbl⟩)
end Go.Proofs.YtkabcfhemljnbaaGreat

namespace Go.Proofs.YtkabcfhemljnbaaGreat
open Go.RowKit
attribute [local go_sem ↓] Go.wp_at_zero Go.wp_at_succ

/-! The program's small questions of a node and of its view. -/
def whiteN (c : Cl) : Bool := (c.st == 1) && (c.color == 0)
def speaksN (c : Cl) : Bool := (c.last == 1) || (c.last == 2)
theorem speaksN_iff {c : Cl} : speaksN c = true ↔ Speaks c := by simp [speaksN, Speaks]

theorem white_any (c : Cl) (bn q bc r : Nat) (ap : Option Addr) (kp : Nat) (w : World) (m1 : w.cell? ⟨bn, q + 1, none⟩ = some (.pointer (some ⟨bc, r, none⟩))) (h : CAt w bc r c ap kp) :
    Calls Tryz.prog 126 #[.pointer (some ⟨bn, q, none⟩)] w fun e w' => e = .returned (.bool (whiteN c)) ∧ w' = w := by
  have p0 := h.p0
  have p5 := h.p5
  clear h
  cases t : (c.st == 1)
  all_goals
    go_enter Tryz.func126, Tryz.ntmps126
    go_wp2
    go_ret
    exact ⟨by simp [whiteN, t], rfl⟩

theorem speaks_any (c : Cl) (bn q bc r : Nat) (ap : Option Addr) (kp : Nat) (w : World) (m1 : w.cell? ⟨bn, q + 1, none⟩ = some (.pointer (some ⟨bc, r, none⟩))) (h : CAt w bc r c ap kp) :
    Calls Tryz.prog 151 #[.pointer (some ⟨bn, q, none⟩)] w fun e w' => e = .returned (.bool (speaksN c)) ∧ w' = w := by
  have p3 := h.p3
  clear h
  cases t : (c.last == 1)
  all_goals
    go_enter Tryz.func151, Tryz.ntmps151
    go_wp2
    go_ret
    exact ⟨by simp [speaksN, t], rfl⟩

def markingB (x : Hp) : Bool := (x.phase == 1) || (x.phase == 2)
theorem marking_any (x : Hp) (b : Nat) (w : World) (c5 : w.cell? ⟨b, 5, none⟩ = some (iv x.phase)) :
    Calls Tryz.prog 125 #[.pointer (some ⟨b, 0, none⟩)] w fun e w' => e = .returned (.bool (markingB x)) ∧ w' = w := by
  cases t : (x.phase == 1)
  all_goals
    go_enter Tryz.func125, Tryz.ntmps125
    go_wp2
    go_ret
    exact ⟨by simp [markingB, t], rfl⟩

theorem white_is (c : Cl) (bn q bc r : Nat) (ap : Option Addr) (kp : Nat) (s : Bool) (hs : whiteN c = s) (w : World) (m1 : w.cell? ⟨bn, q + 1, none⟩ = some (.pointer (some ⟨bc, r, none⟩))) (h : CAt w bc r c ap kp) :
    Calls Tryz.prog 126 #[.pointer (some ⟨bn, q, none⟩)] w fun e w' => e = .returned (.bool s) ∧ w' = w := by
  rw [← hs]; exact white_any c bn q bc r ap kp w m1 h

/-- doomed answers as the model's l1doomed -/
theorem doomed_any (x : Hp) (b i : Nat) (w : World) {ar : Option Addr} {kr : Nat} {ac : Option Addr} {kc : Nat} {ag : Option Addr} {kg : Nat} {an : Option Addr} {kn : Nat} (h : VAt w b x ar kr ac kc ag kg an kn) (hi : i < x.cells.length) (bn on : Nat) (ha : an = some ⟨bn, on, none⟩) :
    Calls Tryz.prog 179 #[.pointer (some ⟨b, 0, none⟩), .pointer (some ⟨bn, on + i * 2, none⟩)] w fun e w' => e = .returned (.bool (doomedB x i)) ∧ Ext w w' := by
  obtain ⟨bn', on', bc, oc, e1, rfl, m0, m1⟩ := h.N i hi
  rw [ha] at e1
  cases e1
  obtain ⟨bc', oc', ap, kp, e2, C⟩ := h.H.cell i hi
  cases e2
  have c5 := h.H.c5
  have c6 := h.H.c6
  have HW := hide (fun n s (hs : whiteN (x.c i) = s) => white_is (x.c i) bn (on + i * 2) bc (oc + i * 8) ap kp s hs (w.drewN n) (((Ext.refl w).drewN n).keep m1) (C.ext ((Ext.refl w).drewN n)))
  clear h C
  cases t1 : (x.phase == 3)
  · go_enter Tryz.func179, Tryz.ntmps179
    go_wp2_with fail
    go_quiet (fail)
    go_wp2_with fail
    go_ret
    exact ⟨by simp [doomedB, t1], (Ext.refl w).drewN _⟩
  · cases t2 : whiteN (x.c i)
    · go_enter Tryz.func179, Tryz.ntmps179
      go_wp2_with fail
      go_quiet ((go_at_call 126; exact Calls.quiet_of_same (unhide HW _ _ t2)))
      go_wp2_with fail
      go_ret
      exact ⟨by unfold whiteN at t2; unfold doomedB; cases q : ((x.c i).st == 1) <;> simp_all, (Ext.refl w).drewN _⟩
    · go_enter Tryz.func179, Tryz.ntmps179
      go_wp2_with fail
      go_quiet ((go_at_call 126; exact Calls.quiet_of_same (unhide HW _ _ t2)))
      go_wp2_with fail
      go_ret
      exact ⟨by unfold whiteN at t2; unfold doomedB; simp_all, (Ext.refl w).drewN _⟩
end Go.Proofs.YtkabcfhemljnbaaGreat
