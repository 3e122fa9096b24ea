import Derived.Test.YtbcmjcomdjdjaaaGreatSpecB
import Derived.Test.YtbcmjcomdjdjaaaGreatSpecA
namespace Go.Proofs.YtbcmjcomdjdjaaaGreat
open Go.RowKit
attribute [local go_sem ↓] Go.wp_at_zero Go.wp_at_succ

def whiteB (x : Hp) (y : Wd) : Bool := (y.k == 2) && ((x.c y.a.toNat).color == 0)
theorem whiteB_iff {x : Hp} {y : Wd} : whiteB x y = true ↔ White x y := by simp [whiteB, White]

set_option maxHeartbeats 600000 in
theorem l1white_any (x : Hp) (b : Nat) (y : Wd) (w : World) {ar : Option Addr} {kr : Nat} {ac : Option Addr} {kc : Nat} {ag : Option Addr} {kg : Nat} (h : HAt w b x ar kr ac kc ag kg) (hy : y.k = 2 → 0 ≤ y.a ∧ y.a < x.cells.length) :
    Calls Tryz.prog 91 #[.pointer (some ⟨b, 0, none⟩), y.v] w fun e w' => e = .returned (.bool (whiteB x y)) ∧ Ext w w' := by
  cases q : (y.k == 2)
  · have E := hide (show whiteB x y = false by simp [whiteB, q])
    have c4 := h.c4
    have lc := h.lc
    clear h hy
    go_enter Tryz.func91, Tryz.ntmps91
    go_wp2_with fail
    go_quiet (fail)
    go_wp2_with fail
    go_ret
    exact ⟨by rw [unhide E]; rfl, ((Ext.refl w).alloc _).drewN _⟩
  · have q1 : y.k = 2 := by simpa using q
    obtain ⟨h0, h1⟩ := hy q1
    obtain ⟨i, hi⟩ := Int.eq_ofNat_of_zero_le h0
    have E := hide (show whiteB x y = ((x.c i).color == 0) by simp [whiteB, q1, hi])
    obtain ⟨b', o, rfl, vp, p0, p1, p2, p3, p4, p5, _⟩ := h.C i (by omega)
    have c4 := h.c4
    have lc := h.lc
    have hb : b < w.heap.size := cell_lt c4
    have hb' : b' < w.heap.size := cell_lt p5
    have hi0 : (0 : Int) ≤ (i : Int) := by omega
    have hi1 : (i : Int) < (x.cells.length : Int) := by omega
    clear h hy h0 h1
    go_enter Tryz.func91, Tryz.ntmps91
    go_wp2_with fail
    go_quiet (fail)
    go_wp2_with fail
    go_ret
    exact ⟨by rw [unhide E]; rfl, ((Ext.refl w).alloc _).drewN _⟩

def leadsB (x : Hp) (y : Wd) (m : Bool) : Bool := formedB y x.cells.length && (!(y.k == 2) || (if (x.c y.a.toNat).st = 2 then m else ((x.c y.a.toNat).st == 1) && !doomedB x y.a.toNat))
theorem leadsB_iff {x : Hp} {y : Wd} {m : Bool} {p : Prop} (hm : m = true ↔ p) : leadsB x y m = true ↔ Leads x y p := by
  unfold leadsB Leads
  rw [Bool.and_eq_true, formedB_iff]
  refine and_congr_right fun _ => ?_
  by_cases h2 : y.k = 2
  · by_cases hs : (x.c y.a.toNat).st = 2
    · simp [h2, hs, hm]
    · by_cases h1 : (x.c y.a.toNat).st = 1
      · have : doomedB x y.a.toNat = false ↔ ¬ Doomed x y.a.toNat := by rw [← doomedB_iff]; simp
        simp [h2, h1, this]
      · simp [h2, hs, h1]
  · simp [h2]

set_option maxRecDepth 100000 in
set_option maxHeartbeats 1000000 in
theorem l1leads_any (x : Hp) (b : Nat) (y : Wd) (m : Bool) (w : World) {ar : Option Addr} {kr : Nat} {ac : Option Addr} {kc : Nat} {ag : Option Addr} {kg : Nat} (h : HAt w b x ar kr ac kc ag kg) :
    Calls Tryz.prog 87 #[.pointer (some ⟨b, 0, none⟩), y.v, .bool m] w fun e w' => e = .returned (.bool (leadsB x y m)) ∧ Ext w w' := by
  have c4 := h.c4
  have lc := h.lc
  have hb : b < w.heap.size := cell_lt c4
  have hb2 : b < w.heap.size + 1 := by omega
  go_enter Tryz.func87, Tryz.ntmps87
  go_wp2_with fail
  go_region_held3 (fun w' => w'.cell? ⟨w.heap.size, 0, none⟩ = some (iv y.k) ∧ w'.cell? ⟨w.heap.size, 1, none⟩ = some (iv y.n) ∧ w'.cell? ⟨w.heap.size, 2, none⟩ = some (iv y.a) ∧ w'.cell? ⟨b, 4, none⟩ = some (.slice ac x.cells.length kc)) (first | (simp [*]; done) | go_keep)
        (first | (go_at_call 89; refine (l1formed_any y x.cells.length _).mono ?_; rintro e w1 ⟨rfl, hq1⟩; have hc1 := (bcell hq1).1; simp only [World.size_drew, World.size_alloc] at hc1))
  rename_i hHeld
  have x1 : Ext w w1 := Ext.trans (((Ext.refl w).alloc _).drew) hq1
  have z1 : w.heap.size < w1.heap.size := by have := hq1.size; simp at this; omega
  cases qf : formedB y x.cells.length
  · have E := hide (show leadsB x y m = false by simp [leadsB, qf])
    go_wp2_with fail
    go_ret
    exact ⟨by rw [unhide E]; rfl, x1⟩
  cases qk : (y.k == 2)
  · have E := hide (show leadsB x y m = true by simp [leadsB, qf, qk])
    go_wp2_with fail
    go_ret
    exact ⟨by rw [unhide E]; rfl, x1⟩
  have q1 : y.k = 2 := by simpa using qk
  have hf := formedB_iff.1 qf
  unfold Formed at hf
  have hr : 0 ≤ y.a ∧ y.a < x.cells.length := by omega
  have E0 := hide (show leadsB x y m = (if (x.c y.a.toNat).st = 2 then m else ((x.c y.a.toNat).st == 1) && !doomedB x y.a.toNat) by simp [leadsB, qf, q1])
  have h1 := h.ext x1
  have hd := hide (fun w' (e : Ext w1 w') => l1doomed_any x b y.a w' (h1.ext e) hr.1 hr.2)
  obtain ⟨i, hi⟩ := Int.eq_ofNat_of_zero_le hr.1
  rw [hi] at hd E0
  rw [Int.toNat_natCast] at E0
  obtain ⟨b', o, ap, kp, rfl, p0, p1, p2, p3, p4, p5, p6, p7, lp, P⟩ := h1.cell i (by omega)
  clear P
  have d4 := h1.c4
  have hi0 : (0 : Int) ≤ (i : Int) := by omega
  have hi1 : (i : Int) < (x.cells.length : Int) := by omega
  have hb3 : b < w1.heap.size := cell_lt d4
  have hb4 : b' < w1.heap.size := cell_lt p0
  clear h h1 c4 hf hr hb hb2
  go_wp2_with fail
  have a2 : w1.cell? ⟨w.heap.size, 2, none⟩ = some (iv i) := by rw [hHeld.2.2.1, hi]
  clear hHeld hc1
  go_region_held3 (fun w' => w'.cell? ⟨w.heap.size, 2, none⟩ = some (iv i) ∧ w'.cell? ⟨b, 4, none⟩ = some (.slice (some ⟨b', o, none⟩) x.cells.length kc) ∧ w'.cell? ⟨b', o + i * 8, none⟩ = some (iv (x.c i).st) ∧ w'.cell? ⟨b', o + i * 8 + 1, none⟩ = some (iv (x.c i).kind) ∧ w'.cell? ⟨b', o + i * 8 + 2, none⟩ = some (iv (x.c i).weak) ∧ w'.cell? ⟨b', o + i * 8 + 3, none⟩ = some (iv (x.c i).last) ∧ w'.cell? ⟨b', o + i * 8 + 4, none⟩ = some (iv (x.c i).born) ∧ w'.cell? ⟨b', o + i * 8 + 5, none⟩ = some (iv (x.c i).color) ∧ w'.cell? ⟨b', o + i * 8 + 6, none⟩ = some (iv (x.c i).to) ∧ w'.cell? ⟨b', o + i * 8 + 7, none⟩ = some (.slice ap (x.c i).prs.length kp)) (first | (simp [*]; done) | go_keep) (fail)
  have x2 : ∀ o1 : Obj, Ext w (w1.alloc o1).drew := fun o1 => (x1.alloc o1).drew
  have y2 : ∀ o1 : Obj, Ext w1 (w1.alloc o1).drew := fun o1 => ((Ext.refl w1).alloc o1).drew
  cases qs : ((x.c i).st == 2)
  · have qs' : ¬ (x.c i).st = 2 := by simpa using qs
    have E := hide (show leadsB x y m = (((x.c i).st == 1) && !doomedB x i) by rw [unhide E0, if_neg qs'])
    cases qu : ((x.c i).st == 1)
    · go_wp2_with fail
      go_ret
      exact ⟨by rw [unhide E, qu]; rfl, x2 _⟩
    · have hd2 := hide ((unhide hd) _ (y2 (.cells #[.int .i64 (x.c i).st, .int .i64 (x.c i).kind, .int .i64 (x.c i).weak, .int .i64 (x.c i).last, .int .i64 (x.c i).born, .int .i64 (x.c i).color, .int .i64 (x.c i).to, .slice ap (x.c i).prs.length kp] 90)))
      go_wp2_with (go_at_call 88; refine (unhide hd2).mono ?_; rintro e w' ⟨rfl, rfl⟩)
      go_ret
      exact ⟨by rw [unhide E, qu]; simp, x2 _⟩
  · have qs' : (x.c i).st = 2 := by simpa using qs
    have E := hide (show leadsB x y m = m by rw [unhide E0, if_pos qs'])
    clear qs'
    go_wp2_with fail
    go_ret
    exact ⟨by rw [unhide E]; rfl, x2 _⟩
end Go.Proofs.YtbcmjcomdjdjaaaGreat
