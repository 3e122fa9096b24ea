import Derived.Test.YtkabcfhemljnbaaGreatL2a
import Derived.Test.YtkabcfhemljnbaaGreatSpecL
namespace Go.Proofs.YtkabcfhemljnbaaGreat
open Go.RowKit
attribute [local go_sem ↓] Go.wp_at_zero Go.wp_at_succ

/-- the units of the cells that p picks -/
def sumTo (x : Hp) (p : Nat → Bool) : Nat → Nat
  | 0 => 0
  | k + 1 => sumTo x p k + (if p k = true then 1 + (x.c k).prs.length else 0)
theorem sumTo_congr {x : Hp} {p q : Nat → Bool} (h : ∀ i, p i = q i) (k : Nat) : sumTo x p k = sumTo x q k := by
  induction k with
  | zero => rfl
  | succ k ih => simp only [sumTo, ih, h]
theorem sumTo_le {x : Hp} {p : Nat → Bool} (h : ∀ i, i < x.cells.length → (x.c i).prs.length ≤ 200) (k : Nat) (hk : k ≤ x.cells.length) : sumTo x p k ≤ 201 * k := by
  induction k with
  | zero => simp [sumTo]
  | succ k ih =>
    have := h k (by omega)
    have := ih (by omega)
    simp only [sumTo]
    split <;> omega

set_option maxRecDepth 100000 in
set_option maxHeartbeats 2000000 in
theorem l2sum_any (x : Hp) (b bs : Nat) (p : Nat → Bool) (w : World) {ar : Option Addr} {kr : Nat} {ac : Option Addr} {kc : Nat} {ag : Option Addr} {kg : Nat} (h : HAt w b x ar kr ac kc ag kg) (hs : ∀ i, i < x.cells.length → w.cell? ⟨bs, i, none⟩ = some (.bool (p i))) (hn8 : x.cells.length ≤ 8000) (h200 : ∀ i, i < x.cells.length → (x.c i).prs.length ≤ 200) :
    Calls Tryz.prog 65 #[.pointer (some ⟨b, 0, none⟩), .slice (some ⟨bs, 0, none⟩) x.cells.length x.cells.length] w fun e w' => e = .returned (.int .i64 (sumTo x p x.cells.length : Int)) ∧ w' = w := by
  have HS := hide hs
  have HH := hide h
  have c4 := h.c4
  have HL := hide (fun k hk => sumTo_le (p := p) h200 k hk)
  clear hs h
  go_enter Tryz.func65, Tryz.ntmps65
  go_wp2_with fail
  go_loop [5, 10] (fun n i => ∃ (k u : Nat), k ≤ x.cells.length ∧ i = .int .i64 k ∧ n = .int .i64 u ∧ Hid (u = sumTo x p k)) (fun _ i => x.cells.length - (intOf i).toNat)
  case atStart => exact ⟨0, 0, Nat.zero_le _, rfl, rfl, rfl⟩
  case round =>
    obtain ⟨k, u, hk, rfl, rfl, hu⟩ := hrel
    have hul : u ≤ 201 * k := by have := unhide hu; rw [this]; exact unhide HL k hk
    by_cases hlt : k < x.cells.length
    · have hc := unhide HS k hlt
      obtain ⟨b', o, ap, kp, rfl, p0, p1, p2, p3, p4, p5, p6, p7, lp, P⟩ := (unhide HH).cell k hlt
      have hl := h200 k hlt
      have hk0 : (0:Int) ≤ (k:Int) := by omega
      have hk1 : (k:Int) < (x.cells.length:Int) := by omega
      clear P p0 p1 p2 p3 p4 p5 p6
      cases tp : p k
      · rw [tp] at hc
        have U2 := hide (show u = sumTo x p (k + 1) by have := unhide hu; simp only [sumTo, tp]; simp; exact this)
        go_wp2_with fail
        go_round
        case rel => exact ⟨k + 1, u, by omega, by go_num, rfl, unhide U2⟩
        case measure => simp [intOf]; omega
      · rw [tp] at hc
        have U2 := hide (show u + (1 + (x.c k).prs.length) = sumTo x p (k + 1) by have := unhide hu; simp only [sumTo, tp]; simp; omega)
        go_wp2_with fail
        go_round
        case rel => exact ⟨k + 1, u + (1 + (x.c k).prs.length), by omega, by go_num, by go_num, unhide U2⟩
        case measure => simp [intOf]; omega
    · have hk2 : k = x.cells.length := by omega
      have U := hide (show u = sumTo x p x.cells.length by have := unhide hu; rw [hk2] at this; exact this)
      clear hk2
      go_wp2_with fail
      go_ret
      exact ⟨by rw [← unhide U]; rfl, rfl⟩

theorem OkIs.all {x : Hp} (h : OkIs x 0) : R1 x ∧ R2 x ∧ R3 x ∧ R4 x := by
  unfold OkIs at h
  rcases h with h | h | h | h | h | h | h | h | h
  · omega
  · omega
  · omega
  · omega
  · omega
  · omega
  · omega
  · omega
  · exact ⟨h.1, h.2.1, h.2.2.1, h.2.2.2.1⟩
theorem OkIs.n8 {x : Hp} (h : OkIs x 0) : x.cells.length ≤ 8000 := by have := h.all.1.room; have := h.all.1.cells; omega
theorem OkIs.p200 {x : Hp} (h : OkIs x 0) (i : Nat) (hi : i < x.cells.length) : (x.c i).prs.length ≤ 200 := by
  rcases h.all.2.1.1 i hi with c | c | c
  · have := c.2.1.2.2.2.2.2; omega
  · have := c.2.1.2.2.2.2.2; omega
  · exact c.2.2.2.2.2.2.2

/-- what Live answers -/
def LiveIs (x : Hp) (r : Nat) : Prop := (OkIs x 0 ∧ ∃ p : Nat → Bool, (∀ i, p i = true ↔ Reached x i) ∧ r = sumTo x p x.cells.length) ∨ (¬ OkIs x 0 ∧ r = 0)
theorem LiveIs.uniq {x : Hp} {r s : Nat} (h : LiveIs x r) (k : LiveIs x s) : r = s := by
  rcases h with ⟨h, p, hp, e⟩ | ⟨h, e⟩ <;> rcases k with ⟨k, q, hq, f⟩ | ⟨k, f⟩
  · rw [e, f]; exact sumTo_congr (fun i => by rw [Bool.eq_iff_iff, hp, hq]) _
  · exact (k h).elim
  · exact (h k).elim
  · rw [e, f]

theorem l2live_any (x : Hp) (b : Nat) (w : World) {ar : Option Addr} {kr : Nat} {ac : Option Addr} {kc : Nat} {ag : Option Addr} {kg : Nat} (h : HAt w b x ar kr ac kc ag kg) (ok : OkIs x 0) :
    Calls Tryz.prog 63 #[.pointer (some ⟨b, 0, none⟩)] w fun e w' => ∃ r : Nat, Hid (e = .returned (.int .i64 (r : Int))) ∧ LiveIs x r ∧ Ext w w' := by
  have HH := hide h
  have OK := hide ok
  clear h ok
  go_enter Tryz.func63, Tryz.ntmps63
  go_wp2_with fail
  refine (l2reach_any x b _ (unhide HH) (unhide OK).all.2.1 (unhide OK).all.2.2.2 (unhide OK).n8).mono ?_
  rintro e w1 ⟨v, L, rfl, hs, hr, hq⟩
  have HS := hide hs
  clear hs
  go_wp2_with fail
  refine (l2sum_any x b w.heap.size (fun i => decide ((i : Int) ∈ L)) _ ((unhide HH).ext hq) (unhide HS).s (unhide OK).n8 (unhide OK).p200).mono ?_
  rintro e w2 ⟨rfl, rfl⟩
  go_wp2_with fail
  go_ret
  exact ⟨_, rfl, .inl ⟨unhide OK, _, fun i => by simpa using unhide hr i, rfl⟩, hq⟩

set_option maxRecDepth 100000 in
set_option maxHeartbeats 2000000 in
theorem specLive_any (x : Hp) (w : World) {ar : Option Addr} {kr : Nat} {ac : Option Addr} {kc : Nat} {ag : Option Addr} {kg : Nat} (hR : SlW w (.slice ar x.regs.length kr) x.regs) (hC : SlC w (.slice ac x.cells.length kc) x.cells) (hG : SlI w (.slice ag x.gray.length kg) x.gray) :
    Calls Tryz.prog 23 #[x.v (.slice ar x.regs.length kr) (.slice ac x.cells.length kc) (.slice ag x.gray.length kg)] w fun e w' => ∃ r : Nat, Hid (e = .returned (.int .i64 (r : Int))) ∧ LiveIs x r ∧ Ext w w' := by
  have x1 := (Ext.refl w).alloc (.cells #[iv x.room, iv x.used, iv x.born, .slice ar x.regs.length kr, .slice ac x.cells.length kc, iv x.phase, iv x.hand, iv x.sub, .slice ag x.gray.length kg, iv x.per, iv x.start, iv x.rounds, iv x.forced] 33)
  have S1 := hide (SlW.ext x1 hR)
  have S2 := hide (SlC.ext x1 hC)
  have S3 := hide (SlI.ext x1 hG)
  have HB := hide (hat_box x w hR hC hG)
  clear hR hC hG
  go_enter Tryz.func23, Tryz.ntmps23
  go_wp2_with fail
  refine (specHeapOk_any x _ (unhide S1) (unhide S2) (unhide S3)).mono ?_
  rintro e w2 ⟨n, rfl, hok2, hq⟩
  have x2 := x1.trans hq
  have OK2 := hide hok2
  have H2 := hide ((unhide HB).ext hq)
  clear hok2 hq
  cases t : (n == 0)
  · have t2 : (n != 0) = true := by simpa using t
    have N := hide (show LiveIs x 0 from .inr ⟨fun h => by have := OkIs.uniq h (unhide OK2); simp at t; omega, rfl⟩)
    go_wp2_with fail
    go_ret
    exact ⟨0, rfl, unhide N, x2⟩
  · have t2 : (n != 0) = false := by simpa using t
    have Y := hide (show OkIs x 0 by have := unhide OK2; simp at t; rw [t] at this; exact this)
    go_wp2_with fail
    refine (l2live_any x w.heap.size _ (unhide H2) (unhide Y)).mono ?_
    rintro e w3 ⟨r, rfl, hl, hq3⟩
    have x3 := x2.trans hq3
    go_wp2_with fail
    go_ret
    exact ⟨r, rfl, hl, x3⟩
end Go.Proofs.YtkabcfhemljnbaaGreat
