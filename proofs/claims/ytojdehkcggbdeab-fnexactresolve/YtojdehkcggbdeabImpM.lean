import Derived.Test.YtojdehkcggbdeabImpL
namespace Go.Proofs.Ytojdehkcggbdeab
open Go.RowKit
attribute [local go_sem ↓] Go.wp_at_zero Go.wp_at_succ

/-- holdsWhite as it answers in a heap whose words are formed -/
def hwB (x : Hp) (y : Wd) : Bool := (y.k == 2) && whiteN (x.c y.a.toNat)

theorem holdsWhite_yes (x : Hp) (y : Wd) (b i : Nat) (w : World) {ar : Option Addr} {kr : Nat} {ac : Option Addr} {kc : Nat} {ag : Option Addr} {kg : Nat} {an : Option Addr} {kn : Nat} (h : VAt w b x ar kr ac kc ag kg an kn) (k2 : (y.k == 2) = true) (hi : i < x.cells.length) :
    Calls Try.prog 121 #[.pointer (some ⟨b, 0, none⟩), .agg #[iv y.k, iv y.n, iv i]] w fun e w' => e = .returned (.bool (whiteN (x.c i))) ∧ Ext w w' := by
  obtain ⟨bn, on, bc, oc, rfl, rfl, m0, m1⟩ := h.N i hi
  obtain ⟨bc', oc', ap, kp, e2, C⟩ := h.H.cell i hi
  cases e2
  have n13 := h.n13
  have x1 := (Ext.refl w).alloc (.cells #[iv y.k, iv y.n, iv i] 41)
  go_enter Try.func121, Try.ntmps121
  go_wp2_with fail
  refine (find_some y b x.cells.length bn on kn i _ k2 (x1.keep n13) hi).mono ?_
  rintro e w1 ⟨rfl, hq⟩
  have x2 := x1.trans hq
  go_wp2_with fail
  refine (white_any (x.c i) bn (on + i * 2) bc (oc + i * 8) ap kp _ (x2.keep m1) (C.ext x2)).mono ?_
  rintro e w2 ⟨rfl, rfl⟩
  go_wp2_with fail
  go_ret
  exact ⟨rfl, x2⟩

theorem holdsWhite_any (x : Hp) (y : Wd) (b : Nat) (w : World) {ar : Option Addr} {kr : Nat} {ac : Option Addr} {kc : Nat} {ag : Option Addr} {kg : Nat} {an : Option Addr} {kn : Nat} (h : VAt w b x ar kr ac kc ag kg an kn) (hy : Formed y x.cells.length) :
    Calls Try.prog 121 #[.pointer (some ⟨b, 0, none⟩), y.v] w fun e w' => e = .returned (.bool (hwB x y)) ∧ Ext w w' := by
  cases k2 : (y.k == 2)
  · have : hwB x y = false := by simp [hwB, k2]
    rw [this]; exact holdsWhite_no y b w k2
  · have hr : 0 ≤ y.a ∧ y.a < x.cells.length := by simp at k2; unfold Formed at hy; omega
    have e : hwB x y = whiteN (x.c y.a.toNat) := by simp [hwB, k2]
    rw [e]
    have := holdsWhite_yes x y b y.a.toNat w h k2 (by omega)
    rwa [Int.toNat_of_nonneg hr.1] at this


set_option maxRecDepth 100000 in
set_option maxHeartbeats 1000000 in
theorem anyWhite_any (x : Hp) (b n cap : Nat) (ap : Option Addr) (f : Nat → Pr) (w : World) {ar : Option Addr} {kr : Nat} {ac : Option Addr} {kc : Nat} {ag : Option Addr} {kg : Nat} {an : Option Addr} {kn : Nat} (h : VAt w b x ar kr ac kc ag kg an kn)
    (lp : n ≤ 35184372088832) (P : ∀ k, k < n → ∃ b' o', ap = some ⟨b', o', none⟩ ∧ PrAt w b' (o' + k * 6) (f k)) (hF : ∀ k, k < n → Formed (f k).key x.cells.length ∧ Formed (f k).val x.cells.length) :
    Calls Try.prog 108 #[.pointer (some ⟨b, 0, none⟩), .slice ap n cap] w fun e w' => ∃ r : Bool, Hid (e = .returned (.bool r)) ∧ (r = true ↔ ∃ k, k < n ∧ (hwB x (f k).key = true ∨ hwB x (f k).val = true)) ∧ Ext w w' := by
  have HP := hide P
  have HF := hide hF
  clear P hF
  go_enter Try.func108, Try.ntmps108
  go_wp2_with fail
  go_loopw [9] (fun i wr => ∃ l : Nat, l ≤ n ∧ i = .int .i64 l ∧ (∀ j, j < l → ¬ (hwB x (f j).key = true ∨ hwB x (f j).val = true)) ∧ Ext w wr) (fun i _ => n - (intOf i).toNat)
  case atStart => exact ⟨0, Nat.zero_le _, rfl, fun j h => by omega, Ext.refl _⟩
  case round =>
    obtain ⟨l, hl, rfl, hall, hbl⟩ := hrel
    have HB := hide hall
    clear hall
    by_cases hl2 : l < n
    · obtain ⟨b2, o2, rfl, q0, q1, q2, q3, q4, q5⟩ := unhide HP l hl2
      have HFl := hide (unhide HF l hl2)
      have e0 := hbl.keep q0
      have e1 := hbl.keep q1
      have e2 := hbl.keep q2
      have e3 := hbl.keep q3
      have e4 := hbl.keep q4
      have e5 := hbl.keep q5
      have hb2 : b2 < wr.heap.size := cell_lt e0
      clear q0 q1 q2 q3 q4 q5
      have hl0 : (0:Int) ≤ (l:Int) := by omega
      have hl1 : (l:Int) < (n:Int) := by omega
      have hx3 := hbl.alloc (.cells #[.int .i64 (f l).key.k, .int .i64 (f l).key.n, .int .i64 (f l).key.a, .int .i64 (f l).val.k, .int .i64 (f l).val.n, .int .i64 (f l).val.a] 95)
      go_wp2_with fail
      refine (holdsWhite_any x (f l).key b _ (h.ext hx3) (unhide HFl).1).mono ?_
      rintro e w2 ⟨rfl, hq2⟩
      have x2 := hx3.trans hq2
      have u := fun (o : Nat) (v : Value) (hc : (wr.alloc (.cells #[.int .i64 (f l).key.k, .int .i64 (f l).key.n, .int .i64 (f l).key.a, .int .i64 (f l).val.k, .int .i64 (f l).val.n, .int .i64 (f l).val.a] 95)).cell? ⟨wr.heap.size, o, none⟩ = some v) => hq2.keep hc
      have u3 := u 3 _ (by simp [go_sem]; rfl)
      have u4 := u 4 _ (by simp [go_sem]; rfl)
      have u5 := u 5 _ (by simp [go_sem]; rfl)
      clear u e0 e1 e2 e3 e4 e5
      cases tk : hwB x (f l).key
      · go_wp2_with fail
        refine (holdsWhite_any x (f l).val b _ (h.ext x2) (unhide HFl).2).mono ?_
        rintro e w3 ⟨rfl, hq3⟩
        have x3 := x2.trans hq3
        cases tv : hwB x (f l).val
        · have S := hide (show ∀ j, j < l + 1 → ¬ (hwB x (f j).key = true ∨ hwB x (f j).val = true) from fun j hj => by
            by_cases e : j = l
            · subst e; simp [tk, tv]
            · exact unhide HB j (by omega))
          go_wp2_with fail
          go_roundw
          case rel => exact ⟨l + 1, by omega, by go_num, unhide S, x3⟩
          case measure => simp [intOf]; omega
        · have Y := hide (show ∃ k, k < n ∧ (hwB x (f k).key = true ∨ hwB x (f k).val = true) from ⟨l, hl2, .inr tv⟩)
          go_wp2_with fail
          go_ret
          exact ⟨true, rfl, ⟨fun _ => unhide Y, fun _ => rfl⟩, x3⟩
      · have Y := hide (show ∃ k, k < n ∧ (hwB x (f k).key = true ∨ hwB x (f k).val = true) from ⟨l, hl2, .inl tk⟩)
        go_wp2_with fail
        go_ret
        exact ⟨true, rfl, ⟨fun _ => unhide Y, fun _ => rfl⟩, x2⟩
    · have N := hide (show ¬ ∃ k, k < n ∧ (hwB x (f k).key = true ∨ hwB x (f k).val = true) from fun ⟨k, hk, hh⟩ => unhide HB k (by omega) hh)
      go_wp2_with fail
      go_ret
      exact ⟨false, rfl, ⟨fun f => by simp at f, fun r => (unhide N r).elim⟩, hbl⟩
end Go.Proofs.Ytojdehkcggbdeab
