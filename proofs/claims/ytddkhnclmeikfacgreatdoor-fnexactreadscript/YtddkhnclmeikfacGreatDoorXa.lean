import Derived.Test.YtddkhnclmeikfacGreatDoorTo0
import Derived.Test.YtddkhnclmeikfacGreatDoorFl0
import Derived.Lib.ItoaNum
import Derived.Laws.IdiomStrings
import Derived.Deep.AppendLies
namespace Go.Proofs.YtddkhnclmeikfacGreatDoor
open Go.RowKit
attribute [local go_sem ↓] Go.wp_at_zero Go.wp_at_succ

/-! Decimal numerals, as the model writes them. -/
def dec0 (m : Nat) : List UInt8 := if m = 0 then [] else Lib.decDigits m
theorem dec0_zero : dec0 0 = [] := rfl
theorem dec0_step (m : Nat) (h : m ≠ 0) : dec0 m = dec0 (m / 10) ++ [UInt8.ofNat (48 + m % 10)] := by
  unfold dec0
  rw [if_neg h, Lib.decDigits]
  by_cases h1 : m < 10
  · rw [dif_pos h1, if_pos (by omega), Nat.mod_eq_of_lt h1]; rfl
  · rw [dif_neg h1, if_neg (by omega)]
def bC (x : UInt8) : List Value := [.int .u8 (x.toNat : Int)]
/-- where the model's loop stands: m is left to be written, L is written, the last digit first -/
def DecI (u m : Nat) (L : List UInt8) : Prop := L.length ≤ 19 ∧ m * 10 ^ L.length ≤ u ∧ dec0 u = dec0 m ++ L.reverse
theorem DecI.start (u : Nat) : DecI u u [] := ⟨by simp, by simp, by simp⟩
theorem DecI.lt {u m : Nat} {L : List UInt8} (h : DecI u m L) (hm : m ≠ 0) (hu : u ≤ 9223372036854775808) : L.length < 19 := by
  apply Nat.lt_of_not_le
  intro hl
  have h1 : 10 ^ 19 ≤ 10 ^ L.length := Nat.pow_le_pow_right (by omega) hl
  have h2 : 1 * 10 ^ L.length ≤ m * 10 ^ L.length := Nat.mul_le_mul_right _ (by omega)
  have := h.2.1
  omega
theorem DecI.step {u m : Nat} {L : List UInt8} (h : DecI u m L) (hm : m ≠ 0) (hu : u ≤ 9223372036854775808) : DecI u (m / 10) (L ++ [UInt8.ofNat (48 + m % 10)]) := by
  refine ⟨by have := h.lt hm hu; simp; omega, ?_, ?_⟩
  · have h1 := h.2.1
    have h2 : m / 10 * 10 * 10 ^ L.length ≤ m * 10 ^ L.length := Nat.mul_le_mul_right _ (by omega)
    rw [List.length_append, List.length_singleton, Nat.pow_succ, Nat.mul_comm (10 ^ L.length), ← Nat.mul_assoc]
    omega
  · rw [h.2.2, dec0_step m hm]; simp
theorem DecI.done {u : Nat} {L : List UInt8} (h : DecI u 0 L) : dec0 u = L.reverse := by rw [h.2.2]; rfl
theorem str_app (a b : List UInt8) : (⟨a.toArray⟩ : ByteArray) ++ ⟨b.toArray⟩ = ⟨(a ++ b).toArray⟩ := by
  apply ByteArray.ext
  simp
theorem drop_rev (L : List UInt8) (j : Nat) (hj : j < L.length) : (L.drop j).reverse = (L.drop (j + 1)).reverse ++ [L[j]] := by
  rw [List.drop_eq_getElem_cons hj, List.reverse_cons]
theorem tmod_neg (m : Nat) : Int.tmod (-(m : Int)) 10 = -((m % 10 : Nat) : Int) := by rw [Int.neg_tmod]; rfl
theorem tdiv_neg (m : Nat) : Int.tdiv (-(m : Int)) 10 = -((m / 10 : Nat) : Int) := by rw [Int.neg_tdiv]; rfl
theorem tmod_pos (m : Nat) : Int.tmod (m : Int) 10 = ((m % 10 : Nat) : Int) := rfl
theorem tdiv_pos (m : Nat) : Int.tdiv (m : Int) 10 = ((m / 10 : Nat) : Int) := rfl
theorem infoU8 : (Tryz.prog.info? 5).map (fun i => (i.zero, i.size, i.bytes)) = some (some (.int .u8 0), 1, 1) := by kernel_rfl
theorem digit_u8 (m : Nat) : (48 + (m : Int) % 10) = ((UInt8.ofNat (48 + m % 10)).toNat : Int) := by
  have : (UInt8.ofNat (48 + m % 10)).toNat = 48 + m % 10 := by simp [UInt8.toNat_ofNat']; omega
  rw [this]; omega
theorem own_bytes {w : World} {B : Nat} {v : Value} {L : List UInt8} (h : w.ownsRow B 5 1 v L.length (L.flatMap bC)) : ∃ ad cap, v = .slice ad L.length cap ∧ ∀ i (hi : i < L.length), ∃ g, ad = some ⟨g, 0, none⟩ ∧ g < w.heap.size ∧ w.cell? ⟨g, i, none⟩ = some (.int .u8 (L[i].toNat : Int)) := by
  obtain ⟨ad, cap, e, _, hx⟩ := own_cells (f := bC) (fun _ => rfl) h
  refine ⟨ad, cap, e, fun i hi => ?_⟩
  obtain ⟨g, ea, _, hg, hc⟩ := hx i hi
  have := hc 0 (by simp)
  simp [bC] at this
  exact ⟨g, ea, cell_lt this, this⟩
theorem conv1 (w : World) (x : UInt8) : (convert 94 9 (.slice (some ⟨w.heap.size, 0, none⟩) 1 1)).run Tryz.prog (w.alloc (.cells #[.int .u8 (x.toNat : Int)] 5)) = .ok (.string ⟨#[x]⟩) (w.alloc (.cells #[.int .u8 (x.toNat : Int)] 5)) := by
  have := run_convert_bytes_back (P := Tryz.prog) (w.alloc (.cells #[.int .u8 (x.toNat : Int)] 5)) 94 9 5 ⟨w.heap.size, 0, none⟩ 1 [x] Tryz.underlying94 Tryz.underlying5 Tryz.underlying9 (fun j hj => by
    have : j = 0 := by simp at hj; omega
    subst this
    simp [Addr.add, go_sem])
  simpa using this
set_option maxRecDepth 100000 in
set_option maxHeartbeats 600000 in
theorem l7decimal_pos (u : Nat) (h0 : u ≠ 0) (h1 : u ≤ 9223372036854775807) (w : World) : Calls Tryz.prog 56 #[.int .i64 (u : Int)] w fun e w' => e = .returned (.string ⟨(dec0 u).toArray⟩) ∧ Ext w w' := by
  obtain ⟨i0, hi0, hz0, hz1, hz2⟩ := info_parts infoU8
  have q0 : ((u : Int) == 0) = false := by simpa using h0
  have q1 : ¬ (u : Int) < 0 := by omega
  go_enter Tryz.func56, Tryz.ntmps56
  go_wp2_with fail
  go_loopw [0, 4, 5] (fun n v d wr => ∃ (m : Nat) (L : List UInt8), n = .int .i64 (m : Int) ∧ m ≤ u ∧ Hid (DecI u m L) ∧ Hid (wr.ownsRow w.heap.size 5 1 v L.length (L.flatMap bC)) ∧ Ext w wr) (fun n _ _ _ => (intOf n).natAbs)
  case atStart => exact ⟨u, [], rfl, Nat.le_refl _, DecI.start u, World.ownsRow_nil _ _ _ _, Ext.refl _⟩
  case round =>
    obtain ⟨m, L, rfl, hm, hd, hown, hbl⟩ := hrel
    cases q : ((m : Int) == 0)
    · have hm0 : m ≠ 0 := by simpa using q
      have DU := hide (digit_u8 m)
      have LT := hide ((unhide hd).lt hm0 (by omega))
      have NX := hide ((unhide hd).step hm0 (by omega))

      all_goals
        go_wp2_with (at_builtin; refine wpList_append_lies _ rfl _ _ 94 rfl w.heap.size 5 i0 (.int .u8 0) 1 1 Tryz.underlying94 hi0 hz0 hz1 hz2 rfl (by decide) _ L.length (L.flatMap bC) rfl ((unhide hown).alloc _) _ 1 1 (bC (UInt8.ofNat (48 + m % 10))) rfl rfl ?c1 ?c2 (by decide) ?c3 ?c4 ?c5 _ rfl ?_)
        case c1 =>
          intro q u hk
          match q, hk with
          | 0, hk => simp [bC] at hk; subst hk; have := unhide DU; simp [Addr.add, go_sem]; exact this
          | q + 1, hk => simp [bC] at hk
        case c2 => intro u hu; simp [bC] at hu; subst hu; rfl
        case c3 => have := unhide LT; unfold maxLen; omega
        case c4 => have := unhide LT; omega
        case c5 => have := hbl.size; simp; omega
        intro g cap' w2 hown2 hgrow hat hglt
        have R := hide (show w2.ownsRow w.heap.size 5 1 (.slice (some ⟨g, 0, none⟩) (L.length + 1) cap') (L ++ [UInt8.ofNat (48 + m % 10)]).length ((L ++ [UInt8.ofNat (48 + m % 10)]).flatMap bC) by
          rw [List.flatMap_append]
          simpa using hown2)
        have X2 := hide (grown_ext (hbl.alloc _) ((unhide hown).alloc _) (Nat.le_refl _) hgrow)
        clear hown2 hgrow hat hown
        go_wp2_with fail
        go_roundw
        case rel => exact ⟨m / 10, _, by go_num, by omega, unhide NX, unhide R, unhide X2⟩
        case measure => simp [intOf]; omega
    · have hm0 : m = 0 := by simpa using q
      subst hm0
      have L19 := (unhide hd).1
      obtain ⟨ad, cap, rfl, hx⟩ := own_bytes (unhide hown)
      have HX := hide hx
      clear hx hown
      obtain ⟨WO, hWO⟩ : ∃ W, W = wr := ⟨_, rfl⟩
      subst hWO
      go_wp2_with fail
      go_loopw [6, 7] (fun v i wr => ∃ (j : Nat) (ij : Int), j ≤ L.length ∧ ij = (j : Int) - 1 ∧ v = .string ⟨((L.drop j).reverse).toArray⟩ ∧ i = .int .i64 ij ∧ Ext WO wr) (fun _ i _ => (intOf i + 1).toNat)
      case atStart => exact ⟨L.length, _, Nat.le_refl _, rfl, by simp, by first | rfl | (congr 1; omega), Ext.refl _⟩
      case round =>
        obtain ⟨j, ij, hj, hij, rfl, rfl, hb2⟩ := hrel
        cases j with
        | zero =>
          have e : ij = -1 := by omega
          subst e
          clear hij q
          have FIN := hide (unhide hd).done
          go_wp2_with fail
          go_ret
          exact ⟨by rw [unhide FIN]; simp, hbl.trans hb2⟩
        | succ j =>
          have e : ij = (j : Int) := by omega
          subst e
          clear hij q
          obtain ⟨g, rfl, hg, hc⟩ := unhide HX j (by omega)
          have e0 := hb2.keep hc
          have CV := conv1 wr L[j]
          have DR := hide (drop_rev L j (by omega))
          have hk1 : (j : Int) < (L.length : Int) := by omega
          have hk0 : (0 : Int) ≤ (j : Int) := by omega
          go_wp2_with fail
          exact ⟨⟨j, _, by omega, rfl, by rw [unhide DR]; exact congrArg Value.string (str_app ((L.drop (j + 1)).reverse) [L[j]]), rfl, hb2.alloc _⟩, by simp [intOf]⟩
set_option maxRecDepth 100000 in
set_option maxHeartbeats 600000 in
theorem l7decimal_neg (u : Nat) (h0 : u ≠ 0) (h1 : u ≤ 9223372036854775808) (w : World) : Calls Tryz.prog 56 #[.int .i64 (-(u : Int))] w fun e w' => e = .returned (.string ⟨(45 :: dec0 u).toArray⟩) ∧ Ext w w' := by
  obtain ⟨i0, hi0, hz0, hz1, hz2⟩ := info_parts infoU8
  have q0 : ((-(u : Int)) == 0) = false := by simp; omega
  have q1 : -(u : Int) < 0 := by omega
  go_enter Tryz.func56, Tryz.ntmps56
  go_wp2_with fail
  go_loopw [0, 4, 5] (fun n v d wr => ∃ (m : Nat) (L : List UInt8), n = .int .i64 (-(m : Int)) ∧ m ≤ u ∧ Hid (DecI u m L) ∧ Hid (wr.ownsRow w.heap.size 5 1 v L.length (L.flatMap bC)) ∧ Ext w wr) (fun n _ _ _ => (intOf n).natAbs)
  case atStart => exact ⟨u, [], rfl, Nat.le_refl _, DecI.start u, World.ownsRow_nil _ _ _ _, Ext.refl _⟩
  case round =>
    obtain ⟨m, L, rfl, hm, hd, hown, hbl⟩ := hrel
    cases q : ((-(m : Int)) == 0)
    · have hm0 : m ≠ 0 := by simp at q; omega
      have DU := hide (digit_u8 m)
      have LT := hide ((unhide hd).lt hm0 (by omega))
      have NX := hide ((unhide hd).step hm0 (by omega))
      by_cases q3 : (0 : Int) < (m : Int) % 10
      all_goals
        go_wp2_with (at_builtin; refine wpList_append_lies _ rfl _ _ 94 rfl w.heap.size 5 i0 (.int .u8 0) 1 1 Tryz.underlying94 hi0 hz0 hz1 hz2 rfl (by decide) _ L.length (L.flatMap bC) rfl ((unhide hown).alloc _) _ 1 1 (bC (UInt8.ofNat (48 + m % 10))) rfl rfl ?c1 ?c2 (by decide) ?c3 ?c4 ?c5 _ rfl ?_)
        case c1 =>
          intro q u hk
          match q, hk with
          | 0, hk => simp [bC] at hk; subst hk; have := unhide DU; simp [Addr.add, go_sem]; omega
          | q + 1, hk => simp [bC] at hk
        case c2 => intro u hu; simp [bC] at hu; subst hu; rfl
        case c3 => have := unhide LT; unfold maxLen; omega
        case c4 => have := unhide LT; omega
        case c5 => have := hbl.size; simp; omega
        intro g cap' w2 hown2 hgrow hat hglt
        have R := hide (show w2.ownsRow w.heap.size 5 1 (.slice (some ⟨g, 0, none⟩) (L.length + 1) cap') (L ++ [UInt8.ofNat (48 + m % 10)]).length ((L ++ [UInt8.ofNat (48 + m % 10)]).flatMap bC) by
          rw [List.flatMap_append]
          simpa using hown2)
        have X2 := hide (grown_ext (hbl.alloc _) ((unhide hown).alloc _) (Nat.le_refl _) hgrow)
        clear hown2 hgrow hat hown
        go_wp2_with fail
        go_roundw
        case rel => exact ⟨m / 10, _, by first | go_num | (congr 1; omega), by omega, unhide NX, unhide R, unhide X2⟩
        case measure => simp [intOf]; omega
    · have hm0 : m = 0 := by simp at q; omega
      subst hm0
      have L19 := (unhide hd).1
      obtain ⟨ad, cap, rfl, hx⟩ := own_bytes (unhide hown)
      have HX := hide hx
      clear hx hown
      obtain ⟨WO, hWO⟩ : ∃ W, W = wr := ⟨_, rfl⟩
      subst hWO
      go_wp2_with fail
      go_loopw [6, 7] (fun v i wr => ∃ (j : Nat) (ij : Int), j ≤ L.length ∧ ij = (j : Int) - 1 ∧ v = .string ⟨(45 :: (L.drop j).reverse).toArray⟩ ∧ i = .int .i64 ij ∧ Ext WO wr) (fun _ i _ => (intOf i + 1).toNat)
      case atStart => exact ⟨L.length, _, Nat.le_refl _, rfl, by simp, by first | rfl | (congr 1; omega), Ext.refl _⟩
      case round =>
        obtain ⟨j, ij, hj, hij, rfl, rfl, hb2⟩ := hrel
        cases j with
        | zero =>
          have e : ij = -1 := by omega
          subst e
          clear hij q
          have FIN := hide (unhide hd).done
          go_wp2_with fail
          go_ret
          exact ⟨by rw [unhide FIN]; simp, hbl.trans hb2⟩
        | succ j =>
          have e : ij = (j : Int) := by omega
          subst e
          clear hij q
          obtain ⟨g, rfl, hg, hc⟩ := unhide HX j (by omega)
          have e0 := hb2.keep hc
          have CV := conv1 wr L[j]
          have DR := hide (drop_rev L j (by omega))
          have hk1 : (j : Int) < (L.length : Int) := by omega
          have hk0 : (0 : Int) ≤ (j : Int) := by omega
          go_wp2_with fail
          exact ⟨⟨j, _, by omega, rfl, by rw [unhide DR]; exact congrArg Value.string (str_app (45 :: (L.drop (j + 1)).reverse) [L[j]]), rfl, hb2.alloc _⟩, by simp [intOf]⟩
theorem itoa_pos (u : Nat) (h : u ≠ 0) : Lib.itoa u = dec0 u := by
  unfold Lib.itoa dec0
  rw [if_neg (by omega), if_neg h]; rfl
theorem itoa_neg (u : Nat) (h : u ≠ 0) : Lib.itoa (-(u : Int)) = 45 :: dec0 u := by
  unfold Lib.itoa dec0
  rw [if_pos (by omega), if_neg h]; simp
set_option maxRecDepth 100000 in
theorem l7decimal_zero (w : World) : Calls Tryz.prog 56 #[.int .i64 0] w fun e w' => e = .returned (.string ⟨(Lib.itoa 0).toArray⟩) ∧ Ext w w' := by
  go_enter Tryz.func56, Tryz.ntmps56
  go_wp2_with fail
  go_ret
  refine ⟨?_, Ext.refl _⟩
  rw [show Lib.itoa 0 = [48] by rw [Lib.itoa, if_neg (by omega), Lib.decDigits, dif_pos (by decide)]; rfl]
  rfl
theorem l7decimal_any (n : Int) (h0 : -9223372036854775808 ≤ n) (h1 : n ≤ 9223372036854775807) (w : World) : Calls Tryz.prog 56 #[.int .i64 n] w fun e w' => e = .returned (.string ⟨(Lib.itoa n).toArray⟩) ∧ Ext w w' := by
  by_cases hz : n = 0
  · subst hz; exact l7decimal_zero w
  · by_cases hn : n < 0
    · obtain ⟨u, rfl⟩ : ∃ u : Nat, n = -(u : Int) := ⟨n.natAbs, by omega⟩
      rw [itoa_neg u (by omega)]
      exact l7decimal_neg u (by omega) (by omega) w
    · obtain ⟨u, rfl⟩ : ∃ u : Nat, n = (u : Int) := ⟨n.toNat, by omega⟩
      rw [itoa_pos u (by omega)]
      exact l7decimal_pos u (by omega) (by omega) w
end Go.Proofs.YtddkhnclmeikfacGreatDoor
