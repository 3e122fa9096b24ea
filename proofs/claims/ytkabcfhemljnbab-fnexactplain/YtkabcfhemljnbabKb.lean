import Derived.Test.YtkabcfhemljnbabKa
import Derived.Test.YtkabcfhemljnbabFl0
import Derived.Deep.AppendLies
import Derived.Deep.RegionLaw
namespace Go.Proofs.Ytkabcfhemljnbab
open Go.RowKit
attribute [local go_sem ↓] Go.wp_at_zero Go.wp_at_succ

/-! Plain. -/
def fA (y : Ak) : List Value := [iv y.op, iv y.a, iv y.b, iv y.c, iv y.n]
theorem ownA {w : World} {base : Nat} {v : Value} {L : List Ak} (h : w.ownsRow base 31 5 v L.length (L.flatMap fA)) (hl : L.length ≤ 1048576) : SlA w v L := by
  obtain ⟨ad, cap, e, _, hx⟩ := own_cells (f := fA) (fun _ => rfl) h
  refine ⟨ad, cap, e, by omega, fun i hi => ?_⟩
  obtain ⟨g, ea, _, _, hc⟩ := hx i hi
  exact ⟨g, 0, ea, by have := hc 0 (by omega); simpa [fA] using this, by have := hc 1 (by omega); simpa [fA] using this, by have := hc 2 (by omega); simpa [fA] using this, by have := hc 3 (by omega); simpa [fA] using this, by have := hc 4 (by omega); simpa [fA] using this⟩
/-- an act that only lets the collector work -/
def colB (x : Ak) : Bool := x.op == 22 || x.op == 23 || x.op == 24
def plainL (xs : List Ak) : List Ak := xs.filter (fun x => !colB x)
theorem plain_take_no (xs : List Ak) (k : Nat) (h : k < xs.length) (q : colB xs[k] = true) : plainL (xs.take (k + 1)) = plainL (xs.take k) := by
  unfold plainL
  rw [List.take_succ_eq_append_getElem h, List.filter_append, List.filter_cons_of_neg (by simp [q]), List.filter_nil, List.append_nil]
theorem plain_take_yes (xs : List Ak) (k : Nat) (h : k < xs.length) (q : colB xs[k] = false) : plainL (xs.take (k + 1)) = plainL (xs.take k) ++ [xs[k]] := by
  unfold plainL
  rw [List.take_succ_eq_append_getElem h, List.filter_append, List.filter_cons_of_pos (by simp [q]), List.filter_nil]
theorem ownsA_ext {w w' : World} {B : Nat} {v : Value} {n : Nat} {l : List Value} (h : Hid (w.ownsRow B 31 5 v n l)) (e : Ext w w') : Hid (w'.ownsRow B 31 5 v n l) := ownsRow_of_block h (fun q hq => e.block q ((unhide h).lt q hq).2)
theorem plain_len (xs : List Ak) : (plainL xs).length ≤ xs.length := List.length_filter_le _ _
theorem plain_no {w : World} {B : Nat} {v : Value} {xs : List Ak} {k : Nat} (h : Hid (w.ownsRow B 31 5 v (plainL (xs.take k)).length ((plainL (xs.take k)).flatMap fA))) (hk : k < xs.length) (q : colB xs[k] = true) : Hid (w.ownsRow B 31 5 v (plainL (xs.take (k + 1))).length ((plainL (xs.take (k + 1))).flatMap fA)) := by
  rw [plain_take_no xs k hk q]; exact h
theorem plain_all {w : World} {B : Nat} {v : Value} {xs : List Ak} {k : Nat} (h : Hid (w.ownsRow B 31 5 v (plainL (xs.take k)).length ((plainL (xs.take k)).flatMap fA))) (hk : xs.length ≤ k) : Hid (w.ownsRow B 31 5 v (plainL xs).length ((plainL xs).flatMap fA)) := by
  rw [List.take_of_length_le hk] at h; exact h
set_option maxRecDepth 100000 in
set_option maxHeartbeats 1000000 in
theorem specPlain_any (xs : List Ak) (v : Value) (w : World) (h : SlA w v xs) (hn : xs.length ≤ 1048576) :
    Calls Try.prog 5 #[v] w fun e w' => ∃ v', Hid (e = .returned v') ∧ Hid (w'.ownsRow w.heap.size 31 5 v' (plainL xs).length ((plainL xs).flatMap fA)) ∧ Ext w w' := by
  obtain ⟨i0, hi0, hz0, hz1, hz2⟩ := info_parts infoActs
  obtain ⟨ad, cap, rfl, _, hx⟩ := h
  have HX := hide hx
  clear hx
  go_enter Try.func5, Try.ntmps5
  go_wp2_with fail
  go_loopw [3, 8] (fun v i wr => ∃ k : Nat, k ≤ xs.length ∧ i = .int .i64 k ∧ Hid (wr.ownsRow w.heap.size 31 5 v (plainL (xs.take k)).length ((plainL (xs.take k)).flatMap fA)) ∧ Ext w wr) (fun _ i _ => xs.length - (intOf i).toNat)
  case atStart => exact ⟨0, Nat.zero_le _, rfl, World.ownsRow_nil _ _ _ _, Ext.refl _⟩
  case round =>
    obtain ⟨k, hk, rfl, hown, hbl⟩ := hrel
    by_cases hlt : k < xs.length
    · obtain ⟨b, o, rfl, p0, p1, p2, p3, p4⟩ := unhide HX k hlt
      have e0 := hbl.keep p0
      have e1 := hbl.keep p1
      have e2 := hbl.keep p2
      have e3 := hbl.keep p3
      have e4 := hbl.keep p4
      clear p0 p1 p2 p3 p4
      have hb' : b < wr.heap.size := cell_lt e0
      have hk0 : (0:Int) ≤ (k:Int) := by omega
      have hk1 : (k:Int) < (xs.length:Int) := by omega
      have NO := hide (fun q => plain_no hown hlt q)
      have YES := hide (plain_take_yes xs k hlt)
      have HLE := hide (show (plainL (xs.take k)).length ≤ k by have := plain_len (xs.take k); simp at this; omega)
      obtain ⟨y, hy⟩ : ∃ y, y = xs[k] := ⟨_, rfl⟩
      rw [← hy] at e0 e1 e2 e3 e4 NO YES
      clear hy
      have xa := (Ext.refl wr).alloc (.cells #[iv y.op, iv y.a, iv y.b, iv y.c, iv y.n] 31)
      obtain ⟨L, hL⟩ : ∃ L, L = plainL (xs.take k) := ⟨_, rfl⟩
      rw [← hL] at hown YES HLE
      clear hL
      cases t1 : (y.op == 22)
      · have t1b : (y.op != 22) = true := by simpa using t1
        cases t2 : (y.op == 23)
        · have t2b : (y.op != 23) = true := by simpa using t2
          cases t3 : (y.op == 24)
          · have t3b : (y.op != 24) = true := by simpa using t3
            have Y := hide (unhide YES (by simp [colB, t1, t2, t3]))
            clear NO YES
            go_wp2_with (at_builtin; refine wpList_append_lies _ rfl _ _ 24 rfl w.heap.size 31 i0 (.agg #[iv 0, iv 0, iv 0, iv 0, iv 0]) 5 40 Try.underlying24 hi0 hz0 hz1 hz2 rfl (by decide) _ L.length (L.flatMap fA) rfl (((unhide hown).alloc _).alloc _) _ 1 1 (fA y) rfl rfl ?c1 ?c2 (by decide) ?c3 ?c4 ?c5 _ rfl ?_)
            case c1 =>
              intro q u hk
              match q, hk with
              | 0, hk => simp [fA] at hk; subst hk; simp [Addr.add, go_sem]
              | 1, hk => simp [fA] at hk; subst hk; simp [Addr.add, go_sem]
              | 2, hk => simp [fA] at hk; subst hk; simp [Addr.add, go_sem]
              | 3, hk => simp [fA] at hk; subst hk; simp [Addr.add, go_sem]
              | 4, hk => simp [fA] at hk; subst hk; simp [Addr.add, go_sem]
              | q + 5, hk => simp [fA] at hk
            case c2 => intro u hu; simp [fA] at hu; rcases hu with e | e | e | e | e <;> subst e <;> rfl
            case c3 => have := unhide HLE; unfold maxLen; omega
            case c4 => have := unhide HLE; omega
            case c5 => have := hbl.size; simp; omega
            intro g cap' w2 hown2 hgrow hat hglt
            have R := hide (show w2.ownsRow w.heap.size 31 5 (.slice (some ⟨g, 0, none⟩) (L.length + 1) cap') (plainL (xs.take (k + 1))).length ((plainL (xs.take (k + 1))).flatMap fA) by
              rw [unhide Y, List.flatMap_append]
              simpa using hown2)
            have X2 := hide (grown_ext ((hbl.alloc _).alloc _) (((unhide hown).alloc _).alloc _) (Nat.le_refl _) hgrow)
            clear hown2 hgrow hat Y
            go_wp2_with fail
            go_roundw
            case rel => exact ⟨k + 1, by omega, by go_num, unhide R, unhide X2⟩
            case measure => simp [intOf]; omega
          · have t3b : (y.op != 24) = false := by simpa using t3
            have N := hide (unhide (ownsA_ext (unhide NO (by simp [colB, t3])) xa))
            go_wp2_with fail
            go_roundw
            case rel => exact ⟨k + 1, by omega, by go_num, unhide N, hbl.trans xa⟩
            case measure => simp [intOf]; omega
        · have t2b : (y.op != 23) = false := by simpa using t2
          have N := hide (unhide (ownsA_ext (unhide NO (by simp [colB, t2])) xa))
          go_wp2_with fail
          go_roundw
          case rel => exact ⟨k + 1, by omega, by go_num, unhide N, hbl.trans xa⟩
          case measure => simp [intOf]; omega
      · have t1b : (y.op != 22) = false := by simpa using t1
        have N := hide (unhide (ownsA_ext (unhide NO (by simp [colB, t1])) xa))
        go_wp2_with fail
        go_roundw
        case rel => exact ⟨k + 1, by omega, by go_num, unhide N, hbl.trans xa⟩
        case measure => simp [intOf]; omega
    · have FIN := hide (plain_all hown (by omega))
      go_wp2_with fail
      go_ret
      exact ⟨_, rfl, unhide (unhide FIN), hbl⟩
end Go.Proofs.Ytkabcfhemljnbab
