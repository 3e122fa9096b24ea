import Derived.Test.YtkabcfhemljnbabKb
import Derived.Maps.AppendAt
import Derived.Laws.IdiomCopy
namespace Go.Proofs.Ytkabcfhemljnbab
open Go.RowKit
attribute [local go_sem ↓] Go.wp_at_zero Go.wp_at_succ

/-! The program's Plain. -/
set_option maxRecDepth 100000 in
set_option maxHeartbeats 1000000 in
theorem cloneA_any (xs : List Ak) (v : Value) (w : World) (h : SlA w v xs) (hn : xs.length ≤ 1048576) :
    Calls Try.prog 13 #[v] w fun e w' => ∃ v', e = .returned v' ∧ w'.ownsRow w.heap.size 31 5 v' xs.length (xs.flatMap fA) ∧ Ext w w' := by
  obtain ⟨i0, hi0, hz0, hz1, hz2⟩ := info_parts infoActs
  obtain ⟨ad, cap, rfl, _, hx⟩ := h
  have HX := hide hx
  clear hx
  cases ad with
  | none =>
    have hl : xs.length = 0 := by
      rcases Nat.eq_zero_or_pos xs.length with h | h
      · exact h
      · obtain ⟨b, o, e, _⟩ := unhide HX 0 h; cases e
    have hx0 : xs = [] := List.eq_nil_of_length_eq_zero hl
    subst hx0
    clear HX hl
    have hq : ∀ W, (binOp .eql 24 (.slice none 0 cap) (.slice none 0 0)).run Try.prog W = .ok (.bool true) W := fun _ => by kernel_rfl
    simp only [List.length_nil]
    go_enter Try.func13, Try.ntmps13
    go_wp2_with fail
    go_ret
    exact ⟨_, rfl, World.ownsRow_nil _ _ _ _, Ext.refl _⟩
  | some ad =>
    have NW := hide (show ∀ W, Ext w W → ∀ j u, (xs.flatMap fA)[j]? = some u → W.cell? (ad.add j) = some u from fun W e j u hu => by
      rcases Nat.eq_zero_or_pos xs.length with h | h
      · rw [List.eq_nil_of_length_eq_zero h] at hu; simp at hu
      · obtain ⟨b, o, e0, _⟩ := unhide HX 0 h
        cases e0
        refine flat_news fA 5 (by omega) (fun _ => rfl) xs b o (fun i hi j hj => ?_) j u hu
        obtain ⟨b2, o2, e2, q⟩ := unhide HX i hi
        cases e2
        have q := q.ext e
        obtain ⟨q0, q1, q2, q3, q4⟩ := q
        match j, hj with
        | 0, _ => exact q0
        | 1, _ => exact q1
        | 2, _ => exact q2
        | 3, _ => exact q3
        | 4, _ => exact q4
      )
    have V1 := hide (show ∀ u, u ∈ xs.flatMap fA → u.oneCell' = true from flat_one fA (fun a u hu => by simp [fA] at hu; rcases hu with e | e | e | e | e <;> subst e <;> rfl) xs)
    have hq : ∀ W n k, (binOp .eql 24 (.slice (some ad) n k) (.slice none 0 0)).run Try.prog W = .ok (.bool false) W := fun _ _ _ => by kernel_rfl
    go_enter Try.func13, Try.ntmps13
    go_wp2_with (at_builtin; refine wpList_append_own_at _ rfl _ _ 24 rfl w.heap.size 31 i0 (.agg #[iv 0, iv 0, iv 0, iv 0, iv 0]) 5 40 Try.underlying24 hi0 hz0 hz1 hz2 rfl (by decide) _ 0 [] rfl (World.ownsRow_made w #[] 0 (Nat.le_refl _) (by unfold maxLen; omega) rfl) ad xs.length cap (xs.flatMap fA) rfl (flat_len fA 5 (fun _ => rfl) xs) (unhide NW _ ((Ext.refl w).alloc _)) (unhide V1) (by unfold maxLen; omega) (by omega) (by simp) ?_)
    intro v' w' hown hgrow _ _
    have FIN := hide (And.intro hown (grown_ext ((Ext.refl w).alloc _) (World.ownsRow_made (e := 31) (size := 5) w #[] 0 (Nat.le_refl _) (by unfold maxLen; omega) rfl) (Nat.le_refl _) hgrow))
    clear hown hgrow
    go_wp2_with fail
    go_ret
    exact ⟨_, rfl, (unhide FIN).1, (unhide FIN).2⟩
theorem collects_any (x : Ak) (w : World) : Calls Try.prog 14 #[x.v] w fun e w' => e = .returned (.bool (colB x)) ∧ Ext w w' := by
  have xa := (Ext.refl w).alloc (.cells #[iv x.op, iv x.a, iv x.b, iv x.c, iv x.n] 31)
  cases t1 : (x.op == 22)
  · cases t2 : (x.op == 23)
    · cases t3 : (x.op == 24)
      · have E := hide (show colB x = false by simp [colB, t1, t2, t3])
        go_enter Try.func14, Try.ntmps14
        go_wp2_with fail
        go_ret
        exact ⟨by rw [unhide E]; rfl, xa⟩
      · have E := hide (show colB x = true by simp [colB, t3])
        go_enter Try.func14, Try.ntmps14
        go_wp2_with fail
        go_ret
        exact ⟨by rw [unhide E]; rfl, xa⟩
    · have E := hide (show colB x = true by simp [colB, t2])
      go_enter Try.func14, Try.ntmps14
      go_wp2_with fail
      go_ret
      exact ⟨by rw [unhide E]; rfl, xa⟩
  · have E := hide (show colB x = true by simp [colB, t1])
    go_enter Try.func14, Try.ntmps14
    go_wp2_with fail
    go_ret
    exact ⟨by rw [unhide E]; rfl, xa⟩
/-- where the first act stands that only lets the collector work -/
def FstC (xs : List Ak) (r : Int) : Prop := (r = -1 ∧ ∀ j (h : j < xs.length), colB xs[j] = false) ∨ ∃ i : Nat, ∃ h : i < xs.length, r = (i : Int) ∧ colB xs[i] = true ∧ ∀ j (hj : j < i), colB (xs[j]'(by omega)) = false
set_option maxRecDepth 100000 in
set_option maxHeartbeats 600000 in
theorem indexFunc_any (xs : List Ak) (v : Value) (w : World) (h : SlA w v xs) :
    Calls Try.prog 16 #[v, .func (.func 14) #[] #[]] w fun e w' => ∃ r : Int, e = .returned (.int .i64 r) ∧ FstC xs r ∧ Ext w w' := by
  obtain ⟨ad, cap, rfl, _, hx⟩ := h
  have HX := hide hx
  clear hx
  go_enter Try.func16, Try.ntmps16
  go_wp2_with fail
  go_loopw [8] (fun i wr => ∃ k : Nat, k ≤ xs.length ∧ i = .int .i64 k ∧ Hid (∀ j (hj : j < xs.length), j < k → colB xs[j] = false) ∧ Ext w wr) (fun i _ => xs.length - (intOf i).toNat)
  case atStart => exact ⟨0, Nat.zero_le _, rfl, fun j _ h => by omega, Ext.refl _⟩
  case round =>
    obtain ⟨k, hk, rfl, hno, hbl⟩ := hrel
    by_cases hlt : k < xs.length
    · obtain ⟨b, o, rfl, p0, p1, p2, p3, p4⟩ := unhide HX k hlt
      have e0 := hbl.keep p0
      have e1 := hbl.keep p1
      have e2 := hbl.keep p2
      have e3 := hbl.keep p3
      have e4 := hbl.keep p4
      clear p0 p1 p2 p3 p4
      have hk0 : (0:Int) ≤ (k:Int) := by omega
      have hk1 : (k:Int) < (xs.length:Int) := by omega
      go_wp2_with fail
      refine (collects_any xs[k] _).mono ?_
      rintro e w1 ⟨rfl, q1⟩
      cases t : colB xs[k]
      · have N := hide (show ∀ j (hj : j < xs.length), j < k + 1 → colB xs[j] = false from fun j hj hjk => by
          by_cases e : j = k
          · subst e; exact t
          · exact unhide hno j hj (by omega))
        go_wp2_with fail
        go_roundw
        case rel => exact ⟨k + 1, by omega, by go_num, unhide N, hbl.trans q1⟩
        case measure => simp [intOf]; omega
      · have F := hide (show FstC xs (k : Int) from .inr ⟨k, hlt, rfl, t, fun j hj => unhide hno j (by omega) hj⟩)
        go_wp2_with fail
        go_ret
        exact ⟨_, rfl, unhide F, hbl.trans q1⟩
    · have F := hide (show FstC xs (-1) from .inl ⟨rfl, fun j hj => unhide hno j hj (by omega)⟩)
      go_wp2_with fail
      go_ret
      exact ⟨_, rfl, unhide F, hbl⟩
/-! A row of one's own, written over. -/
def putL : List Value → Nat → List Value → List Value
  | xs, _, [] => xs
  | xs, o, v :: r => putL (xs.set o v) (o + 1) r
theorem own_put {B : Nat} {T : TypeId} {c g n cap : Nat} : ∀ (vs : List Value) (o : Nat) (w : World) (xs : List Value), w.ownsRow B T c (.slice (some ⟨g, 0, none⟩) n cap) n xs → (w.setCells g o vs).ownsRow B T c (.slice (some ⟨g, 0, none⟩) n cap) n (putL xs o vs)
  | [], _, _, _, h => h
  | v :: r, o, _, _, h => own_put r (o + 1) _ _ (h.stored o v).1
theorem putL_take : ∀ (vs xs : List Value) (o m : Nat), m ≤ o → (putL xs o vs).take m = xs.take m
  | [], _, _, _, _ => rfl
  | v :: r, xs, o, m, h => by
    show (putL (xs.set o v) (o + 1) r).take m = xs.take m
    rw [putL_take r _ _ _ (by omega), List.take_set_of_le h]
theorem putL_app (r : List Value) : ∀ (vs xs : List Value) (o : Nat), putL (r ++ xs) (r.length + o) vs = r ++ putL xs o vs
  | [], _, _ => rfl
  | v :: q, xs, o => by
    show putL ((r ++ xs).set (r.length + o) v) (r.length + o + 1) q = r ++ putL (xs.set o v) (o + 1) q
    rw [List.set_append_right _ _ (by omega), Nat.add_sub_cancel_left, Nat.add_assoc]
    exact putL_app r q _ _
theorem put_act (y : Ak) : ∀ (M : List Ak) (i : Nat), i < M.length → putL (M.flatMap fA) (i * 5) (fA y) = (M.set i y).flatMap fA
  | m :: M, 0, _ => by simp [putL, fA]
  | m :: M, i + 1, h => by
    have e : (i + 1) * 5 = (fA m).length + i * 5 := by simp [fA]; omega
    rw [List.flatMap_cons, e, putL_app, put_act y M i (by simpa using h), List.set_cons_succ, List.flatMap_cons]
theorem own_cut {w : World} {B : Nat} {T : TypeId} {c g n cap m : Nat} {xs : List Value} (h : w.ownsRow B T c (.slice (some ⟨g, 0, none⟩) n cap) n xs) (hm : m ≤ n) : w.ownsRow B T c (.slice (some ⟨g, 0, none⟩) m cap) m (xs.take (m * c)) := by
  have hmc : m * c ≤ n * c := Nat.mul_le_mul_right c hm
  refine ⟨by rw [List.length_take, h.1]; omega, ?_⟩
  rcases h.2 with ⟨h', _⟩ | ⟨g', cap', cur, h', hb, hg, hnc, hcm, hcs, ht⟩
  · simp at h'
  · simp only [Value.slice.injEq, Option.some.injEq, Addr.mk.injEq, and_true, true_and] at h'
    obtain ⟨rfl, rfl⟩ := h'
    exact .inr ⟨g, cap, cur, rfl, hb, hg, by omega, hcm, hcs, by rw [← ht, List.take_take, Nat.min_eq_left hmc]⟩
theorem flat_take (M : List Ak) : ∀ i, (M.flatMap fA).take (i * 5) = (M.take i).flatMap fA := fun i => by
  induction M generalizing i with
  | nil => simp
  | cons m M ih =>
    cases i with
    | zero => simp
    | succ i =>
      have e : (i + 1) * 5 = (fA m).length + i * 5 := by simp [fA]; omega
      rw [List.flatMap_cons, e, List.take_length_add_append, ih, List.take_succ_cons, List.flatMap_cons]
theorem zcells_len (z : Array Value) (n : Nat) : (Builtin.zeroCells z n).toList.length = n * z.size := by simp [Builtin.zeroCells]
theorem zcells_one (n : Nat) : ∀ u, u ∈ (Builtin.zeroCells #[iv 0, iv 0, iv 0, iv 0, iv 0] n).toList → u.oneCell' = true := fun u hu => by
  simp [Builtin.zeroCells] at hu
  obtain ⟨a, _, e⟩ := hu
  have : a % 5 < 5 := Nat.mod_lt _ (by omega)
  have h : a % 5 = 0 ∨ a % 5 = 1 ∨ a % 5 = 2 ∨ a % 5 = 3 ∨ a % 5 = 4 := by omega
  rcases h with h | h | h | h | h <;> simp [h] at e <;> subst e <;> rfl
theorem clear_acts (w : World) (ty : TypeId) (b o n c : Nat) (hn : 0 < n) (hc : ∀ j, j < n * 5 → (w.cell? ⟨b, o + j, none⟩).isSome = true) (hf : ∀ j, j < n * 5 → w.frozen? ⟨b, o + j, none⟩ = false) :
    (Builtin.clear_ #[24] ty #[.slice (some ⟨b, o, none⟩) n c]).run Try.prog w = .ok (.tuple #[]) (w.setCells b o (Builtin.zeroCells #[iv 0, iv 0, iv 0, iv 0, iv 0] n).toList) := by
  have hl := zcells_len #[iv 0, iv 0, iv 0, iv 0, iv 0] n
  have hst := run_storeCells_cells (P := Try.prog) b o (Builtin.zeroCells #[iv 0, iv 0, iv 0, iv 0, iv 0] n).toList 0 w (by rw [hl]; simpa using hc) (by rw [hl]; simpa using hf) (zcells_one n)
  simp only [Nat.add_zero] at hst
  have hz : (Value.agg #[iv 0, iv 0, iv 0, iv 0, iv 0]).cells = #[iv 0, iv 0, iv 0, iv 0, iv 0] := by kernel_rfl
  obtain ⟨m, rfl⟩ : ∃ m, n = m + 1 := ⟨n - 1, by omega⟩
  simp [Builtin.clear_, run_underlying Try.underlying24, hz, hst]
end Go.Proofs.Ytkabcfhemljnbab
