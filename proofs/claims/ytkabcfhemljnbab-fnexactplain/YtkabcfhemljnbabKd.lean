import Derived.Test.YtkabcfhemljnbabKc
namespace Go.Proofs.Ytkabcfhemljnbab
open Go.RowKit
attribute [local go_sem ↓] Go.wp_at_zero Go.wp_at_succ

theorem plain_same (xs : List Ak) (h : ∀ j (hj : j < xs.length), colB xs[j] = false) : plainL xs = xs := by
  unfold plainL
  refine List.filter_eq_self.2 fun a ha => ?_
  obtain ⟨j, hj, e⟩ := List.getElem_of_mem ha
  rw [← e, h j hj]; rfl
/-- how far the deleting has come: i acts kept of j looked at -/
structure DelIs (xs M : List Ak) (i j : Nat) : Prop where
  len : M.length = xs.length
  lt : i < j
  le : j ≤ xs.length
  tk : M.take i = plainL (xs.take j)
  dr : M.drop j = xs.drop j
theorem DelIs.start {xs : List Ak} {i : Nat} (h : i < xs.length) (q : colB xs[i] = true) (hn : ∀ j (hj : j < i), colB (xs[j]'(by omega)) = false) : DelIs xs xs i (i + 1) := by
  refine ⟨rfl, by omega, by omega, ?_, rfl⟩
  rw [plain_take_no xs i h q, plain_same (xs.take i) (fun j hj => by simp at hj; rw [List.getElem_take]; exact hn j (by omega))]
theorem DelIs.at {xs M : List Ak} {i j : Nat} (h : DelIs xs M i j) (hj : j < xs.length) : ∃ hm : j < M.length, M[j] = xs[j] := by
  have hm : j < M.length := by rw [h.len]; exact hj
  refine ⟨hm, ?_⟩
  have e := congrArg (fun l => l[0]?) h.dr
  simp only [List.getElem?_drop, Nat.add_zero] at e
  rw [List.getElem?_eq_getElem hm, List.getElem?_eq_getElem hj] at e
  injection e
theorem DelIs.no {xs M : List Ak} {i j : Nat} (h : DelIs xs M i j) (hj : j < xs.length) (q : colB xs[j] = true) : DelIs xs M i (j + 1) := by
  refine ⟨h.len, by have := h.lt; omega, by omega, by rw [plain_take_no xs j hj q]; exact h.tk, ?_⟩
  have := congrArg (List.drop 1) h.dr
  simpa [List.drop_drop] using this
theorem DelIs.yes {xs M : List Ak} {i j : Nat} (h : DelIs xs M i j) (hj : j < xs.length) (q : colB xs[j] = false) : DelIs xs (M.set i xs[j]) (i + 1) (j + 1) := by
  have hl := h.len
  have hlt := h.lt
  refine ⟨by simp [hl], by omega, by omega, ?_, ?_⟩
  · rw [plain_take_yes xs j hj q, ← h.tk, List.take_set, List.take_succ_eq_append_getElem (by omega)]
    rw [List.set_append_right _ _ (by simp; omega)]
    simp [Nat.min_eq_left (show i ≤ M.length by omega)]
  · rw [List.drop_set_of_lt (by omega)]
    have := congrArg (List.drop 1) h.dr
    simpa [List.drop_drop] using this
theorem DelIs.done {xs M : List Ak} {i : Nat} (h : DelIs xs M i xs.length) : M.take i = plainL xs ∧ i = (plainL xs).length := by
  have e := h.tk
  rw [List.take_length] at e
  refine ⟨e, ?_⟩
  rw [← e, List.length_take, h.len]
  have := h.lt; omega
theorem act_cells {w : World} {B g n cap : Nat} {M : List Ak} (h : w.ownsRow B 31 5 (.slice (some ⟨g, 0, none⟩) n cap) n (M.flatMap fA)) (hn : M.length = n) (j : Nat) (hj : j < M.length) : AkAt w g (j * 5) M[j] := by
  have key : ∀ k, k < 5 → w.cell? ⟨g, j * 5 + k, none⟩ = (fA M[j])[k]? := fun k hk => by
    rw [h.cellAt (j * 5 + k) (by omega)]
    exact flat_get fA 5 (fun _ => rfl) M j k hj hk
  exact ⟨key 0 (by omega), key 1 (by omega), key 2 (by omega), key 3 (by omega), key 4 (by omega)⟩
theorem wrap_up (n : Nat) (h : n ≤ 1048576) : wrap64 ((n : Int) + 1) = (n : Int) + 1 := by unfold wrap64; omega
theorem flatA_len (M : List Ak) : (M.flatMap fA).length = M.length * 5 := flat_len fA 5 (fun _ => rfl) M
set_option maxRecDepth 100000 in
set_option maxHeartbeats 1000000 in
theorem deleteFunc_any (xs : List Ak) (v1 : Value) (w : World) (B : Nat) (h : w.ownsRow B 31 5 v1 xs.length (xs.flatMap fA)) (hn : xs.length ≤ 1048576) (a : World) (ha : a.heap.size ≤ B) (hx : Ext a w) :
    Calls Try.prog 12 #[v1, .func (.func 14) #[] #[]] w fun e w' => ∃ v', Hid (e = .returned v') ∧ Hid (w'.ownsRow B 31 5 v' (plainL xs).length ((plainL xs).flatMap fA)) ∧ Ext a w' := by
  have QI := hide (indexFunc_any xs v1 w (ownA h hn))
  have H := hide h
  clear h
  go_enter Try.func12, Try.ntmps12
  go_wp2_with fail
  refine (unhide QI).mono ?_
  rintro e w1 ⟨r, rfl, fc, x1⟩
  have H1 := hide (ownsRow_of_block (unhide H) (fun q hq => x1.block q ((unhide H).lt q hq).2))
  rcases fc with ⟨rfl, hall⟩ | ⟨i, hi, rfl, q, hno⟩
  · have E := hide (plain_same xs hall)
    go_wp2_with fail
    go_ret
    exact ⟨_, rfl, by rw [unhide E]; exact unhide H1, hx.trans x1⟩
  · obtain ⟨g, cap, hv, hg0, hg1⟩ := (unhide H1).form (by omega)
    subst hv
    have D0 := hide (DelIs.start hi q hno)
    have hne : ((i : Int) == -1) = false := by simp
    have wi : wrap64 ((i : Int) + 1) = (i : Int) + 1 := wrap_up i (by omega)
    clear q hno QI H
    have hnc : xs.length ≤ cap := by
      rcases (unhide H1).2 with ⟨e, _⟩ | ⟨g', cap', cur, e1, _, _, e4, _⟩
      · simp at e
      · injection e1 with _ _ e1; omega
    go_wp2_with fail
    go_loopw [5, 6] (fun si sj wr => ∃ (i j : Nat) (M : List Ak), si = .int .i64 i ∧ sj = .int .i64 j ∧ Hid (DelIs xs M i j) ∧ Hid (wr.ownsRow B 31 5 (.slice (some ⟨g, 0, none⟩) xs.length cap) xs.length (M.flatMap fA)) ∧ Hid (Ext a wr) ∧ g < wr.heap.size) (fun _ sj _ => xs.length - (intOf sj).toNat)
    case atStart => exact ⟨i, i + 1, xs, rfl, by go_num, unhide D0, unhide H1, hx.trans x1, hg1⟩
    case round =>
      clear H1 D0 wi hne hg1 hi
      obtain ⟨i, j, M, rfl, rfl, hd, hown, hxr, hgw⟩ := hrel
      have hij := (unhide hd).lt
      have hjn := (unhide hd).le
      have hml := (unhide hd).len
      by_cases hlt : j < xs.length
      · obtain ⟨hm, em⟩ := (unhide hd).at hlt
        obtain ⟨e0, e1, e2, e3, e4⟩ := act_cells (unhide hown) hml j hm
        rw [em] at e0 e1 e2 e3 e4
        have NO := hide ((unhide hd).no hlt)
        have YES := hide ((unhide hd).yes hlt)
        obtain ⟨y, hy⟩ : ∃ y, y = xs[j] := ⟨_, rfl⟩
        rw [← hy] at e0 e1 e2 e3 e4 NO YES
        clear hy em
        have j0 : (0:Int) ≤ (j:Int) := by omega
        have j1 : (j:Int) < (xs.length:Int) := by omega
        have i0' : (0:Int) ≤ (i:Int) := by omega
        have i1 : (i:Int) < (xs.length:Int) := by omega
        have xa := (Ext.refl wr).alloc (.cells #[iv y.op, iv y.a, iv y.b, iv y.c, iv y.n] 31)
        have wj : wrap64 ((j : Int) + 1) = (j : Int) + 1 := wrap_up j (by omega)
        have wi : wrap64 ((i : Int) + 1) = (i : Int) + 1 := wrap_up i (by omega)
        have hil : i < M.length := by rw [hml]; exact Nat.lt_trans hij hlt
        clear hjn hij
        go_wp2_with fail
        refine (collects_any y _).mono ?_
        rintro e w2 ⟨rfl, q2⟩
        have x2 := xa.trans q2
        have O2 := hide (ownsRow_of_block (unhide hown) (fun q hq => x2.block q ((unhide hown).lt q hq).2))
        have X2 := hide ((unhide hxr).trans x2)
        have g2 : g < w2.heap.size := Nat.lt_of_lt_of_le hgw x2.size
        cases t : colB y
        · have D := hide (unhide YES t)
          have b0 : w2.cell? ⟨wr.heap.size, 0, none⟩ = some (iv y.op) := q2.keep (by simp [go_sem])
          have b1 : w2.cell? ⟨wr.heap.size, 1, none⟩ = some (iv y.a) := q2.keep (by simp [go_sem])
          have b2 : w2.cell? ⟨wr.heap.size, 2, none⟩ = some (iv y.b) := q2.keep (by simp [go_sem])
          have b3 : w2.cell? ⟨wr.heap.size, 3, none⟩ = some (iv y.c) := q2.keep (by simp [go_sem])
          have b4 : w2.cell? ⟨wr.heap.size, 4, none⟩ = some (iv y.n) := q2.keep (by simp [go_sem])
          obtain ⟨c0, c1, c2, c3, c4⟩ := act_cells (unhide O2) hml i hil
          have f0 := (unhide O2).frozenAt (i * 5)
          have f1 := (unhide O2).frozenAt (i * 5 + 1)
          have f2 := (unhide O2).frozenAt (i * 5 + 2)
          have f3 := (unhide O2).frozenAt (i * 5 + 3)
          have f4 := (unhide O2).frozenAt (i * 5 + 4)
          have hbw : wr.heap.size < w2.heap.size := cell_lt b0
          have R := hide (show (w2.setCells g (i * 5) [iv y.op, iv y.a, iv y.b, iv y.c, iv y.n]).ownsRow B 31 5 (.slice (some ⟨g, 0, none⟩) xs.length cap) xs.length ((M.set i y).flatMap fA) ∧ Ext a (w2.setCells g (i * 5) [iv y.op, iv y.a, iv y.b, iv y.c, iv y.n]) ∧ g < (w2.setCells g (i * 5) [iv y.op, iv y.a, iv y.b, iv y.c, iv y.n]).heap.size from by
            refine ⟨?_, (put_only (S := fun q => q = g) rfl (Only.refl _ w2)).ext (unhide X2) (fun q hq e => by omega), Nat.lt_of_lt_of_le g2 (put_only (S := fun q => q = g) rfl (Only.refl _ w2)).size⟩
            have := own_put (fA y) (i * 5) w2 _ (unhide O2)
            rw [put_act y M i hil] at this
            exact this)
          clear NO YES e0 e1 e2 e3 e4
          go_wp2_with fail
          go_roundw
          case rel => exact ⟨i + 1, j + 1, M.set i y, by go_num, by go_num, unhide D, (unhide R).1, (unhide R).2.1, (unhide R).2.2⟩
          case measure => simp [intOf]; omega
        · have D := hide (unhide NO t)
          clear NO YES e0 e1 e2 e3 e4
          go_wp2_with fail
          go_roundw
          case rel => exact ⟨i, j + 1, M, rfl, by go_num, unhide D, unhide O2, unhide X2, g2⟩
          case measure => simp [intOf]; omega
      · have je : j = xs.length := by omega
        subst je
        obtain ⟨dt, dl⟩ := (unhide hd).done
        have hcl : ∀ ty, (Builtin.clear_ #[24] ty #[.slice (some ⟨g, i * 5, none⟩) (xs.length - i) (cap - i)]).run Try.prog wr = .ok (.tuple #[]) (wr.setCells g (i * 5) (Builtin.zeroCells #[iv 0, iv 0, iv 0, iv 0, iv 0] (xs.length - i)).toList) := fun ty => clear_acts wr ty g (i * 5) _ _ (by omega) (fun k hk => by
          have := (unhide hown).cellAt (i * 5 + k) (by omega)
          rw [this]
          have hl : i * 5 + k < (M.flatMap fA).length := by rw [flatA_len]; omega
          rw [List.getElem?_eq_getElem hl]; rfl) (fun k _ => (unhide hown).frozenAt _)
        have FIN := hide (show (wr.setCells g (i * 5) (Builtin.zeroCells #[iv 0, iv 0, iv 0, iv 0, iv 0] (xs.length - i)).toList).ownsRow B 31 5 (.slice (some ⟨g, 0, none⟩) i cap) (plainL xs).length ((plainL xs).flatMap fA) ∧ Ext a (wr.setCells g (i * 5) (Builtin.zeroCells #[iv 0, iv 0, iv 0, iv 0, iv 0] (xs.length - i)).toList) from by
          refine ⟨?_, (put_only (S := fun q => q = g) rfl (Only.refl _ wr)).ext (unhide hxr) (fun q hq e => by omega)⟩
          have h1 := own_cut (own_put (Builtin.zeroCells #[iv 0, iv 0, iv 0, iv 0, iv 0] (xs.length - i)).toList (i * 5) wr _ (unhide hown)) (show i ≤ xs.length by omega)
          rw [putL_take _ _ _ _ (Nat.le_refl _), flat_take, dt, dl] at h1
          rw [dl]
          exact h1)
        have k0 : (0:Int) ≤ (i:Int) := by omega
        have k1 : (i:Int) ≤ (xs.length:Int) := by omega
        have k2 : (i:Int) ≤ (cap:Int) := by omega
        clear dt dl hd
        go_wp2_with fail
        go_ret
        exact ⟨_, rfl, (unhide FIN).1, (unhide FIN).2⟩
set_option maxRecDepth 100000 in
set_option maxHeartbeats 1000000 in
theorem implPlain_any (xs : List Ak) (v : Value) (w : World) (h : SlA w v xs) (hn : xs.length ≤ 1048576) :
    Calls Try.prog 7 #[v] w fun e w' => ∃ v', Hid (e = .returned v') ∧ Hid (w'.ownsRow w.heap.size 31 5 v' (plainL xs).length ((plainL xs).flatMap fA)) ∧ Ext w w' := by
  go_enter Try.func7, Try.ntmps7
  go_wp2_with fail
  refine (cloneA_any xs v w h hn).mono ?_
  rintro e w1 ⟨v1, rfl, o1, x1⟩
  go_wp2_with fail
  refine (deleteFunc_any xs v1 w1 w.heap.size o1 hn w (Nat.le_refl _) x1).mono ?_
  rintro e w2 ⟨v2, rfl, o2, x2⟩
  go_wp2_with fail
  go_ret
  exact ⟨_, rfl, unhide o2, x2⟩
end Go.Proofs.Ytkabcfhemljnbab
