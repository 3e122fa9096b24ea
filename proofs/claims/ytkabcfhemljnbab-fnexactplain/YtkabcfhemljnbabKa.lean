import Derived.Test.YtkabcfhemljnbabTo0
namespace Go.Proofs.Ytkabcfhemljnbab
open Go.RowKit
attribute [local go_sem ↓] Go.wp_at_zero Go.wp_at_succ

/-! Acts, and rows of them. -/
structure Ak where
  op : Int
  a : Int
  b : Int
  c : Int
  n : Int
abbrev Ak.v (x : Ak) : Value := .agg #[iv x.op, iv x.a, iv x.b, iv x.c, iv x.n]
def AkAt (w : World) (b o : Nat) (x : Ak) : Prop := w.cell? ⟨b, o, none⟩ = some (iv x.op) ∧ w.cell? ⟨b, o + 1, none⟩ = some (iv x.a) ∧ w.cell? ⟨b, o + 2, none⟩ = some (iv x.b) ∧ w.cell? ⟨b, o + 3, none⟩ = some (iv x.c) ∧ w.cell? ⟨b, o + 4, none⟩ = some (iv x.n)
abbrev SlA (w : World) (v : Value) (xs : List Ak) : Prop := SlOf (AkAt w) 5 v xs
theorem AkAt.ext {w w' : World} (h : Ext w w') {b o : Nat} {x : Ak} (hx : AkAt w b o x) : AkAt w' b o x := ⟨h.keep hx.1, h.keep hx.2.1, h.keep hx.2.2.1, h.keep hx.2.2.2.1, h.keep hx.2.2.2.2⟩
theorem SlA.ext {w w' : World} (h : Ext w w') {v : Value} {xs : List Ak} (hx : SlA w v xs) : SlA w' v xs := hx.mono fun _ _ _ k => k.ext h
theorem slA_form {w : World} {v : Value} {xs : List Ak} (h : SlA w v xs) : ∃ ad cap, v = .slice ad xs.length cap := let ⟨a, c, e, _⟩ := h; ⟨a, c, e⟩
theorem szActS_any (ad : Option Addr) (n cap : Nat) (l : Int) (w : World) (hn : n ≤ 35184372088832) (h0 : 0 ≤ l) (h1 : l ≤ 1048576) :
    Calls Try.prog 4 #[.slice ad n cap, .int .i64 l] w fun e w' => ∃ r : Int, e = .returned (.int .i64 r) ∧ ((0 ≤ r ∧ r = l - n) ∨ r = -1) ∧ w' = w := by
  by_cases h : l - (n : Int) < 0
  · go_enter Try.func4, Try.ntmps4
    go_wp2
    go_ret
    exact ⟨-1, rfl, Or.inr rfl, rfl⟩
  · go_enter Try.func4, Try.ntmps4
    go_wp2
    go_ret
    exact ⟨_, rfl, Or.inl ⟨by omega, rfl⟩, rfl⟩
theorem toAct_any (x : Ak) (w : World) : Calls Try.prog 11 #[x.v] w fun e w' => e = .returned x.v ∧ ∃ a b c, w' = ((w.alloc a).alloc b).alloc c := by
  go_enter Try.func11, Try.ntmps11
  go_wp2
  exact bodyPost_ret (v := x.v) (by simp [results, Try.results11, go_sem]) rfl ⟨rfl, _, _, _, rfl⟩
theorem infoActs : (Try.prog.info? 31).map (fun i => (i.zero, i.size, i.bytes)) = some (some (.agg #[iv 0, iv 0, iv 0, iv 0, iv 0]), 5, 40) := by kernel_rfl
theorem mkActs (n : Nat) (hn : n ≤ 1048576) (w : World) : ∃ z, (Instr.makeSlice 24 (.int .i64 n) (.int .i64 n)).run Try.prog w = .ok (.slice (some ⟨w.heap.size, 0, none⟩) n n) (w.alloc (.cells (madeCells z (n * 5)) 31)) := by
  obtain ⟨i0, hi, hz0, hz1, hz2⟩ := info_parts infoActs
  have h := run_make (P := Try.prog) w 24 31 i0 _ Try.underlying24 hi hz0 .i64 .i64 n n (by omega) (Int.le_refl _) (by rw [hz2]; omega) (by omega)
  rw [hz1] at h
  simp only [Int.toNat_natCast] at h
  exact ⟨_, h⟩
abbrev Ak.l (x : Ak) : List Value := [iv x.op, iv x.a, iv x.b, iv x.c, iv x.n]
theorem acts_step {w wr w1 : World} {xs : List Ak} {k : Nat} (hlt : k < xs.length) (hm : ∀ j (hj : j < xs.length), j < k → AkAt wr w.heap.size (0 + j * 5) xs[j]) (ho : ∀ j, j < xs.length * 5 → Open wr w.heap.size j) (hbl : Ext w wr) (hq : Ext wr w1) (hnf : Nf1 w.heap.size wr) :
    let W := w1.setCells w.heap.size (k * 5) (let x := xs[k]; [iv x.op, iv x.a, iv x.b, iv x.c, iv x.n])
    (∀ j (hj : j < xs.length), j < k + 1 → AkAt W w.heap.size (0 + j * 5) xs[j]) ∧ (∀ j, j < xs.length * 5 → Open W w.heap.size j) ∧ Ext w W ∧ Nf1 w.heap.size W := by
  intro W
  have ho1 : ∀ j, j < xs[k].l.length → Open w1 w.heap.size (k * 5 + j) := fun j hj => (ho (k * 5 + j) (by simp at hj; omega)).ext hq
  refine ⟨fun j hj hjk => ?_, fun j hj => put_open ((ho j hj).ext hq), (put_only (S := fun q => q = w.heap.size) rfl (Only.refl _ w1)).ext (hbl.trans hq) (by intro k hk; omega), (hnf.ext hq).put⟩
  by_cases e : j = k
  · subst e
    refine ⟨?_, ?_, ?_, ?_, ?_⟩
    · have := put_in ho1 0 (by simp)
      simpa using this
    · have := put_in ho1 1 (by simp)
      simpa using this
    · have := put_in ho1 2 (by simp)
      simpa using this
    · have := put_in ho1 3 (by simp)
      simpa using this
    · have := put_in ho1 4 (by simp)
      simpa using this
  · have hx := hm j hj (by omega)
    have hx := AkAt.ext hq hx
    refine ⟨?_, ?_, ?_, ?_, ?_⟩
    · rw [put_out _ _ (Or.inr (by simp; omega))]; exact hx.1
    · rw [put_out _ _ (Or.inr (by simp; omega))]; exact hx.2.1
    · rw [put_out _ _ (Or.inr (by simp; omega))]; exact hx.2.2.1
    · rw [put_out _ _ (Or.inr (by simp; omega))]; exact hx.2.2.2.1
    · rw [put_out _ _ (Or.inr (by simp; omega))]; exact hx.2.2.2.2

theorem toActS_any (xs : List Ak) (v : Value) (w : World) (h : SlA w v xs) (hn : xs.length ≤ 1048576) :
    Calls Try.prog 6 #[v] w fun e w' => ∃ v', e = .returned v' ∧ SlA w' v' xs ∧ Fn0 w.heap.size w' v' ∧ Ext w w' := by
  obtain ⟨ad, cap, rfl, hl, hx⟩ := h
  obtain ⟨z, hmk⟩ := mkActs xs.length hn w
  go_enter Try.func6, Try.ntmps6
  go_wp2_with fail
  go_loopw [4] (fun i wr => ∃ k : Nat, k ≤ xs.length ∧ i = .int .i64 k ∧ (∀ j (hj : j < xs.length), j < k → AkAt wr w.heap.size (0 + j * 5) xs[j]) ∧ (∀ j, j < xs.length * 5 → Open wr w.heap.size j) ∧ Ext w wr ∧ Hid (Nf1 w.heap.size wr)) (fun i _ => xs.length - (intOf i).toNat)
  case atStart => exact ⟨0, Nat.zero_le _, rfl, fun j hj h => by omega, fun j hj => made_open _ _ _ _ _ hj, (Ext.refl w).alloc _, Nf1.made _ _ _ _⟩
  case round =>
    obtain ⟨k, hk, rfl, hm, hop, hbl, hnf⟩ := hrel
    by_cases hlt : k < xs.length
    · obtain ⟨b, o, rfl, p0, p1, p2, p3, p4⟩ := hx k hlt
      have e0 := hbl.keep p0
      have e1 := hbl.keep p1
      have e2 := hbl.keep p2
      have e3 := hbl.keep p3
      have e4 := hbl.keep p4
      clear p0 p1 p2 p3 p4
      have hk0 : (0:Int) ≤ (k:Int) := by omega
      have hk1 : (k:Int) < (xs.length:Int) := by omega
      go_wp2_with fail
      refine (toAct_any xs[k] _).mono ?_
      rintro e w1 ⟨rfl, a1, b1, c1, hw1⟩
      have hq1 : Ext wr w1 := by rw [hw1]; exact (((Ext.refl wr).alloc _).alloc _).alloc _
      clear hw1
      obtain ⟨⟨v0, c0⟩, f0⟩ := (hop (k * 5) (by omega)).ext hq1
      obtain ⟨⟨v1, c1⟩, f1⟩ := (hop (k * 5 + 1) (by omega)).ext hq1
      obtain ⟨⟨v2, c2⟩, f2⟩ := (hop (k * 5 + 2) (by omega)).ext hq1
      obtain ⟨⟨v3, c3⟩, f3⟩ := (hop (k * 5 + 3) (by omega)).ext hq1
      obtain ⟨⟨v4, c4⟩, f4⟩ := (hop (k * 5 + 4) (by omega)).ext hq1
      have R := hide (acts_step hlt hm hop hbl hq1 (unhide hnf))
      clear hm hop
      go_wp2_with fail
      go_roundw
      case rel => exact ⟨k + 1, by omega, by go_num, (unhide R).1, (unhide R).2.1, (unhide R).2.2.1, (unhide R).2.2.2⟩
      case measure => simp [intOf]; omega
    · have hk2 : k = xs.length := by omega
      have HM : SlOf (AkAt wr) 5 (.slice (some ⟨w.heap.size, 0, none⟩) xs.length xs.length) xs := ⟨_, _, rfl, hl, fun i hi => ⟨_, _, rfl, hm i hi (by omega)⟩⟩
      have HM := hide HM
      clear hm hop hk2
      go_wp2_with fail
      go_ret
      exact ⟨_, rfl, unhide HM, (unhide hnf).fn, hbl⟩
theorem eqAct_same (x : Ak) (w : World) : Calls Try.prog 15 #[x.v, x.v] w fun e w' => e = .returned (.bool true) ∧ Ext w w' := by
  go_enter Try.func15, Try.ntmps15
  go_wp2
  go_ret
  exact ⟨by simp, ((Ext.refl w).alloc _).alloc _⟩
set_option maxHeartbeats 1000000 in
theorem eqActS_same (xs : List Ak) (v v' : Value) (w : World) (h : SlA w v xs) (h' : SlA w v' xs) :
    Calls Try.prog 8 #[v, v'] w fun e w' => e = .returned (.bool true) ∧ Ext w w' := by
  obtain ⟨ad, cap, rfl, hl, hx⟩ := h
  obtain ⟨ad', cap', rfl, _, hx'⟩ := h'
  go_enter Try.func8, Try.ntmps8
  go_wp2
  go_loopw [5] (fun i wr => ∃ k : Nat, k ≤ xs.length ∧ i = .int .i64 k ∧ Ext w wr) (fun i _ => xs.length - (intOf i).toNat)
  case atStart => exact ⟨0, Nat.zero_le _, rfl, Ext.refl _⟩
  case round =>
    obtain ⟨k, hk, rfl, hbl⟩ := hrel
    by_cases hlt : k < xs.length
    · obtain ⟨b, o, rfl, p0, p1, p2, p3, p4⟩ := hx k hlt
      obtain ⟨b', o', rfl, q0, q1, q2, q3, q4⟩ := hx' k hlt
      have e0 := hbl.keep p0
      have e1 := hbl.keep p1
      have e2 := hbl.keep p2
      have e3 := hbl.keep p3
      have e4 := hbl.keep p4
      have f0 := hbl.keep q0
      have f1 := hbl.keep q1
      have f2 := hbl.keep q2
      have f3 := hbl.keep q3
      have f4 := hbl.keep q4
      have hbr : b < wr.heap.size := cell_lt e1
      have hbr' : b' < wr.heap.size := cell_lt f1
      clear p0 p1 p2 p3 p4 q0 q1 q2 q3 q4
      have hk0 : (0:Int) ≤ (k:Int) := by omega
      have hk1 : (k:Int) < (xs.length:Int) := by omega
      go_wp2
      go_region_held3 (fun w' => w'.cell? ⟨b, o + k * 5, none⟩ = some (iv xs[k].op) ∧ w'.cell? ⟨b, o + k * 5 + 1, none⟩ = some (iv xs[k].a) ∧ w'.cell? ⟨b, o + k * 5 + 2, none⟩ = some (iv xs[k].b) ∧ w'.cell? ⟨b, o + k * 5 + 3, none⟩ = some (iv xs[k].c) ∧ w'.cell? ⟨b, o + k * 5 + 4, none⟩ = some (iv xs[k].n) ∧ w'.cell? ⟨b', o' + k * 5, none⟩ = some (iv xs[k].op) ∧ w'.cell? ⟨b', o' + k * 5 + 1, none⟩ = some (iv xs[k].a) ∧ w'.cell? ⟨b', o' + k * 5 + 2, none⟩ = some (iv xs[k].b) ∧ w'.cell? ⟨b', o' + k * 5 + 3, none⟩ = some (iv xs[k].c) ∧ w'.cell? ⟨b', o' + k * 5 + 4, none⟩ = some (iv xs[k].n)) (first | (simp [*]; done) | go_keep)
        (first | (go_at_call 15; refine (eqAct_same xs[k] _).mono ?_; rintro e w1 ⟨rfl, hq1⟩; have hc1 := (bcell hq1).1; simp only [World.size_drew] at hc1))
      go_wp2
      go_roundw
      case rel => exact ⟨k + 1, by omega, by go_num, hbl.trans (Ext.trans (Ext.drew (Ext.refl _)) hq1)⟩
      case measure => simp [intOf]; omega
    · go_wp2
      go_ret
      exact ⟨rfl, hbl⟩
theorem markA_step {w wr : World} {b o n k : Nat} {k0 : Int} (hk : k < n) (hm : ∀ j, j < 5 * k → wr.cell? ⟨b, o + j, none⟩ = some (iv (k0 + j))) (ho : ∀ j, j < 5 * n → Open wr b (o + j)) (hon : Only (fun q => q = b) w wr) :
    let W := ((((wr.setCell ⟨b, o + k * 5, none⟩ (iv (k0 + 5 * k))).setCell ⟨b, o + k * 5 + 1, none⟩ (iv (k0 + 5 * k + 1))).setCell ⟨b, o + k * 5 + 2, none⟩ (iv (k0 + 5 * k + 1 + 1))).setCell ⟨b, o + k * 5 + 3, none⟩ (iv (k0 + 5 * k + 1 + 1 + 1))).setCell ⟨b, o + k * 5 + 4, none⟩ (iv (k0 + 5 * k + 1 + 1 + 1 + 1))
    (∀ j, j < 5 * (k + 1) → W.cell? ⟨b, o + j, none⟩ = some (iv (k0 + j))) ∧ (∀ j, j < 5 * n → Open W b (o + j)) ∧ Only (fun q => q = b) w W := by
  intro W
  refine ⟨?_, fun j hj => (((((ho j hj).set _ _).set _ _).set _ _).set _ _).set _ _, ((((hon.setCell rfl _).setCell rfl _).setCell rfl _).setCell rfl _).setCell rfl _⟩
  intro j hj
  have o0 : Open wr b (o + k * 5) := by rw [Nat.mul_comm]; exact ho (5 * k) (by omega)
  have o1 : Open wr b (o + k * 5 + 1) := by rw [Nat.mul_comm]; exact ho (5 * k + 1) (by omega)
  have o2 : Open wr b (o + k * 5 + 2) := by rw [Nat.mul_comm]; exact ho (5 * k + 2) (by omega)
  have o3 : Open wr b (o + k * 5 + 3) := by rw [Nat.mul_comm]; exact ho (5 * k + 3) (by omega)
  have o4 : Open wr b (o + k * 5 + 4) := by rw [Nat.mul_comm]; exact ho (5 * k + 4) (by omega)
  by_cases h4 : j = 5 * k + 4
  · subst h4
    have e : o + (5 * k + 4) = o + k * 5 + 4 := by omega
    rw [e]
    show (World.setCell _ _ _).cell? _ = _
    rw [((((o4.set _ _).set _ _).set _ _).set _ _).same]
    congr 2 <;> omega
  · show (World.setCell _ _ _).cell? _ = _
    rw [cell_other _ (Or.inr (by omega))]
    by_cases h3 : j = 5 * k + 3
    · subst h3
      have e : o + (5 * k + 3) = o + k * 5 + 3 := by omega
      rw [e]
      show (World.setCell _ _ _).cell? _ = _
      rw [(((o3.set _ _).set _ _).set _ _).same]
      congr 2 <;> omega
    · show (World.setCell _ _ _).cell? _ = _
      rw [cell_other _ (Or.inr (by omega))]
      by_cases h2 : j = 5 * k + 2
      · subst h2
        have e : o + (5 * k + 2) = o + k * 5 + 2 := by omega
        rw [e]
        show (World.setCell _ _ _).cell? _ = _
        rw [((o2.set _ _).set _ _).same]
        congr 2 <;> omega
      · show (World.setCell _ _ _).cell? _ = _
        rw [cell_other _ (Or.inr (by omega))]
        by_cases h1 : j = 5 * k + 1
        · subst h1
          have e : o + (5 * k + 1) = o + k * 5 + 1 := by omega
          rw [e]
          show (World.setCell _ _ _).cell? _ = _
          rw [(o1.set _ _).same]
          congr 2 <;> omega
        · show (World.setCell _ _ _).cell? _ = _
          rw [cell_other _ (Or.inr (by omega))]
          by_cases h0 : j = 5 * k
          · subst h0
            have e : o + (5 * k) = o + k * 5 := by omega
            rw [e]
            show (World.setCell _ _ _).cell? _ = _
            rw [o0.same]
            congr 2 <;> omega
          · show (World.setCell _ _ _).cell? _ = _
            rw [cell_other _ (Or.inr (by omega))]
            exact hm j (by omega)
set_option maxHeartbeats 1000000 in
theorem markActS_any (b o n cap : Nat) (k0 : Int) (w : World) (hn : n ≤ 1099511627776) (h0 : 0 ≤ k0) (h1 : k0 ≤ 1099511627776) (ho : ∀ j, j < 5 * n → Open w b (o + j)) :
    Calls Try.prog 9 #[.slice (some ⟨b, o, none⟩) n cap, .int .i64 k0] w fun e w' =>
      e = .returned (.int .i64 (k0 + 5 * n)) ∧ (∀ j, j < 5 * n → w'.cell? ⟨b, o + j, none⟩ = some (iv (k0 + j))) ∧ (∀ j, j < 5 * n → Open w' b (o + j)) ∧ Only (fun q => q = b) w w' := by
  go_enter Try.func9, Try.ntmps9
  go_wp2
  go_loopw [1, 5] (fun kk i wr => ∃ k : Nat, k ≤ n ∧ i = .int .i64 k ∧ kk = .int .i64 (k0 + 5 * k) ∧ (∀ j, j < 5 * k → wr.cell? ⟨b, o + j, none⟩ = some (iv (k0 + j))) ∧ (∀ j, j < 5 * n → Open wr b (o + j)) ∧ Only (fun q => q = b) w wr) (fun _ i _ => n - (intOf i).toNat)
  case atStart => exact ⟨0, Nat.zero_le _, rfl, by simp, fun j hj => by omega, ho, Only.refl _ _⟩
  case round =>
    obtain ⟨k, hk, rfl, rfl, hm, hop, hon⟩ := hrel
    by_cases hlt : k < n
    · have R := markA_step hlt hm hop hon
      have HR := hide R
      obtain ⟨⟨v0, c0⟩, f0⟩ : Open wr b (o + k * 5) := by rw [Nat.mul_comm]; exact hop (5 * k) (by omega)
      obtain ⟨⟨v1, c1⟩, f1⟩ : Open wr b (o + k * 5 + 1) := by rw [Nat.mul_comm]; exact hop (5 * k + 1) (by omega)
      obtain ⟨⟨v2, c2⟩, f2⟩ : Open wr b (o + k * 5 + 2) := by rw [Nat.mul_comm]; exact hop (5 * k + 2) (by omega)
      obtain ⟨⟨v3, c3⟩, f3⟩ : Open wr b (o + k * 5 + 3) := by rw [Nat.mul_comm]; exact hop (5 * k + 3) (by omega)
      obtain ⟨⟨v4, c4⟩, f4⟩ : Open wr b (o + k * 5 + 4) := by rw [Nat.mul_comm]; exact hop (5 * k + 4) (by omega)
      clear R hm hop hon
      go_wp2
      go_roundw
      case rel => exact ⟨k + 1, by omega, by go_num, by go_num, (unhide HR).1, (unhide HR).2.1, (unhide HR).2.2⟩
      case measure => simp [intOf]; omega
    · obtain rfl : k = n := by omega
      go_wp2
      go_ret
      exact ⟨rfl, hm, hop, hon⟩
set_option maxHeartbeats 1000000 in
theorem heldActS_any (b o n cap : Nat) (k0 : Int) (w : World) (hn : n ≤ 1099511627776) (h0 : 0 ≤ k0) (h1 : k0 ≤ 1099511627776) (hm : ∀ j, j < 5 * n → w.cell? ⟨b, o + j, none⟩ = some (iv (k0 + j))) :
    Calls Try.prog 10 #[.slice (some ⟨b, o, none⟩) n cap, .int .i64 k0] w fun e w' =>
      e = .returned (.int .i64 (k0 + 5 * n)) ∧ w' = w := by
  go_enter Try.func10, Try.ntmps10
  go_wp2
  go_loop [1, 5] (fun kk i => ∃ k : Nat, k ≤ n ∧ i = .int .i64 k ∧ kk = .int .i64 (k0 + 5 * k)) (fun _ i => n - (intOf i).toNat)
  case atStart => exact ⟨0, Nat.zero_le _, rfl, by simp⟩
  case round =>
    obtain ⟨k, hk, rfl, rfl⟩ := hrel
    by_cases hlt : k < n
    · have c0 : w.cell? ⟨b, o + k * 5, none⟩ = some (iv (k0 + 5 * k)) := by rw [Nat.mul_comm, hm (5 * k) (by omega)]; congr 2
      have c1 : w.cell? ⟨b, o + k * 5 + 1, none⟩ = some (iv (k0 + 5 * k + 1)) := by rw [Nat.mul_comm, Nat.add_assoc, hm (5 * k + 1) (by omega)]; congr 2; omega
      have c2 : w.cell? ⟨b, o + k * 5 + 2, none⟩ = some (iv (k0 + 5 * k + 1 + 1)) := by rw [Nat.mul_comm, Nat.add_assoc, hm (5 * k + 2) (by omega)]; congr 2; omega
      have c3 : w.cell? ⟨b, o + k * 5 + 3, none⟩ = some (iv (k0 + 5 * k + 1 + 1 + 1)) := by rw [Nat.mul_comm, Nat.add_assoc, hm (5 * k + 3) (by omega)]; congr 2; omega
      have c4 : w.cell? ⟨b, o + k * 5 + 4, none⟩ = some (iv (k0 + 5 * k + 1 + 1 + 1 + 1)) := by rw [Nat.mul_comm, Nat.add_assoc, hm (5 * k + 4) (by omega)]; congr 2; omega
      go_wp2
      go_round
      case rel => exact ⟨k + 1, by omega, by go_num, by go_num⟩
      case measure => simp [intOf]; omega
    · obtain rfl : k = n := by omega
      go_wp2
      go_ret
      exact ⟨rfl, rfl⟩
end Go.Proofs.Ytkabcfhemljnbab
