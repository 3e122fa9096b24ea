import Derived.Test.YtbcmjcomdjdjaaaGreatBase
namespace Go.Proofs.YtbcmjcomdjdjaaaGreat
open Go.RowKit
attribute [local go_sem ↓] Go.wp_at_zero Go.wp_at_succ

/-! The laws' copies. -/
theorem toWord_any (x : Wd) (w : World) : Calls Tryz.prog 47 #[x.v] w fun e w' => e = .returned x.v ∧ ∃ a b c, w' = ((w.alloc a).alloc b).alloc c := by
  go_enter Tryz.func47, Tryz.ntmps47
  go_wp2
  exact bodyPost_ret (v := x.v) (by simp [results, Tryz.results47, go_sem]) rfl ⟨rfl, _, _, _, rfl⟩

theorem made_open (w : World) (z : Array Value) (m : Nat) (t : TypeId) (j : Nat) (hj : j < m) : Open (w.alloc (.cells (madeCells z m) t)) w.heap.size j := by
  have e : (w.alloc (.cells (madeCells z m) t)).heap[w.heap.size]? = some (.cells (madeCells z m) t) := by show (w.heap.push _)[w.heap.size]? = _; simp
  have hs := size_madeCells z m
  refine ⟨⟨(madeCells z m)[j]'(by omega), ?_⟩, ?_⟩
  · unfold World.cell?
    rw [e]
    simp [hs, hj]
  · unfold World.frozen?
    rw [e]
    simp

theorem put_in {w1 : World} {g o : Nat} {vs : List Value} (ho : ∀ j, j < vs.length → Open w1 g (o + j)) (j : Nat) (hj : j < vs.length) : (w1.setCells g o vs).cell? ⟨g, o + j, none⟩ = some vs[j] := by
  refine World.cell?_setCells_in g vs o w1 (fun j hj => ?_) j hj
  obtain ⟨⟨v, hv⟩, _⟩ := ho j hj
  rw [hv]; rfl
theorem put_out {w1 : World} {g o : Nat} {vs : List Value} (b' o' : Nat) (h : b' ≠ g ∨ o' < o ∨ o + vs.length ≤ o') : (w1.setCells g o vs).cell? ⟨b', o', none⟩ = w1.cell? ⟨b', o', none⟩ :=
  World.cell?_setCells_out g vs o w1 ⟨b', o', none⟩ (fun e _ => by simp at e; simp; omega)
theorem put_open {g : Nat} : ∀ {vs : List Value} {w1 : World} {o b' o' : Nat}, Open w1 b' o' → Open (w1.setCells g o vs) b' o'
  | [], _, _, _, _, h => h
  | _ :: r, _, _, _, _, h => put_open (vs := r) (h.set _ _)
theorem put_only {S : Nat → Prop} {g : Nat} (hg : S g) : ∀ {vs : List Value} {a w1 : World} {o : Nat}, Only S a w1 → Only S a (w1.setCells g o vs)
  | [], _, _, _, h => h
  | _ :: r, _, _, _, h => put_only hg (vs := r) (h.setCell hg _)

theorem SlOf.mono2 {α : Type} {p q : Nat → Nat → α → Prop} {sz : Nat} {v : Value} {xs : List α} (h : SlOf p sz v xs) (hpq : ∀ b o n c, v = .slice (some ⟨b, o, none⟩) n c → ∀ o' x, p b o' x → q b o' x) : SlOf q sz v xs := by
  obtain ⟨ad, cap, hv, hl, hx⟩ := h
  exact ⟨ad, cap, hv, hl, fun i hi => by obtain ⟨b, o, ha, hp⟩ := hx i hi; exact ⟨b, o, ha, hpq b o _ _ (by rw [hv, ha]) _ _ hp⟩⟩
/-- the slice lies in a block from B on, and is no longer than its capacity -/
def From (B : Nat) (v : Value) : Prop := ∀ b o n c, v = .slice (some ⟨b, o, none⟩) n c → B ≤ b ∧ n ≤ c
theorem From.mono {B C : Nat} {v : Value} (h : From B v) (hc : C ≤ B) : From C v := fun b o n c e => ⟨Nat.le_trans hc (h b o n c e).1, (h b o n c e).2⟩
/-- no cell of the slice's block is frozen -/
def Nfz (w : World) (v : Value) : Prop := ∀ b o n c, v = .slice (some ⟨b, o, none⟩) n c → b < w.heap.size ∧ ∀ j, w.frozen? ⟨b, j, none⟩ = false
/-- in a block from B on, of which no cell is frozen -/
def Fn0 (B : Nat) (w : World) (v : Value) : Prop := From B v ∧ Nfz w v
theorem Fn0.mono {B C : Nat} {w : World} {v : Value} (h : Fn0 B w v) (hc : C ≤ B) : Fn0 C w v := ⟨h.1.mono hc, h.2⟩
theorem Fn0.ext {B : Nat} {w w' : World} {v : Value} (h : Fn0 B w v) (e : Ext w w') : Fn0 B w' v :=
  ⟨h.1, fun b o n c hv => ⟨Nat.lt_of_lt_of_le (h.2 b o n c hv).1 e.size, fun j => by rw [(bcell e).2 b j (h.2 b o n c hv).1]; exact (h.2 b o n c hv).2 j⟩⟩
theorem Fn0.only {S : Nat → Prop} {B : Nat} {w w' : World} {v : Value} (h : Fn0 B w v) (ho : Only S w w') (hS : ∀ q, S q → q < B) : Fn0 B w' v :=
  ⟨h.1, fun b o n c hv => ⟨Nat.lt_of_lt_of_le (h.2 b o n c hv).1 ho.size, fun j => by rw [ho.frozen (h.2 b o n c hv).1 (fun s => by have := hS b s; have := (h.1 b o n c hv).1; omega)]; exact (h.2 b o n c hv).2 j⟩⟩
/-- a new block -/
def Nf1 (B : Nat) (w : World) : Prop := B < w.heap.size ∧ ∀ j, w.frozen? ⟨B, j, none⟩ = false
theorem Nf1.ext {B : Nat} {w w' : World} (h : Nf1 B w) (e : Ext w w') : Nf1 B w' := ⟨Nat.lt_of_lt_of_le h.1 e.size, fun j => by rw [(bcell e).2 B j h.1]; exact h.2 j⟩
theorem Nf1.set {B : Nat} {w : World} (h : Nf1 B w) (p : Addr) (u : Value) : Nf1 B (w.setCell p u) := ⟨by have := h.1; simpa [World.setCell] using this, fun j => by rw [World.frozen?_setCell]; exact h.2 j⟩
theorem Nf1.put {B g : Nat} : ∀ {vs : List Value} {w : World} {o : Nat}, Nf1 B w → Nf1 B (w.setCells g o vs)
  | [], _, _, h => h
  | _ :: r, _, _, h => Nf1.put (vs := r) (h.set _ _)
theorem Nf1.made (w : World) (z : Array Value) (m : Nat) (t : TypeId) : Nf1 w.heap.size (w.alloc (.cells (madeCells z m) t)) := by
  refine ⟨by simp, fun j => ?_⟩
  have e : (w.alloc (.cells (madeCells z m) t)).heap[w.heap.size]? = some (.cells (madeCells z m) t) := by show (w.heap.push _)[w.heap.size]? = _; simp
  unfold World.frozen?
  rw [e]
  simp
theorem Nf1.fn {B n : Nat} {w : World} (h : Nf1 B w) : Fn0 B w (.slice (some ⟨B, 0, none⟩) n n) := ⟨fun b o n c e => by simp at e; omega, fun b o n c e => by simp at e; obtain ⟨⟨e1, _⟩, _⟩ := e; subst e1; exact h⟩
theorem slP_only {S : Nat → Prop} {w w' : World} (h : Only S w w') {v : Value} {xs : List Pr} (hv : ∀ b o n c, v = .slice (some ⟨b, o, none⟩) n c → ¬ S b) (hx : SlP w v xs) : SlP w' v xs :=
  SlOf.mono2 hx fun b o n c e _ _ hp => ⟨h.keep (hv b o n c e) hp.1, h.keep (hv b o n c e) hp.2.1, h.keep (hv b o n c e) hp.2.2.1, h.keep (hv b o n c e) hp.2.2.2.1, h.keep (hv b o n c e) hp.2.2.2.2.1, h.keep (hv b o n c e) hp.2.2.2.2.2⟩

theorem infoWords : (Tryz.prog.info? 85).map (fun i => (i.zero, i.size, i.bytes)) = some (some (.agg #[iv 0, iv 0, iv 0]), 3, 24) := by kernel_rfl
theorem mkWords (n : Nat) (hn : n ≤ 1048576) (w : World) : ∃ z, (Instr.makeSlice 29 (.int .i64 n) (.int .i64 n)).run Tryz.prog w = .ok (.slice (some ⟨w.heap.size, 0, none⟩) n n) (w.alloc (.cells (madeCells z (n * 3)) 85)) := by
  obtain ⟨i0, hi, hz0, hz1, hz2⟩ := info_parts infoWords
  have h := run_make (P := Tryz.prog) w 29 85 i0 _ Tryz.underlying29 hi hz0 .i64 .i64 n n (by omega) (Int.le_refl _) (by rw [hz2]; omega) (by omega)
  rw [hz1] at h
  simp only [Int.toNat_natCast] at h
  exact ⟨_, h⟩

theorem infoPairs : (Tryz.prog.info? 106).map (fun i => (i.zero, i.size, i.bytes)) = some (some (.agg #[iv 0, iv 0, iv 0, iv 0, iv 0, iv 0]), 6, 48) := by kernel_rfl
theorem mkPairs (n : Nat) (hn : n ≤ 1048576) (w : World) : ∃ z, (Instr.makeSlice 88 (.int .i64 n) (.int .i64 n)).run Tryz.prog w = .ok (.slice (some ⟨w.heap.size, 0, none⟩) n n) (w.alloc (.cells (madeCells z (n * 6)) 106)) := by
  obtain ⟨i0, hi, hz0, hz1, hz2⟩ := info_parts infoPairs
  have h := run_make (P := Tryz.prog) w 88 106 i0 _ Tryz.underlying88 hi hz0 .i64 .i64 n n (by omega) (Int.le_refl _) (by rw [hz2]; omega) (by omega)
  rw [hz1] at h
  simp only [Int.toNat_natCast] at h
  exact ⟨_, h⟩

theorem infoInts : (Tryz.prog.info? 3).map (fun i => (i.zero, i.size, i.bytes)) = some (some (iv 0), 1, 8) := by kernel_rfl
theorem mkInts (n : Nat) (hn : n ≤ 1048576) (w : World) : ∃ z, (Instr.makeSlice 24 (.int .i64 n) (.int .i64 n)).run Tryz.prog w = .ok (.slice (some ⟨w.heap.size, 0, none⟩) n n) (w.alloc (.cells (madeCells z (n * 1)) 3)) := by
  obtain ⟨i0, hi, hz0, hz1, hz2⟩ := info_parts infoInts
  have h := run_make (P := Tryz.prog) w 24 3 i0 _ Tryz.underlying24 hi hz0 .i64 .i64 n n (by omega) (Int.le_refl _) (by rw [hz2]; omega) (by omega)
  rw [hz1] at h
  simp only [Int.toNat_natCast] at h
  exact ⟨_, h⟩

theorem infoCells : (Tryz.prog.info? 90).map (fun i => (i.zero, i.size, i.bytes)) = some (some (.agg #[iv 0, iv 0, iv 0, iv 0, iv 0, iv 0, iv 0, .slice none 0 0]), 8, 80) := by kernel_rfl
theorem mkCells (n : Nat) (hn : n ≤ 1048576) (w : World) : ∃ z, (Instr.makeSlice 30 (.int .i64 n) (.int .i64 n)).run Tryz.prog w = .ok (.slice (some ⟨w.heap.size, 0, none⟩) n n) (w.alloc (.cells (madeCells z (n * 8)) 90)) := by
  obtain ⟨i0, hi, hz0, hz1, hz2⟩ := info_parts infoCells
  have h := run_make (P := Tryz.prog) w 30 90 i0 _ Tryz.underlying30 hi hz0 .i64 .i64 n n (by omega) (Int.le_refl _) (by rw [hz2]; omega) (by omega)
  rw [hz1] at h
  simp only [Int.toNat_natCast] at h
  exact ⟨_, h⟩

set_option maxHeartbeats 1000000 in
theorem toPair_any (x : Pr) (w : World) : Calls Tryz.prog 127 #[x.v] w fun e w' => e = .returned x.v ∧ Ext w w' := by
  go_enter Tryz.func127, Tryz.ntmps127
  go_wp2_with fail
  refine (toWord_any x.key _).mono ?_
  rintro e w1 ⟨rfl, a1, b1, c1, rfl⟩
  go_wp2_with fail
  refine (toWord_any x.val _).mono ?_
  rintro e w1 ⟨rfl, a2, b2, c2, rfl⟩
  go_wp2_with fail
  exact bodyPost_ret (v := x.v) (by simp [results, Tryz.results127, go_sem]) rfl ⟨rfl, by repeat (first | exact Ext.refl _ | refine Ext.alloc ?_ _)⟩

theorem words_step {w wr w1 : World} {xs : List Wd} {k : Nat} (hlt : k < xs.length) (hm : ∀ j (hj : j < xs.length), j < k → WdAt wr w.heap.size (0 + j * 3) xs[j]) (ho : ∀ j, j < xs.length * 3 → Open wr w.heap.size j) (hbl : Ext w wr) (hq : Ext wr w1) (hnf : Nf1 w.heap.size wr) :
    let W := w1.setCells w.heap.size (k * 3) (let x := xs[k]; [iv x.k, iv x.n, iv x.a])
    (∀ j (hj : j < xs.length), j < k + 1 → WdAt W w.heap.size (0 + j * 3) xs[j]) ∧ (∀ j, j < xs.length * 3 → Open W w.heap.size j) ∧ Ext w W ∧ Nf1 w.heap.size W := by
  intro W
  have ho1 : ∀ j, j < [iv xs[k].k, iv xs[k].n, iv xs[k].a].length → Open w1 w.heap.size (k * 3 + j) := fun j hj => (ho (k * 3 + j) (by simp at hj; omega)).ext hq
  refine ⟨fun j hj hjk => ?_, fun j hj => put_open ((ho j hj).ext hq), (put_only (S := fun q => q = w.heap.size) rfl (Only.refl _ w1)).ext (hbl.trans hq) (by intro k hk; omega), (hnf.ext hq).put⟩
  by_cases e : j = k
  · subst e
    refine ⟨?_, ?_, ?_⟩
    · have := put_in ho1 0 (by simp)
      simpa using this
    · have := put_in ho1 1 (by simp)
      simpa using this
    · have := put_in ho1 2 (by simp)
      simpa using this
  · have hx := hm j hj (by omega)
    have hx := WdAt.ext hq hx
    refine ⟨?_, ?_, ?_⟩
    · rw [put_out _ _ (Or.inr (by simp; omega))]; exact hx.1
    · rw [put_out _ _ (Or.inr (by simp; omega))]; exact hx.2.1
    · rw [put_out _ _ (Or.inr (by simp; omega))]; exact hx.2.2

theorem pairs_step {w wr w1 : World} {xs : List Pr} {k : Nat} (hlt : k < xs.length) (hm : ∀ j (hj : j < xs.length), j < k → PrAt wr w.heap.size (0 + j * 6) xs[j]) (ho : ∀ j, j < xs.length * 6 → Open wr w.heap.size j) (hbl : Ext w wr) (hq : Ext wr w1) (hnf : Nf1 w.heap.size wr) :
    let W := w1.setCells w.heap.size (k * 6) (let x := xs[k]; [iv x.key.k, iv x.key.n, iv x.key.a, iv x.val.k, iv x.val.n, iv x.val.a])
    (∀ j (hj : j < xs.length), j < k + 1 → PrAt W w.heap.size (0 + j * 6) xs[j]) ∧ (∀ j, j < xs.length * 6 → Open W w.heap.size j) ∧ Ext w W ∧ Nf1 w.heap.size W := by
  intro W
  have ho1 : ∀ j, j < [iv xs[k].key.k, iv xs[k].key.n, iv xs[k].key.a, iv xs[k].val.k, iv xs[k].val.n, iv xs[k].val.a].length → Open w1 w.heap.size (k * 6 + j) := fun j hj => (ho (k * 6 + j) (by simp at hj; omega)).ext hq
  refine ⟨fun j hj hjk => ?_, fun j hj => put_open ((ho j hj).ext hq), (put_only (S := fun q => q = w.heap.size) rfl (Only.refl _ w1)).ext (hbl.trans hq) (by intro k hk; omega), (hnf.ext hq).put⟩
  by_cases e : j = k
  · subst e
    refine ⟨?_, ?_, ?_, ?_, ?_, ?_⟩
    · have := put_in ho1 0 (by simp)
      simpa using this
    · have := put_in ho1 1 (by simp)
      simpa using this
    · have := put_in ho1 2 (by simp)
      simpa using this
    · have := put_in ho1 3 (by simp)
      simpa using this
    · have := put_in ho1 4 (by simp)
      simpa using this
    · have := put_in ho1 5 (by simp)
      simpa using this
  · have hx := hm j hj (by omega)
    have hx := PrAt.ext hq hx
    refine ⟨?_, ?_, ?_, ?_, ?_, ?_⟩
    · rw [put_out _ _ (Or.inr (by simp; omega))]; exact hx.1
    · rw [put_out _ _ (Or.inr (by simp; omega))]; exact hx.2.1
    · rw [put_out _ _ (Or.inr (by simp; omega))]; exact hx.2.2.1
    · rw [put_out _ _ (Or.inr (by simp; omega))]; exact hx.2.2.2.1
    · rw [put_out _ _ (Or.inr (by simp; omega))]; exact hx.2.2.2.2.1
    · rw [put_out _ _ (Or.inr (by simp; omega))]; exact hx.2.2.2.2.2

set_option maxHeartbeats 1000000 in
theorem toWordS_any (xs : List Wd) (v : Value) (w : World) (h : SlW w v xs) (hn : xs.length ≤ 1048576) :
    Calls Tryz.prog 21 #[v] w fun e w' => ∃ v', e = .returned v' ∧ SlW w' v' xs ∧ Fn0 w.heap.size w' v' ∧ Ext w w' := by
  obtain ⟨ad, cap, rfl, hl, hx⟩ := h
  obtain ⟨z, hmk⟩ := mkWords xs.length hn w
  go_enter Tryz.func21, Tryz.ntmps21
  go_wp2_with fail
  go_loopw [4] (fun i wr => ∃ k : Nat, k ≤ xs.length ∧ i = .int .i64 k ∧ (∀ j (hj : j < xs.length), j < k → WdAt wr w.heap.size (0 + j * 3) xs[j]) ∧ (∀ j, j < xs.length * 3 → Open wr w.heap.size j) ∧ Ext w wr ∧ Hid (Nf1 w.heap.size wr)) (fun i _ => xs.length - (intOf i).toNat)
  case atStart => exact ⟨0, Nat.zero_le _, rfl, fun j hj h => by omega, fun j hj => made_open _ _ _ _ _ hj, (Ext.refl w).alloc _, Nf1.made _ _ _ _⟩
  case round =>
    obtain ⟨k, hk, rfl, hm, hop, hbl, hnf⟩ := hrel
    by_cases hlt : k < xs.length
    · obtain ⟨b, o, rfl, p0, p1, p2⟩ := hx k hlt
      have e0 := hbl.keep p0
      have e1 := hbl.keep p1
      have e2 := hbl.keep p2
      clear p0 p1 p2
      have hk0 : (0:Int) ≤ (k:Int) := by omega
      have hk1 : (k:Int) < (xs.length:Int) := by omega
      go_wp2_with fail
      refine (toWord_any xs[k] _).mono ?_
      rintro e w1 ⟨rfl, a1, b1, c1, hw1⟩
      have hq1 : Ext wr w1 := by rw [hw1]; exact (((Ext.refl wr).alloc _).alloc _).alloc _
      clear hw1
      obtain ⟨⟨v0, c0⟩, f0⟩ := (hop (k * 3) (by omega)).ext hq1
      obtain ⟨⟨v1, c1⟩, f1⟩ := (hop (k * 3 + 1) (by omega)).ext hq1
      obtain ⟨⟨v2, c2⟩, f2⟩ := (hop (k * 3 + 2) (by omega)).ext hq1
      have R := hide (words_step hlt hm hop hbl hq1 (unhide hnf))
      clear hm hop
      go_wp2_with fail
      go_roundw
      case rel => exact ⟨k + 1, by omega, by go_num, (unhide R).1, (unhide R).2.1, (unhide R).2.2.1, (unhide R).2.2.2⟩
      case measure => simp [intOf]; omega
    · have hk2 : k = xs.length := by omega
      have HM : SlOf (WdAt wr) 3 (.slice (some ⟨w.heap.size, 0, none⟩) xs.length xs.length) xs := ⟨_, _, rfl, hl, fun i hi => ⟨_, _, rfl, hm i hi (by omega)⟩⟩
      have HM := hide HM
      clear hm hop hk2
      go_wp2_with fail
      go_ret
      exact ⟨_, rfl, unhide HM, (unhide hnf).fn, hbl⟩

set_option maxHeartbeats 1000000 in
theorem toPairS_any (xs : List Pr) (v : Value) (w : World) (h : SlP w v xs) (hn : xs.length ≤ 1048576) :
    Calls Tryz.prog 94 #[v] w fun e w' => ∃ v', e = .returned v' ∧ SlP w' v' xs ∧ Fn0 w.heap.size w' v' ∧ Ext w w' := by
  obtain ⟨ad, cap, rfl, hl, hx⟩ := h
  obtain ⟨z, hmk⟩ := mkPairs xs.length hn w
  go_enter Tryz.func94, Tryz.ntmps94
  go_wp2_with fail
  go_loopw [4] (fun i wr => ∃ k : Nat, k ≤ xs.length ∧ i = .int .i64 k ∧ (∀ j (hj : j < xs.length), j < k → PrAt wr w.heap.size (0 + j * 6) xs[j]) ∧ (∀ j, j < xs.length * 6 → Open wr w.heap.size j) ∧ Ext w wr ∧ Hid (Nf1 w.heap.size wr)) (fun i _ => xs.length - (intOf i).toNat)
  case atStart => exact ⟨0, Nat.zero_le _, rfl, fun j hj h => by omega, fun j hj => made_open _ _ _ _ _ hj, (Ext.refl w).alloc _, Nf1.made _ _ _ _⟩
  case round =>
    obtain ⟨k, hk, rfl, hm, hop, hbl, hnf⟩ := hrel
    by_cases hlt : k < xs.length
    · obtain ⟨b, o, rfl, p0, p1, p2, p3, p4, p5⟩ := hx k hlt
      have e0 := hbl.keep p0
      have e1 := hbl.keep p1
      have e2 := hbl.keep p2
      have e3 := hbl.keep p3
      have e4 := hbl.keep p4
      have e5 := hbl.keep p5
      clear p0 p1 p2 p3 p4 p5
      have hk0 : (0:Int) ≤ (k:Int) := by omega
      have hk1 : (k:Int) < (xs.length:Int) := by omega
      go_wp2_with fail
      refine (toPair_any xs[k] _).mono ?_
      rintro e w1 ⟨rfl, hq1⟩
      obtain ⟨⟨v0, c0⟩, f0⟩ := (hop (k * 6) (by omega)).ext hq1
      obtain ⟨⟨v1, c1⟩, f1⟩ := (hop (k * 6 + 1) (by omega)).ext hq1
      obtain ⟨⟨v2, c2⟩, f2⟩ := (hop (k * 6 + 2) (by omega)).ext hq1
      obtain ⟨⟨v3, c3⟩, f3⟩ := (hop (k * 6 + 3) (by omega)).ext hq1
      obtain ⟨⟨v4, c4⟩, f4⟩ := (hop (k * 6 + 4) (by omega)).ext hq1
      obtain ⟨⟨v5, c5⟩, f5⟩ := (hop (k * 6 + 5) (by omega)).ext hq1
      have R := hide (pairs_step hlt hm hop hbl hq1 (unhide hnf))
      clear hm hop
      go_wp2_with fail
      go_roundw
      case rel => exact ⟨k + 1, by omega, by go_num, (unhide R).1, (unhide R).2.1, (unhide R).2.2.1, (unhide R).2.2.2⟩
      case measure => simp [intOf]; omega
    · have hk2 : k = xs.length := by omega
      have HM : SlOf (PrAt wr) 6 (.slice (some ⟨w.heap.size, 0, none⟩) xs.length xs.length) xs := ⟨_, _, rfl, hl, fun i hi => ⟨_, _, rfl, hm i hi (by omega)⟩⟩
      have HM := hide HM
      clear hm hop hk2
      go_wp2_with fail
      go_ret
      exact ⟨_, rfl, unhide HM, (unhide hnf).fn, hbl⟩

end Go.Proofs.YtbcmjcomdjdjaaaGreat
