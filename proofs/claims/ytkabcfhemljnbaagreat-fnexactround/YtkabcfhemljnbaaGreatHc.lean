import Derived.Test.YtkabcfhemljnbaaGreatTo3
namespace Go.Proofs.YtkabcfhemljnbaaGreat
open Go.RowKit
attribute [local go_sem ↓] Go.wp_at_zero Go.wp_at_succ

/-- written to, cell by cell, in the blocks of S -/
structure Wr (S : Nat → Prop) (w w' : World) : Prop where
  o : Only S w w'
  op : ∀ b k, Open w b k → Open w' b k
theorem Wr.refl (S : Nat → Prop) (w : World) : Wr S w w := ⟨Only.refl _ _, fun _ _ h => h⟩
theorem Wr.trans {S : Nat → Prop} {a b c : World} (h : Wr S a b) (k : Wr S b c) : Wr S a c := ⟨h.o.trans k.o, fun b' i q => k.op b' i (h.op b' i q)⟩
theorem Wr.set {S : Nat → Prop} {a w : World} (h : Wr S a w) {p : Addr} (hp : S p.block) (u : Value) : Wr S a (w.setCell p u) := ⟨h.o.setCell hp u, fun b k q => (h.op b k q).set _ _⟩
theorem Wr.mono {S T : Nat → Prop} {w w' : World} (h : Wr S w w') (hST : ∀ k, S k → T k) : Wr T w w' := ⟨h.o.mono hST, h.op⟩

/-- n elements of sz cells each that may be written, in a block of S -/
def OpSl (S : Nat → Prop) (w : World) (sz : Nat) (ad : Option Addr) (n : Nat) : Prop := 0 < n → ∃ b o, ad = some ⟨b, o, none⟩ ∧ S b ∧ ∀ j, j < sz * n → Open w b (o + j)
theorem OpSl.wr {S T : Nat → Prop} {w w' : World} {sz n : Nat} {ad : Option Addr} (h : OpSl S w sz ad n) (k : Wr T w w') : OpSl S w' sz ad n := fun h0 => by
  obtain ⟨b, o, e, s, q⟩ := h h0
  exact ⟨b, o, e, s, fun j hj => k.op _ _ (q j hj)⟩
theorem OpSl.ext {S : Nat → Prop} {w w' : World} {sz n : Nat} {ad : Option Addr} (h : OpSl S w sz ad n) (k : Ext w w') : OpSl S w' sz ad n := fun h0 => by
  obtain ⟨b, o, e, s, q⟩ := h h0
  exact ⟨b, o, e, s, fun j hj => (q j hj).ext k⟩
/-- cells that may be written, their pairs too -/
def OpC (S : Nat → Prop) (w : World) (ad : Option Addr) (xs : List Cl) : Prop := 0 < xs.length → ∃ b o, ad = some ⟨b, o, none⟩ ∧ S b ∧ ∀ i (hi : i < xs.length), (∀ j, j < 7 → Open w b (o + i * 8 + j)) ∧ ∃ ap kp, w.cell? ⟨b, o + i * 8 + 7, none⟩ = some (.slice ap xs[i].prs.length kp) ∧ OpSl (fun q => S q ∧ q ≠ b) w 6 ap xs[i].prs.length
theorem OpC.ext {S : Nat → Prop} {w w' : World} {ad : Option Addr} {xs : List Cl} (h : OpC S w ad xs) (k : Ext w w') : OpC S w' ad xs := fun h0 => by
  obtain ⟨b, o, e, s, q⟩ := h h0
  refine ⟨b, o, e, s, fun i hi => ⟨fun j hj => ((q i hi).1 j hj).ext k, ?_⟩⟩
  obtain ⟨ap, kp, c, d⟩ := (q i hi).2
  exact ⟨ap, kp, k.keep c, d.ext k⟩
theorem OpC.wr {S T : Nat → Prop} {w w' : World} {ad : Option Addr} {xs : List Cl} (h : OpC S w ad xs) (k : Wr T w w') (hT : ∀ b o, ad = some ⟨b, o, none⟩ → ¬ T b) : OpC S w' ad xs := fun h0 => by
  obtain ⟨b, o, e, s, q⟩ := h h0
  refine ⟨b, o, e, s, fun i hi => ⟨fun j hj => k.op _ _ ((q i hi).1 j hj), ?_⟩⟩
  obtain ⟨ap, kp, c, d⟩ := (q i hi).2
  exact ⟨ap, kp, k.o.keep (hT b o e) c, d.wr k⟩

set_option maxHeartbeats 1000000 in
theorem markWordS_wr (S : Nat → Prop) (ad : Option Addr) (n cap : Nat) (k0 : Int) (w : World) (hn : n ≤ 1048576) (h0 : 0 ≤ k0) (h1 : k0 ≤ 1125899906842624) (ho : OpSl S w 3 ad n) :
    Calls Tryz.prog 58 #[.slice ad n cap, .int .i64 k0] w fun e w' => e = .returned (.int .i64 (k0 + 3 * n)) ∧ Wr S w w' := by
  have H0 := hide ho
  clear ho
  go_enter Tryz.func58, Tryz.ntmps58
  go_wp2_with fail
  go_loopw [1, 5] (fun kk i wr => ∃ k : Nat, k ≤ n ∧ i = .int .i64 k ∧ kk = .int .i64 (k0 + 3 * k) ∧ Hid (Wr S w wr)) (fun _ i _ => n - (intOf i).toNat)
  case atStart => exact ⟨0, Nat.zero_le _, rfl, by simp, Wr.refl _ _⟩
  case round =>
    obtain ⟨k, hk, rfl, rfl, hm⟩ := hrel
    by_cases hlt : k < n
    · obtain ⟨b, o, rfl, hs, hop⟩ := unhide H0 (by omega)
      have op : ∀ i, i < 3 → Open wr b (o + k * 3 + i) := fun i hi => by
        have := (unhide hm).op _ _ (hop (3 * k + i) (by omega))
        have e : o + (3 * k + i) = o + k * 3 + i := by omega
        rw [e] at this; exact this
      obtain ⟨⟨v0, c0⟩, f0⟩ : Open wr b (o + k * 3) := op 0 (by omega)
      obtain ⟨⟨v1, c1⟩, f1⟩ := op 1 (by omega)
      obtain ⟨⟨v2, c2⟩, f2⟩ := op 2 (by omega)
      have g0 : (0:Int) ≤ (k:Int) := by omega
      have g1 : (k:Int) < (n:Int) := by omega
      have R := hide (fun (x0 x1 x2 : Value) => (((unhide hm).set (p := ⟨b, o + k * 3, none⟩) hs x0).set (p := ⟨b, o + k * 3 + 1, none⟩) hs x1).set (p := ⟨b, o + k * 3 + 2, none⟩) hs x2)
      clear op hop
      go_wp2_with fail
      go_roundw
      case rel => exact ⟨k + 1, by omega, by go_num, by go_num, unhide R _ _ _⟩
      case measure => simp [intOf]; omega
    · have hk2 : k = n := by omega
      subst hk2
      go_wp2_with fail
      go_ret
      exact ⟨rfl, unhide hm⟩

set_option maxHeartbeats 1000000 in
theorem markIntS_wr (S : Nat → Prop) (ad : Option Addr) (n cap : Nat) (k0 : Int) (w : World) (hn : n ≤ 1048576) (h0 : 0 ≤ k0) (h1 : k0 ≤ 1125899906842624) (ho : OpSl S w 1 ad n) :
    Calls Tryz.prog 60 #[.slice ad n cap, .int .i64 k0] w fun e w' => e = .returned (.int .i64 (k0 + n)) ∧ Wr S w w' := by
  have H0 := hide ho
  clear ho
  go_enter Tryz.func60, Tryz.ntmps60
  go_wp2_with fail
  go_loopw [1, 5] (fun kk i wr => ∃ k : Nat, k ≤ n ∧ i = .int .i64 k ∧ kk = .int .i64 (k0 + k) ∧ Hid (Wr S w wr)) (fun _ i _ => n - (intOf i).toNat)
  case atStart => exact ⟨0, Nat.zero_le _, rfl, by simp, Wr.refl _ _⟩
  case round =>
    obtain ⟨k, hk, rfl, rfl, hm⟩ := hrel
    by_cases hlt : k < n
    · obtain ⟨b, o, rfl, hs, hop⟩ := unhide H0 (by omega)
      obtain ⟨⟨v0, c0⟩, f0⟩ : Open wr b (o + k) := (unhide hm).op _ _ (hop k (by omega))
      have g0 : (0:Int) ≤ (k:Int) := by omega
      have g1 : (k:Int) < (n:Int) := by omega
      have R := hide (fun (x0 : Value) => ((unhide hm).set (p := ⟨b, o + k, none⟩) hs x0))
      clear hop
      go_wp2_with fail
      go_roundw
      case rel => exact ⟨k + 1, by omega, by go_num, by go_num, unhide R _⟩
      case measure => simp [intOf]; omega
    · have hk2 : k = n := by omega
      subst hk2
      go_wp2_with fail
      go_ret
      exact ⟨rfl, unhide hm⟩

set_option maxHeartbeats 1000000 in
theorem markPairS_wr (S : Nat → Prop) (ad : Option Addr) (n cap : Nat) (k0 : Int) (w : World) (hn : n ≤ 1048576) (h0 : 0 ≤ k0) (h1 : k0 ≤ 1125899906842624) (ho : OpSl S w 6 ad n) :
    Calls Tryz.prog 109 #[.slice ad n cap, .int .i64 k0] w fun e w' => e = .returned (.int .i64 (k0 + 6 * n)) ∧ Wr S w w' := by
  have H0 := hide ho
  clear ho
  go_enter Tryz.func109, Tryz.ntmps109
  go_wp2_with fail
  go_loopw [1, 5] (fun kk i wr => ∃ k : Nat, k ≤ n ∧ i = .int .i64 k ∧ kk = .int .i64 (k0 + 6 * k) ∧ Hid (Wr S w wr)) (fun _ i _ => n - (intOf i).toNat)
  case atStart => exact ⟨0, Nat.zero_le _, rfl, by simp, Wr.refl _ _⟩
  case round =>
    obtain ⟨k, hk, rfl, rfl, hm⟩ := hrel
    by_cases hlt : k < n
    · obtain ⟨b, o, rfl, hs, hop⟩ := unhide H0 (by omega)
      have op : ∀ i, i < 6 → Open wr b (o + k * 6 + i) := fun i hi => by
        have := (unhide hm).op _ _ (hop (6 * k + i) (by omega))
        have e : o + (6 * k + i) = o + k * 6 + i := by omega
        rw [e] at this; exact this
      obtain ⟨⟨v0, c0⟩, f0⟩ : Open wr b (o + k * 6) := op 0 (by omega)
      obtain ⟨⟨v1, c1⟩, f1⟩ := op 1 (by omega)
      obtain ⟨⟨v2, c2⟩, f2⟩ := op 2 (by omega)
      obtain ⟨⟨v3, c3⟩, f3⟩ := op 3 (by omega)
      obtain ⟨⟨v4, c4⟩, f4⟩ := op 4 (by omega)
      obtain ⟨⟨v5, c5⟩, f5⟩ := op 5 (by omega)
      have g0 : (0:Int) ≤ (k:Int) := by omega
      have g1 : (k:Int) < (n:Int) := by omega
      have R := hide (fun (x0 x1 x2 x3 x4 x5 : Value) => ((((((unhide hm).set (p := ⟨b, o + k * 6, none⟩) hs x0).set (p := ⟨b, o + k * 6 + 1, none⟩) hs x1).set (p := ⟨b, o + k * 6 + 2, none⟩) hs x2).set (p := ⟨b, o + k * 6 + 3, none⟩) hs x3).set (p := ⟨b, o + k * 6 + 4, none⟩) hs x4).set (p := ⟨b, o + k * 6 + 5, none⟩) hs x5)
      clear op hop
      go_wp2_with fail
      go_roundw
      case rel => exact ⟨k + 1, by omega, by go_num, by go_num, unhide R _ _ _ _ _ _⟩
      case measure => simp [intOf]; omega
    · have hk2 : k = n := by omega
      subst hk2
      go_wp2_with fail
      go_ret
      exact ⟨rfl, unhide hm⟩

theorem put8 {S : Nat → Prop} {w wr : World} {b a : Nat} (hs : S b) (h : Wr S w wr) (x0 x1 x2 x3 x4 x5 x6 : Value) :
    let W := ((((((wr.setCell ⟨b, a, none⟩ x0).setCell ⟨b, a + 1, none⟩ x1).setCell ⟨b, a + 2, none⟩ x2).setCell ⟨b, a + 3, none⟩ x3).setCell ⟨b, a + 4, none⟩ x4).setCell ⟨b, a + 5, none⟩ x5).setCell ⟨b, a + 6, none⟩ x6
    Wr S w W ∧ (∀ o, (o < a ∨ a + 7 ≤ o) → W.cell? ⟨b, o, none⟩ = wr.cell? ⟨b, o, none⟩) := by
  intro W
  refine ⟨((((((h.set (p := ⟨b, a, none⟩) hs _).set (p := ⟨b, a + 1, none⟩) hs _).set (p := ⟨b, a + 2, none⟩) hs _).set (p := ⟨b, a + 3, none⟩) hs _).set (p := ⟨b, a + 4, none⟩) hs _).set (p := ⟨b, a + 5, none⟩) hs _).set (p := ⟨b, a + 6, none⟩) hs _, fun o ho => ?_⟩
  show (World.setCell _ _ _).cell? _ = _
  rw [cell_other _ (.inr (by omega)), cell_other _ (.inr (by omega)), cell_other _ (.inr (by omega)), cell_other _ (.inr (by omega)), cell_other _ (.inr (by omega)), cell_other _ (.inr (by omega)), cell_other _ (.inr (by omega))]

set_option maxRecDepth 100000 in
set_option maxHeartbeats 2000000 in
theorem markCellS_wr (S : Nat → Prop) (ad : Option Addr) (xs : List Cl) (cap : Nat) (k0 : Int) (w : World) (hn : xs.length ≤ 1048576) (hp : prsum xs ≤ 1048576) (h0 : 0 ≤ k0) (h1 : k0 ≤ 4194304) (ho : OpC S w ad xs) :
    Calls Tryz.prog 59 #[.slice ad xs.length cap, .int .i64 k0] w fun e w' => ∃ k1 : Int, Hid (e = .returned (.int .i64 k1)) ∧ 0 ≤ k1 ∧ k1 ≤ 7000000000000 ∧ Wr S w w' := by
  have H0 := hide ho
  have HP := hide (fun k (h : k < xs.length) => Nat.le_trans (prs_le xs k h) hp)
  clear ho
  go_enter Tryz.func59, Tryz.ntmps59
  go_wp2_with fail
  go_loopw [1, 5] (fun kk i wr => ∃ (k : Nat) (m : Int), k ≤ xs.length ∧ i = .int .i64 k ∧ kk = .int .i64 m ∧ 0 ≤ m ∧ m ≤ 4194304 + 6291463 * k ∧ Hid (Wr S w wr ∧ ∀ b o j, ad = some ⟨b, o, none⟩ → j < xs.length → wr.cell? ⟨b, o + j * 8 + 7, none⟩ = w.cell? ⟨b, o + j * 8 + 7, none⟩)) (fun _ i _ => xs.length - (intOf i).toNat)
  case atStart => exact ⟨0, k0, Nat.zero_le _, rfl, rfl, h0, by omega, Wr.refl _ _, fun _ _ _ _ _ => rfl⟩
  case round =>
    obtain ⟨k, m, hk, rfl, rfl, hm0, hm1, hm⟩ := hrel
    by_cases hlt : k < xs.length
    · obtain ⟨b, o, rfl, hs, hop⟩ := unhide H0 (by omega)
      have op : ∀ i, i < 7 → Open wr b (o + k * 8 + i) := fun i hi => (unhide hm).1.op _ _ ((hop k hlt).1 i hi)
      obtain ⟨⟨v0, c0⟩, f0⟩ : Open wr b (o + k * 8) := op 0 (by omega)
      obtain ⟨⟨v1, c1⟩, f1⟩ := op 1 (by omega)
      obtain ⟨⟨v2, c2⟩, f2⟩ := op 2 (by omega)
      obtain ⟨⟨v3, c3⟩, f3⟩ := op 3 (by omega)
      obtain ⟨⟨v4, c4⟩, f4⟩ := op 4 (by omega)
      obtain ⟨⟨v5, c5⟩, f5⟩ := op 5 (by omega)
      obtain ⟨⟨v6, c6⟩, f6⟩ := op 6 (by omega)
      obtain ⟨ap, kp, c7, hpo⟩ := (hop k hlt).2
      have d7 := ((unhide hm).2 b o k rfl hlt).trans c7
      have g0 : (0:Int) ≤ (k:Int) := by omega
      have g1 : (k:Int) < (xs.length:Int) := by omega
      have hpl := unhide HP k hlt
      have PO := hide hpo
      have HOP := hide hop
      have R := hide (fun (x0 x1 x2 x3 x4 x5 x6 : Value) => put8 (a := o + k * 8) hs (unhide hm).1 x0 x1 x2 x3 x4 x5 x6)
      clear op hop c7 hpo
      go_wp2_with fail
      refine (markPairS_wr (fun q => S q ∧ q ≠ b) ap xs[k].prs.length kp (m + 1 + 1 + 1 + 1 + 1 + 1 + 1) _ hpl (by omega) (by omega) ((unhide PO).wr (unhide R _ _ _ _ _ _ _).1)).mono ?_
      rintro e w2 ⟨rfl, hq⟩
      have R2 := hide (show Wr S w w2 ∧ ∀ b' o' j, (some ⟨b, o, none⟩ : Option Addr) = some ⟨b', o', none⟩ → j < xs.length → w2.cell? ⟨b', o' + j * 8 + 7, none⟩ = w.cell? ⟨b', o' + j * 8 + 7, none⟩ from by
        refine ⟨(unhide R _ _ _ _ _ _ _).1.trans (hq.mono (fun _ h => h.1)), fun b' o' j e hj => ?_⟩
        cases e
        obtain ⟨ap', kp', c', _⟩ := (unhide HOP j hj).2
        rw [c']
        refine hq.o.keep (by simp) ?_
        rw [(unhide R _ _ _ _ _ _ _).2 _ (by omega)]
        exact ((unhide hm).2 b o j rfl hj).trans c')
      clear hq R
      go_wp2_with fail
      go_roundw
      case rel => exact ⟨k + 1, _, by omega, by go_num, rfl, by omega, by omega, unhide R2⟩
      case measure => simp [intOf]; omega
    · have hk2 : k = xs.length := by omega
      go_wp2_with fail
      go_ret
      exact ⟨_, rfl, hm0, by omega, (unhide hm).1⟩

set_option maxRecDepth 100000 in
set_option maxHeartbeats 2000000 in
theorem markHeap_wr (S : Nat → Prop) (x : Hp) (ar ac ag : Option Addr) (kr kc kg : Nat) (w : World) (n1 : x.regs.length ≤ 1048576) (n2 : x.cells.length ≤ 1048576) (n3 : prsum x.cells ≤ 1048576) (n4 : x.gray.length ≤ 1048576) (hS : ∀ q, S q → q < w.heap.size) (oR : OpSl S w 3 ar x.regs.length) (oC : OpC S w ac x.cells) (oG : OpSl S w 1 ag x.gray.length) (hd : ∀ b o b' o', ar = some ⟨b, o, none⟩ → ac = some ⟨b', o', none⟩ → b ≠ b') :
    Calls Tryz.prog 18 #[x.v (.slice ar x.regs.length kr) (.slice ac x.cells.length kc) (.slice ag x.gray.length kg), .int .i64 1] w fun e w' => ∃ k1 : Int, Hid (e = .returned (.int .i64 k1)) ∧ 0 ≤ k1 ∧ ∃ w1, Ext w w1 ∧ Wr S w1 w' := by
  have x1 := (Ext.refl w).alloc (.cells #[iv x.room, iv x.used, iv x.born, .slice ar x.regs.length kr, .slice ac x.cells.length kc, iv x.phase, iv x.hand, iv x.sub, .slice ag x.gray.length kg, iv x.per, iv x.start, iv x.rounds, iv x.forced] 33)
  have hns : ¬ S w.heap.size := fun h => by have := hS _ h; omega
  have O1 := hide (show OpSl (fun q => S q ∧ ∀ b o, ac = some ⟨b, o, none⟩ → q ≠ b) (w.alloc (.cells #[iv x.room, iv x.used, iv x.born, .slice ar x.regs.length kr, .slice ac x.cells.length kc, iv x.phase, iv x.hand, iv x.sub, .slice ag x.gray.length kg, iv x.per, iv x.start, iv x.rounds, iv x.forced] 33)) 3 ar x.regs.length from fun h0 => by
    obtain ⟨b, o, e, s, q⟩ := oR.ext x1 h0
    exact ⟨b, o, e, ⟨s, fun b' o' e' => hd b o b' o' e e'⟩, q⟩)
  have O2 := hide (oC.ext x1)
  have O3 := hide (oG.ext x1)
  clear oR oC oG hd
  go_enter Tryz.func18, Tryz.ntmps18
  go_wp2_with fail
  refine (markWordS_wr _ ar x.regs.length kr 1 _ n1 (by omega) (by omega) (unhide O1)).mono ?_
  rintro e w1 ⟨rfl, q1⟩
  have d4 : w1.cell? ⟨w.heap.size, 4, none⟩ = some (.slice ac x.cells.length kc) := q1.o.keep (fun h => hns h.1) (by simp [go_sem])
  have d8 : w1.cell? ⟨w.heap.size, 8, none⟩ = some (.slice ag x.gray.length kg) := q1.o.keep (fun h => hns h.1) (by simp [go_sem])
  have P2 := hide ((unhide O2).wr q1 (fun b o e h => h.2 b o e rfl))
  have P3 := hide ((unhide O3).wr q1)
  have Q1 := hide (q1.mono (fun _ h => h.1))
  clear O1 O2 O3 q1
  go_wp2_with fail
  refine (markCellS_wr S ac x.cells kc (1 + 3 * x.regs.length) _ n2 n3 (by omega) (by omega) (unhide P2)).mono ?_
  rintro e w2 ⟨k2, rfl, h20, h21, q2⟩
  have e8 : w2.cell? ⟨w.heap.size, 8, none⟩ = some (.slice ag x.gray.length kg) := q2.o.keep hns d8
  have P4 := hide ((unhide P3).wr q2)
  have Q2 := hide ((unhide Q1).trans q2)
  clear P2 P3 q2 d4 d8 Q1
  go_wp2_with fail
  refine (markIntS_wr S ag x.gray.length kg k2 _ n4 h20 (by omega) (unhide P4)).mono ?_
  rintro e w3 ⟨rfl, q3⟩
  have Q3 := hide ((unhide Q2).trans q3)
  clear q3 P4 Q2 e8
  go_wp2_with fail
  go_ret
  exact ⟨_, rfl, by omega, _, x1, unhide Q3⟩

theorem opW {S : Nat → Prop} {B cap : Nat} {w : World} {ad : Option Addr} {xs : List Wd} (h : SlWF B w (.slice ad xs.length cap) xs) (hS : ∀ b, B ≤ b → b < w.heap.size → S b) : OpSl S w 3 ad xs.length := fun h0 => by
  obtain ⟨ad', cap', e, _, hx⟩ := h.1
  simp only [Value.slice.injEq, true_and] at e
  obtain ⟨rfl, rfl⟩ := e
  obtain ⟨b, o, rfl, _⟩ := hx 0 h0
  refine ⟨b, o, rfl, hS b (h.2.1 b o _ _ rfl).1 (h.2.2 b o _ _ rfl).1, fun j hj => ⟨?_, (h.2.2 b o _ _ rfl).2 _⟩⟩
  obtain ⟨b2, o2, e2, p0, p1, p2⟩ := hx (j / 3) (by omega)
  cases e2
  have : j % 3 = 0 ∨ j % 3 = 1 ∨ j % 3 = 2 := by omega
  rcases this with q | q | q
  · exact ⟨_, by rw [show o + j = o + j / 3 * 3 by omega]; exact p0⟩
  · exact ⟨_, by rw [show o + j = o + j / 3 * 3 + 1 by omega]; exact p1⟩
  · exact ⟨_, by rw [show o + j = o + j / 3 * 3 + 2 by omega]; exact p2⟩
theorem opI {S : Nat → Prop} {B cap : Nat} {w : World} {ad : Option Addr} {xs : List Int} (h : SlI w (.slice ad xs.length cap) xs) (hf : Fn0 B w (.slice ad xs.length cap)) (hS : ∀ b, B ≤ b → b < w.heap.size → S b) : OpSl S w 1 ad xs.length := fun h0 => by
  obtain ⟨ad', cap', e, _, hx⟩ := h
  simp only [Value.slice.injEq, true_and] at e
  obtain ⟨rfl, rfl⟩ := e
  obtain ⟨b, o, rfl, _⟩ := hx 0 h0
  refine ⟨b, o, rfl, hS b (hf.1 b o _ _ rfl).1 (hf.2 b o _ _ rfl).1, fun j hj => ⟨?_, (hf.2 b o _ _ rfl).2 _⟩⟩
  obtain ⟨b2, o2, e2, p0⟩ := hx j (by omega)
  cases e2
  have p0 : w.cell? ⟨b, o + j * 1, none⟩ = some (iv xs[j]) := p0
  exact ⟨_, by rw [Nat.mul_one] at p0; exact p0⟩
theorem opP {S : Nat → Prop} {B b0 cap : Nat} {w : World} {ad : Option Addr} {xs : List Pr} (h : SlP w (.slice ad xs.length cap) xs) (hf : Fn2 B w b0 (.slice ad xs.length cap)) (hS : ∀ b, B ≤ b → b < w.heap.size → S b) : OpSl (fun q => S q ∧ q ≠ b0) w 6 ad xs.length := fun h0 => by
  obtain ⟨ad', cap', e, _, hx⟩ := h
  simp only [Value.slice.injEq, true_and] at e
  obtain ⟨rfl, rfl⟩ := e
  obtain ⟨b, o, rfl, _⟩ := hx 0 h0
  refine ⟨b, o, rfl, ⟨hS b (hf.1.1 b o _ _ rfl).1 (hf.1.2 b o _ _ rfl).1, hf.2 b o _ _ rfl⟩, fun j hj => ⟨?_, (hf.1.2 b o _ _ rfl).2 _⟩⟩
  obtain ⟨b2, o2, e2, p0, p1, p2, p3, p4, p5⟩ := hx (j / 6) (by omega)
  cases e2
  have : j % 6 = 0 ∨ j % 6 = 1 ∨ j % 6 = 2 ∨ j % 6 = 3 ∨ j % 6 = 4 ∨ j % 6 = 5 := by omega
  rcases this with q | q | q | q | q | q
  · exact ⟨_, by rw [show o + j = o + j / 6 * 6 by omega]; exact p0⟩
  · exact ⟨_, by rw [show o + j = o + j / 6 * 6 + 1 by omega]; exact p1⟩
  · exact ⟨_, by rw [show o + j = o + j / 6 * 6 + 2 by omega]; exact p2⟩
  · exact ⟨_, by rw [show o + j = o + j / 6 * 6 + 3 by omega]; exact p3⟩
  · exact ⟨_, by rw [show o + j = o + j / 6 * 6 + 4 by omega]; exact p4⟩
  · exact ⟨_, by rw [show o + j = o + j / 6 * 6 + 5 by omega]; exact p5⟩
theorem opC {S : Nat → Prop} {B cap : Nat} {w : World} {ad : Option Addr} {xs : List Cl} (h : SlCF B w (.slice ad xs.length cap) xs) (hS : ∀ b, B ≤ b → b < w.heap.size → S b) : OpC S w ad xs := fun h0 => by
  obtain ⟨ad', cap', e, _, hx⟩ := h.1
  simp only [Value.slice.injEq, true_and] at e
  obtain ⟨rfl, rfl⟩ := e
  obtain ⟨b, o, rfl, _⟩ := hx 0 h0
  refine ⟨b, o, rfl, hS b (h.2.1 b o _ _ rfl).1 (h.2.2 b o _ _ rfl).1, fun i hi => ?_⟩
  obtain ⟨b2, o2, e2, vp, p0, p1, p2, p3, p4, p5, p6, p7, hP, hF⟩ := hx i hi
  cases e2
  have fz := (h.2.2 b o _ _ rfl).2
  refine ⟨fun j hj => ⟨?_, fz _⟩, ?_⟩
  · have : j = 0 ∨ j = 1 ∨ j = 2 ∨ j = 3 ∨ j = 4 ∨ j = 5 ∨ j = 6 := by omega
    rcases this with q | q | q | q | q | q | q
    · subst q; exact ⟨_, p0⟩
    · subst q; exact ⟨_, p1⟩
    · subst q; exact ⟨_, p2⟩
    · subst q; exact ⟨_, p3⟩
    · subst q; exact ⟨_, p4⟩
    · subst q; exact ⟨_, p5⟩
    · subst q; exact ⟨_, p6⟩
  · obtain ⟨ap, kp, e, _⟩ := id hP
    subst e
    exact ⟨ap, kp, p7, opP hP hF hS⟩
end Go.Proofs.YtkabcfhemljnbaaGreat

namespace Go.Proofs.YtkabcfhemljnbaaGreat
open Go.RowKit
attribute [local go_sem ↓] Go.wp_at_zero Go.wp_at_succ

/-! Marks of a heap's rows, exact. -/
theorem open_only {S : Nat → Prop} {w w' : World} {b o : Nat} (h : Open w b o) (k : Only S w w') (hs : ¬ S b) : Open w' b o := by
  obtain ⟨⟨v, hv⟩, hf⟩ := h
  exact ⟨⟨v, k.keep hs hv⟩, by rw [k.frozen (cell_lt hv) hs]; exact hf⟩
set_option maxHeartbeats 2000000 in
theorem heldPairS_x (b o n cap : Nat) (k0 : Int) (w : World) (hn : n ≤ 1099511627776) (h0 : 0 ≤ k0) (h1 : k0 ≤ 1099511627776) (hm : ∀ j, j < 6 * n → w.cell? ⟨b, o + j, none⟩ = some (iv (k0 + j))) :
    Calls Tryz.prog 119 #[.slice (some ⟨b, o, none⟩) n cap, .int .i64 k0] w fun e w' => e = .returned (.int .i64 (k0 + 6 * n)) ∧ w' = w := by
  have HM := hide hm
  clear hm
  go_enter Tryz.func119, Tryz.ntmps119
  go_wp2_with fail
  go_loop [1, 5] (fun kk i => ∃ k : Nat, k ≤ n ∧ i = .int .i64 k ∧ kk = .int .i64 (k0 + 6 * k)) (fun _ i => n - (intOf i).toNat)
  case atStart => exact ⟨0, Nat.zero_le _, rfl, by simp⟩
  case round =>
    obtain ⟨k, hk, rfl, rfl⟩ := hrel
    by_cases hlt : k < n
    · have c0 : w.cell? ⟨b, o + k * 6, none⟩ = some (iv (k0 + 6 * k)) := by have := unhide HM (6 * k) (by omega); rw [show o + 6 * k = o + k * 6 by omega] at this; rw [this]; congr 2
      have c1 : w.cell? ⟨b, o + k * 6 + 1, none⟩ = some (iv (k0 + 6 * k + 1)) := by have := unhide HM (6 * k + 1) (by omega); rw [show o + (6 * k + 1) = o + k * 6 + 1 by omega] at this; rw [this]; congr 2; omega
      have c2 : w.cell? ⟨b, o + k * 6 + 2, none⟩ = some (iv (k0 + 6 * k + 1 + 1)) := by have := unhide HM (6 * k + 2) (by omega); rw [show o + (6 * k + 2) = o + k * 6 + 2 by omega] at this; rw [this]; congr 2; omega
      have c3 : w.cell? ⟨b, o + k * 6 + 3, none⟩ = some (iv (k0 + 6 * k + 1 + 1 + 1)) := by have := unhide HM (6 * k + 3) (by omega); rw [show o + (6 * k + 3) = o + k * 6 + 3 by omega] at this; rw [this]; congr 2; omega
      have c4 : w.cell? ⟨b, o + k * 6 + 4, none⟩ = some (iv (k0 + 6 * k + 1 + 1 + 1 + 1)) := by have := unhide HM (6 * k + 4) (by omega); rw [show o + (6 * k + 4) = o + k * 6 + 4 by omega] at this; rw [this]; congr 2; omega
      have c5 : w.cell? ⟨b, o + k * 6 + 5, none⟩ = some (iv (k0 + 6 * k + 1 + 1 + 1 + 1 + 1)) := by have := unhide HM (6 * k + 5) (by omega); rw [show o + (6 * k + 5) = o + k * 6 + 5 by omega] at this; rw [this]; congr 2; omega
      have g0 : (0:Int) ≤ (k:Int) := by omega
      have g1 : (k:Int) < (n:Int) := by omega
      go_wp2_with fail
      go_round
      case rel => exact ⟨k + 1, by omega, by go_num, by go_num⟩
      case measure => simp [intOf]; omega
    · have hk2 : k = n := by omega
      subst hk2
      go_wp2_with fail
      go_ret
      exact ⟨rfl, rfl⟩

set_option maxHeartbeats 1000000 in
theorem markWordS_z0 (a1 : Option Addr) (c1 : Nat) (k0 : Int) (w : World) :
    Calls Tryz.prog 58 #[.slice a1 0 c1, .int .i64 k0] w fun e w' => e = .returned (.int .i64 k0) ∧ w' = w := by
  go_enter Tryz.func58, Tryz.ntmps58
  go_wp2_with fail
  go_loopw [1, 5] (fun kk i wr => kk = .int .i64 k0 ∧ i = .int .i64 0 ∧ wr = w) (fun _ _ _ => 0)
  case atStart => exact ⟨rfl, rfl, rfl⟩
  case round =>
    obtain ⟨rfl, rfl, rfl⟩ := hrel
    go_wp2_with fail
    go_ret
    exact ⟨rfl, rfl⟩
set_option maxHeartbeats 1000000 in
theorem heldWordS_z0 (a1 : Option Addr) (c1 : Nat) (k0 : Int) (w : World) :
    Calls Tryz.prog 70 #[.slice a1 0 c1, .int .i64 k0] w fun e w' => e = .returned (.int .i64 k0) ∧ w' = w := by
  go_enter Tryz.func70, Tryz.ntmps70
  go_wp2_with fail
  go_loopw [1, 5] (fun kk i wr => kk = .int .i64 k0 ∧ i = .int .i64 0 ∧ wr = w) (fun _ _ _ => 0)
  case atStart => exact ⟨rfl, rfl, rfl⟩
  case round =>
    obtain ⟨rfl, rfl, rfl⟩ := hrel
    go_wp2_with fail
    go_ret
    exact ⟨rfl, rfl⟩
set_option maxHeartbeats 1000000 in
theorem markIntS_z0 (a1 : Option Addr) (c1 : Nat) (k0 : Int) (w : World) :
    Calls Tryz.prog 60 #[.slice a1 0 c1, .int .i64 k0] w fun e w' => e = .returned (.int .i64 k0) ∧ w' = w := by
  go_enter Tryz.func60, Tryz.ntmps60
  go_wp2_with fail
  go_loopw [1, 5] (fun kk i wr => kk = .int .i64 k0 ∧ i = .int .i64 0 ∧ wr = w) (fun _ _ _ => 0)
  case atStart => exact ⟨rfl, rfl, rfl⟩
  case round =>
    obtain ⟨rfl, rfl, rfl⟩ := hrel
    go_wp2_with fail
    go_ret
    exact ⟨rfl, rfl⟩
set_option maxHeartbeats 1000000 in
theorem heldIntS_z0 (a1 : Option Addr) (c1 : Nat) (k0 : Int) (w : World) :
    Calls Tryz.prog 79 #[.slice a1 0 c1, .int .i64 k0] w fun e w' => e = .returned (.int .i64 k0) ∧ w' = w := by
  go_enter Tryz.func79, Tryz.ntmps79
  go_wp2_with fail
  go_loopw [1, 5] (fun kk i wr => kk = .int .i64 k0 ∧ i = .int .i64 0 ∧ wr = w) (fun _ _ _ => 0)
  case atStart => exact ⟨rfl, rfl, rfl⟩
  case round =>
    obtain ⟨rfl, rfl, rfl⟩ := hrel
    go_wp2_with fail
    go_ret
    exact ⟨rfl, rfl⟩
set_option maxHeartbeats 1000000 in
theorem markPairS_z0 (a1 : Option Addr) (c1 : Nat) (k0 : Int) (w : World) :
    Calls Tryz.prog 109 #[.slice a1 0 c1, .int .i64 k0] w fun e w' => e = .returned (.int .i64 k0) ∧ w' = w := by
  go_enter Tryz.func109, Tryz.ntmps109
  go_wp2_with fail
  go_loopw [1, 5] (fun kk i wr => kk = .int .i64 k0 ∧ i = .int .i64 0 ∧ wr = w) (fun _ _ _ => 0)
  case atStart => exact ⟨rfl, rfl, rfl⟩
  case round =>
    obtain ⟨rfl, rfl, rfl⟩ := hrel
    go_wp2_with fail
    go_ret
    exact ⟨rfl, rfl⟩
set_option maxHeartbeats 1000000 in
theorem heldPairS_z0 (a1 : Option Addr) (c1 : Nat) (k0 : Int) (w : World) :
    Calls Tryz.prog 119 #[.slice a1 0 c1, .int .i64 k0] w fun e w' => e = .returned (.int .i64 k0) ∧ w' = w := by
  go_enter Tryz.func119, Tryz.ntmps119
  go_wp2_with fail
  go_loopw [1, 5] (fun kk i wr => kk = .int .i64 k0 ∧ i = .int .i64 0 ∧ wr = w) (fun _ _ _ => 0)
  case atStart => exact ⟨rfl, rfl, rfl⟩
  case round =>
    obtain ⟨rfl, rfl, rfl⟩ := hrel
    go_wp2_with fail
    go_ret
    exact ⟨rfl, rfl⟩
set_option maxHeartbeats 1000000 in
theorem markCellS_z0 (a1 : Option Addr) (c1 : Nat) (k0 : Int) (w : World) :
    Calls Tryz.prog 59 #[.slice a1 0 c1, .int .i64 k0] w fun e w' => e = .returned (.int .i64 k0) ∧ w' = w := by
  go_enter Tryz.func59, Tryz.ntmps59
  go_wp2_with fail
  go_loopw [1, 5] (fun kk i wr => kk = .int .i64 k0 ∧ i = .int .i64 0 ∧ wr = w) (fun _ _ _ => 0)
  case atStart => exact ⟨rfl, rfl, rfl⟩
  case round =>
    obtain ⟨rfl, rfl, rfl⟩ := hrel
    go_wp2_with fail
    go_ret
    exact ⟨rfl, rfl⟩
set_option maxHeartbeats 1000000 in
theorem heldCellS_z0 (a1 : Option Addr) (c1 : Nat) (k0 : Int) (w : World) :
    Calls Tryz.prog 78 #[.slice a1 0 c1, .int .i64 k0] w fun e w' => e = .returned (.int .i64 k0) ∧ w' = w := by
  go_enter Tryz.func78, Tryz.ntmps78
  go_wp2_with fail
  go_loopw [1, 5] (fun kk i wr => kk = .int .i64 k0 ∧ i = .int .i64 0 ∧ wr = w) (fun _ _ _ => 0)
  case atStart => exact ⟨rfl, rfl, rfl⟩
  case round =>
    obtain ⟨rfl, rfl, rfl⟩ := hrel
    go_wp2_with fail
    go_ret
    exact ⟨rfl, rfl⟩

set_option maxHeartbeats 2000000 in
theorem heldIntS_any (b o n cap : Nat) (k0 : Int) (w : World) (hn : n ≤ 1099511627776) (h0 : 0 ≤ k0) (h1 : k0 ≤ 1099511627776) (hm : ∀ j, j < n → w.cell? ⟨b, o + j, none⟩ = some (iv (k0 + j))) :
    Calls Tryz.prog 79 #[.slice (some ⟨b, o, none⟩) n cap, .int .i64 k0] w fun e w' => e = .returned (.int .i64 (k0 + n)) ∧ w' = w := by
  have HM := hide hm
  clear hm
  go_enter Tryz.func79, Tryz.ntmps79
  go_wp2_with fail
  go_loop [1, 5] (fun kk i => ∃ k : Nat, k ≤ n ∧ i = .int .i64 k ∧ kk = .int .i64 (k0 + k)) (fun _ i => n - (intOf i).toNat)
  case atStart => exact ⟨0, Nat.zero_le _, rfl, by simp⟩
  case round =>
    obtain ⟨k, hk, rfl, rfl⟩ := hrel
    by_cases hlt : k < n
    · have c0 := unhide HM k hlt
      have g0 : (0:Int) ≤ (k:Int) := by omega
      have g1 : (k:Int) < (n:Int) := by omega
      go_wp2_with fail
      go_round
      case rel => exact ⟨k + 1, by omega, by go_num, by go_num⟩
      case measure => simp [intOf]; omega
    · have hk2 : k = n := by omega
      subst hk2
      go_wp2_with fail
      go_ret
      exact ⟨rfl, rfl⟩
theorem markWordS_row (ad : Option Addr) (b n cap : Nat) (k0 : Int) (w : World) (hn : n ≤ 1099511627776) (h0 : 0 ≤ k0) (h1 : k0 ≤ 1099511627776) (ha : 0 < n → ad = some ⟨b, 0, none⟩) (ho : ∀ j, j < 3 * n → Open w b (0 + j)) :
    Calls Tryz.prog 58 #[.slice ad n cap, .int .i64 k0] w fun e w' =>
      e = .returned (.int .i64 (k0 + 3 * n)) ∧ (∀ j, j < 3 * n → w'.cell? ⟨b, 0 + j, none⟩ = some (iv (k0 + j))) ∧ (∀ j, j < 3 * n → Open w' b (0 + j)) ∧ Only (fun q => q = b ∧ 0 < n) w w' := by
  rcases Nat.eq_zero_or_pos n with h | h
  · subst h
    exact (markWordS_z0 ad cap k0 w).mono fun e w' ⟨he, hw⟩ => by subst hw; exact ⟨by rw [he]; simp, fun j hj => by omega, fun j hj => by omega, Only.refl _ _⟩
  · rw [ha h]
    exact (markWordS_any b 0 n cap k0 w hn h0 h1 ho).mono fun e w' ⟨he, a, c, d⟩ => ⟨he, a, c, d.mono (fun q e => ⟨e, h⟩)⟩
theorem heldWordS_row (ad : Option Addr) (b n cap : Nat) (k0 : Int) (w : World) (hn : n ≤ 1099511627776) (h0 : 0 ≤ k0) (h1 : k0 ≤ 1099511627776) (ha : 0 < n → ad = some ⟨b, 0, none⟩) (hm : ∀ j, j < 3 * n → w.cell? ⟨b, 0 + j, none⟩ = some (iv (k0 + j))) :
    Calls Tryz.prog 70 #[.slice ad n cap, .int .i64 k0] w fun e w' => e = .returned (.int .i64 (k0 + 3 * n)) ∧ w' = w := by
  rcases Nat.eq_zero_or_pos n with h | h
  · subst h
    exact (heldWordS_z0 ad cap k0 w).mono fun e w' ⟨he, hw⟩ => ⟨by rw [he]; simp, hw⟩
  · rw [ha h]
    exact heldWordS_any b 0 n cap k0 w hn h0 h1 hm
theorem markIntS_row (ad : Option Addr) (b n cap : Nat) (k0 : Int) (w : World) (hn : n ≤ 1099511627776) (h0 : 0 ≤ k0) (h1 : k0 ≤ 1099511627776) (ha : 0 < n → ad = some ⟨b, 0, none⟩) (ho : ∀ j, j < n → Open w b (0 + j)) :
    Calls Tryz.prog 60 #[.slice ad n cap, .int .i64 k0] w fun e w' =>
      e = .returned (.int .i64 (k0 + n)) ∧ (∀ j, j < n → w'.cell? ⟨b, 0 + j, none⟩ = some (iv (k0 + j))) ∧ (∀ j, j < n → Open w' b (0 + j)) ∧ Only (fun q => q = b ∧ 0 < n) w w' := by
  rcases Nat.eq_zero_or_pos n with h | h
  · subst h
    exact (markIntS_z0 ad cap k0 w).mono fun e w' ⟨he, hw⟩ => by subst hw; exact ⟨by rw [he]; simp, fun j hj => by omega, fun j hj => by omega, Only.refl _ _⟩
  · rw [ha h]
    exact (markIntS_any b 0 n cap k0 w hn h0 h1 ho).mono fun e w' ⟨he, a, c, d⟩ => ⟨he, a, c, d.mono (fun q e => ⟨e, h⟩)⟩
theorem heldIntS_row (ad : Option Addr) (b n cap : Nat) (k0 : Int) (w : World) (hn : n ≤ 1099511627776) (h0 : 0 ≤ k0) (h1 : k0 ≤ 1099511627776) (ha : 0 < n → ad = some ⟨b, 0, none⟩) (hm : ∀ j, j < n → w.cell? ⟨b, 0 + j, none⟩ = some (iv (k0 + j))) :
    Calls Tryz.prog 79 #[.slice ad n cap, .int .i64 k0] w fun e w' => e = .returned (.int .i64 (k0 + n)) ∧ w' = w := by
  rcases Nat.eq_zero_or_pos n with h | h
  · subst h
    exact (heldIntS_z0 ad cap k0 w).mono fun e w' ⟨he, hw⟩ => ⟨by rw [he]; simp, hw⟩
  · rw [ha h]
    exact heldIntS_any b 0 n cap k0 w hn h0 h1 hm
theorem markPairS_row (ad : Option Addr) (b n cap : Nat) (k0 : Int) (w : World) (hn : n ≤ 1099511627776) (h0 : 0 ≤ k0) (h1 : k0 ≤ 1099511627776) (ha : 0 < n → ad = some ⟨b, 0, none⟩) (ho : ∀ j, j < 6 * n → Open w b (0 + j)) :
    Calls Tryz.prog 109 #[.slice ad n cap, .int .i64 k0] w fun e w' =>
      e = .returned (.int .i64 (k0 + 6 * n)) ∧ (∀ j, j < 6 * n → w'.cell? ⟨b, 0 + j, none⟩ = some (iv (k0 + j))) ∧ (∀ j, j < 6 * n → Open w' b (0 + j)) ∧ Only (fun q => q = b ∧ 0 < n) w w' := by
  rcases Nat.eq_zero_or_pos n with h | h
  · subst h
    exact (markPairS_z0 ad cap k0 w).mono fun e w' ⟨he, hw⟩ => by subst hw; exact ⟨by rw [he]; simp, fun j hj => by omega, fun j hj => by omega, Only.refl _ _⟩
  · rw [ha h]
    exact (markPairS_any b 0 n cap k0 w hn h0 h1 ho).mono fun e w' ⟨he, a, c, d⟩ => ⟨he, a, c, d.mono (fun q e => ⟨e, h⟩)⟩
theorem heldPairS_row (ad : Option Addr) (b n cap : Nat) (k0 : Int) (w : World) (hn : n ≤ 1099511627776) (h0 : 0 ≤ k0) (h1 : k0 ≤ 1099511627776) (ha : 0 < n → ad = some ⟨b, 0, none⟩) (hm : ∀ j, j < 6 * n → w.cell? ⟨b, 0 + j, none⟩ = some (iv (k0 + j))) :
    Calls Tryz.prog 119 #[.slice ad n cap, .int .i64 k0] w fun e w' => e = .returned (.int .i64 (k0 + 6 * n)) ∧ w' = w := by
  rcases Nat.eq_zero_or_pos n with h | h
  · subst h
    exact (heldPairS_z0 ad cap k0 w).mono fun e w' ⟨he, hw⟩ => ⟨by rw [he]; simp, hw⟩
  · rw [ha h]
    exact heldPairS_x b 0 n cap k0 w hn h0 h1 hm
end Go.Proofs.YtkabcfhemljnbaaGreat

namespace Go.Proofs.YtkabcfhemljnbaaGreat
open Go.RowKit
attribute [local go_sem ↓] Go.wp_at_zero Go.wp_at_succ

/-- the first number of a cell -/
def Kc (len : Nat → Nat) (k0 : Int) : Nat → Int
  | 0 => k0
  | q + 1 => Kc len k0 q + 7 + 6 * (len q : Int)
theorem Kc_bd {len : Nat → Nat} {k0 : Int} (h0 : 0 ≤ k0) (q : Nat) (hl : ∀ p, p < q → len p ≤ 200) : 0 ≤ Kc len k0 q ∧ Kc len k0 q ≤ k0 + 1207 * q := by
  induction q with
  | zero => simp [Kc, h0]
  | succ q ih =>
    have := ih (fun p hp => hl p (by omega))
    have := hl q (by omega)
    simp only [Kc]
    omega
/-- cells under the marks: k are marked -/
structure CMk (w : World) (B n : Nat) (len pb : Nat → Nat) (pa : Nat → Option Addr) (pk : Nat → Nat) (K : Nat → Int) (k : Nat) : Prop where
  a : ∀ q, q < n → w.cell? ⟨B, q * 8 + 7, none⟩ = some (.slice (pa q) (len q) (pk q))
  l : ∀ q, q < n → 0 < len q → pa q = some ⟨pb q, 0, none⟩
  o : ∀ q, q < n → ∀ i, i < 7 → Open w B (q * 8 + i)
  p : ∀ q, q < n → ∀ j, j < 6 * len q → Open w (pb q) (0 + j)
  m : ∀ q, q < k → (∀ i, i < 7 → w.cell? ⟨B, q * 8 + i, none⟩ = some (iv (K q + i))) ∧ ∀ j, j < 6 * len q → w.cell? ⟨pb q, 0 + j, none⟩ = some (iv (K q + 7 + j))
theorem CMk.ext {w w' : World} {B n k : Nat} {len pb : Nat → Nat} {pa : Nat → Option Addr} {pk : Nat → Nat} {K : Nat → Int} (h : CMk w B n len pb pa pk K k) (e : Ext w w') : CMk w' B n len pb pa pk K k :=
  ⟨fun q hq => e.keep (h.a q hq), h.l, fun q hq i hi => (h.o q hq i hi).ext e, fun q hq j hj => (h.p q hq j hj).ext e, fun q hq => ⟨fun i hi => e.keep ((h.m q hq).1 i hi), fun j hj => e.keep ((h.m q hq).2 j hj)⟩⟩
theorem CMk.only {S : Nat → Prop} {w w' : World} {B n k : Nat} {len pb : Nat → Nat} {pa : Nat → Option Addr} {pk : Nat → Nat} {K : Nat → Int} (h : CMk w B n len pb pa pk K k) (e : Only S w w') (hk : k ≤ n) (hB : ¬ S B) (hp : ∀ q, q < n → 0 < len q → ¬ S (pb q)) : CMk w' B n len pb pa pk K k :=
  ⟨fun q hq => e.keep hB (h.a q hq), h.l, fun q hq i hi => open_only (h.o q hq i hi) e hB, fun q hq j hj => open_only (h.p q hq j hj) e (hp q hq (by omega)), fun q hq => ⟨fun i hi => e.keep hB ((h.m q hq).1 i hi), fun j hj => e.keep (hp q (by omega) (by omega)) ((h.m q hq).2 j hj)⟩⟩
/-- the seven numbers of a cell -/
theorem put7 {w wr : World} {B n k : Nat} {len pb : Nat → Nat} {pa : Nat → Option Addr} {pk : Nat → Nat} {K : Nat → Int} {S : Nat → Prop} (h : CMk wr B n len pb pa pk K k) (hk : k < n) (hB : ∀ q, q < n → 0 < len q → pb q ≠ B) (hS : S B) (ho : Only S w wr) :
    let W := ((((((wr.setCell ⟨B, k * 8, none⟩ (iv (K k))).setCell ⟨B, k * 8 + 1, none⟩ (iv (K k + 1))).setCell ⟨B, k * 8 + 2, none⟩ (iv (K k + 1 + 1))).setCell ⟨B, k * 8 + 3, none⟩ (iv (K k + 1 + 1 + 1))).setCell ⟨B, k * 8 + 4, none⟩ (iv (K k + 1 + 1 + 1 + 1))).setCell ⟨B, k * 8 + 5, none⟩ (iv (K k + 1 + 1 + 1 + 1 + 1))).setCell ⟨B, k * 8 + 6, none⟩ (iv (K k + 1 + 1 + 1 + 1 + 1 + 1))
    CMk W B n len pb pa pk K k ∧ (∀ i, i < 7 → W.cell? ⟨B, k * 8 + i, none⟩ = some (iv (K k + i))) ∧ Only S w W := by
  intro W
  have oth : ∀ b o, (b ≠ B ∨ o < k * 8 ∨ k * 8 + 7 ≤ o) → W.cell? ⟨b, o, none⟩ = wr.cell? ⟨b, o, none⟩ := fun b o hb => by
    show (World.setCell _ _ _).cell? _ = _
    rw [cell_other _ (by omega), cell_other _ (by omega), cell_other _ (by omega), cell_other _ (by omega), cell_other _ (by omega), cell_other _ (by omega), cell_other _ (by omega)]
  have op : ∀ b o, Open wr b o → Open W b o := fun b o hb => ((((((hb.set _ _).set _ _).set _ _).set _ _).set _ _).set _ _).set _ _
  refine ⟨⟨fun q hq => ?_, h.l, fun q hq i hi => op _ _ (h.o q hq i hi), fun q hq j hj => op _ _ (h.p q hq j hj), fun q hq => ⟨fun i hi => ?_, fun j hj => ?_⟩⟩, fun i hi => ?_, ((((((ho.setCell hS _).setCell hS _).setCell hS _).setCell hS _).setCell hS _).setCell hS _).setCell hS _⟩
  · rw [oth _ _ (by omega)]; exact h.a q hq
  · rw [oth _ _ (by omega)]; exact (h.m q hq).1 i hi
  · rw [oth _ _ (.inl (hB q (by omega) (by omega)))]; exact (h.m q hq).2 j hj
  · have o0 : Open wr B (k * 8) := h.o k hk 0 (by omega)
    have o1 := h.o k hk 1 (by omega)
    have o2 := h.o k hk 2 (by omega)
    have o3 := h.o k hk 3 (by omega)
    have o4 := h.o k hk 4 (by omega)
    have o5 := h.o k hk 5 (by omega)
    have o6 := h.o k hk 6 (by omega)
    show (World.setCell _ _ _).cell? _ = _
    have : i = 0 ∨ i = 1 ∨ i = 2 ∨ i = 3 ∨ i = 4 ∨ i = 5 ∨ i = 6 := by omega
    rcases this with e | e | e | e | e | e | e
    · subst e
      rw [cell_other _ (by omega), cell_other _ (by omega), cell_other _ (by omega), cell_other _ (by omega), cell_other _ (by omega), cell_other _ (by omega)]
      have := o0.same (iv (K k))
      simpa using this
    · subst e
      rw [cell_other _ (by omega), cell_other _ (by omega), cell_other _ (by omega), cell_other _ (by omega), cell_other _ (by omega), (o1.set _ _).same]
      congr 2
    · subst e
      rw [cell_other _ (by omega), cell_other _ (by omega), cell_other _ (by omega), cell_other _ (by omega), ((o2.set _ _).set _ _).same]
      congr 2; omega
    · subst e
      rw [cell_other _ (by omega), cell_other _ (by omega), cell_other _ (by omega), (((o3.set _ _).set _ _).set _ _).same]
      congr 2; omega
    · subst e
      rw [cell_other _ (by omega), cell_other _ (by omega), ((((o4.set _ _).set _ _).set _ _).set _ _).same]
      congr 2; omega
    · subst e
      rw [cell_other _ (by omega), (((((o5.set _ _).set _ _).set _ _).set _ _).set _ _).same]
      congr 2; omega
    · subst e
      rw [((((((o6.set _ _).set _ _).set _ _).set _ _).set _ _).set _ _).same]
      congr 2; omega
theorem CMk.next {w W w2 : World} {B n k : Nat} {len pb : Nat → Nat} {pa : Nat → Option Addr} {pk : Nat → Nat} {K : Nat → Int} {S : Nat → Prop} (h : CMk W B n len pb pa pk K k) (hc : ∀ i, i < 7 → W.cell? ⟨B, k * 8 + i, none⟩ = some (iv (K k + i))) (hk : k < n) (hB : ∀ q, q < n → 0 < len q → pb q ≠ B) (hd : ∀ q q', q < n → q' < n → q ≠ q' → 0 < len q → 0 < len q' → pb q ≠ pb q') (hs : 0 < len k → S (pb k)) (ho : Only S w W)
    (hm : ∀ j, j < 6 * len k → w2.cell? ⟨pb k, 0 + j, none⟩ = some (iv (K k + 7 + j))) (hop : ∀ j, j < 6 * len k → Open w2 (pb k) (0 + j)) (h2 : Only (fun q => q = pb k ∧ 0 < len k) W w2) : CMk w2 B n len pb pa pk K (k + 1) ∧ Only S w w2 := by
  have nB : ¬ (B = pb k ∧ 0 < len k) := fun e => hB k hk e.2 e.1.symm
  refine ⟨⟨fun q hq => h2.keep nB (h.a q hq), h.l, fun q hq i hi => open_only (h.o q hq i hi) h2 nB, fun q hq j hj => ?_, fun q hq => ?_⟩, ho.trans (h2.mono (fun q e => by rw [e.1]; exact hs e.2))⟩
  · by_cases e : q = k
    · subst e; exact hop j hj
    · exact open_only (h.p q hq j hj) h2 (fun z => hd q k hq hk e (by omega) z.2 z.1)
  · by_cases e : q = k
    · subst e
      exact ⟨fun i hi => h2.keep nB (hc i hi), hm⟩
    · have hx := h.m q (by omega)
      exact ⟨fun i hi => h2.keep nB (hx.1 i hi), fun j hj => h2.keep (fun z => hd q k (by omega) hk e (by omega) z.2 z.1) (hx.2 j hj)⟩

set_option maxRecDepth 100000 in
set_option maxHeartbeats 2000000 in
theorem markCellS_any (B n cap : Nat) (len pb : Nat → Nat) (pa : Nat → Option Addr) (pk : Nat → Nat) (k0 : Int) (w : World) (hn : n ≤ 8000) (h0 : 0 ≤ k0) (h1 : k0 ≤ 1000000) (hl : ∀ q, q < n → len q ≤ 200) (h : CMk w B n len pb pa pk (Kc len k0) 0) (hB : ∀ q, q < n → 0 < len q → pb q ≠ B) (hd : ∀ q q', q < n → q' < n → q ≠ q' → 0 < len q → 0 < len q' → pb q ≠ pb q') (S : Nat → Prop) (hS : S B) (hp : ∀ q, q < n → 0 < len q → S (pb q)) :
    Calls Tryz.prog 59 #[.slice (some ⟨B, 0, none⟩) n cap, .int .i64 k0] w fun e w' => e = .returned (.int .i64 (Kc len k0 n)) ∧ CMk w' B n len pb pa pk (Kc len k0) n ∧ Only S w w' := by
  have H0 := hide h
  have HL := hide hl
  clear h hl
  go_enter Tryz.func59, Tryz.ntmps59
  go_wp2_with fail
  go_loopw [1, 5] (fun kk i wr => ∃ k : Nat, k ≤ n ∧ i = .int .i64 k ∧ kk = .int .i64 (Kc len k0 k) ∧ Hid (CMk wr B n len pb pa pk (Kc len k0) k ∧ Only S w wr)) (fun _ i _ => n - (intOf i).toNat)
  case atStart => exact ⟨0, Nat.zero_le _, rfl, rfl, unhide H0, Only.refl _ _⟩
  case round =>
    clear H0
    obtain ⟨k, hk, rfl, rfl, hm⟩ := hrel
    have hbd := Kc_bd (len := len) h0 k (fun p hp => unhide HL p (by omega))
    by_cases hlt : k < n
    · obtain ⟨m, em⟩ : ∃ m, m = Kc len k0 k := ⟨_, rfl⟩
      rw [← em] at hbd ⊢
      have EM := hide em
      have R := hide (put7 (unhide hm).1 hlt hB hS (unhide hm).2)
      rw [← em] at R
      obtain ⟨⟨v0, c0⟩, f0⟩ : Open wr B (k * 8) := (unhide hm).1.o k hlt 0 (by omega)
      obtain ⟨⟨v1, c1⟩, f1⟩ := (unhide hm).1.o k hlt 1 (by omega)
      obtain ⟨⟨v2, c2⟩, f2⟩ := (unhide hm).1.o k hlt 2 (by omega)
      obtain ⟨⟨v3, c3⟩, f3⟩ := (unhide hm).1.o k hlt 3 (by omega)
      obtain ⟨⟨v4, c4⟩, f4⟩ := (unhide hm).1.o k hlt 4 (by omega)
      obtain ⟨⟨v5, c5⟩, f5⟩ := (unhide hm).1.o k hlt 5 (by omega)
      obtain ⟨⟨v6, c6⟩, f6⟩ := (unhide hm).1.o k hlt 6 (by omega)
      have c7 := (unhide hm).1.a k hlt
      have AD := hide ((unhide hm).1.l k hlt)
      have g0 : (0:Int) ≤ (k:Int) := by omega
      have g1 : (k:Int) < (n:Int) := by omega
      have b0 := hbd.1
      have b1 := hbd.2
      have hlk := unhide HL k hlt
      clear hm em hbd
      go_wp2_with fail
      refine (markPairS_row (pa k) (pb k) (len k) (pk k) (m + 1 + 1 + 1 + 1 + 1 + 1 + 1) _ (by omega) (by omega) (by omega) (unhide AD) (fun j hj => (unhide R).1.p k hlt j hj)).mono ?_
      rintro e w2 ⟨rfl, hmk, hop, hon⟩
      have R2 := hide (CMk.next (unhide R).1 (fun i hi => by rw [(unhide R).2.1 i hi, unhide EM]) hlt hB hd (hp k hlt) (unhide R).2.2 (fun j hj => by rw [hmk j hj, ← unhide EM]; congr 2; omega) hop hon)
      have EK := hide (show Kc len k0 (k + 1) = m + 1 + 1 + 1 + 1 + 1 + 1 + 1 + 6 * (len k : Int) by simp only [Kc]; rw [← unhide EM]; omega)
      clear hmk hop hon R
      go_wp2_with fail
      go_roundw
      case rel => exact ⟨k + 1, by omega, by go_num, by rw [unhide EK], (unhide R2).1, (unhide R2).2⟩
      case measure => simp [intOf]; omega
    · have hk2 : k = n := by omega
      subst hk2
      go_wp2_with fail
      go_ret
      exact ⟨rfl, (unhide hm).1, (unhide hm).2⟩

set_option maxRecDepth 100000 in
set_option maxHeartbeats 2000000 in
theorem heldCellS_any (B n cap : Nat) (len pb : Nat → Nat) (pa : Nat → Option Addr) (pk : Nat → Nat) (k0 : Int) (w : World) (hn : n ≤ 8000) (h0 : 0 ≤ k0) (h1 : k0 ≤ 1000000) (hl : ∀ q, q < n → len q ≤ 200) (h : CMk w B n len pb pa pk (Kc len k0) n) :
    Calls Tryz.prog 78 #[.slice (some ⟨B, 0, none⟩) n cap, .int .i64 k0] w fun e w' => e = .returned (.int .i64 (Kc len k0 n)) ∧ w' = w := by
  have H0 := hide h
  have HL := hide hl
  clear h hl
  go_enter Tryz.func78, Tryz.ntmps78
  go_wp2_with fail
  go_loop [1, 5] (fun kk i => ∃ k : Nat, k ≤ n ∧ i = .int .i64 k ∧ kk = .int .i64 (Kc len k0 k)) (fun _ i => n - (intOf i).toNat)
  case atStart => exact ⟨0, Nat.zero_le _, rfl, rfl⟩
  case round =>
    obtain ⟨k, hk, rfl, rfl⟩ := hrel
    have hbd := Kc_bd (len := len) h0 k (fun p hp => unhide HL p (by omega))
    by_cases hlt : k < n
    · obtain ⟨m, em⟩ : ∃ m, m = Kc len k0 k := ⟨_, rfl⟩
      rw [← em] at hbd ⊢
      have EM := hide em
      have hx := (unhide H0).m k hlt
      rw [← em] at hx
      have c0 : w.cell? ⟨B, k * 8, none⟩ = some (iv m) := by have := hx.1 0 (by omega); simpa using this
      have c1 : w.cell? ⟨B, k * 8 + 1, none⟩ = some (iv (m + 1)) := by have := hx.1 1 (by omega); simpa using this
      have c2 : w.cell? ⟨B, k * 8 + 2, none⟩ = some (iv (m + 1 + 1)) := by have := hx.1 2 (by omega); rw [this]; congr 2; omega
      have c3 : w.cell? ⟨B, k * 8 + 3, none⟩ = some (iv (m + 1 + 1 + 1)) := by have := hx.1 3 (by omega); rw [this]; congr 2; omega
      have c4 : w.cell? ⟨B, k * 8 + 4, none⟩ = some (iv (m + 1 + 1 + 1 + 1)) := by have := hx.1 4 (by omega); rw [this]; congr 2; omega
      have c5 : w.cell? ⟨B, k * 8 + 5, none⟩ = some (iv (m + 1 + 1 + 1 + 1 + 1)) := by have := hx.1 5 (by omega); rw [this]; congr 2; omega
      have c6 : w.cell? ⟨B, k * 8 + 6, none⟩ = some (iv (m + 1 + 1 + 1 + 1 + 1 + 1)) := by have := hx.1 6 (by omega); rw [this]; congr 2; omega
      have c7 := (unhide H0).a k hlt
      have AD := hide ((unhide H0).l k hlt)
      have HX := hide hx.2
      have g0 : (0:Int) ≤ (k:Int) := by omega
      have g1 : (k:Int) < (n:Int) := by omega
      have b0 := hbd.1
      have b1 := hbd.2
      have hlk := unhide HL k hlt
      have EK := hide (show Kc len k0 (k + 1) = m + 1 + 1 + 1 + 1 + 1 + 1 + 1 + 6 * (len k : Int) by simp only [Kc]; rw [← em]; omega)
      clear hx em hbd
      go_wp2_with fail
      refine (heldPairS_row (pa k) (pb k) (len k) (pk k) (m + 1 + 1 + 1 + 1 + 1 + 1 + 1) _ (by omega) (by omega) (by omega) (unhide AD) (fun j hj => by rw [unhide HX j hj]; congr 2; omega)).mono ?_
      rintro e w2 ⟨rfl, rfl⟩
      go_wp2_with fail
      go_round
      case rel => exact ⟨k + 1, by omega, by go_num, by rw [unhide EK]⟩
      case measure => simp [intOf]; omega
    · have hk2 : k = n := by omega
      subst hk2
      go_wp2_with fail
      go_ret
      exact ⟨rfl, rfl⟩
end Go.Proofs.YtkabcfhemljnbaaGreat
