import Derived.Test.YtkabcfhemljnbaaGreatLiveI
import Derived.Test.YtkabcfhemljnbaaGreatL2a
import Derived.Test.YtkabcfhemljnbaaGreatTo2
namespace Go.Proofs.YtkabcfhemljnbaaGreat
open Go.RowKit
attribute [local go_sem ↓] Go.wp_at_zero Go.wp_at_succ

/-- a row of Booleans under way: the first k are as p says -/
structure BRow (w : World) (bs n k : Nat) (p : Nat → Bool) : Prop where
  lt : bs < w.heap.size
  s : ∀ i, i < n → ∃ u, w.cell? ⟨bs, i, none⟩ = some (.bool u) ∧ (i < k → u = p i)
  f : ∀ i, i < n → w.frozen? ⟨bs, i, none⟩ = false
theorem BRow.ext {w w' : World} {bs n k : Nat} {p : Nat → Bool} (h : BRow w bs n k p) (e : Ext w w') : BRow w' bs n k p :=
  ⟨Nat.lt_of_lt_of_le h.lt e.size, fun i hi => let ⟨u, hu, hk⟩ := h.s i hi; ⟨u, e.keep hu, hk⟩, fun i hi => by rw [e.frozen (p := ⟨bs, i, none⟩) h.lt]; exact h.f i hi⟩
theorem BRow.set {w : World} {bs n k : Nat} {p : Nat → Bool} (h : BRow w bs n k p) (hk : k < n) : BRow (w.setCell ⟨bs, k, none⟩ (.bool (p k))) bs n (k + 1) p := by
  obtain ⟨u, hu, _⟩ := h.s k hk
  refine ⟨by have := h.lt; simpa [World.setCell] using this, fun i hi => ?_, fun i hi => by rw [World.frozen?_setCell]; exact h.f i hi⟩
  by_cases q : i = k
  · subst q; exact ⟨p i, World.cell?_setCell_same _ _ _ hu, fun _ => rfl⟩
  · obtain ⟨u2, hu2, hk2⟩ := h.s i hi
    exact ⟨u2, by rw [cell_other _ (.inr (fun e => q e.symm))]; exact hu2, fun hlt => hk2 (by omega)⟩

set_option maxRecDepth 100000 in
set_option maxHeartbeats 2000000 in
theorem marks_any (x : Hp) (b r1 : Nat) (Mt : List Nat) (w : World) {ar : Option Addr} {kr : Nat} {ac : Option Addr} {kc : Nat} {ag : Option Addr} {kg : Nat} {kn : Nat} (bn on : Nat) (h : VAt w b x ar kr ac kc ag kg (some ⟨bn, on, none⟩) kn) (hm : MapAt w r1 bn (Mt.map (fun i => on + i * 2))) (hr : r1 < w.heap.size) (hn8 : x.cells.length ≤ 8000) :
    Calls Tryz.prog 53 #[.pointer (some ⟨b, 0, none⟩), .map (some r1)] w fun e w' => e = .returned (.slice (some ⟨w.heap.size, 0, none⟩) x.cells.length x.cells.length) ∧ BRow w' w.heap.size x.cells.length x.cells.length (fun i => decide (i ∈ Mt)) ∧ Ext w w' := by
  have n13 := h.n13
  have hb : b < w.heap.size := cell_lt n13
  have HV := hide h
  have HM := hide hm
  obtain ⟨z, hmk, hz⟩ := mkBools x.cells.length (by omega) w
  have S0 := hide (show BRow (w.alloc (.cells z 4)) w.heap.size x.cells.length 0 (fun i => decide (i ∈ Mt)) from by
    have S := Sn.start w x.cells.length 4
    rw [← hz] at S
    exact ⟨S.hb.2, fun i hi => ⟨_, S.s i hi, fun h => by omega⟩, S.f⟩)
  have c13 := ((Ext.refl w).alloc (.cells z 4)).keep n13
  clear h hm hz
  go_enter Tryz.func53, Tryz.ntmps53
  go_wp2_with fail
  go_loopw [18] (fun i wr => ∃ (k : Nat), k ≤ x.cells.length ∧ i = .int .i64 k ∧ Hid (BRow wr w.heap.size x.cells.length k (fun i => decide (i ∈ Mt))) ∧ Ext w wr) (fun i _ => x.cells.length - (intOf i).toNat)
  case atStart => exact ⟨0, Nat.zero_le _, rfl, unhide S0, (Ext.refl w).alloc _⟩
  case round =>
    clear n13 c13 S0 hmk
    obtain ⟨k, hk, rfl, hbr, hbl⟩ := hrel
    by_cases hlt : k < x.cells.length
    · have n13 := ((unhide HV).ext hbl).n13
      have hk0 : (0:Int) ≤ (k:Int) := by omega
      have hk1 : (k:Int) < (x.cells.length:Int) := by omega
      have M2 := hide ((unhide HM).block (hbl.block r1 hr))
      go_wp2_with fail
      refine (has_any r1 bn (on + k * 2) _ _ (unhide M2)).mono ?_
      rintro e w1 ⟨rfl, hq⟩
      have x2 := hbl.trans hq
      have E : decide (on + k * 2 ∈ Mt.map (fun i => on + i * 2)) = decide (k ∈ Mt) := by rw [Bool.eq_iff_iff]; simp only [decide_eq_true_eq]; exact mem_off
      rw [E]
      have B2 := hide ((unhide hbr).ext hq)
      obtain ⟨u, hu, _⟩ := (unhide B2).s k hlt
      have hfz := (unhide B2).f k hlt
      have R := hide (And.intro ((unhide B2).set hlt) (x2.setCell (p := ⟨w.heap.size, k, none⟩) (Nat.le_refl _) (.bool (decide (k ∈ Mt)))))
      clear n13 E
      generalize decide (k ∈ Mt) = d at R ⊢
      go_wp2_with fail
      go_roundw
      case rel => exact ⟨k + 1, by omega, by go_num, (unhide R).1, (unhide R).2⟩
      case measure => simp [intOf]; omega
    · have hk2 : k = x.cells.length := by omega
      subst hk2
      go_wp2_with fail
      go_ret
      exact ⟨rfl, unhide hbr, hbl⟩
end Go.Proofs.YtkabcfhemljnbaaGreat

namespace Go.Proofs.YtkabcfhemljnbaaGreat
open Go.RowKit
attribute [local go_sem ↓] Go.wp_at_zero Go.wp_at_succ

set_option maxHeartbeats 2000000 in
/-- two rows that hold the same are the same to eqBoolS -/
theorem eqBoolS_same (a1 a2 n c1 c2 : Nat) (p : Nat → Bool) (w : World) (h1 : BRow w a1 n n p) (h2 : BRow w a2 n n p) (hn : n ≤ 1048576) :
    Calls Tryz.prog 16 #[.slice (some ⟨a1, 0, none⟩) n c1, .slice (some ⟨a2, 0, none⟩) n c2] w fun e w' => e = .returned (.bool true) ∧ Ext w w' := by
  have H1 := hide h1
  have H2 := hide h2
  clear h1 h2
  have hnn : ((n : Int) != (n : Int)) = false := by simp
  go_enter Tryz.func16, Tryz.ntmps16
  go_wp2_with fail
  go_loopw [5] (fun i wr => ∃ k : Nat, k ≤ n ∧ i = .int .i64 k ∧ Ext w wr) (fun i _ => n - (intOf i).toNat)
  case atStart => exact ⟨0, Nat.zero_le _, rfl, Ext.refl w⟩
  case round =>
    obtain ⟨k, hk, rfl, hbl⟩ := hrel
    by_cases hlt : k < n
    · obtain ⟨u1, e1, f1⟩ := ((unhide H1).ext hbl).s k hlt
      obtain ⟨u2, e2, f2⟩ := ((unhide H2).ext hbl).s k hlt
      rw [f1 hlt] at e1
      rw [f2 hlt] at e2
      generalize p k = d at e1 e2
      have hdd : (d != d) = false := by simp
      have hk0 : (0:Int) ≤ (k:Int) := by omega
      have hk1 : (k:Int) < (n:Int) := by omega
      clear f1 f2
      go_wp2_with fail
      go_quiet (fail)
      go_wp2_with fail
      go_roundw
      case rel => exact ⟨k + 1, by omega, by go_num, hbl.trans ((Ext.refl wr).drewN _)⟩
      case measure => simp [intOf]; omega
    · have hk2 : k = n := by omega
      subst hk2
      go_wp2_with fail
      go_ret
      exact ⟨rfl, hbl⟩

def m3 (k0 : Int) (i : Nat) : Bool := ((k0 + i) % 3 == 0)
theorem BRow.re {w : World} {bs n k : Nat} {p q : Nat → Bool} (h : BRow w bs n k p) : BRow w bs n 0 q := ⟨h.lt, fun i hi => let ⟨u, hu, _⟩ := h.s i hi; ⟨u, hu, fun f => by omega⟩, h.f⟩
set_option maxHeartbeats 2000000 in
theorem markBoolS_any (a1 n c1 : Nat) (k0 : Int) (p : Nat → Bool) (w : World) (h1 : BRow w a1 n n p) (hn : n ≤ 1048576) (hk0 : 0 ≤ k0) (hk1 : k0 ≤ 1099511627776) :
    Calls Tryz.prog 19 #[.slice (some ⟨a1, 0, none⟩) n c1, .int .i64 k0] w fun e w' => e = .returned (.int .i64 (k0 + n)) ∧ BRow w' a1 n n (m3 k0) ∧ Only (fun q => q = a1) w w' := by
  have H1 := hide (h1.re (q := m3 k0))
  clear h1
  go_enter Tryz.func19, Tryz.ntmps19
  go_wp2_with fail
  go_loopw [1, 5] (fun kk i wr => ∃ k : Nat, k ≤ n ∧ i = .int .i64 k ∧ kk = .int .i64 (k0 + k) ∧ Hid (BRow wr a1 n k (m3 k0) ∧ Only (fun q => q = a1) w wr)) (fun _ i _ => n - (intOf i).toNat)
  case atStart => exact ⟨0, Nat.zero_le _, rfl, by simp, unhide H1, Only.refl _ _⟩
  case round =>
    obtain ⟨k, hk, rfl, rfl, hbr⟩ := hrel
    by_cases hlt : k < n
    · obtain ⟨u1, e1, f1⟩ := (unhide hbr).1.s k hlt
      have fz := (unhide hbr).1.f k hlt
      have g0 : (0:Int) ≤ (k:Int) := by omega
      have g1 : (k:Int) < (n:Int) := by omega
      have R := hide (And.intro ((unhide hbr).1.set hlt) ((unhide hbr).2.setCell rfl (p := ⟨a1, k, none⟩) (.bool (m3 k0 k))))
      clear f1
      go_wp2_with fail
      go_roundw
      case rel => exact ⟨k + 1, by omega, by go_num, by go_num, (unhide R).1, (unhide R).2⟩
      case measure => simp [intOf]; omega
    · have hk2 : k = n := by omega
      subst hk2
      go_wp2_with fail
      go_ret
      exact ⟨rfl, (unhide hbr).1, (unhide hbr).2⟩

set_option maxHeartbeats 2000000 in
theorem heldBoolS_any (a1 n c1 : Nat) (k0 : Int) (w : World) (h1 : BRow w a1 n n (m3 k0)) (hn : n ≤ 1048576) (hk0 : 0 ≤ k0) (hk1 : k0 ≤ 1099511627776) :
    Calls Tryz.prog 20 #[.slice (some ⟨a1, 0, none⟩) n c1, .int .i64 k0] w fun e w' => e = .returned (.int .i64 (k0 + n)) ∧ w' = w := by
  have H1 := hide h1
  clear h1
  go_enter Tryz.func20, Tryz.ntmps20
  go_wp2_with fail
  go_loop [1, 5] (fun kk i => ∃ k : Nat, k ≤ n ∧ i = .int .i64 k ∧ kk = .int .i64 (k0 + k)) (fun _ i => n - (intOf i).toNat)
  case atStart => exact ⟨0, Nat.zero_le _, rfl, by simp⟩
  case round =>
    obtain ⟨k, hk, rfl, rfl⟩ := hrel
    by_cases hlt : k < n
    · obtain ⟨u1, e1, f1⟩ := (unhide H1).s k hlt
      have g0 : (0:Int) ≤ (k:Int) := by omega
      have g1 : (k:Int) < (n:Int) := by omega
      rw [f1 hlt] at e1
      unfold m3 at e1
      clear f1
      have hdd : (((k0 + (k:Int)) % 3 == 0) != ((k0 + (k:Int)) % 3 == 0)) = false := by simp
      go_wp2_with fail
      go_round
      case rel => exact ⟨k + 1, by omega, by go_num, by go_num⟩
      case measure => simp [intOf]; omega
    · have hk2 : k = n := by omega
      subst hk2
      go_wp2_with fail
      go_ret
      exact ⟨rfl, rfl⟩
end Go.Proofs.YtkabcfhemljnbaaGreat

namespace Go.Proofs.YtkabcfhemljnbaaGreat
open Go.RowKit
attribute [local go_sem ↓] Go.wp_at_zero Go.wp_at_succ

/-- written to, cell by cell, in the blocks of S -/
structure Wr (S : Nat → Prop) (w w' : World) : Prop where
  o : Only S w w'
  op : ∀ b k, Open w b k → Open w' b k
theorem Wr.refl (S : Nat → Prop) (w : World) : Wr S w w := ⟨Only.refl _ _, fun _ _ h => h⟩
theorem Wr.trans {S : Nat → Prop} {a b c : World} (h : Wr S a b) (k : Wr S b c) : Wr S a c := ⟨h.o.trans k.o, fun b' i q => k.op b' i (h.op b' i q)⟩
theorem Wr.set {S : Nat → Prop} {a w : World} (h : Wr S a w) {p : Addr} (hp : S p.block) (u : Value) : Wr S a (w.setCell p u) := ⟨h.o.setCell hp u, fun b k q => (h.op b k q).set _ _⟩
theorem Wr.mono {S T : Nat → Prop} {w w' : World} (h : Wr S w w') (hST : ∀ k, S k → T k) : Wr T w w' := ⟨h.o.mono hST, h.op⟩

/-- n elements of sz cells each that may be written, in a block of S -/
def OpSl (S : Nat → Prop) (w : World) (sz : Nat) (ad : Option Addr) (n : Nat) : Prop := 0 < n → ∃ b o, ad = some ⟨b, o, none⟩ ∧ S b ∧ ∀ j, j < sz * n → Open w b (o + j)
theorem OpSl.wr {S T : Nat → Prop} {w w' : World} {sz n : Nat} {ad : Option Addr} (h : OpSl S w sz ad n) (k : Wr T w w') : OpSl S w' sz ad n := fun h0 => by
  obtain ⟨b, o, e, s, q⟩ := h h0
  exact ⟨b, o, e, s, fun j hj => k.op _ _ (q j hj)⟩
theorem OpSl.ext {S : Nat → Prop} {w w' : World} {sz n : Nat} {ad : Option Addr} (h : OpSl S w sz ad n) (k : Ext w w') : OpSl S w' sz ad n := fun h0 => by
  obtain ⟨b, o, e, s, q⟩ := h h0
  exact ⟨b, o, e, s, fun j hj => (q j hj).ext k⟩
/-- cells that may be written, their pairs too -/
def OpC (S : Nat → Prop) (w : World) (ad : Option Addr) (xs : List Cl) : Prop := 0 < xs.length → ∃ b o, ad = some ⟨b, o, none⟩ ∧ S b ∧ ∀ i (hi : i < xs.length), (∀ j, j < 7 → Open w b (o + i * 8 + j)) ∧ ∃ ap kp, w.cell? ⟨b, o + i * 8 + 7, none⟩ = some (.slice ap xs[i].prs.length kp) ∧ OpSl (fun q => S q ∧ q ≠ b) w 6 ap xs[i].prs.length
theorem OpC.ext {S : Nat → Prop} {w w' : World} {ad : Option Addr} {xs : List Cl} (h : OpC S w ad xs) (k : Ext w w') : OpC S w' ad xs := fun h0 => by
  obtain ⟨b, o, e, s, q⟩ := h h0
  refine ⟨b, o, e, s, fun i hi => ⟨fun j hj => ((q i hi).1 j hj).ext k, ?_⟩⟩
  obtain ⟨ap, kp, c, d⟩ := (q i hi).2
  exact ⟨ap, kp, k.keep c, d.ext k⟩
theorem OpC.wr {S T : Nat → Prop} {w w' : World} {ad : Option Addr} {xs : List Cl} (h : OpC S w ad xs) (k : Wr T w w') (hT : ∀ b o, ad = some ⟨b, o, none⟩ → ¬ T b) : OpC S w' ad xs := fun h0 => by
  obtain ⟨b, o, e, s, q⟩ := h h0
  refine ⟨b, o, e, s, fun i hi => ⟨fun j hj => k.op _ _ ((q i hi).1 j hj), ?_⟩⟩
  obtain ⟨ap, kp, c, d⟩ := (q i hi).2
  exact ⟨ap, kp, k.o.keep (hT b o e) c, d.wr k⟩

set_option maxHeartbeats 1000000 in
theorem markWordS_wr (S : Nat → Prop) (ad : Option Addr) (n cap : Nat) (k0 : Int) (w : World) (hn : n ≤ 1048576) (h0 : 0 ≤ k0) (h1 : k0 ≤ 1125899906842624) (ho : OpSl S w 3 ad n) :
    Calls Tryz.prog 58 #[.slice ad n cap, .int .i64 k0] w fun e w' => e = .returned (.int .i64 (k0 + 3 * n)) ∧ Wr S w w' := by
  have H0 := hide ho
  clear ho
  go_enter Tryz.func58, Tryz.ntmps58
  go_wp2_with fail
  go_loopw [1, 5] (fun kk i wr => ∃ k : Nat, k ≤ n ∧ i = .int .i64 k ∧ kk = .int .i64 (k0 + 3 * k) ∧ Hid (Wr S w wr)) (fun _ i _ => n - (intOf i).toNat)
  case atStart => exact ⟨0, Nat.zero_le _, rfl, by simp, Wr.refl _ _⟩
  case round =>
    obtain ⟨k, hk, rfl, rfl, hm⟩ := hrel
    by_cases hlt : k < n
    · obtain ⟨b, o, rfl, hs, hop⟩ := unhide H0 (by omega)
      have op : ∀ i, i < 3 → Open wr b (o + k * 3 + i) := fun i hi => by
        have := (unhide hm).op _ _ (hop (3 * k + i) (by omega))
        have e : o + (3 * k + i) = o + k * 3 + i := by omega
        rw [e] at this; exact this
      obtain ⟨⟨v0, c0⟩, f0⟩ : Open wr b (o + k * 3) := op 0 (by omega)
      obtain ⟨⟨v1, c1⟩, f1⟩ := op 1 (by omega)
      obtain ⟨⟨v2, c2⟩, f2⟩ := op 2 (by omega)
      have g0 : (0:Int) ≤ (k:Int) := by omega
      have g1 : (k:Int) < (n:Int) := by omega
      have R := hide (fun (x0 x1 x2 : Value) => (((unhide hm).set (p := ⟨b, o + k * 3, none⟩) hs x0).set (p := ⟨b, o + k * 3 + 1, none⟩) hs x1).set (p := ⟨b, o + k * 3 + 2, none⟩) hs x2)
      clear op hop
      go_wp2_with fail
      go_roundw
      case rel => exact ⟨k + 1, by omega, by go_num, by go_num, unhide R _ _ _⟩
      case measure => simp [intOf]; omega
    · have hk2 : k = n := by omega
      subst hk2
      go_wp2_with fail
      go_ret
      exact ⟨rfl, unhide hm⟩

set_option maxHeartbeats 1000000 in
theorem markIntS_wr (S : Nat → Prop) (ad : Option Addr) (n cap : Nat) (k0 : Int) (w : World) (hn : n ≤ 1048576) (h0 : 0 ≤ k0) (h1 : k0 ≤ 1125899906842624) (ho : OpSl S w 1 ad n) :
    Calls Tryz.prog 60 #[.slice ad n cap, .int .i64 k0] w fun e w' => e = .returned (.int .i64 (k0 + n)) ∧ Wr S w w' := by
  have H0 := hide ho
  clear ho
  go_enter Tryz.func60, Tryz.ntmps60
  go_wp2_with fail
  go_loopw [1, 5] (fun kk i wr => ∃ k : Nat, k ≤ n ∧ i = .int .i64 k ∧ kk = .int .i64 (k0 + k) ∧ Hid (Wr S w wr)) (fun _ i _ => n - (intOf i).toNat)
  case atStart => exact ⟨0, Nat.zero_le _, rfl, by simp, Wr.refl _ _⟩
  case round =>
    obtain ⟨k, hk, rfl, rfl, hm⟩ := hrel
    by_cases hlt : k < n
    · obtain ⟨b, o, rfl, hs, hop⟩ := unhide H0 (by omega)
      obtain ⟨⟨v0, c0⟩, f0⟩ : Open wr b (o + k) := (unhide hm).op _ _ (hop k (by omega))
      have g0 : (0:Int) ≤ (k:Int) := by omega
      have g1 : (k:Int) < (n:Int) := by omega
      have R := hide (fun (x0 : Value) => ((unhide hm).set (p := ⟨b, o + k, none⟩) hs x0))
      clear hop
      go_wp2_with fail
      go_roundw
      case rel => exact ⟨k + 1, by omega, by go_num, by go_num, unhide R _⟩
      case measure => simp [intOf]; omega
    · have hk2 : k = n := by omega
      subst hk2
      go_wp2_with fail
      go_ret
      exact ⟨rfl, unhide hm⟩

set_option maxHeartbeats 1000000 in
theorem markPairS_wr (S : Nat → Prop) (ad : Option Addr) (n cap : Nat) (k0 : Int) (w : World) (hn : n ≤ 1048576) (h0 : 0 ≤ k0) (h1 : k0 ≤ 1125899906842624) (ho : OpSl S w 6 ad n) :
    Calls Tryz.prog 109 #[.slice ad n cap, .int .i64 k0] w fun e w' => e = .returned (.int .i64 (k0 + 6 * n)) ∧ Wr S w w' := by
  have H0 := hide ho
  clear ho
  go_enter Tryz.func109, Tryz.ntmps109
  go_wp2_with fail
  go_loopw [1, 5] (fun kk i wr => ∃ k : Nat, k ≤ n ∧ i = .int .i64 k ∧ kk = .int .i64 (k0 + 6 * k) ∧ Hid (Wr S w wr)) (fun _ i _ => n - (intOf i).toNat)
  case atStart => exact ⟨0, Nat.zero_le _, rfl, by simp, Wr.refl _ _⟩
  case round =>
    obtain ⟨k, hk, rfl, rfl, hm⟩ := hrel
    by_cases hlt : k < n
    · obtain ⟨b, o, rfl, hs, hop⟩ := unhide H0 (by omega)
      have op : ∀ i, i < 6 → Open wr b (o + k * 6 + i) := fun i hi => by
        have := (unhide hm).op _ _ (hop (6 * k + i) (by omega))
        have e : o + (6 * k + i) = o + k * 6 + i := by omega
        rw [e] at this; exact this
      obtain ⟨⟨v0, c0⟩, f0⟩ : Open wr b (o + k * 6) := op 0 (by omega)
      obtain ⟨⟨v1, c1⟩, f1⟩ := op 1 (by omega)
      obtain ⟨⟨v2, c2⟩, f2⟩ := op 2 (by omega)
      obtain ⟨⟨v3, c3⟩, f3⟩ := op 3 (by omega)
      obtain ⟨⟨v4, c4⟩, f4⟩ := op 4 (by omega)
      obtain ⟨⟨v5, c5⟩, f5⟩ := op 5 (by omega)
      have g0 : (0:Int) ≤ (k:Int) := by omega
      have g1 : (k:Int) < (n:Int) := by omega
      have R := hide (fun (x0 x1 x2 x3 x4 x5 : Value) => ((((((unhide hm).set (p := ⟨b, o + k * 6, none⟩) hs x0).set (p := ⟨b, o + k * 6 + 1, none⟩) hs x1).set (p := ⟨b, o + k * 6 + 2, none⟩) hs x2).set (p := ⟨b, o + k * 6 + 3, none⟩) hs x3).set (p := ⟨b, o + k * 6 + 4, none⟩) hs x4).set (p := ⟨b, o + k * 6 + 5, none⟩) hs x5)
      clear op hop
      go_wp2_with fail
      go_roundw
      case rel => exact ⟨k + 1, by omega, by go_num, by go_num, unhide R _ _ _ _ _ _⟩
      case measure => simp [intOf]; omega
    · have hk2 : k = n := by omega
      subst hk2
      go_wp2_with fail
      go_ret
      exact ⟨rfl, unhide hm⟩

theorem put8 {S : Nat → Prop} {w wr : World} {b a : Nat} (hs : S b) (h : Wr S w wr) (x0 x1 x2 x3 x4 x5 x6 : Value) :
    let W := ((((((wr.setCell ⟨b, a, none⟩ x0).setCell ⟨b, a + 1, none⟩ x1).setCell ⟨b, a + 2, none⟩ x2).setCell ⟨b, a + 3, none⟩ x3).setCell ⟨b, a + 4, none⟩ x4).setCell ⟨b, a + 5, none⟩ x5).setCell ⟨b, a + 6, none⟩ x6
    Wr S w W ∧ (∀ o, (o < a ∨ a + 7 ≤ o) → W.cell? ⟨b, o, none⟩ = wr.cell? ⟨b, o, none⟩) := by
  intro W
  refine ⟨((((((h.set (p := ⟨b, a, none⟩) hs _).set (p := ⟨b, a + 1, none⟩) hs _).set (p := ⟨b, a + 2, none⟩) hs _).set (p := ⟨b, a + 3, none⟩) hs _).set (p := ⟨b, a + 4, none⟩) hs _).set (p := ⟨b, a + 5, none⟩) hs _).set (p := ⟨b, a + 6, none⟩) hs _, fun o ho => ?_⟩
  show (World.setCell _ _ _).cell? _ = _
  rw [cell_other _ (.inr (by omega)), cell_other _ (.inr (by omega)), cell_other _ (.inr (by omega)), cell_other _ (.inr (by omega)), cell_other _ (.inr (by omega)), cell_other _ (.inr (by omega)), cell_other _ (.inr (by omega))]

set_option maxRecDepth 100000 in
set_option maxHeartbeats 2000000 in
theorem markCellS_wr (S : Nat → Prop) (ad : Option Addr) (xs : List Cl) (cap : Nat) (k0 : Int) (w : World) (hn : xs.length ≤ 1048576) (hp : prsum xs ≤ 1048576) (h0 : 0 ≤ k0) (h1 : k0 ≤ 4194304) (ho : OpC S w ad xs) :
    Calls Tryz.prog 59 #[.slice ad xs.length cap, .int .i64 k0] w fun e w' => ∃ k1 : Int, Hid (e = .returned (.int .i64 k1)) ∧ 0 ≤ k1 ∧ k1 ≤ 7000000000000 ∧ Wr S w w' := by
  have H0 := hide ho
  have HP := hide (fun k (h : k < xs.length) => Nat.le_trans (prs_le xs k h) hp)
  clear ho
  go_enter Tryz.func59, Tryz.ntmps59
  go_wp2_with fail
  go_loopw [1, 5] (fun kk i wr => ∃ (k : Nat) (m : Int), k ≤ xs.length ∧ i = .int .i64 k ∧ kk = .int .i64 m ∧ 0 ≤ m ∧ m ≤ 4194304 + 6291463 * k ∧ Hid (Wr S w wr ∧ ∀ b o j, ad = some ⟨b, o, none⟩ → j < xs.length → wr.cell? ⟨b, o + j * 8 + 7, none⟩ = w.cell? ⟨b, o + j * 8 + 7, none⟩)) (fun _ i _ => xs.length - (intOf i).toNat)
  case atStart => exact ⟨0, k0, Nat.zero_le _, rfl, rfl, h0, by omega, Wr.refl _ _, fun _ _ _ _ _ => rfl⟩
  case round =>
    obtain ⟨k, m, hk, rfl, rfl, hm0, hm1, hm⟩ := hrel
    by_cases hlt : k < xs.length
    · obtain ⟨b, o, rfl, hs, hop⟩ := unhide H0 (by omega)
      have op : ∀ i, i < 7 → Open wr b (o + k * 8 + i) := fun i hi => (unhide hm).1.op _ _ ((hop k hlt).1 i hi)
      obtain ⟨⟨v0, c0⟩, f0⟩ : Open wr b (o + k * 8) := op 0 (by omega)
      obtain ⟨⟨v1, c1⟩, f1⟩ := op 1 (by omega)
      obtain ⟨⟨v2, c2⟩, f2⟩ := op 2 (by omega)
      obtain ⟨⟨v3, c3⟩, f3⟩ := op 3 (by omega)
      obtain ⟨⟨v4, c4⟩, f4⟩ := op 4 (by omega)
      obtain ⟨⟨v5, c5⟩, f5⟩ := op 5 (by omega)
      obtain ⟨⟨v6, c6⟩, f6⟩ := op 6 (by omega)
      obtain ⟨ap, kp, c7, hpo⟩ := (hop k hlt).2
      have d7 := ((unhide hm).2 b o k rfl hlt).trans c7
      have g0 : (0:Int) ≤ (k:Int) := by omega
      have g1 : (k:Int) < (xs.length:Int) := by omega
      have hpl := unhide HP k hlt
      have PO := hide hpo
      have HOP := hide hop
      have R := hide (fun (x0 x1 x2 x3 x4 x5 x6 : Value) => put8 (a := o + k * 8) hs (unhide hm).1 x0 x1 x2 x3 x4 x5 x6)
      clear op hop c7 hpo
      go_wp2_with fail
      refine (markPairS_wr (fun q => S q ∧ q ≠ b) ap xs[k].prs.length kp (m + 1 + 1 + 1 + 1 + 1 + 1 + 1) _ hpl (by omega) (by omega) ((unhide PO).wr (unhide R _ _ _ _ _ _ _).1)).mono ?_
      rintro e w2 ⟨rfl, hq⟩
      have R2 := hide (show Wr S w w2 ∧ ∀ b' o' j, (some ⟨b, o, none⟩ : Option Addr) = some ⟨b', o', none⟩ → j < xs.length → w2.cell? ⟨b', o' + j * 8 + 7, none⟩ = w.cell? ⟨b', o' + j * 8 + 7, none⟩ from by
        refine ⟨(unhide R _ _ _ _ _ _ _).1.trans (hq.mono (fun _ h => h.1)), fun b' o' j e hj => ?_⟩
        cases e
        obtain ⟨ap', kp', c', _⟩ := (unhide HOP j hj).2
        rw [c']
        refine hq.o.keep (by simp) ?_
        rw [(unhide R _ _ _ _ _ _ _).2 _ (by omega)]
        exact ((unhide hm).2 b o j rfl hj).trans c')
      clear hq R
      go_wp2_with fail
      go_roundw
      case rel => exact ⟨k + 1, _, by omega, by go_num, rfl, by omega, by omega, unhide R2⟩
      case measure => simp [intOf]; omega
    · have hk2 : k = xs.length := by omega
      go_wp2_with fail
      go_ret
      exact ⟨_, rfl, hm0, by omega, (unhide hm).1⟩

set_option maxRecDepth 100000 in
set_option maxHeartbeats 2000000 in
theorem markHeap_wr (S : Nat → Prop) (x : Hp) (ar ac ag : Option Addr) (kr kc kg : Nat) (w : World) (n1 : x.regs.length ≤ 1048576) (n2 : x.cells.length ≤ 1048576) (n3 : prsum x.cells ≤ 1048576) (n4 : x.gray.length ≤ 1048576) (hS : ∀ q, S q → q < w.heap.size) (oR : OpSl S w 3 ar x.regs.length) (oC : OpC S w ac x.cells) (oG : OpSl S w 1 ag x.gray.length) (hd : ∀ b o b' o', ar = some ⟨b, o, none⟩ → ac = some ⟨b', o', none⟩ → b ≠ b') :
    Calls Tryz.prog 18 #[x.v (.slice ar x.regs.length kr) (.slice ac x.cells.length kc) (.slice ag x.gray.length kg), .int .i64 1] w fun e w' => ∃ k1 : Int, Hid (e = .returned (.int .i64 k1)) ∧ 0 ≤ k1 ∧ ∃ w1, Ext w w1 ∧ Wr S w1 w' := by
  have x1 := (Ext.refl w).alloc (.cells #[iv x.room, iv x.used, iv x.born, .slice ar x.regs.length kr, .slice ac x.cells.length kc, iv x.phase, iv x.hand, iv x.sub, .slice ag x.gray.length kg, iv x.per, iv x.start, iv x.rounds, iv x.forced] 33)
  have hns : ¬ S w.heap.size := fun h => by have := hS _ h; omega
  have O1 := hide (show OpSl (fun q => S q ∧ ∀ b o, ac = some ⟨b, o, none⟩ → q ≠ b) (w.alloc (.cells #[iv x.room, iv x.used, iv x.born, .slice ar x.regs.length kr, .slice ac x.cells.length kc, iv x.phase, iv x.hand, iv x.sub, .slice ag x.gray.length kg, iv x.per, iv x.start, iv x.rounds, iv x.forced] 33)) 3 ar x.regs.length from fun h0 => by
    obtain ⟨b, o, e, s, q⟩ := oR.ext x1 h0
    exact ⟨b, o, e, ⟨s, fun b' o' e' => hd b o b' o' e e'⟩, q⟩)
  have O2 := hide (oC.ext x1)
  have O3 := hide (oG.ext x1)
  clear oR oC oG hd
  go_enter Tryz.func18, Tryz.ntmps18
  go_wp2_with fail
  refine (markWordS_wr _ ar x.regs.length kr 1 _ n1 (by omega) (by omega) (unhide O1)).mono ?_
  rintro e w1 ⟨rfl, q1⟩
  have d4 : w1.cell? ⟨w.heap.size, 4, none⟩ = some (.slice ac x.cells.length kc) := q1.o.keep (fun h => hns h.1) (by simp [go_sem])
  have d8 : w1.cell? ⟨w.heap.size, 8, none⟩ = some (.slice ag x.gray.length kg) := q1.o.keep (fun h => hns h.1) (by simp [go_sem])
  have P2 := hide ((unhide O2).wr q1 (fun b o e h => h.2 b o e rfl))
  have P3 := hide ((unhide O3).wr q1)
  have Q1 := hide (q1.mono (fun _ h => h.1))
  clear O1 O2 O3 q1
  go_wp2_with fail
  refine (markCellS_wr S ac x.cells kc (1 + 3 * x.regs.length) _ n2 n3 (by omega) (by omega) (unhide P2)).mono ?_
  rintro e w2 ⟨k2, rfl, h20, h21, q2⟩
  have e8 : w2.cell? ⟨w.heap.size, 8, none⟩ = some (.slice ag x.gray.length kg) := q2.o.keep hns d8
  have P4 := hide ((unhide P3).wr q2)
  have Q2 := hide ((unhide Q1).trans q2)
  clear P2 P3 q2 d4 d8 Q1
  go_wp2_with fail
  refine (markIntS_wr S ag x.gray.length kg k2 _ n4 h20 (by omega) (unhide P4)).mono ?_
  rintro e w3 ⟨rfl, q3⟩
  have Q3 := hide ((unhide Q2).trans q3)
  clear q3 P4 Q2 e8
  go_wp2_with fail
  go_ret
  exact ⟨_, rfl, by omega, _, x1, unhide Q3⟩

theorem opW {S : Nat → Prop} {B cap : Nat} {w : World} {ad : Option Addr} {xs : List Wd} (h : SlWF B w (.slice ad xs.length cap) xs) (hS : ∀ b, B ≤ b → b < w.heap.size → S b) : OpSl S w 3 ad xs.length := fun h0 => by
  obtain ⟨ad', cap', e, _, hx⟩ := h.1
  simp only [Value.slice.injEq, true_and] at e
  obtain ⟨rfl, rfl⟩ := e
  obtain ⟨b, o, rfl, _⟩ := hx 0 h0
  refine ⟨b, o, rfl, hS b (h.2.1 b o _ _ rfl).1 (h.2.2 b o _ _ rfl).1, fun j hj => ⟨?_, (h.2.2 b o _ _ rfl).2 _⟩⟩
  obtain ⟨b2, o2, e2, p0, p1, p2⟩ := hx (j / 3) (by omega)
  cases e2
  have : j % 3 = 0 ∨ j % 3 = 1 ∨ j % 3 = 2 := by omega
  rcases this with q | q | q
  · exact ⟨_, by rw [show o + j = o + j / 3 * 3 by omega]; exact p0⟩
  · exact ⟨_, by rw [show o + j = o + j / 3 * 3 + 1 by omega]; exact p1⟩
  · exact ⟨_, by rw [show o + j = o + j / 3 * 3 + 2 by omega]; exact p2⟩
theorem opI {S : Nat → Prop} {B cap : Nat} {w : World} {ad : Option Addr} {xs : List Int} (h : SlI w (.slice ad xs.length cap) xs) (hf : Fn0 B w (.slice ad xs.length cap)) (hS : ∀ b, B ≤ b → b < w.heap.size → S b) : OpSl S w 1 ad xs.length := fun h0 => by
  obtain ⟨ad', cap', e, _, hx⟩ := h
  simp only [Value.slice.injEq, true_and] at e
  obtain ⟨rfl, rfl⟩ := e
  obtain ⟨b, o, rfl, _⟩ := hx 0 h0
  refine ⟨b, o, rfl, hS b (hf.1 b o _ _ rfl).1 (hf.2 b o _ _ rfl).1, fun j hj => ⟨?_, (hf.2 b o _ _ rfl).2 _⟩⟩
  obtain ⟨b2, o2, e2, p0⟩ := hx j (by omega)
  cases e2
  have p0 : w.cell? ⟨b, o + j * 1, none⟩ = some (iv xs[j]) := p0
  exact ⟨_, by rw [Nat.mul_one] at p0; exact p0⟩
theorem opP {S : Nat → Prop} {B b0 cap : Nat} {w : World} {ad : Option Addr} {xs : List Pr} (h : SlP w (.slice ad xs.length cap) xs) (hf : Fn2 B w b0 (.slice ad xs.length cap)) (hS : ∀ b, B ≤ b → b < w.heap.size → S b) : OpSl (fun q => S q ∧ q ≠ b0) w 6 ad xs.length := fun h0 => by
  obtain ⟨ad', cap', e, _, hx⟩ := h
  simp only [Value.slice.injEq, true_and] at e
  obtain ⟨rfl, rfl⟩ := e
  obtain ⟨b, o, rfl, _⟩ := hx 0 h0
  refine ⟨b, o, rfl, ⟨hS b (hf.1.1 b o _ _ rfl).1 (hf.1.2 b o _ _ rfl).1, hf.2 b o _ _ rfl⟩, fun j hj => ⟨?_, (hf.1.2 b o _ _ rfl).2 _⟩⟩
  obtain ⟨b2, o2, e2, p0, p1, p2, p3, p4, p5⟩ := hx (j / 6) (by omega)
  cases e2
  have : j % 6 = 0 ∨ j % 6 = 1 ∨ j % 6 = 2 ∨ j % 6 = 3 ∨ j % 6 = 4 ∨ j % 6 = 5 := by omega
  rcases this with q | q | q | q | q | q
  · exact ⟨_, by rw [show o + j = o + j / 6 * 6 by omega]; exact p0⟩
  · exact ⟨_, by rw [show o + j = o + j / 6 * 6 + 1 by omega]; exact p1⟩
  · exact ⟨_, by rw [show o + j = o + j / 6 * 6 + 2 by omega]; exact p2⟩
  · exact ⟨_, by rw [show o + j = o + j / 6 * 6 + 3 by omega]; exact p3⟩
  · exact ⟨_, by rw [show o + j = o + j / 6 * 6 + 4 by omega]; exact p4⟩
  · exact ⟨_, by rw [show o + j = o + j / 6 * 6 + 5 by omega]; exact p5⟩
theorem opC {S : Nat → Prop} {B cap : Nat} {w : World} {ad : Option Addr} {xs : List Cl} (h : SlCF B w (.slice ad xs.length cap) xs) (hS : ∀ b, B ≤ b → b < w.heap.size → S b) : OpC S w ad xs := fun h0 => by
  obtain ⟨ad', cap', e, _, hx⟩ := h.1
  simp only [Value.slice.injEq, true_and] at e
  obtain ⟨rfl, rfl⟩ := e
  obtain ⟨b, o, rfl, _⟩ := hx 0 h0
  refine ⟨b, o, rfl, hS b (h.2.1 b o _ _ rfl).1 (h.2.2 b o _ _ rfl).1, fun i hi => ?_⟩
  obtain ⟨b2, o2, e2, vp, p0, p1, p2, p3, p4, p5, p6, p7, hP, hF⟩ := hx i hi
  cases e2
  have fz := (h.2.2 b o _ _ rfl).2
  refine ⟨fun j hj => ⟨?_, fz _⟩, ?_⟩
  · have : j = 0 ∨ j = 1 ∨ j = 2 ∨ j = 3 ∨ j = 4 ∨ j = 5 ∨ j = 6 := by omega
    rcases this with q | q | q | q | q | q | q
    · subst q; exact ⟨_, p0⟩
    · subst q; exact ⟨_, p1⟩
    · subst q; exact ⟨_, p2⟩
    · subst q; exact ⟨_, p3⟩
    · subst q; exact ⟨_, p4⟩
    · subst q; exact ⟨_, p5⟩
    · subst q; exact ⟨_, p6⟩
  · obtain ⟨ap, kp, e, _⟩ := id hP
    subst e
    exact ⟨ap, kp, p7, opP hP hF hS⟩
end Go.Proofs.YtkabcfhemljnbaaGreat

namespace Go.Proofs.YtkabcfhemljnbaaGreat
open Go.RowKit
attribute [local go_sem ↓] Go.wp_at_zero Go.wp_at_succ

/-- an answer of Booleans: nil, or a row in a block from B on -/
def BSl (B : Nat) (w : World) (v : Value) (n : Nat) (p : Nat → Bool) : Prop := (v = .slice none 0 0 ∧ n = 0) ∨ ∃ bs, v = .slice (some ⟨bs, 0, none⟩) n n ∧ B ≤ bs ∧ BRow w bs n n p
theorem BSl.ext {B : Nat} {w w' : World} {v : Value} {n : Nat} {p : Nat → Bool} (h : BSl B w v n p) (e : Ext w w') : BSl B w' v n p := by
  rcases h with h | ⟨bs, h1, h2, h3⟩
  · exact .inl h
  · exact .inr ⟨bs, h1, h2, h3.ext e⟩
theorem BRow.only {S : Nat → Prop} {w w' : World} {bs n k : Nat} {p : Nat → Bool} (h : BRow w bs n k p) (o : Only S w w') (hs : ¬ S bs) : BRow w' bs n k p :=
  ⟨Nat.lt_of_lt_of_le h.lt o.size, fun i hi => let ⟨u, hu, hk⟩ := h.s i hi; ⟨u, o.keep hs hu, hk⟩, fun i hi => by rw [o.frozen h.lt hs]; exact h.f i hi⟩
theorem BSl.only {S : Nat → Prop} {B : Nat} {w w' : World} {v : Value} {n : Nat} {p : Nat → Bool} (h : BSl B w v n p) (o : Only S w w') (hs : ∀ bs, B ≤ bs → bs < w.heap.size → v.ownBlock = some bs → ¬ S bs) : BSl B w' v n p := by
  rcases h with h | ⟨bs, h1, h2, h3⟩
  · exact .inl h
  · exact .inr ⟨bs, h1, h2, h3.only o (hs bs h2 h3.lt (by rw [h1]; rfl))⟩
theorem BSl.own {B : Nat} {w : World} {v : Value} {n : Nat} {p : Nat → Bool} (h : BSl B w v n p) (bs : Nat) (e : v.ownBlock = some bs) : B ≤ bs ∧ bs < w.heap.size := by
  rcases h with ⟨h, _⟩ | ⟨b2, h1, h2, h3⟩
  · rw [h] at e; simp [Value.ownBlock] at e
  · rw [h1] at e; simp [Value.ownBlock] at e; subst e; exact ⟨h2, h3.lt⟩
theorem BSl.form {B : Nat} {w : World} {v : Value} {n : Nat} {p : Nat → Bool} (h : BSl B w v n p) : ∃ ad c, v = .slice ad n c := by
  rcases h with ⟨h, e⟩ | ⟨bs, h1, _⟩
  · exact ⟨none, 0, by rw [h, e]⟩
  · exact ⟨_, _, h1⟩

set_option maxHeartbeats 1000000 in
theorem eqBoolS_zero (a1 a2 : Option Addr) (c1 c2 : Nat) (w : World) :
    Calls Tryz.prog 16 #[.slice a1 0 c1, .slice a2 0 c2] w fun e w' => e = .returned (.bool true) ∧ Ext w w' := by
  go_enter Tryz.func16, Tryz.ntmps16
  go_wp2_with fail
  go_loopw [5] (fun i wr => i = .int .i64 0 ∧ wr = w) (fun _ _ => 0)
  case atStart => exact ⟨rfl, rfl⟩
  case round =>
    obtain ⟨rfl, rfl⟩ := hrel
    go_wp2_with fail
    go_ret
    exact ⟨rfl, Ext.refl _⟩
set_option maxHeartbeats 1000000 in
theorem markBoolS_zero (a1 : Option Addr) (c1 : Nat) (k0 : Int) (w : World) :
    Calls Tryz.prog 19 #[.slice a1 0 c1, .int .i64 k0] w fun e w' => e = .returned (.int .i64 k0) ∧ w' = w := by
  go_enter Tryz.func19, Tryz.ntmps19
  go_wp2_with fail
  go_loopw [1, 5] (fun kk i wr => kk = .int .i64 k0 ∧ i = .int .i64 0 ∧ wr = w) (fun _ _ _ => 0)
  case atStart => exact ⟨rfl, rfl, rfl⟩
  case round =>
    obtain ⟨rfl, rfl, rfl⟩ := hrel
    go_wp2_with fail
    go_ret
    exact ⟨rfl, rfl⟩
set_option maxHeartbeats 1000000 in
theorem heldBoolS_zero (a1 : Option Addr) (c1 : Nat) (k0 : Int) (w : World) :
    Calls Tryz.prog 20 #[.slice a1 0 c1, .int .i64 k0] w fun e w' => e = .returned (.int .i64 k0) ∧ w' = w := by
  go_enter Tryz.func20, Tryz.ntmps20
  go_wp2_with fail
  go_loopw [1, 5] (fun kk i wr => kk = .int .i64 k0 ∧ i = .int .i64 0 ∧ wr = w) (fun _ _ _ => 0)
  case atStart => exact ⟨rfl, rfl, rfl⟩
  case round =>
    obtain ⟨rfl, rfl, rfl⟩ := hrel
    go_wp2_with fail
    go_ret
    exact ⟨rfl, rfl⟩

theorem eqB {B1 B2 n : Nat} {v1 v2 : Value} {p : Nat → Bool} {w : World} (h1 : BSl B1 w v1 n p) (h2 : BSl B2 w v2 n p) (hn : n ≤ 1048576) :
    Calls Tryz.prog 16 #[v1, v2] w fun e w' => e = .returned (.bool true) ∧ Ext w w' := by
  obtain ⟨a1, c1, e1⟩ := h1.form
  obtain ⟨a2, c2, e2⟩ := h2.form
  rcases h1 with ⟨_, z⟩ | ⟨b1, f1, _, r1⟩
  · subst z; rw [e1, e2]; exact eqBoolS_zero a1 a2 c1 c2 w
  · rcases h2 with ⟨_, z⟩ | ⟨b2, f2, _, r2⟩
    · subst z; rw [e1, e2]; exact eqBoolS_zero a1 a2 c1 c2 w
    · rw [f1, f2]; exact eqBoolS_same b1 b2 n n n p w r1 r2 hn
theorem markB {B n : Nat} {v : Value} {p : Nat → Bool} {w : World} (h : BSl B w v n p) (hn : n ≤ 1048576) :
    Calls Tryz.prog 19 #[v, .int .i64 1] w fun e w' => e = .returned (.int .i64 (1 + n)) ∧ BSl B w' v n (m3 1) ∧ Only (fun q => v.ownBlock = some q) w w' := by
  rcases h with ⟨f, z⟩ | ⟨bs, f, hb, r⟩
  · subst z; rw [f]
    exact (markBoolS_zero none 0 1 w).mono fun _ _ ⟨he, hw⟩ => by subst hw; exact ⟨by rw [he]; rfl, .inl ⟨rfl, rfl⟩, Only.refl _ _⟩
  · rw [f]
    exact (markBoolS_any bs n n 1 p w r hn (by omega) (by omega)).mono fun _ _ ⟨he, hr, ho⟩ => ⟨he, .inr ⟨bs, rfl, hb, hr⟩, ho.mono (fun q e => by rw [e]; rfl)⟩
theorem heldB {B n : Nat} {v : Value} {w : World} (h : BSl B w v n (m3 1)) (hn : n ≤ 1048576) :
    Calls Tryz.prog 20 #[v, .int .i64 1] w fun e w' => e = .returned (.int .i64 (1 + n)) ∧ w' = w := by
  rcases h with ⟨f, z⟩ | ⟨bs, f, hb, r⟩
  · subst z; rw [f]
    exact (heldBoolS_zero none 0 1 w).mono fun _ _ ⟨he, hw⟩ => ⟨by rw [he]; rfl, hw⟩
  · rw [f]
    exact heldBoolS_any bs n n 1 w r hn (by omega) (by omega)

/-- what Reach, or Holds, answers -/
def QAns (Q : Nat → Prop) (x : Hp) (w w' : World) (v : Value) : Prop := (¬ OkIs x 0 ∧ v = .slice none 0 0) ∨ (OkIs x 0 ∧ ∃ (bs : Nat) (p : Nat → Bool), v = .slice (some ⟨bs, 0, none⟩) x.cells.length x.cells.length ∧ w.heap.size ≤ bs ∧ BRow w' bs x.cells.length x.cells.length p ∧ ∀ i, p i = true ↔ Q i)
theorem qans (Q : Nat → Prop) (x : Hp) : ∃ (n : Nat) (p : Nat → Bool), n ≤ 8000 ∧ ∀ w w' v, QAns Q x w w' v → BSl w.heap.size w' v n p := by
  by_cases ok : OkIs x 0
  · by_cases ex : ∃ w w' v, QAns Q x w w' v
    · obtain ⟨_, _, _, h⟩ := ex
      rcases h with h | ⟨_, _, p, _, _, _, hp⟩
      · exact (h.1 ok).elim
      · refine ⟨x.cells.length, p, ok.n8, fun w w' v h => ?_⟩
        rcases h with h | ⟨_, bs, q, e, hb, hr, hq⟩
        · exact (h.1 ok).elim
        · have : q = p := funext fun i => by rw [Bool.eq_iff_iff, hp, hq]
          subst this
          exact .inr ⟨bs, e, hb, hr⟩
    · exact ⟨0, fun _ => false, by omega, fun w w' v h => (ex ⟨w, w', v, h⟩).elim⟩
  · refine ⟨0, fun _ => false, by omega, fun w w' v h => ?_⟩
    rcases h with h | h
    · exact .inl ⟨h.2, rfl⟩
    · exact (ok h.1).elim

/-- a heap's box -/
def HBox (w : World) (B : Nat) (x : Hp) (vr vc vg : Value) : Prop :=
  w.cell? ⟨B, 0, none⟩ = some (iv x.room) ∧ w.cell? ⟨B, 1, none⟩ = some (iv x.used) ∧ w.cell? ⟨B, 2, none⟩ = some (iv x.born) ∧ w.cell? ⟨B, 3, none⟩ = some vr ∧ w.cell? ⟨B, 4, none⟩ = some vc ∧ w.cell? ⟨B, 5, none⟩ = some (iv x.phase) ∧ w.cell? ⟨B, 6, none⟩ = some (iv x.hand) ∧ w.cell? ⟨B, 7, none⟩ = some (iv x.sub) ∧ w.cell? ⟨B, 8, none⟩ = some vg ∧ w.cell? ⟨B, 9, none⟩ = some (iv x.per) ∧ w.cell? ⟨B, 10, none⟩ = some (iv x.start) ∧ w.cell? ⟨B, 11, none⟩ = some (iv x.rounds) ∧ w.cell? ⟨B, 12, none⟩ = some (iv x.forced)
theorem HBox.ext {w w' : World} {B : Nat} {x : Hp} {vr vc vg : Value} (h : HBox w B x vr vc vg) (e : Ext w w') : HBox w' B x vr vc vg := by
  obtain ⟨h0, h1, h2, h3, h4, h5, h6, h7, h8, h9, h10, h11, h12⟩ := h
  exact ⟨e.keep h0, e.keep h1, e.keep h2, e.keep h3, e.keep h4, e.keep h5, e.keep h6, e.keep h7, e.keep h8, e.keep h9, e.keep h10, e.keep h11, e.keep h12⟩
theorem HBox.new (w : World) (x : Hp) (vr vc vg : Value) (t : TypeId) : HBox (w.alloc (.cells #[iv x.room, iv x.used, iv x.born, vr, vc, iv x.phase, iv x.hand, iv x.sub, vg, iv x.per, iv x.start, iv x.rounds, iv x.forced] t)) w.heap.size x vr vc vg := by
  refine ⟨?_, ?_, ?_, ?_, ?_, ?_, ?_, ?_, ?_, ?_, ?_, ?_, ?_⟩ <;> simp [go_sem]
end Go.Proofs.YtkabcfhemljnbaaGreat
