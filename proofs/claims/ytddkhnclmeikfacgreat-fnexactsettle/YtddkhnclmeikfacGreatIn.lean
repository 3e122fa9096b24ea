import Derived.Test.YtddkhnclmeikfacGreatCpd
import Derived.Test.YtddkhnclmeikfacGreatTo
import Derived.Test.YtddkhnclmeikfacGreatLm
import Derived.Deep.QuietTactic
import Derived.BigQuiet
namespace Go.Proofs.YtddkhnclmeikfacGreat
open Go.RowKit

/-- the rows of a store in memory of its own: registers in block br, cell q at place cO q of block cB q, pairs of cell q in block pb q; all from B on -/
structure Rwn (B : Nat) (w : World) (x : Hp) (br : Nat) (cB cO : Nat → Nat) (pb : Nat → Nat) (pa : Nat → Option Addr) (pk : Nat → Nat) : Prop where
  r : ∀ i (hi : i < x.regs.length), WdAt w br (i * 3) x.regs[i]
  s : ∀ q, q < x.cells.length → S7 w (cB q) (cO q) (x.c q)
  p7 : ∀ q, q < x.cells.length → w.cell? ⟨cB q, cO q + 7, none⟩ = some (.slice (pa q) (x.c q).prs.length (pk q))
  p : ∀ q, q < x.cells.length → ∀ k, k < (x.c q).prs.length → PrAt w (pb q) (k * 6) ((x.c q).p k)
  pl : ∀ q, q < x.cells.length → 0 < (x.c q).prs.length → pa q = some ⟨pb q, 0, none⟩ ∧ Nf1 (pb q) w ∧ (pb q ≠ br ∧ ∀ j, j < x.cells.length → pb q ≠ cB j) ∧ B ≤ pb q
  nr : 0 < x.regs.length → Nf1 br w ∧ B ≤ br
  nc : ∀ q, q < x.cells.length → Nf1 (cB q) w ∧ B ≤ cB q
  d : ∀ q, q < x.cells.length → br ≠ cB q
  dp : ∀ q q', q < x.cells.length → q' < x.cells.length → q ≠ q' → 0 < (x.c q).prs.length → 0 < (x.c q').prs.length → pb q ≠ pb q'
  dc : ∀ q q', q < x.cells.length → q' < x.cells.length → q ≠ q' → cB q ≠ cB q' ∨ cO q + 8 ≤ cO q' ∨ cO q' + 8 ≤ cO q
  kp : CapP x pk
/-- blocks that are as they were -/
theorem Rwn.same {B : Nat} {w w' : World} {x : Hp} {br : Nat} {cB cO pb : Nat → Nat} {pa : Nat → Option Addr} {pk : Nat → Nat} (h : Rwn B w x br cB cO pb pa pk) (hs : w.heap.size ≤ w'.heap.size)
    (hr : 0 < x.regs.length → w'.heap[br]? = w.heap[br]?) (hc : ∀ q, q < x.cells.length → w'.heap[cB q]? = w.heap[cB q]?) (hp : ∀ q, q < x.cells.length → 0 < (x.c q).prs.length → w'.heap[pb q]? = w.heap[pb q]?) : Rwn B w' x br cB cO pb pa pk where
  r := fun i hi => (h.r i hi).of fun j _ => World.cell?_of_block (a := ⟨br, _, none⟩) (hr (by omega))
  s := fun q hq => (h.s q hq).of fun j _ => World.cell?_of_block (a := ⟨cB q, _, none⟩) (hc q hq)
  p7 := fun q hq => (World.cell?_of_block (a := ⟨cB q, _, none⟩) (hc q hq)).trans (h.p7 q hq)
  p := fun q hq k hk => (h.p q hq k hk).of fun j _ => World.cell?_of_block (a := ⟨pb q, _, none⟩) (hp q hq (by omega))
  pl := fun q hq hl => let ⟨a, b, c⟩ := h.pl q hq hl; ⟨a, nf1_block b (hp q hq hl) hs, c⟩
  nr := fun hl => ⟨nf1_block (h.nr hl).1 (hr hl) hs, (h.nr hl).2⟩
  nc := fun q hq => ⟨nf1_block (h.nc q hq).1 (hc q hq) hs, (h.nc q hq).2⟩
  d := h.d
  dp := h.dp
  dc := h.dc
  kp := h.kp
theorem Rwn.ext {B : Nat} {w w' : World} {x : Hp} {br : Nat} {cB cO pb : Nat → Nat} {pa : Nat → Option Addr} {pk : Nat → Nat} (h : Rwn B w x br cB cO pb pa pk) (e : Ext w w') : Rwn B w' x br cB cO pb pa pk :=
  h.same e.size (fun hl => e.block _ (h.nr hl).1.1) (fun q hq => e.block _ (h.nc q hq).1.1) (fun q hq hl => e.block _ (h.pl q hq hl).2.1.1)
theorem Rwn.only {S : Nat → Prop} {B : Nat} {w w' : World} {x : Hp} {br : Nat} {cB cO pb : Nat → Nat} {pa : Nat → Option Addr} {pk : Nat → Nat} (h : Rwn B w x br cB cO pb pa pk) (e : Only S w w') (hr : 0 < x.regs.length → ¬ S br) (hc : ∀ q, q < x.cells.length → ¬ S (cB q)) (hp : ∀ q, q < x.cells.length → 0 < (x.c q).prs.length → ¬ S (pb q)) : Rwn B w' x br cB cO pb pa pk :=
  h.same e.size (fun hl => e.block _ (h.nr hl).1.1 (hr hl)) (fun q hq => e.block _ (h.nc q hq).1.1 (hc q hq)) (fun q hq hl => e.block _ (h.pl q hq hl).2.1.1 (hp q hq hl))
theorem Rwn.slW {B : Nat} {w : World} {x : Hp} {br : Nat} {cB cO pb : Nat → Nat} {pa : Nat → Option Addr} {pk : Nat → Nat} (h : Rwn B w x br cB cO pb pa pk) {ad : Option Addr} (kr : Nat) (ha : 0 < x.regs.length → ad = some ⟨br, 0, none⟩) (hl : x.regs.length ≤ 1048576) : SlW w (.slice ad x.regs.length kr) x.regs :=
  ⟨_, _, rfl, by omega, fun i hi => ⟨br, 0, ha (by omega), by rw [Nat.zero_add]; exact h.r i hi⟩⟩
/-- where one cell is written, the others stay -/
theorem Rwn.far8 {B : Nat} {w : World} {x : Hp} {br : Nat} {cB cO pb : Nat → Nat} {pa : Nat → Option Addr} {pk : Nat → Nat} (h : Rwn B w x br cB cO pb pa pk) {i q : Nat} (hi : i < x.cells.length) (hq : q < x.cells.length) (e : q ≠ i) {w1 w2 : World} (hs : w.heap.size ≤ w1.heap.size) (o : Only (fun d => d = cB i) w1 w2) (ho : ∀ k, (k < cO i ∨ cO i + 8 ≤ k) → w2.cell? ⟨cB i, k, none⟩ = w1.cell? ⟨cB i, k, none⟩) (k : Nat) (hk : k < 8) : w2.cell? ⟨cB q, cO q + k, none⟩ = w1.cell? ⟨cB q, cO q + k, none⟩ := by
  by_cases e2 : cB q = cB i
  · rw [e2]
    rcases h.dc q i hq hi e with d | d | d
    · exact (d e2).elim
    · exact ho _ (by omega)
    · exact ho _ (by omega)
  · exact World.cell?_of_block (a := ⟨cB q, _, none⟩) (o.block (cB q) (Nat.lt_of_lt_of_le (h.nc q hq).1.1 hs) e2)
theorem nf1_cell {i q : Nat} {cB : Nat → Nat} {w1 w2 : World} (h : Nf1 (cB q) w1) (n : Nf1 (cB i) w2) (o : Only (fun d => d = cB i) w1 w2) : Nf1 (cB q) w2 := by
  by_cases e2 : cB q = cB i
  · rw [e2]; exact n
  · exact nf1_block h (o.block (cB q) h.1 e2) o.size
/-- the cells in one row -/
theorem Rws.rwn {B : Nat} {w : World} {x : Hp} {br bc : Nat} {pb : Nat → Nat} {pa : Nat → Option Addr} {pk : Nat → Nat} (h : Rws B w x br bc pb pa pk) (k : CapP x pk) : Rwn B w x br (fun _ => bc) (fun q => q * 8) pb pa pk where
  r := h.r
  s := h.s
  p7 := h.p7
  p := h.p
  pl := fun q hq hl => let ⟨a, b, c, d⟩ := h.pl q hq hl; ⟨a, b, ⟨c.1, fun _ _ => c.2⟩, d⟩
  nr := h.nr
  nc := fun q hq => h.nc (by omega)
  d := fun q hq => h.d (by omega)
  dp := h.dp
  dc := fun q q' _ _ e => .inr (by omega)
  kp := k
end Go.Proofs.YtddkhnclmeikfacGreat

namespace Go.Proofs.YtddkhnclmeikfacGreat
open Go.RowKit

/-! The store's box: 4018 cells, of which 4000 are the ring's. -/
theorem zeroStore : Tryz.zeroCells138.size = 4018 ∧ Tryz.zeroCells138[4015]? = some (iv 0) ∧ Tryz.zeroCells138[4016]? = some (iv 0) ∧ Tryz.zeroCells138[4017]? = some (.slice none 0 0) := ⟨by kernel_rfl, by kernel_rfl, by kernel_rfl, by kernel_rfl⟩
abbrev stZ (cs : Array Value) (v0 v1 v2 v3 v4 v5 v6 v7 v8 v9 v10 v11 v12 v13 v14 : Value) : Array Value := (((((((((((((((cs.setIfInBounds 0 v0).setIfInBounds 1 v1).setIfInBounds 2 v2).setIfInBounds 3 v3).setIfInBounds 4 v4).setIfInBounds 5 v5).setIfInBounds 6 v6).setIfInBounds 7 v7).setIfInBounds 8 v8).setIfInBounds 9 v9).setIfInBounds 10 v10).setIfInBounds 11 v11).setIfInBounds 12 v12).setIfInBounds 13 v13).setIfInBounds 14 v14)
theorem stZ_at (cs : Array Value) (v0 v1 v2 v3 v4 v5 v6 v7 v8 v9 v10 v11 v12 v13 v14 : Value) (s0 : cs.size = 4018) (s1 : cs[4015]? = some (iv 0)) (s2 : cs[4016]? = some (iv 0)) (s3 : cs[4017]? = some (.slice none 0 0)) : (stZ cs v0 v1 v2 v3 v4 v5 v6 v7 v8 v9 v10 v11 v12 v13 v14).size = 4018 ∧
      ((stZ cs v0 v1 v2 v3 v4 v5 v6 v7 v8 v9 v10 v11 v12 v13 v14)[0]? = some v0 ∧ (stZ cs v0 v1 v2 v3 v4 v5 v6 v7 v8 v9 v10 v11 v12 v13 v14)[1]? = some v1 ∧ (stZ cs v0 v1 v2 v3 v4 v5 v6 v7 v8 v9 v10 v11 v12 v13 v14)[2]? = some v2 ∧ (stZ cs v0 v1 v2 v3 v4 v5 v6 v7 v8 v9 v10 v11 v12 v13 v14)[3]? = some v3 ∧ (stZ cs v0 v1 v2 v3 v4 v5 v6 v7 v8 v9 v10 v11 v12 v13 v14)[4]? = some v4 ∧ (stZ cs v0 v1 v2 v3 v4 v5 v6 v7 v8 v9 v10 v11 v12 v13 v14)[5]? = some v5 ∧ (stZ cs v0 v1 v2 v3 v4 v5 v6 v7 v8 v9 v10 v11 v12 v13 v14)[6]? = some v6 ∧ (stZ cs v0 v1 v2 v3 v4 v5 v6 v7 v8 v9 v10 v11 v12 v13 v14)[7]? = some v7 ∧ (stZ cs v0 v1 v2 v3 v4 v5 v6 v7 v8 v9 v10 v11 v12 v13 v14)[8]? = some v8 ∧ (stZ cs v0 v1 v2 v3 v4 v5 v6 v7 v8 v9 v10 v11 v12 v13 v14)[9]? = some v9 ∧ (stZ cs v0 v1 v2 v3 v4 v5 v6 v7 v8 v9 v10 v11 v12 v13 v14)[10]? = some v10 ∧ (stZ cs v0 v1 v2 v3 v4 v5 v6 v7 v8 v9 v10 v11 v12 v13 v14)[11]? = some v11 ∧ (stZ cs v0 v1 v2 v3 v4 v5 v6 v7 v8 v9 v10 v11 v12 v13 v14)[12]? = some v12 ∧ (stZ cs v0 v1 v2 v3 v4 v5 v6 v7 v8 v9 v10 v11 v12 v13 v14)[13]? = some v13 ∧ (stZ cs v0 v1 v2 v3 v4 v5 v6 v7 v8 v9 v10 v11 v12 v13 v14)[14]? = some v14) ∧
      (stZ cs v0 v1 v2 v3 v4 v5 v6 v7 v8 v9 v10 v11 v12 v13 v14)[4015]? = some (iv 0) ∧ (stZ cs v0 v1 v2 v3 v4 v5 v6 v7 v8 v9 v10 v11 v12 v13 v14)[4016]? = some (iv 0) ∧ (stZ cs v0 v1 v2 v3 v4 v5 v6 v7 v8 v9 v10 v11 v12 v13 v14)[4017]? = some (.slice none 0 0) := by
  unfold stZ
  exact ⟨by simp [s0], by simp [s0], by simp [s1], by simp [s2], by simp [s3]⟩
end Go.Proofs.YtddkhnclmeikfacGreat

namespace Go.Proofs.YtddkhnclmeikfacGreat
open Go.RowKit
attribute [local go_sem ↓] Go.wp_at_zero Go.wp_at_succ

/-! The small questions of the model's first chapter. -/
def usedB (x : Hp) (i : Nat) : Bool := (x.c i).st == 1
def formedB (w : Wd) (n : Nat) : Bool := if w.k = 0 then w.n == 0 && w.a == 0 else if w.k = 1 then w.a == 0 else if w.k = 2 then w.n == 0 && decide (0 ≤ w.a) && decide (w.a < n) else false
def doomedB (x : Hp) (i : Nat) : Bool := (x.phase == 3) && decide (x.hand ≤ i) && ((x.c i).st == 1) && ((x.c i).color == 0)
def mendedB (x : Hp) (i k : Nat) : Bool := if x.phase = 4 then false else if x.phase = 5 then decide ((i : Int) < x.hand) || ((i : Int) == x.hand && decide ((k : Int) < x.sub)) else true
theorem usedB_iff {x : Hp} {i : Nat} : usedB x i = true ↔ (x.c i).st = 1 := by simp [usedB]
theorem doomedB_iff {x : Hp} {i : Nat} : doomedB x i = true ↔ Doomed x i := by simp [doomedB, Doomed, and_assoc]
theorem formedB_iff {w : Wd} {n : Nat} : formedB w n = true ↔ Formed w n := by
  unfold formedB Formed
  by_cases h0 : w.k = 0
  · simp [h0]
  · by_cases h1 : w.k = 1
    · simp [h1]
    · by_cases h2 : w.k = 2
      · simp [h2, and_assoc]
      · simp [h0, h1, h2]
theorem mendedB_iff {x : Hp} {i k : Nat} : mendedB x i k = true ↔ Mended x i k := by
  unfold mendedB Mended
  by_cases h4 : x.phase = 4
  · simp [h4]
  · by_cases h5 : x.phase = 5
    · simp [h5]
    · simp [h4, h5]

theorem l1used_any (x : Hp) (b : Nat) (a : Int) (w : World) {ar : Option Addr} {kr : Nat} {ac : Option Addr} {kc : Nat} {ag : Option Addr} {kg : Nat} (h : HAt w b x ar kr ac kc ag kg) (h0 : 0 ≤ a) (h1 : a < x.cells.length) :
    Calls Tryz.prog 168 #[.pointer (some ⟨b, 0, none⟩), .int .i64 a] w fun e w' => e = .returned (.bool (usedB x a.toNat)) ∧ w' = w := by
  obtain ⟨i, rfl⟩ := Int.eq_ofNat_of_zero_le h0
  rw [Int.toNat_natCast]
  obtain ⟨b', o, rfl, vp, p0, _⟩ := h.C i (by omega)
  have c4 := h.c4
  have lc := h.lc
  clear h
  go_enter Tryz.func168, Tryz.ntmps168
  go_wp2
  go_ret
  exact ⟨rfl, rfl⟩

theorem l1formed_any (x : Wd) (n : Nat) (w : World) : Calls Tryz.prog 172 #[x.v, .int .i64 n] w fun e w' => e = .returned (.bool (formedB x n)) ∧ Ext w w' := by
  by_cases h0 : x.k = 0
  · have e : formedB x n = (x.n == 0 && x.a == 0) := by simp [formedB, h0]
    have E := hide e
    clear e
    cases q : (x.n == 0)
    all_goals
      go_enter Tryz.func172, Tryz.ntmps172
      go_wp2
      go_ret
      exact ⟨by rw [unhide E]; simp [q], (Ext.refl w).alloc _⟩
  · have k0 : (x.k == 0) = false := by simp [h0]
    by_cases h1 : x.k = 1
    · have e : formedB x n = (x.a == 0) := by simp [formedB, h1]
      have E := hide e
      clear e h0 k0
      go_enter Tryz.func172, Tryz.ntmps172
      go_wp2
      go_ret
      exact ⟨by rw [unhide E]; simp, (Ext.refl w).alloc _⟩
    · have k1 : (x.k == 1) = false := by simp [h1]
      by_cases h2 : x.k = 2
      · have e : formedB x n = (x.n == 0 && decide (0 ≤ x.a) && decide (x.a < n)) := by simp [formedB, h2]
        have E := hide e
        clear e h0 k0 h1 k1
        cases q : (x.n == 0)
        · go_enter Tryz.func172, Tryz.ntmps172
          go_wp2
          go_ret
          exact ⟨by rw [unhide E]; simp [q], (Ext.refl w).alloc _⟩
        · by_cases q2 : 0 ≤ x.a
          · go_enter Tryz.func172, Tryz.ntmps172
            go_wp2
            go_ret
            exact ⟨by rw [unhide E]; simp [q, q2], (Ext.refl w).alloc _⟩
          · have q3 : decide (0 ≤ x.a) = false := by simp; omega
            go_enter Tryz.func172, Tryz.ntmps172
            go_wp2
            go_ret
            exact ⟨by rw [unhide E, q3]; simp, (Ext.refl w).alloc _⟩
      · have k2 : (x.k == 2) = false := by simp [h2]
        have e : formedB x n = false := by simp [formedB, h0, h1, h2]
        have E := hide e
        clear e
        go_enter Tryz.func172, Tryz.ntmps172
        go_wp2
        go_ret
        exact ⟨by rw [unhide E]; rfl, (Ext.refl w).alloc _⟩

set_option maxHeartbeats 600000 in
theorem l1doomed_any (x : Hp) (b : Nat) (a : Int) (w : World) {ar : Option Addr} {kr : Nat} {ac : Option Addr} {kc : Nat} {ag : Option Addr} {kg : Nat} (h : HAt w b x ar kr ac kc ag kg) (h0 : 0 ≤ a) (h1 : a < x.cells.length) :
    Calls Tryz.prog 171 #[.pointer (some ⟨b, 0, none⟩), .int .i64 a] w fun e w' => e = .returned (.bool (doomedB x a.toNat)) ∧ w' = w := by
  obtain ⟨i, rfl⟩ := Int.eq_ofNat_of_zero_le h0
  rw [Int.toNat_natCast]
  have hu := l1used_any x b i w h h0 h1
  rw [Int.toNat_natCast] at hu
  have HU := hide hu
  clear hu
  obtain ⟨b', o, rfl, vp, p0, p1, p2, p3, p4, p5, _⟩ := h.C i (by omega)
  have c4 := h.c4
  have c5 := h.c5
  have c6 := h.c6
  have lc := h.lc
  clear h
  cases q1 : (x.phase == 3)
  · go_enter Tryz.func171, Tryz.ntmps171
    go_wp2
    go_ret
    exact ⟨by simp [doomedB, q1], rfl⟩
  · cases q2 : decide (x.hand ≤ (i : Int))
    · go_enter Tryz.func171, Tryz.ntmps171
      go_wp2
      go_ret
      exact ⟨by simp [doomedB, q1, q2], rfl⟩
    · cases q3 : usedB x i
      · go_enter Tryz.func171, Tryz.ntmps171
        go_wp2_with (go_at_call 168; refine (unhide HU).mono ?_; rintro e w' ⟨rfl, rfl⟩)
        go_ret
        exact ⟨by unfold usedB at q3; simp [doomedB, q3], rfl⟩
      · go_enter Tryz.func171, Tryz.ntmps171
        go_wp2_with (go_at_call 168; refine (unhide HU).mono ?_; rintro e w' ⟨rfl, rfl⟩)
        go_ret
        exact ⟨by unfold usedB at q3; simp [doomedB, q1, q2, q3], rfl⟩

theorem l1mended_any (x : Hp) (b i k : Nat) (w : World) {ar : Option Addr} {kr : Nat} {ac : Option Addr} {kc : Nat} {ag : Option Addr} {kg : Nat} (h : HAt w b x ar kr ac kc ag kg) :
    Calls Tryz.prog 173 #[.pointer (some ⟨b, 0, none⟩), .int .i64 i, .int .i64 k] w fun e w' => e = .returned (.bool (mendedB x i k)) ∧ w' = w := by
  have c5 := h.c5
  have c6 := h.c6
  have c7 := h.c7
  clear h
  by_cases h4 : x.phase = 4
  · have E := hide (show mendedB x i k = false by simp [mendedB, h4])
    go_enter Tryz.func173, Tryz.ntmps173
    go_wp2
    go_ret
    exact ⟨by rw [unhide E]; rfl, rfl⟩
  · have k4 : (x.phase == 4) = false := by simp [h4]
    by_cases h5 : x.phase = 5
    · have E := hide (show mendedB x i k = (decide ((i : Int) < x.hand) || ((i : Int) == x.hand && decide ((k : Int) < x.sub))) by simp [mendedB, h5])
      clear h4 k4
      cases q1 : decide ((i : Int) < x.hand)
      · cases q2 : ((i : Int) == x.hand)
        · go_enter Tryz.func173, Tryz.ntmps173
          go_wp2
          go_ret
          exact ⟨by rw [unhide E, q1, q2]; simp, rfl⟩
        · go_enter Tryz.func173, Tryz.ntmps173
          go_wp2
          go_ret
          exact ⟨by rw [unhide E, q1, q2]; simp, rfl⟩
      · go_enter Tryz.func173, Tryz.ntmps173
        go_wp2
        go_ret
        exact ⟨by rw [unhide E, q1]; simp, rfl⟩
    · have k5 : (x.phase == 5) = false := by simp [h5]
      have E := hide (show mendedB x i k = true by simp [mendedB, h4, h5])
      go_enter Tryz.func173, Tryz.ntmps173
      go_wp2
      go_ret
      exact ⟨by rw [unhide E]; rfl, rfl⟩
end Go.Proofs.YtddkhnclmeikfacGreat

namespace Go.Proofs.YtddkhnclmeikfacGreat
open Go.RowKit
attribute [local go_sem ↓] Go.wp_at_zero Go.wp_at_succ

theorem within_in (n lo hi : Int) (w : World) (h1 : lo ≤ n) (h2 : n ≤ hi) : Calls Tryz.prog 146 #[.int .i64 n, .int .i64 lo, .int .i64 hi] w fun e w' => e = .returned (.bool true) ∧ w' = w := by
  go_enter Tryz.func146, Tryz.ntmps146
  go_wp2
  go_ret
  exact ⟨rfl, rfl⟩
theorem within_out (n lo hi : Int) (w : World) (h : n < lo ∨ hi < n) : Calls Tryz.prog 146 #[.int .i64 n, .int .i64 lo, .int .i64 hi] w fun e w' => e = .returned (.bool false) ∧ w' = w := by
  by_cases h1 : lo ≤ n
  · have h2 : hi < n := by omega
    go_enter Tryz.func146, Tryz.ntmps146
    go_wp2
    go_ret
    exact ⟨by simp; omega, rfl⟩
  · go_enter Tryz.func146, Tryz.ntmps146
    go_wp2
    go_ret
    exact ⟨rfl, rfl⟩
def withinB (n lo hi : Int) : Bool := decide (lo ≤ n ∧ n ≤ hi)
theorem within_any (n lo hi : Int) (w : World) : Calls Tryz.prog 146 #[.int .i64 n, .int .i64 lo, .int .i64 hi] w fun e w' => e = .returned (.bool (withinB n lo hi)) ∧ w' = w := by
  by_cases h : lo ≤ n ∧ n ≤ hi
  · have e : withinB n lo hi = true := by simp [withinB, h]
    rw [e]; exact within_in n lo hi w h.1 h.2
  · have e : withinB n lo hi = false := by unfold withinB; exact decide_eq_false h
    rw [e]; exact within_out n lo hi w (by omega)

theorem l1in_in (n lo hi : Int) (w : World) (h1 : lo ≤ n) (h2 : n ≤ hi) : Calls Tryz.prog 72 #[.int .i64 n, .int .i64 lo, .int .i64 hi] w fun e w' => e = .returned (.bool true) ∧ w' = w := by
  go_enter Tryz.func72, Tryz.ntmps72
  go_wp2
  go_ret
  exact ⟨rfl, rfl⟩
theorem l1in_out (n lo hi : Int) (w : World) (h : n < lo ∨ hi < n) : Calls Tryz.prog 72 #[.int .i64 n, .int .i64 lo, .int .i64 hi] w fun e w' => e = .returned (.bool false) ∧ w' = w := by
  by_cases h1 : lo ≤ n
  · have h2 : hi < n := by omega
    go_enter Tryz.func72, Tryz.ntmps72
    go_wp2
    go_ret
    exact ⟨by simp; omega, rfl⟩
  · go_enter Tryz.func72, Tryz.ntmps72
    go_wp2
    go_ret
    exact ⟨rfl, rfl⟩
def l1inB (n lo hi : Int) : Bool := decide (lo ≤ n ∧ n ≤ hi)
theorem l1in_any (n lo hi : Int) (w : World) : Calls Tryz.prog 72 #[.int .i64 n, .int .i64 lo, .int .i64 hi] w fun e w' => e = .returned (.bool (l1inB n lo hi)) ∧ w' = w := by
  by_cases h : lo ≤ n ∧ n ≤ hi
  · have e : l1inB n lo hi = true := by simp [l1inB, h]
    rw [e]; exact l1in_in n lo hi w h.1 h.2
  · have e : l1inB n lo hi = false := by unfold l1inB; exact decide_eq_false h
    rw [e]; exact l1in_out n lo hi w (by omega)
end Go.Proofs.YtddkhnclmeikfacGreat
