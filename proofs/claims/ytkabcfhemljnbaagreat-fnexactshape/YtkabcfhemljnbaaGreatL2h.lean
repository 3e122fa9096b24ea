import Derived.Test.YtkabcfhemljnbaaGreatL2a
import Derived.Test.YtkabcfhemljnbaaGreatImpR
import Derived.Deep.RegionWith
import Derived.Deep.DeepCutAuto
namespace Go.Proofs.YtkabcfhemljnbaaGreat
open Go.RowKit
attribute [local go_sem ↓] Go.wp_at_zero Go.wp_at_succ

/-- holds its keys, its values, strongly -/
def SK (c : Cl) : Prop := c.weak ≠ 1 ∧ c.weak ≠ 3
def SV (c : Cl) : Prop := c.weak ≠ 2 ∧ c.weak ≠ 3
/-- what is held -/
def Held (x : Hp) (i : Nat) : Prop := ∀ P : Nat → Prop, (∀ k (h : k < x.regs.length), x.regs[k].k = 2 → P (tgt x x.regs[k])) → (∀ i, i < x.cells.length → (x.c i).last = 2 → P i) →
  (∀ j p, P j → p < (x.c j).prs.length → SK (x.c j) → ((x.c j).p p).key.k = 2 → P (tgt x ((x.c j).p p).key)) →
  (∀ j p, P j → p < (x.c j).prs.length → SV (x.c j) → (((x.c j).p p).key.k = 2 → P (tgt x ((x.c j).p p).key)) → ((x.c j).p p).val.k = 2 → P (tgt x ((x.c j).p p).val)) → P i
theorem Held.reg {x : Hp} (k : Nat) (h : k < x.regs.length) (hk : x.regs[k].k = 2) : Held x (tgt x x.regs[k]) := fun _ a _ _ _ => a k h hk
theorem Held.due {x : Hp} (i : Nat) (hi : i < x.cells.length) (h : (x.c i).last = 2) : Held x i := fun _ _ b _ _ => b i hi h
theorem Held.key {x : Hp} (j p : Nat) (h : Held x j) (hp : p < (x.c j).prs.length) (hs : SK (x.c j)) (hk : ((x.c j).p p).key.k = 2) : Held x (tgt x ((x.c j).p p).key) := fun P a b c d => c j p (h P a b c d) hp hs hk
theorem Held.val {x : Hp} (j p : Nat) (h : Held x j) (hp : p < (x.c j).prs.length) (hs : SV (x.c j)) (hh : ((x.c j).p p).key.k = 2 → Held x (tgt x ((x.c j).p p).key)) (hk : ((x.c j).p p).val.k = 2) : Held x (tgt x ((x.c j).p p).val) := fun P a b c d => d j p (h P a b c d) hp hs (fun e => hh e P a b c d) hk
theorem Held.reached {x : Hp} (r2 : R2 x) {i : Nat} (h : Held x i) : Reached x i :=
  h (Reached x) (fun k h hk => Reached.reg k h hk) (fun i hi hl => Reached.last i hi (speaks_used r2 i hi (.inr hl)) (.inr hl)) (fun j p ih hp _ hk => Reached.key j p ih hp hk) (fun j p ih hp _ _ hk => Reached.val j p ih hp hk)
theorem Held.good {x : Hp} (r2 : R2 x) (r4 : R4 x) {i : Nat} (h : Held x i) : Good x i := (h.reached r2).good r2 r4

def OnlyH (x : Hp) (L : List Int) : Prop := ∀ z, z ∈ L → ∃ i : Nat, z = (i : Int) ∧ Held x i
theorem OnlyH.add {x : Hp} {y : Wd} {L L' : List Int} (h : OnlyH x L) (a : Add x y L L') (hy : y.k = 2 → Held x (tgt x y)) : OnlyH x L' := fun z hz => by
  rcases a.new hz with q | ⟨k, e⟩
  · exact h z q
  · exact ⟨_, e, hy k⟩
def DueIn (x : Hp) (k : Nat) (L : List Int) : Prop := ∀ i, i < k → i < x.cells.length → (x.c i).last = 2 → (i : Int) ∈ L
/-- the first k pairs of j: what they hold is in T, as far as keys of L0 go -/
def PairsH (x : Hp) (L0 : List Int) (j k : Nat) (T : List Int) : Prop := ∀ p, p < k → (SK (x.c j) → ((x.c j).p p).key.k = 2 → (tgt x ((x.c j).p p).key : Int) ∈ T) ∧ (SV (x.c j) → (((x.c j).p p).key.k = 2 → (tgt x ((x.c j).p p).key : Int) ∈ L0) → ((x.c j).p p).val.k = 2 → (tgt x ((x.c j).p p).val : Int) ∈ T)
theorem PairsH.mono {x : Hp} {L0 : List Int} {j k : Nat} {T T' : List Int} (h : PairsH x L0 j k T) (s : ∀ z, z ∈ T → z ∈ T') : PairsH x L0 j k T' := fun p hp => ⟨fun a e => s _ ((h p hp).1 a e), fun a b e => s _ ((h p hp).2 a b e)⟩
def ClH (x : Hp) (L0 : List Int) (c : Nat) (T : List Int) : Prop := ∀ q, q < c → PairsH x L0 (it T q).toNat (x.c (it T q).toNat).prs.length T
theorem ClH.add {x : Hp} {L0 : List Int} {y : Wd} {c : Nat} {T T' : List Int} (h : ClH x L0 c T) (a : Add x y T T') (hc : c ≤ T.length) : ClH x L0 c T' := fun q hq => by
  obtain ⟨R, e⟩ := a.pre
  have e2 : it T' q = it T q := by rw [e]; exact it_pre (by omega)
  rw [e2]; exact (h q hq).mono (fun z hz => a.sub hz)
/-- a pass over the list, that began at L0 -/
structure Pass (x : Hp) (L0 : List Int) (c : Nat) (T : List Int) : Prop where
  o : OnlyH x T
  r : RegsIn x x.regs.length T
  d : DueIn x x.cells.length T
  e : ∃ R, T = L0 ++ R
  c : ClH x L0 c T
theorem Pass.add {x : Hp} {L0 : List Int} {y : Wd} {c : Nat} {T T' : List Int} (h : Pass x L0 c T) (a : Add x y T T') (hc : c ≤ T.length) (hy : y.k = 2 → Held x (tgt x y)) : Pass x L0 c T' :=
  ⟨h.o.add a hy, fun j hj hk e => a.sub (h.r j hj hk e), fun i hi hn e => a.sub (h.d i hi hn e), by
    obtain ⟨R, e⟩ := h.e
    obtain ⟨R', e'⟩ := a.pre
    exact ⟨R ++ R', by rw [e', e, List.append_assoc]⟩, h.c.add a hc⟩
theorem Pass.step {x : Hp} {L0 : List Int} {c j : Nat} {T : List Int} (h : Pass x L0 c T) (e : it T c = (j : Int)) (k : PairsH x L0 j (x.c j).prs.length T) : Pass x L0 (c + 1) T :=
  ⟨h.o, h.r, h.d, h.e, fun q hq => by
    by_cases f : q = c
    · subst f; rw [e]; simpa using k
    · exact h.c q (by omega)⟩
/-- between two passes -/
structure Rest (x : Hp) (n : Int) (L : List Int) : Prop where
  o : OnlyH x L
  r : RegsIn x x.regs.length L
  d : DueIn x x.cells.length L
  b : -1 ≤ n ∧ n ≤ L.length
  c : n = L.length → ClH x L L.length L
theorem Rest.begin {x : Hp} {n : Int} {L : List Int} (h : Rest x n L) : Pass x L 0 L := ⟨h.o, h.r, h.d, ⟨[], by simp⟩, fun q hq => by omega⟩
theorem Pass.rest {x : Hp} {L0 T : List Int} (h : Pass x L0 T.length T) : Rest x L0.length T := by
  obtain ⟨R, e⟩ := h.e
  refine ⟨h.o, h.r, h.d, ⟨by omega, by rw [e]; simp; omega⟩, fun f => ?_⟩
  have : R = [] := by
    have : (T.length : Int) = L0.length + R.length := by rw [e]; simp
    exact List.length_eq_zero_iff.1 (by omega)
  have e2 : T = L0 := by rw [e, this]; simp
  have := h.c
  rw [← e2] at this; exact this
theorem Rest.done {x : Hp} {L : List Int} (h : Rest x L.length L) (i : Nat) : (i : Int) ∈ L ↔ Held x i := by
  constructor
  · intro q
    obtain ⟨j, e, hj⟩ := h.o _ q
    have : i = j := by omega
    rw [this]; exact hj
  · intro q
    have cl : ∀ j : Nat, (j : Int) ∈ L → PairsH x L j (x.c j).prs.length L := fun j hj => by
      obtain ⟨q, hq, e⟩ := List.getElem_of_mem hj
      have := h.c rfl q hq
      rw [← it_eq L q hq, e] at this
      simpa using this
    exact q (fun i => (i : Int) ∈ L) (fun k hk e => h.r k hk hk e) (fun i hi e => h.d i hi hi e) (fun j p ih hp hs hk => (cl j ih p hp).1 hs hk) (fun j p ih hp hs hh hk => (cl j ih p hp).2 hs hh hk)
end Go.Proofs.YtkabcfhemljnbaaGreat

namespace Go.Proofs.YtkabcfhemljnbaaGreat
open Go.RowKit
attribute [local go_sem ↓] Go.wp_at_zero Go.wp_at_succ

theorem l1resolve_may (x : Hp) (y : Wd) (b : Nat) (w : World) {ar : Option Addr} {kr : Nat} {ac : Option Addr} {kc : Nat} {ag : Option Addr} {kg : Nat} (h : HAt w b x ar kr ac kc ag kg) (hy : MayMark x y) :
    Calls Tryz.prog 110 #[.pointer (some ⟨b, 0, none⟩), y.v] w fun e w' => ∃ t : Wd, Hid (e = .returned t.v) ∧ Hid ((y.k ≠ 2 ∧ t = y) ∨ (y.k = 2 ∧ t = ⟨2, 0, (tgt x y : Int)⟩)) ∧ Ext w w' := by
  cases k2 : (y.k == 2)
  · exact (l1resolve_num y b w k2).mono fun _ _ ⟨he, hx⟩ => ⟨y, he, .inl ⟨by simpa using k2, rfl⟩, hx⟩
  · have hk : y.k = 2 := by simpa using k2
    obtain ⟨n0, a0, a1, ht, hg⟩ := hy hk
    obtain ⟨i, hi⟩ : ∃ i : Nat, y.a = (i : Int) := ⟨y.a.toNat, by omega⟩
    have et : tgt x y = lead2 x i := by unfold tgt; rw [hi]; simp
    have ev : (.agg #[iv 2, iv 0, iv i] : Value) = y.v := by rw [← hi, ← n0, ← hk]
    have ei : y.a.toNat = i := by omega
    rw [ei] at ht
    have := l1resolve_at x b i w h (by omega) ht
    rw [ev] at this
    exact this.mono fun _ _ ⟨he, hx⟩ => ⟨⟨2, 0, (tgt x y : Int)⟩, by rw [he, et]; rfl, .inr ⟨hk, rfl⟩, hx⟩

/-- the box of the cell at hand, apart from what marking turns -/
def BxAt (w : World) (B bs : Nat) (v : Value) (wk : Int) : Prop := w.cell? ⟨B, 2, none⟩ = some (iv wk) ∧ B ≠ bs ∧ v.ownBlock ≠ some B
theorem BxAt.ext {w w' : World} {B bs : Nat} {v : Value} {wk : Int} (h : BxAt w B bs v wk) (e : Ext w w') : BxAt w' B bs v wk := ⟨e.keep h.1, h.2⟩
theorem Mfr.apart {bs : Nat} {v v' : Value} {w w' : World} (m : Mfr bs v v' w w') {B : Nat} (hB : B < w.heap.size) (hv : v.ownBlock ≠ some B) : v'.ownBlock ≠ some B := fun e => by
  rcases m.own with q | ⟨g, q, hg⟩
  · rw [q] at e; exact hv e
  · rw [q] at e; cases e; omega
theorem BxAt.mfr {w w' : World} {B bs : Nat} {v v' : Value} {wk : Int} (h : BxAt w B bs v wk) (m : Mfr bs v v' w w') : BxAt w' B bs v' wk :=
  have hB := cell_lt h.1
  ⟨(World.cell?_of_block (a := ⟨B, 2, none⟩) (m.block B hB h.2.1 h.2.2)).trans h.1, h.2.1, m.apart hB h.2.2⟩
/-- the box of a pair -/
structure PBx (w : World) (B bs : Nat) (v : Value) (p : Pr) : Prop where
  c : w.cell? ⟨B, 0, none⟩ = some (.int .i64 p.key.k) ∧ w.cell? ⟨B, 1, none⟩ = some (.int .i64 p.key.n) ∧ w.cell? ⟨B, 2, none⟩ = some (.int .i64 p.key.a) ∧ w.cell? ⟨B, 3, none⟩ = some (.int .i64 p.val.k) ∧ w.cell? ⟨B, 4, none⟩ = some (.int .i64 p.val.n) ∧ w.cell? ⟨B, 5, none⟩ = some (.int .i64 p.val.a)
  n : B ≠ bs
  o : v.ownBlock ≠ some B
theorem PBx.ext {w w' : World} {B bs : Nat} {v : Value} {p : Pr} (h : PBx w B bs v p) (e : Ext w w') : PBx w' B bs v p := ⟨⟨e.keep h.c.1, e.keep h.c.2.1, e.keep h.c.2.2.1, e.keep h.c.2.2.2.1, e.keep h.c.2.2.2.2.1, e.keep h.c.2.2.2.2.2⟩, h.n, h.o⟩
theorem PBx.mfr {w w' : World} {B bs : Nat} {v v' : Value} {p : Pr} (h : PBx w B bs v p) (m : Mfr bs v v' w w') : PBx w' B bs v' p := by
  have hB : B < w.heap.size := cell_lt h.c.1
  have k := fun o => World.cell?_of_block (w := w) (w' := w') (a := ⟨B, o, none⟩) (m.block B hB h.n h.o)
  exact ⟨⟨(k 0).trans h.c.1, (k 1).trans h.c.2.1, (k 2).trans h.c.2.2.1, (k 3).trans h.c.2.2.2.1, (k 4).trans h.c.2.2.2.2.1, (k 5).trans h.c.2.2.2.2.2⟩, h.n, m.apart hB h.o⟩
theorem PBx.new {w : World} {base bs n : Nat} {v : Value} {T : List Int} {p : Pr} {t : TypeId} (h : Sn w base bs n v T) : PBx (w.alloc (.cells #[.int .i64 p.key.k, .int .i64 p.key.n, .int .i64 p.key.a, .int .i64 p.val.k, .int .i64 p.val.n, .int .i64 p.val.a] t)) w.heap.size bs v p :=
  ⟨by simp [go_sem], by have := h.hb.2; omega, fun e => by have := (h.own.lt _ e).2; omega⟩
theorem PairsH.more {x : Hp} {L0 : List Int} {j p : Nat} {T : List Int} (h : PairsH x L0 j p T) (hk : SK (x.c j) → ((x.c j).p p).key.k = 2 → (tgt x ((x.c j).p p).key : Int) ∈ T) (hv : SV (x.c j) → (((x.c j).p p).key.k = 2 → (tgt x ((x.c j).p p).key : Int) ∈ L0) → ((x.c j).p p).val.k = 2 → (tgt x ((x.c j).p p).val : Int) ∈ T) : PairsH x L0 j (p + 1) T := fun q hq => by
  by_cases e : q = p
  · subst e; exact ⟨hk, hv⟩
  · exact h q (by omega)
/-- the state of a pass at a cell -/
abbrev AtC (x : Hp) (L : List Int) (c j p : Nat) (T : List Int) : Prop := Pass x L c T ∧ it T c = (j : Int) ∧ c < T.length ∧ PairsH x L j p T
theorem AtC.mark {x : Hp} {L : List Int} {c j p : Nat} {T T5 : List Int} (h : AtC x L c j p T) (a : Add x ((x.c j).p p).key T T5) (hy : ((x.c j).p p).key.k = 2 → Held x (tgt x ((x.c j).p p).key)) : Pass x L c T5 ∧ it T5 c = (j : Int) ∧ c < T5.length ∧ PairsH x L j p T5 ∧ (SK (x.c j) → ((x.c j).p p).key.k = 2 → (tgt x ((x.c j).p p).key : Int) ∈ T5) := by
  obtain ⟨i1, i2, i3, i4⟩ := h
  obtain ⟨R, r⟩ := a.pre
  have l5 : T.length ≤ T5.length := by rw [r]; simp
  refine ⟨i1.add a (by omega) hy, ?_, by omega, i4.mono (fun z hz => a.sub hz), fun _ e => a.has e⟩
  rw [r, it_pre i3]; exact i2
theorem Pass.val {x : Hp} {L : List Int} {c j p : Nat} {T T8 : List Int} (h : Pass x L c T ∧ it T c = (j : Int) ∧ c < T.length ∧ PairsH x L j p T ∧ (SK (x.c j) → ((x.c j).p p).key.k = 2 → (tgt x ((x.c j).p p).key : Int) ∈ T)) (a : Add x ((x.c j).p p).val T T8) (hy : ((x.c j).p p).val.k = 2 → Held x (tgt x ((x.c j).p p).val)) : Pass x L c T8 ∧ it T8 c = (j : Int) ∧ c < T8.length ∧ PairsH x L j (p + 1) T8 := by
  obtain ⟨i1, i2, i3, i4, i5⟩ := h
  obtain ⟨R, r⟩ := a.pre
  have l5 : T.length ≤ T8.length := by rw [r]; simp
  refine ⟨i1.add a (by omega) hy, ?_, by omega, (i4.mono (fun z hz => a.sub hz)).more (fun s e => a.sub (i5 s e)) (fun _ _ e => a.has e)⟩
  rw [r, it_pre i3]; exact i2

set_option maxRecDepth 100000 in
set_option maxHeartbeats 8000000 in
theorem l2holds_any (x : Hp) (b : Nat) (w : World) {ar : Option Addr} {kr : Nat} {ac : Option Addr} {kc : Nat} {ag : Option Addr} {kg : Nat} (h : HAt w b x ar kr ac kc ag kg) (r2 : R2 x) (r4 : R4 x) (hn8 : x.cells.length ≤ 8000) :
    Calls Tryz.prog 61 #[.pointer (some ⟨b, 0, none⟩)] w fun e w' => ∃ v L, Hid (e = .returned (.slice (some ⟨w.heap.size, 0, none⟩) x.cells.length x.cells.length)) ∧ Sn w' w.heap.size w.heap.size x.cells.length v L ∧ Hid (∀ i : Nat, (i : Int) ∈ L ↔ Held x i) ∧ Ext w w' := by
  have c4 := h.c4
  have c3 := h.c3
  have lr := h.lr
  have hb : b < w.heap.size := cell_lt c4
  have HH := hide h
  have Q2 := hide r2
  have Q4 := hide r4
  clear h r2 r4
  obtain ⟨z, hmk, hz⟩ := mkBools x.cells.length (by omega) w
  have S0 := hide (Sn.start w x.cells.length 4)
  rw [← hz] at S0
  clear hz
  go_enter Tryz.func61, Tryz.ntmps61
  go_wp2_with fail
  go_loopw [4, 26] (fun v i wr => ∃ (k : Nat) (L : List Int), k ≤ x.regs.length ∧ i = .int .i64 k ∧ Sn wr w.heap.size w.heap.size x.cells.length v L ∧ Hid (OnlyH x L ∧ RegsIn x k L) ∧ Ext w wr) (fun _ i _ => x.regs.length - (intOf i).toNat)
  case atStart => exact ⟨0, [], Nat.zero_le _, rfl, unhide S0, ⟨(fun z hz => by cases hz), fun j _ hj => by omega⟩, (Ext.refl w).alloc _⟩
  case round =>
    clear S0 hmk c4 c3
    obtain ⟨k, L, hk, rfl, hs, hinv, hbl⟩ := hrel
    have HS := hide hs
    clear hs
    by_cases hlt : k < x.regs.length
    · have hh := (unhide HH).ext hbl
      obtain ⟨b', o, e1, p0, p1, p2⟩ := hh.R k hlt
      have d3 := hh.c3
      rw [e1] at d3
      have hk0 : (0:Int) ≤ (k:Int) := by omega
      have hk1 : (k:Int) < (x.regs.length:Int) := by omega
      have xa := (Ext.refl wr).alloc (.cells #[iv x.regs[k].k, iv x.regs[k].n, iv x.regs[k].a] 90)
      subst e1
      clear hh
      go_wp2_with fail
      refine (l2mark_any x x.regs[k] b w.heap.size w.heap.size _ L _ ((unhide HH).ext (hbl.trans xa)) (may_reg (unhide Q2) (unhide Q4) k hlt) ((unhide HS).ext xa) (hbl.trans xa).size hn8).mono ?_
      rintro e w2 ⟨v', L', rfl, hs', ha, hm⟩
      have R := hide (show Sn w2 w.heap.size w.heap.size x.cells.length v' L' ∧ (OnlyH x L' ∧ RegsIn x (k + 1) L') ∧ Ext w w2 from
        ⟨hs', ⟨(unhide hinv).1.add (unhide ha) (fun e => Held.reg k hlt e), fun j hj hjk e => by
          by_cases q : j = k
          · subst q; exact (unhide ha).has e
          · exact (unhide ha).sub ((unhide hinv).2 j hj (by omega) e)⟩, ((unhide HS).ext xa).mext hm (hbl.trans xa)⟩)
      clear hs' ha hm xa
      go_wp2_with fail
      go_roundw
      case rel => exact ⟨k + 1, L', by omega, by go_num, (unhide R).1, (unhide R).2.1, (unhide R).2.2⟩
      case measure => simp [intOf]; omega
    · have hk2 : k = x.regs.length := by omega
      subst hk2
      have c4 := ((unhide HH).ext hbl).c4
      have B0 := hide hbl
      clear hlt hk
      go_wp2_with fail
      clear hbl
      go_loopw [4, 41] (fun v i wr => ∃ (k : Nat) (L : List Int), k ≤ x.cells.length ∧ i = .int .i64 k ∧ Sn wr w.heap.size w.heap.size x.cells.length v L ∧ Hid (OnlyH x L ∧ RegsIn x x.regs.length L ∧ DueIn x k L) ∧ Ext w wr) (fun _ i _ => x.cells.length - (intOf i).toNat)
      case atStart => exact ⟨0, L, Nat.zero_le _, rfl, unhide HS, ⟨(unhide hinv).1, (unhide hinv).2, fun i hi => by omega⟩, unhide B0⟩
      case round =>
        clear HS hinv B0 c4 L
        obtain ⟨k, L, hk, rfl, hs, hinv, hbl⟩ := hrel
        have HS := hide hs
        clear hs
        by_cases hlt : k < x.cells.length
        · have hh := (unhide HH).ext hbl
          obtain ⟨b', o, ap, kp, e1, p0, p1, p2, p3, p4, p5, p6, p7, lp, P⟩ := hh.cell k hlt
          have hb' : b' < wr.heap.size := cell_lt p0
          have d4 := hh.c4
          rw [e1] at d4
          have hk0 : (0:Int) ≤ (k:Int) := by omega
          have hk1 : (k:Int) < (x.cells.length:Int) := by omega
          have xa := (Ext.refl wr).alloc (.cells #[iv (x.c k).st, iv (x.c k).kind, iv (x.c k).weak, iv (x.c k).last, iv (x.c k).born, iv (x.c k).color, iv (x.c k).to, .slice ap (x.c k).prs.length kp] 86)
          subst e1
          clear P hh
          cases tl : ((x.c k).last == 2)
          · have R := hide (show DueIn x (k + 1) L from fun i hi hn e => by
              by_cases q : i = k
              · subst q; simp at tl; exact (tl e).elim
              · exact (unhide hinv).2.2 i (by omega) hn e)
            have A := hide (And.intro ((unhide HS).ext xa) (hbl.trans xa))
            clear xa
            go_wp2_with fail
            go_roundw
            case rel => exact ⟨k + 1, L, by omega, by go_num, (unhide A).1, ⟨(unhide hinv).1, (unhide hinv).2.1, unhide R⟩, (unhide A).2⟩
            case measure => simp [intOf]; omega
          · have hl2 : (x.c k).last = 2 := by simpa using tl
            have HL := hide hl2
            have hst := speaks_used (unhide Q2) k hlt (.inr hl2)
            have et : tgt x ⟨2, 0, (k : Int)⟩ = k := by unfold tgt lead2; simp [hst]
            have MY := hide (show MayMark x ⟨2, 0, (k : Int)⟩ from fun _ => ⟨rfl, by simp, by simpa using hlt, (fun h => by simp [hst] at h), by rw [et]; exact good_want (unhide Q4) k hlt hst (.inr hl2)⟩)
            have ET := hide et
            clear hl2 hst et
            go_wp2_with fail
            refine (l2mark_any x ⟨2, 0, (k : Int)⟩ b w.heap.size w.heap.size _ L _ ((unhide HH).ext (hbl.trans xa)) (unhide MY) ((unhide HS).ext xa) (hbl.trans xa).size hn8).mono ?_
            rintro e w2 ⟨v', L', rfl, hs', ha, hm⟩
            have R := hide (show Sn w2 w.heap.size w.heap.size x.cells.length v' L' ∧ (OnlyH x L' ∧ RegsIn x x.regs.length L' ∧ DueIn x (k + 1) L') ∧ Ext w w2 from
              ⟨hs', ⟨(unhide hinv).1.add (unhide ha) (fun _ => by rw [unhide ET]; exact Held.due k hlt (unhide HL)), fun j hj hjk e => (unhide ha).sub ((unhide hinv).2.1 j hj hjk e), fun i hi hn e => by
                by_cases q : i = k
                · subst q; have := (unhide ha).has rfl; rw [unhide ET] at this; exact this
                · exact (unhide ha).sub ((unhide hinv).2.2 i (by omega) hn e)⟩, ((unhide HS).ext xa).mext hm (hbl.trans xa)⟩)
            clear hs' ha hm xa
            go_wp2_with fail
            go_roundw
            case rel => exact ⟨k + 1, L', by omega, by go_num, (unhide R).1, (unhide R).2.1, (unhide R).2.2⟩
            case measure => simp [intOf]; omega
        · have hk2 : k = x.cells.length := by omega
          subst hk2
          have B0 := hide hbl
          have R0 := hide (show Rest x (-1) L from ⟨(unhide hinv).1, (unhide hinv).2.1, (unhide hinv).2.2, ⟨by omega, by omega⟩, fun e => by omega⟩)
          clear hlt hk hinv hbl
          go_wp2_with fail
          go_loopw [4, 9] (fun v n wr => ∃ (m : Int) (L : List Int), n = .int .i64 m ∧ Sn wr w.heap.size w.heap.size x.cells.length v L ∧ Hid (Rest x m L) ∧ Ext w wr) (fun _ n _ => ((x.cells.length : Int) - intOf n).toNat)
          case atStart => exact ⟨-1, L, rfl, unhide HS, unhide R0, unhide B0⟩
          case round =>
            clear HS R0 B0 L
            obtain ⟨m, L, rfl, hs, hre, hbl⟩ := hrel
            have HS := hide hs
            have hLn := hs.len
            have hmb := (unhide hre).b
            obtain ⟨ad, cap, rfl, hgl⟩ := hs.form
            clear hs hgl
            by_cases hml : m = (L.length : Int)
            · have D := hide (show ∀ i : Nat, (i : Int) ∈ L ↔ Held x i by have := unhide hre; rw [hml] at this; exact this.done)
              have hnn : (m != (L.length : Int)) = false := by simp [hml]
              clear hre
              go_wp2_with fail
              go_ret
              exact ⟨_, L, rfl, unhide HS, unhide D, hbl⟩
            · have hnn : (m != (L.length : Int)) = true := by simp [hml]
              have P0 := hide (unhide hre).begin
              have B0 := hide hbl
              have hm2 : m < (L.length : Int) := by omega
              clear hre hbl hml
              go_wp2_with fail
              go_loopw [4, 10] (fun v i wr => ∃ (c : Nat) (T : List Int), c ≤ T.length ∧ i = .int .i64 c ∧ Sn wr w.heap.size w.heap.size x.cells.length v T ∧ Hid (Pass x L c T) ∧ Ext w wr) (fun _ i _ => x.cells.length - (intOf i).toNat)
              case atStart => exact ⟨0, L, Nat.zero_le _, rfl, unhide HS, unhide P0, unhide B0⟩
              case round =>
                clear HS P0 B0
                obtain ⟨c, T, hc, rfl, hs, hpa, hbl⟩ := hrel
                have HS := hide hs
                obtain ⟨ad, cap, rfl, hgl⟩ := hs.form
                have hTn := hs.len
                by_cases hlt : c < T.length
                · obtain ⟨g, rfl⟩ := hgl (by omega)
                  obtain ⟨a1, a2, a3⟩ := (Rw1.mk hs.own).cell c hlt
                  obtain ⟨j, ej, hrj⟩ := (unhide hpa).o _ (it_mem T c hlt)
                  rw [ej] at a1
                  have hgj := hrj.good (unhide Q2) (unhide Q4)
                  have hh := (unhide HH).ext hbl
                  obtain ⟨b', o, ap, kp, e1, C⟩ := (unhide HH).cell j hgj.1
                  have d4 := hh.c4
                  rw [e1] at d4
                  have q0 := hbl.keep C.p0
                  have q1 := hbl.keep C.p1
                  have q2 := hbl.keep C.p2
                  have q3 := hbl.keep C.p3
                  have q4 := hbl.keep C.p4
                  have q5 := hbl.keep C.p5
                  have q6 := hbl.keep C.p6
                  have q7 := hbl.keep C.p7
                  have hbq : b' < wr.heap.size := cell_lt q0
                  have hbd : b < wr.heap.size := cell_lt d4
                  have hbg : g < wr.heap.size := cell_lt a1
                  have lp := C.lp
                  have HP := hide C.P
                  have EJ := hide ej
                  have RJ := hide hrj
                  have GJ := hide hgj
                  have hjn := hgj.1
                  have c0 : (0:Int) ≤ (c:Int) := by omega
                  have c1 : (c:Int) < (T.length:Int) := by omega
                  have j0 : (0:Int) ≤ (j:Int) := by omega
                  have j1 : (j:Int) < (x.cells.length:Int) := by omega
                  clear hs C hh e1 ej hrj hgj a3 a2
                  obtain ⟨WR, hWR⟩ : ∃ W, W = wr := ⟨_, rfl⟩
                  subst hWR
                  have hwk : (x.c j).weak = 0 ∨ (x.c j).weak = 1 ∨ (x.c j).weak = 2 ∨ (x.c j).weak = 3 := by
                    have h2 := (unhide GJ).2.1
                    rcases (unhide Q2).1 j hjn with z | z | z
                    · omega
                    · omega
                    · have := z.2.2.1; omega
                  have OB := hide (show ∀ q, WR.heap.size ≤ q → (Value.slice (some ⟨g, 0, none⟩) T.length cap).ownBlock ≠ some q from fun q hq e => by have := ((unhide HS).own.lt _ e).2; omega)
                  have PA := hide (unhide hpa)
                  clear hpa
                  go_wp2_with fail
                  go_cut [11] (fun s11 wx => ∃ B : Nat, s11 = .pointer (some ⟨B, 0, none⟩) ∧ Hid (wx.cell? ⟨B, 2, none⟩ = some (iv (x.c j).weak) ∧ wx.cell? ⟨B, 7, none⟩ = some (.slice ap (x.c j).prs.length kp) ∧ WR.heap.size ≤ B) ∧ Ext WR wx)
                  case first =>
                    go_region_with (fail)
                    all_goals
                      go_wp2_with fail
                      go_meet
                      exact ⟨_, rfl, ⟨by simp [go_sem], by simp [go_sem], Nat.le_refl _⟩, ((Ext.refl WR).alloc _).drew⟩
                  case rest =>
                    obtain ⟨B, rfl, hbx, xB⟩ := hcut
                    have b7 := (unhide hbx).2.1
                    have X0 := hide (hbl.trans xB)
                    have S0 := hide ((unhide HS).ext xB)
                    have B0 := hide (show BxAt wc B w.heap.size (.slice (some ⟨g, 0, none⟩) T.length cap) (x.c j).weak from ⟨(unhide hbx).1, by have := hbl.size; have := (unhide hbx).2.2; have := (unhide HS).hb.2; omega, unhide OB B (unhide hbx).2.2⟩)
                    clear hbx xB hbl HS OB q0 q1 q2 q3 q4 q5 q6 q7 d4 a1 hbq hbd hbg
                    go_wp2_with fail
                    go_loopw [4, 81] (fun v i wz => ∃ (p : Nat) (T' : List Int), p ≤ (x.c j).prs.length ∧ i = .int .i64 p ∧ Sn wz w.heap.size w.heap.size x.cells.length v T' ∧ Hid (Pass x L c T' ∧ it T' c = (j : Int) ∧ c < T'.length ∧ PairsH x L j p T') ∧ Hid (BxAt wz B w.heap.size v (x.c j).weak) ∧ Ext w wz) (fun _ i _ => (x.c j).prs.length - (intOf i).toNat)
                    case atStart => exact ⟨0, T, Nat.zero_le _, rfl, unhide S0, ⟨unhide PA, unhide EJ, hlt, fun p hp => by omega⟩, unhide B0, unhide X0⟩
                    case round =>
                      clear S0 PA B0 X0 b7
                      obtain ⟨p, T, hp, rfl, hs, hinv, hbo, hbl⟩ := hrel
                      have HS := hide hs
                      have hTn := hs.len
                      by_cases hpl : p < (x.c j).prs.length
                      · obtain ⟨b2, o2, rfl, q0, q1, q2, q3, q4, q5⟩ := unhide HP p hpl
                        have e0 := hbl.keep q0
                        have e1 := hbl.keep q1
                        have e2 := hbl.keep q2
                        have e3 := hbl.keep q3
                        have e4 := hbl.keep q4
                        have e5 := hbl.keep q5
                        have hb2 : b2 < wr.heap.size := cell_lt e0
                        have hBl : B < wr.heap.size := cell_lt (unhide hbo).1
                        clear q0 q1 q2 q3 q4 q5 hs
                        have hp0 : (0:Int) ≤ (p:Int) := by omega
                        have hp1 : (p:Int) < ((x.c j).prs.length:Int) := by omega
                        have xa := (Ext.refl wr).alloc (.cells #[.int .i64 ((x.c j).p p).key.k, .int .i64 ((x.c j).p p).key.n, .int .i64 ((x.c j).p p).key.a, .int .i64 ((x.c j).p p).val.k, .int .i64 ((x.c j).p p).val.n, .int .i64 ((x.c j).p p).val.a] 123)
                        have hMM := hide (may_pair (unhide Q2) (unhide Q4) j p (unhide GJ) hpl)
                        have bx := (unhide hbo).1
                        have HSA := hide ((unhide HS).ext xa)
                        have BXA := hide ((unhide hbo).ext xa)
                        have XA := hbl.trans xa
                        have PB := hide (show PBx (wr.alloc (.cells #[.int .i64 ((x.c j).p p).key.k, .int .i64 ((x.c j).p p).key.n, .int .i64 ((x.c j).p p).key.a, .int .i64 ((x.c j).p p).val.k, .int .i64 ((x.c j).p p).val.n, .int .i64 ((x.c j).p p).val.a] 123)) wr.heap.size w.heap.size _ ((x.c j).p p) from PBx.new (unhide HS))
                        rcases hwk with hwk | hwk | hwk | hwk
                        · have bx2 := bx
                          rw [hwk] at bx2
                          go_wp2_with fail
                          refine (l2mark_any x ((x.c j).p p).key b w.heap.size w.heap.size _ T _ ((unhide HH).ext XA) (unhide hMM).1 (unhide HSA) XA.size hn8).mono ?_
                          rintro e w5 ⟨v5, T5, rfl, hs5, ha5, hm5⟩
                          have X5 := (unhide HSA).mext hm5 XA
                          have S5 := hide hs5
                          have A5 := hide (unhide ha5)
                          have B5 := hide ((unhide BXA).mfr hm5)
                          have P5 := hide ((unhide PB).mfr hm5)
                          have bx5 := (unhide B5).1
                          rw [hwk] at bx5
                          have G5 := hide (show Pass x L c T5 ∧ it T5 c = (j : Int) ∧ c < T5.length ∧ PairsH x L j p T5 ∧ (SK (x.c j) → ((x.c j).p p).key.k = 2 → (tgt x ((x.c j).p p).key : Int) ∈ T5) from AtC.mark (unhide hinv) (unhide A5) (fun e => Held.key j p (unhide RJ) hpl ⟨by omega, by omega⟩ e))
                          obtain ⟨u0, u1, u2, u3, u4, u5⟩ := (unhide P5).c
                          clear hm5 hs5 ha5 e0 e1 e2 e3 e4 e5 bx2
                          go_wp2_with fail
                          refine (l1resolve_may x ((x.c j).p p).key b _ ((unhide HH).ext X5) (unhide hMM).1).mono ?_
                          rintro e w6 ⟨t, rfl, ht, hq6⟩
                          have X6 := X5.trans hq6
                          have S6 := hide ((unhide S5).ext hq6)
                          have B6 := hide ((unhide B5).ext hq6)
                          have P6 := hide ((unhide P5).ext hq6)
                          have bx6 := (unhide B6).1
                          rw [hwk] at bx6
                          have hB6 : B < w6.heap.size := cell_lt bx6
                          obtain ⟨z0, z1, z2, z3, z4, z5⟩ := (unhide P6).c
                          have hp6 : wr.heap.size < w6.heap.size := cell_lt z0
                          have hs6 : w.heap.size < w6.heap.size := (unhide S6).hb.2
                          have xk := (Ext.refl w6).alloc (.cells #[iv t.k, iv t.n, iv t.a] 90)
                          have X7 := X6.trans xk
                          have S7 := hide ((unhide S6).ext xk)
                          have B7 := hide ((unhide B6).ext xk)
                          clear hq6 u0 u1 u2 u3 u4 u5 bx5
                          rcases unhide ht with ⟨hk, rfl⟩ | ⟨hk, rfl⟩
                          · have hkb : (((x.c j).p p).key.k != 2) = true := by simp [hk]
                            go_wp2_with fail
                            refine (l2mark_any x ((x.c j).p p).val b w.heap.size w.heap.size _ T5 _ ((unhide HH).ext X7) (unhide hMM).2 (unhide S7) X7.size hn8).mono ?_
                            rintro e w8 ⟨v8, T8, rfl, hs8, ha8, hm8⟩
                            have R := hide (show Sn w8 w.heap.size w.heap.size x.cells.length v8 T8 ∧ (Pass x L c T8 ∧ it T8 c = (j : Int) ∧ c < T8.length ∧ PairsH x L j (p + 1) T8) ∧ BxAt w8 B w.heap.size v8 (x.c j).weak ∧ Ext w w8 from
                              ⟨hs8, Pass.val (unhide G5) (unhide ha8) (fun e => Held.val j p (unhide RJ) hpl ⟨by omega, by omega⟩ (fun e => (hk e).elim) e), (unhide B7).mfr hm8, (unhide S7).mext hm8 X7⟩)
                            clear hs8 ha8 hm8
                            go_wp2_with fail
                            go_roundw
                            case rel => exact ⟨p + 1, T8, by omega, by go_num, (unhide R).1, (unhide R).2.1, (unhide R).2.2.1, (unhide R).2.2.2⟩
                            case measure => simp [intOf]; omega
                          · have htl : tgt x ((x.c j).p p).key < x.cells.length := ((unhide hMM).1 hk).2.2.2.2.1
                            have sn := (unhide S7).s _ htl
                            obtain ⟨tg, etg⟩ : ∃ q, q = tgt x ((x.c j).p p).key := ⟨_, rfl⟩
                            rw [← etg] at sn htl xk S7 B7 X7 ⊢
                            have ETG := hide etg
                            clear etg
                            have t0 : (0:Int) ≤ (tg:Int) := by omega
                            have t1 : (tg:Int) < (x.cells.length:Int) := by omega
                            by_cases hm : (tg : Int) ∈ T5
                            · have E : decide ((tg : Int) ∈ T5) = true := decide_eq_true hm
                              rw [E] at sn
                              clear E
                              go_wp2_with fail
                              refine (l2mark_any x ((x.c j).p p).val b w.heap.size w.heap.size _ T5 _ ((unhide HH).ext X7) (unhide hMM).2 (unhide S7) X7.size hn8).mono ?_
                              rintro e w8 ⟨v8, T8, rfl, hs8, ha8, hm8⟩
                              have R := hide (show Sn w8 w.heap.size w.heap.size x.cells.length v8 T8 ∧ (Pass x L c T8 ∧ it T8 c = (j : Int) ∧ c < T8.length ∧ PairsH x L j (p + 1) T8) ∧ BxAt w8 B w.heap.size v8 (x.c j).weak ∧ Ext w w8 from
                                ⟨hs8, Pass.val (unhide G5) (unhide ha8) (fun e => Held.val j p (unhide RJ) hpl ⟨by omega, by omega⟩ (fun _ => by rw [← unhide ETG]; obtain ⟨q, eq, hq⟩ := (unhide G5).1.o _ hm; have e3 : tg = q := (by omega); rw [e3]; exact hq) e), (unhide B7).mfr hm8, (unhide S7).mext hm8 X7⟩)
                              clear hs8 ha8 hm8
                              go_wp2_with fail
                              go_roundw
                              case rel => exact ⟨p + 1, T8, by omega, by go_num, (unhide R).1, (unhide R).2.1, (unhide R).2.2.1, (unhide R).2.2.2⟩
                              case measure => simp [intOf]; omega
                            · have E : decide ((tg : Int) ∈ T5) = false := decide_eq_false hm
                              rw [E] at sn
                              clear E
                              have R := hide (show PairsH x L j (p + 1) T5 from (unhide G5).2.2.2.1.more (unhide G5).2.2.2.2 (fun _ hh => (hm (by obtain ⟨R, e⟩ := (unhide G5).1.e; rw [e]; exact List.mem_append_left _ (by rw [unhide ETG]; exact hh hk))).elim))
                              go_wp2_with fail
                              go_roundw
                              case rel => exact ⟨p + 1, T5, by omega, by go_num, unhide S7, ⟨(unhide G5).1, (unhide G5).2.1, (unhide G5).2.2.1, unhide R⟩, unhide B7, X7⟩
                              case measure => simp [intOf]; omega
                        · have bx2 := bx
                          rw [hwk] at bx2
                          go_wp2_with fail
                          have X5 := XA
                          have S5 := hide (unhide HSA)
                          have B5 := hide (unhide BXA)
                          have P5 := hide (unhide PB)
                          have G5 := hide (show Pass x L c T ∧ it T c = (j : Int) ∧ c < T.length ∧ PairsH x L j p T ∧ (SK (x.c j) → ((x.c j).p p).key.k = 2 → (tgt x ((x.c j).p p).key : Int) ∈ T) from ⟨(unhide hinv).1, (unhide hinv).2.1, (unhide hinv).2.2.1, (unhide hinv).2.2.2, fun s => by unfold SK at s; omega⟩)
                          refine (l1resolve_may x ((x.c j).p p).key b _ ((unhide HH).ext X5) (unhide hMM).1).mono ?_
                          rintro e w6 ⟨t, rfl, ht, hq6⟩
                          have X6 := X5.trans hq6
                          have S6 := hide ((unhide S5).ext hq6)
                          have B6 := hide ((unhide B5).ext hq6)
                          have P6 := hide ((unhide P5).ext hq6)
                          have bx6 := (unhide B6).1
                          rw [hwk] at bx6
                          have hB6 : B < w6.heap.size := cell_lt bx6
                          obtain ⟨z0, z1, z2, z3, z4, z5⟩ := (unhide P6).c
                          have hp6 : wr.heap.size < w6.heap.size := cell_lt z0
                          have hs6 : w.heap.size < w6.heap.size := (unhide S6).hb.2
                          have xk := (Ext.refl w6).alloc (.cells #[iv t.k, iv t.n, iv t.a] 90)
                          have X7 := X6.trans xk
                          have S7 := hide ((unhide S6).ext xk)
                          have B7 := hide ((unhide B6).ext xk)
                          clear hq6 e0 e1 e2 e3 e4 e5 bx2
                          rcases unhide ht with ⟨hk, rfl⟩ | ⟨hk, rfl⟩
                          · have hkb : (((x.c j).p p).key.k != 2) = true := by simp [hk]
                            go_wp2_with fail
                            refine (l2mark_any x ((x.c j).p p).val b w.heap.size w.heap.size _ T _ ((unhide HH).ext X7) (unhide hMM).2 (unhide S7) X7.size hn8).mono ?_
                            rintro e w8 ⟨v8, T8, rfl, hs8, ha8, hm8⟩
                            have R := hide (show Sn w8 w.heap.size w.heap.size x.cells.length v8 T8 ∧ (Pass x L c T8 ∧ it T8 c = (j : Int) ∧ c < T8.length ∧ PairsH x L j (p + 1) T8) ∧ BxAt w8 B w.heap.size v8 (x.c j).weak ∧ Ext w w8 from
                              ⟨hs8, Pass.val (unhide G5) (unhide ha8) (fun e => Held.val j p (unhide RJ) hpl ⟨by omega, by omega⟩ (fun e => (hk e).elim) e), (unhide B7).mfr hm8, (unhide S7).mext hm8 X7⟩)
                            clear hs8 ha8 hm8
                            go_wp2_with fail
                            go_roundw
                            case rel => exact ⟨p + 1, T8, by omega, by go_num, (unhide R).1, (unhide R).2.1, (unhide R).2.2.1, (unhide R).2.2.2⟩
                            case measure => simp [intOf]; omega
                          · have htl : tgt x ((x.c j).p p).key < x.cells.length := ((unhide hMM).1 hk).2.2.2.2.1
                            have sn := (unhide S7).s _ htl
                            obtain ⟨tg, etg⟩ : ∃ q, q = tgt x ((x.c j).p p).key := ⟨_, rfl⟩
                            rw [← etg] at sn htl xk S7 B7 X7 ⊢
                            have ETG := hide etg
                            clear etg
                            have t0 : (0:Int) ≤ (tg:Int) := by omega
                            have t1 : (tg:Int) < (x.cells.length:Int) := by omega
                            by_cases hm : (tg : Int) ∈ T
                            · have E : decide ((tg : Int) ∈ T) = true := decide_eq_true hm
                              rw [E] at sn
                              clear E
                              go_wp2_with fail
                              refine (l2mark_any x ((x.c j).p p).val b w.heap.size w.heap.size _ T _ ((unhide HH).ext X7) (unhide hMM).2 (unhide S7) X7.size hn8).mono ?_
                              rintro e w8 ⟨v8, T8, rfl, hs8, ha8, hm8⟩
                              have R := hide (show Sn w8 w.heap.size w.heap.size x.cells.length v8 T8 ∧ (Pass x L c T8 ∧ it T8 c = (j : Int) ∧ c < T8.length ∧ PairsH x L j (p + 1) T8) ∧ BxAt w8 B w.heap.size v8 (x.c j).weak ∧ Ext w w8 from
                                ⟨hs8, Pass.val (unhide G5) (unhide ha8) (fun e => Held.val j p (unhide RJ) hpl ⟨by omega, by omega⟩ (fun _ => by rw [← unhide ETG]; obtain ⟨q, eq, hq⟩ := (unhide G5).1.o _ hm; have e3 : tg = q := (by omega); rw [e3]; exact hq) e), (unhide B7).mfr hm8, (unhide S7).mext hm8 X7⟩)
                              clear hs8 ha8 hm8
                              go_wp2_with fail
                              go_roundw
                              case rel => exact ⟨p + 1, T8, by omega, by go_num, (unhide R).1, (unhide R).2.1, (unhide R).2.2.1, (unhide R).2.2.2⟩
                              case measure => simp [intOf]; omega
                            · have E : decide ((tg : Int) ∈ T) = false := decide_eq_false hm
                              rw [E] at sn
                              clear E
                              have R := hide (show PairsH x L j (p + 1) T from (unhide G5).2.2.2.1.more (unhide G5).2.2.2.2 (fun _ hh => (hm (by obtain ⟨R, e⟩ := (unhide G5).1.e; rw [e]; exact List.mem_append_left _ (by rw [unhide ETG]; exact hh hk))).elim))
                              go_wp2_with fail
                              go_roundw
                              case rel => exact ⟨p + 1, T, by omega, by go_num, unhide S7, ⟨(unhide G5).1, (unhide G5).2.1, (unhide G5).2.2.1, unhide R⟩, unhide B7, X7⟩
                              case measure => simp [intOf]; omega
                        · have bx2 := bx
                          rw [hwk] at bx2
                          go_wp2_with fail
                          refine (l2mark_any x ((x.c j).p p).key b w.heap.size w.heap.size _ T _ ((unhide HH).ext XA) (unhide hMM).1 (unhide HSA) XA.size hn8).mono ?_
                          rintro e w5 ⟨v5, T5, rfl, hs5, ha5, hm5⟩
                          have X5 := (unhide HSA).mext hm5 XA
                          have S5 := hide hs5
                          have A5 := hide (unhide ha5)
                          have B5 := hide ((unhide BXA).mfr hm5)
                          have P5 := hide ((unhide PB).mfr hm5)
                          have bx5 := (unhide B5).1
                          rw [hwk] at bx5
                          have G5 := hide (show Pass x L c T5 ∧ it T5 c = (j : Int) ∧ c < T5.length ∧ PairsH x L j p T5 ∧ (SK (x.c j) → ((x.c j).p p).key.k = 2 → (tgt x ((x.c j).p p).key : Int) ∈ T5) from AtC.mark (unhide hinv) (unhide A5) (fun e => Held.key j p (unhide RJ) hpl ⟨by omega, by omega⟩ e))
                          obtain ⟨u0, u1, u2, u3, u4, u5⟩ := (unhide P5).c
                          clear hm5 hs5 ha5 e0 e1 e2 e3 e4 e5 bx2
                          go_wp2_with fail
                          refine (l1resolve_may x ((x.c j).p p).key b _ ((unhide HH).ext X5) (unhide hMM).1).mono ?_
                          rintro e w6 ⟨t, rfl, ht, hq6⟩
                          have X6 := X5.trans hq6
                          have S6 := hide ((unhide S5).ext hq6)
                          have B6 := hide ((unhide B5).ext hq6)
                          have P6 := hide ((unhide P5).ext hq6)
                          have bx6 := (unhide B6).1
                          rw [hwk] at bx6
                          have hB6 : B < w6.heap.size := cell_lt bx6
                          obtain ⟨z0, z1, z2, z3, z4, z5⟩ := (unhide P6).c
                          have hp6 : wr.heap.size < w6.heap.size := cell_lt z0
                          have hs6 : w.heap.size < w6.heap.size := (unhide S6).hb.2
                          have xk := (Ext.refl w6).alloc (.cells #[iv t.k, iv t.n, iv t.a] 90)
                          have X7 := X6.trans xk
                          have S7 := hide ((unhide S6).ext xk)
                          have B7 := hide ((unhide B6).ext xk)
                          clear hq6 u0 u1 u2 u3 u4 u5 bx5
                          have R := hide (show PairsH x L j (p + 1) T5 from (unhide G5).2.2.2.1.more (unhide G5).2.2.2.2 (fun s => by unfold SV at s; omega))
                          go_wp2_with fail
                          go_roundw
                          case rel => exact ⟨p + 1, T5, by omega, by go_num, unhide S7, ⟨(unhide G5).1, (unhide G5).2.1, (unhide G5).2.2.1, unhide R⟩, unhide B7, X7⟩
                          case measure => simp [intOf]; omega
                        · have bx2 := bx
                          rw [hwk] at bx2
                          go_wp2_with fail
                          have X5 := XA
                          have S5 := hide (unhide HSA)
                          have B5 := hide (unhide BXA)
                          have P5 := hide (unhide PB)
                          have G5 := hide (show Pass x L c T ∧ it T c = (j : Int) ∧ c < T.length ∧ PairsH x L j p T ∧ (SK (x.c j) → ((x.c j).p p).key.k = 2 → (tgt x ((x.c j).p p).key : Int) ∈ T) from ⟨(unhide hinv).1, (unhide hinv).2.1, (unhide hinv).2.2.1, (unhide hinv).2.2.2, fun s => by unfold SK at s; omega⟩)
                          refine (l1resolve_may x ((x.c j).p p).key b _ ((unhide HH).ext X5) (unhide hMM).1).mono ?_
                          rintro e w6 ⟨t, rfl, ht, hq6⟩
                          have X6 := X5.trans hq6
                          have S6 := hide ((unhide S5).ext hq6)
                          have B6 := hide ((unhide B5).ext hq6)
                          have P6 := hide ((unhide P5).ext hq6)
                          have bx6 := (unhide B6).1
                          rw [hwk] at bx6
                          have hB6 : B < w6.heap.size := cell_lt bx6
                          obtain ⟨z0, z1, z2, z3, z4, z5⟩ := (unhide P6).c
                          have hp6 : wr.heap.size < w6.heap.size := cell_lt z0
                          have hs6 : w.heap.size < w6.heap.size := (unhide S6).hb.2
                          have xk := (Ext.refl w6).alloc (.cells #[iv t.k, iv t.n, iv t.a] 90)
                          have X7 := X6.trans xk
                          have S7 := hide ((unhide S6).ext xk)
                          have B7 := hide ((unhide B6).ext xk)
                          clear hq6 e0 e1 e2 e3 e4 e5 bx2
                          have R := hide (show PairsH x L j (p + 1) T from (unhide G5).2.2.2.1.more (unhide G5).2.2.2.2 (fun s => by unfold SV at s; omega))
                          go_wp2_with fail
                          go_roundw
                          case rel => exact ⟨p + 1, T, by omega, by go_num, unhide S7, ⟨(unhide G5).1, (unhide G5).2.1, (unhide G5).2.2.1, unhide R⟩, unhide B7, X7⟩
                          case measure => simp [intOf]; omega
                      · have hpe : p = (x.c j).prs.length := by omega
                        have R := hide (show Pass x L (c + 1) T ∧ c + 1 ≤ T.length by
                          obtain ⟨i1, i2, i3, i4⟩ := unhide hinv
                          rw [hpe] at i4
                          exact ⟨i1.step i2 i4, i3⟩)
                        clear hs hpe
                        go_wp2_with fail
                        go_roundw
                        case rel => exact ⟨c + 1, T, (unhide R).2, by go_num, unhide HS, (unhide R).1, hbl⟩
                        case measure => simp [intOf]; omega
                · have hce : c = T.length := by omega
                  have R := hide (show Rest x (L.length : Int) T by have := unhide hpa; rw [hce] at this; exact this.rest)
                  clear hs hce hgl hpa
                  go_wp2_with fail
                  go_roundw
                  case rel => exact ⟨_, T, rfl, unhide HS, unhide R, hbl⟩
                  case measure => simp [intOf]; omega
end Go.Proofs.YtkabcfhemljnbaaGreat
