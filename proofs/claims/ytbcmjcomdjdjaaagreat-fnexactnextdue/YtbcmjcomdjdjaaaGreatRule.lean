import Derived.Test.YtbcmjcomdjdjaaaGreatBase
namespace Go.Proofs.YtbcmjcomdjdjaaaGreat
open Go.RowKit

/-! The rules of a heap, in plain words of numbers and lists. -/
def Cl0 : Cl := ⟨0, 0, 0, 0, 0, 0, 0, []⟩
def Hp.c (x : Hp) (i : Nat) : Cl := x.cells.getD i Cl0
theorem Hp.c_eq (x : Hp) (i : Nat) (h : i < x.cells.length) : x.cells[i] = x.c i := by simp [Hp.c, h]

structure R1 (x : Hp) : Prop where
  room : 1 ≤ x.room ∧ x.room ≤ 4000
  regs : x.regs.length = 16
  cells : (x.cells.length : Int) ≤ 2 * x.room
  gray : x.gray.length ≤ x.cells.length
  born : 0 ≤ x.born ∧ x.born ≤ 1000000000
  rounds : 0 ≤ x.rounds ∧ x.rounds ≤ 1000000000
  forced : 0 ≤ x.forced ∧ x.forced ≤ 1000000000
  per : 0 ≤ x.per ∧ x.per ≤ 64
  start : 0 ≤ x.start ∧ x.start ≤ 4000
  phase : 0 ≤ x.phase ∧ x.phase ≤ 6
  hand : 0 ≤ x.hand ∧ x.hand ≤ x.cells.length
  sub : 0 ≤ x.sub ∧ x.sub ≤ 200

/-- a cell with nothing but its State and To -/
def Bare (c : Cl) : Prop := c.kind = 0 ∧ c.weak = 0 ∧ c.last = 0 ∧ c.born = 0 ∧ c.color = 0 ∧ c.prs.length = 0
def UsedOk (x : Hp) (c : Cl) : Prop :=
  (0 ≤ c.kind ∧ c.kind ≤ 255) ∧ (0 ≤ c.weak ∧ c.weak ≤ 3) ∧ (0 ≤ c.last ∧ c.last ≤ 3) ∧ (1 ≤ c.born ∧ c.born ≤ x.born) ∧ (0 ≤ c.color ∧ c.color ≤ 2) ∧ c.to = 0 ∧ c.prs.length ≤ 200
def MovedOk (x : Hp) (i : Nat) (c : Cl) : Prop :=
  Bare c ∧ 4 ≤ x.phase ∧ 0 ≤ c.to ∧ c.to < i ∧ (x.c c.to.toNat).st = 1 ∧ (x.phase = 4 → ∀ k : Nat, (k : Int) < c.to → (x.c k).st ≠ 0)
def CellOk (x : Hp) (i : Nat) : Prop :=
  ((x.c i).st = 0 ∧ Bare (x.c i) ∧ (x.c i).to = 0) ∨ ((x.c i).st = 2 ∧ MovedOk x i (x.c i)) ∨ ((x.c i).st = 1 ∧ UsedOk x (x.c i))
def Apart (x : Hp) : Prop :=
  ∀ i, i < x.cells.length → (x.c i).st ≠ 0 → ∀ k, k < i → ¬ ((x.c k).st = (x.c i).st ∧ (x.c k).born = (x.c i).born ∧ (x.c k).to = (x.c i).to)
def R2 (x : Hp) : Prop := (∀ i, i < x.cells.length → CellOk x i) ∧ Apart x

def unitsOf (c : Cl) : Nat := if c.st = 1 then 1 + c.prs.length else 0
def units (cs : List Cl) : Nat := (cs.map unitsOf).sum
def R3 (x : Hp) : Prop := x.used = units x.cells ∧ x.used ≤ x.room

def Formed (w : Wd) (n : Nat) : Prop := (w.k = 0 ∧ w.n = 0 ∧ w.a = 0) ∨ (w.k = 1 ∧ w.a = 0) ∨ (w.k = 2 ∧ w.n = 0 ∧ 0 ≤ w.a ∧ w.a < n)
def Doomed (x : Hp) (i : Nat) : Prop := x.phase = 3 ∧ x.hand ≤ i ∧ (x.c i).st = 1 ∧ (x.c i).color = 0
def Leads (x : Hp) (w : Wd) (moved : Prop) : Prop :=
  Formed w x.cells.length ∧ (w.k = 2 → ((x.c w.a.toNat).st = 2 ∧ moved) ∨ ((x.c w.a.toNat).st = 1 ∧ ¬ Doomed x w.a.toNat))
def Mended (x : Hp) (i k : Nat) : Prop := x.phase ≠ 4 ∧ (x.phase = 5 → (i : Int) < x.hand ∨ ((i : Int) = x.hand ∧ (k : Int) < x.sub))
def PairOk (x : Hp) (i k : Nat) (p : Pr) : Prop :=
  (Doomed x i → Formed p.key x.cells.length ∧ Formed p.val x.cells.length) ∧ (¬ Doomed x i → Leads x p.key (¬ Mended x i k) ∧ Leads x p.val (¬ Mended x i k))
def Pr0 : Pr := ⟨⟨0, 0, 0⟩, ⟨0, 0, 0⟩⟩
def Cl.p (c : Cl) (k : Nat) : Pr := c.prs.getD k Pr0
theorem Cl.p_eq (c : Cl) (k : Nat) (h : k < c.prs.length) : c.prs[k] = c.p k := by simp [Cl.p, h]
def Speaks (c : Cl) : Prop := c.last = 1 ∨ c.last = 2
def R4 (x : Hp) : Prop :=
  (∀ i (h : i < x.regs.length), Leads x x.regs[i] False) ∧
  (∀ i, i < x.cells.length → ¬ (Doomed x i ∧ Speaks (x.c i)) ∧ ∀ k, k < (x.c i).prs.length → PairOk x i k ((x.c i).p k))

def Marking (x : Hp) : Prop := x.phase = 1 ∨ x.phase = 2
def cnt (g : List Int) (i : Nat) : Nat := g.count (i : Int)
def ColorOk (x : Hp) (i : Nat) : Prop :=
  ((x.c i).color = 1 → cnt x.gray i = 1) ∧ ((x.c i).color ≠ 1 → cnt x.gray i = 0) ∧ ((x.c i).color = 2 → Marking x ∨ (x.phase = 3 ∧ x.hand ≤ i))
def R5 (x : Hp) : Prop :=
  (¬ Marking x → x.gray.length = 0) ∧ (∀ i, i < x.cells.length → ColorOk x i) ∧ (∀ g, g ∈ x.gray → 0 ≤ g ∧ g < x.cells.length)

def Hp.g0 (x : Hp) : Nat := (x.gray.getD 0 0).toNat
def R6 (x : Hp) : Prop :=
  ((x.phase = 0 ∨ x.phase = 4) → x.hand = 0 ∧ x.sub = 0) ∧
  (x.phase = 2 → x.hand = 0 ∧ (x.gray.length = 0 → x.sub = 0) ∧ (x.gray.length ≠ 0 → x.sub ≤ (x.c x.g0).prs.length)) ∧
  (x.phase = 5 → ((x.hand = x.cells.length ∨ (x.c x.hand.toNat).st ≠ 1) → x.sub = 0) ∧ (x.hand ≠ x.cells.length ∧ (x.c x.hand.toNat).st = 1 → x.sub ≤ (x.c x.hand.toNat).prs.length)) ∧
  ((x.phase = 1 ∨ x.phase = 3 ∨ x.phase = 6) → x.sub = 0)

def White (x : Hp) (w : Wd) : Prop := w.k = 2 ∧ (x.c w.a.toNat).color = 0
def looked (x : Hp) (i : Nat) : Nat :=
  if (x.c i).color = 2 then (x.c i).prs.length else if x.phase = 2 ∧ x.gray.length ≠ 0 ∧ x.gray.getD 0 0 = (i : Int) then x.sub.toNat else 0
def R7 (x : Hp) : Prop :=
  Marking x → ∀ i, i < x.cells.length → ¬ (Speaks (x.c i) ∧ (x.c i).color = 0 ∧ (x.phase = 2 ∨ (i : Int) < x.hand)) ∧ ∀ k, k < looked x i → ¬ White x ((x.c i).p k).key ∧ ¬ White x ((x.c i).p k).val
def R8 (x : Hp) : Prop := ∀ i, i < x.cells.length → ¬ (x.phase = 6 ∧ x.hand ≤ i ∧ (x.c i).st = 2)

/-- n is the number of the first rule that fails, 0 when none does -/
def OkIs (x : Hp) (n : Int) : Prop :=
  (¬ R1 x ∧ n = 1) ∨ (R1 x ∧ ¬ R2 x ∧ n = 2) ∨ (R1 x ∧ R2 x ∧ ¬ R3 x ∧ n = 3) ∨ (R1 x ∧ R2 x ∧ R3 x ∧ ¬ R4 x ∧ n = 4) ∨ (R1 x ∧ R2 x ∧ R3 x ∧ R4 x ∧ ¬ R5 x ∧ n = 5) ∨
  (R1 x ∧ R2 x ∧ R3 x ∧ R4 x ∧ R5 x ∧ ¬ R6 x ∧ n = 6) ∨ (R1 x ∧ R2 x ∧ R3 x ∧ R4 x ∧ R5 x ∧ R6 x ∧ ¬ R7 x ∧ n = 7) ∨ (R1 x ∧ R2 x ∧ R3 x ∧ R4 x ∧ R5 x ∧ R6 x ∧ R7 x ∧ ¬ R8 x ∧ n = 8) ∨
  (R1 x ∧ R2 x ∧ R3 x ∧ R4 x ∧ R5 x ∧ R6 x ∧ R7 x ∧ R8 x ∧ n = 0)
theorem OkIs.uniq {x : Hp} {n m : Int} (h : OkIs x n) (k : OkIs x m) : n = m := by
  unfold OkIs at h k
  by_cases h1 : R1 x <;> by_cases h2 : R2 x <;> by_cases h3 : R3 x <;> by_cases h4 : R4 x <;> by_cases h5 : R5 x <;> by_cases h6 : R6 x <;> by_cases h7 : R7 x <;> by_cases h8 : R8 x <;> simp only [h1, h2, h3, h4, h5, h6, h7, h8, true_and, false_and, not_true_eq_false, not_false_eq_true, false_or, or_false] at h k <;> omega

/-- a heap behind a pointer: its thirteen cells, and the slices in it -/
structure HAt (w : World) (b : Nat) (x : Hp) (ar : Option Addr) (kr : Nat) (ac : Option Addr) (kc : Nat) (ag : Option Addr) (kg : Nat) : Prop where
  c0 : w.cell? ⟨b, 0, none⟩ = some (iv x.room)
  c1 : w.cell? ⟨b, 1, none⟩ = some (iv x.used)
  c2 : w.cell? ⟨b, 2, none⟩ = some (iv x.born)
  c3 : w.cell? ⟨b, 3, none⟩ = some (.slice ar x.regs.length kr)
  c4 : w.cell? ⟨b, 4, none⟩ = some (.slice ac x.cells.length kc)
  c5 : w.cell? ⟨b, 5, none⟩ = some (iv x.phase)
  c6 : w.cell? ⟨b, 6, none⟩ = some (iv x.hand)
  c7 : w.cell? ⟨b, 7, none⟩ = some (iv x.sub)
  c8 : w.cell? ⟨b, 8, none⟩ = some (.slice ag x.gray.length kg)
  c9 : w.cell? ⟨b, 9, none⟩ = some (iv x.per)
  c10 : w.cell? ⟨b, 10, none⟩ = some (iv x.start)
  c11 : w.cell? ⟨b, 11, none⟩ = some (iv x.rounds)
  c12 : w.cell? ⟨b, 12, none⟩ = some (iv x.forced)
  lr : x.regs.length ≤ 35184372088832
  lc : x.cells.length ≤ 35184372088832
  lg : x.gray.length ≤ 35184372088832
  R : ∀ i (hi : i < x.regs.length), ∃ b' o, ar = some ⟨b', o, none⟩ ∧ WdAt w b' (o + i * 3) x.regs[i]
  C : ∀ i, i < x.cells.length → ∃ b' o, ac = some ⟨b', o, none⟩ ∧ ClAt w b' (o + i * 8) (x.c i)
  G : ∀ i (hi : i < x.gray.length), ∃ b' o, ag = some ⟨b', o, none⟩ ∧ InAt w b' (o + i * 1) x.gray[i]

theorem HAt.ext {w w' : World} {b : Nat} {x : Hp} {ar : Option Addr} {kr : Nat} {ac : Option Addr} {kc : Nat} {ag : Option Addr} {kg : Nat} (h : HAt w b x ar kr ac kc ag kg) (e : Ext w w') : HAt w' b x ar kr ac kc ag kg :=
  ⟨e.keep h.c0, e.keep h.c1, e.keep h.c2, e.keep h.c3, e.keep h.c4, e.keep h.c5, e.keep h.c6, e.keep h.c7, e.keep h.c8, e.keep h.c9, e.keep h.c10, e.keep h.c11, e.keep h.c12, h.lr, h.lc, h.lg,
    fun i hi => let ⟨b', o, a, p⟩ := h.R i hi; ⟨b', o, a, p.ext e⟩, fun i hi => let ⟨b', o, a, p⟩ := h.C i hi; ⟨b', o, a, p.ext e⟩, fun i hi => let ⟨b', o, a, p⟩ := h.G i hi; ⟨b', o, a, p.ext e⟩⟩

/-- the cell at i, all of it laid open -/
structure CAt (w : World) (b o : Nat) (c : Cl) (ap : Option Addr) (kp : Nat) : Prop where
  p0 : w.cell? ⟨b, o, none⟩ = some (iv c.st)
  p1 : w.cell? ⟨b, o + 1, none⟩ = some (iv c.kind)
  p2 : w.cell? ⟨b, o + 2, none⟩ = some (iv c.weak)
  p3 : w.cell? ⟨b, o + 3, none⟩ = some (iv c.last)
  p4 : w.cell? ⟨b, o + 4, none⟩ = some (iv c.born)
  p5 : w.cell? ⟨b, o + 5, none⟩ = some (iv c.color)
  p6 : w.cell? ⟨b, o + 6, none⟩ = some (iv c.to)
  p7 : w.cell? ⟨b, o + 7, none⟩ = some (.slice ap c.prs.length kp)
  lp : c.prs.length ≤ 35184372088832
  P : ∀ k, k < c.prs.length → ∃ b' o', ap = some ⟨b', o', none⟩ ∧ PrAt w b' (o' + k * 6) (c.p k)
theorem HAt.cell {w : World} {b : Nat} {x : Hp} {ar : Option Addr} {kr : Nat} {ac : Option Addr} {kc : Nat} {ag : Option Addr} {kg : Nat} (h : HAt w b x ar kr ac kc ag kg) (i : Nat) (hi : i < x.cells.length) :
    ∃ b' o ap kp, ac = some ⟨b', o, none⟩ ∧ CAt w b' (o + i * 8) (x.c i) ap kp := by
  obtain ⟨b', o, e, vp, p0, p1, p2, p3, p4, p5, p6, p7, ap, kp, rfl, lp, P⟩ := h.C i hi
  exact ⟨b', o, ap, kp, e, p0, p1, p2, p3, p4, p5, p6, p7, lp, fun k hk => by obtain ⟨b2, o2, e2, q⟩ := P k hk; rw [Cl.p_eq _ _ hk] at q; exact ⟨b2, o2, e2, q⟩⟩
theorem CAt.ext {w w' : World} {b o : Nat} {c : Cl} {ap : Option Addr} {kp : Nat} (h : CAt w b o c ap kp) (e : Ext w w') : CAt w' b o c ap kp :=
  ⟨e.keep h.p0, e.keep h.p1, e.keep h.p2, e.keep h.p3, e.keep h.p4, e.keep h.p5, e.keep h.p6, e.keep h.p7, h.lp, fun k hk => let ⟨b', o', a, p⟩ := h.P k hk; ⟨b', o', a, p.ext e⟩⟩

end Go.Proofs.YtbcmjcomdjdjaaaGreat
