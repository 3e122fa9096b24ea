import Derived.Test.YtddkhnclmeikfacGreatTo
import Derived.Laws.OwnMore
import Derived.Deep.AppendLies
import Derived.Maps.AppendAt
namespace Go.Proofs.YtddkhnclmeikfacGreat
open Go.RowKit

theorem ownsRow_of_block {w w' : World} {base e size n : Nat} {v : Value} {xs : List Value} (h : w.ownsRow base e size v n xs) (hb : ∀ k, v.ownBlock = some k → w'.heap[k]? = w.heap[k]?) : w'.ownsRow base e size v n xs := by
  refine ⟨h.1, ?_⟩
  rcases h.2 with h' | ⟨g, cap, cur, rfl, h1, h2, h3⟩
  · exact .inl h'
  · exact .inr ⟨g, cap, cur, rfl, h1, (hb g rfl).trans h2, h3⟩
end Go.Proofs.YtddkhnclmeikfacGreat

namespace Go.Proofs.YtddkhnclmeikfacGreat
open Go.RowKit

/-! Rows of memory that a call owns, flat: what is common to all kinds of elements. -/
theorem flat_get {α : Type} (f : α → List Value) (c : Nat) (hc : ∀ a, (f a).length = c) : ∀ (l : List α) (i j : Nat) (hi : i < l.length), j < c → (l.flatMap f)[i * c + j]? = (f l[i])[j]?
  | a :: l, 0, j, _, hj => by simp only [List.flatMap_cons, Nat.zero_mul, Nat.zero_add, List.getElem_cons_zero]; exact List.getElem?_append_left (by rw [hc]; exact hj)
  | a :: l, i + 1, j, hi, hj => by
    simp only [List.flatMap_cons, List.getElem_cons_succ]
    rw [List.getElem?_append_right (by rw [hc, Nat.succ_mul]; omega), hc, show (i + 1) * c + j - c = i * c + j by rw [Nat.succ_mul]; omega]
    exact flat_get f c hc l i j (by simpa using hi) hj
theorem own_cells {w : World} {base : Nat} {t : TypeId} {c : Nat} {v : Value} {α : Type} {f : α → List Value} (hc : ∀ a, (f a).length = c) {L : List α} (h : w.ownsRow base t c v L.length (L.flatMap f)) : ∃ ad cap, v = .slice ad L.length cap ∧ (0 < L.length → ∃ g, ad = some ⟨g, 0, none⟩) ∧ ∀ i (hi : i < L.length), ∃ g, ad = some ⟨g, 0, none⟩ ∧ base ≤ g ∧ g < w.heap.size ∧ ∀ j, j < c → w.cell? ⟨g, 0 + i * c + j, none⟩ = (f L[i])[j]? := by
  rcases h.2 with ⟨h0, h1⟩ | ⟨g, cap, cur, h0, hb, hg, hr⟩
  · exact ⟨none, 0, by rw [h0, h1], fun q => by omega, fun i hi => by omega⟩
  · subst h0
    refine ⟨_, cap, rfl, fun _ => ⟨g, rfl⟩, fun i hi => ⟨g, rfl, (h.lt g rfl).1, (h.lt g rfl).2, fun j hj => ?_⟩⟩
    have hlt : i * c + j < L.length * c := by
      have : (i + 1) * c ≤ L.length * c := Nat.mul_le_mul_right c (by omega)
      rw [Nat.succ_mul] at this; omega
    rw [Nat.zero_add, World.ownsRow.cellAt h (i * c + j) hlt]
    exact flat_get f c hc L i j hi hj
theorem grown_ext {a W w5 : World} {v : Value} {base : Nat} {t : TypeId} {c n : Nat} {xs : List Value} (ea : Ext a W) (hown : W.ownsRow base t c v n xs) (hb : a.heap.size ≤ base) (hg : W.grownBy w5 v.ownBlock) : Ext a w5 :=
  Below.trans ea ⟨hg.os, hg.tape, hg.output, hg.size, fun k hk => hg.block k (Nat.lt_of_lt_of_le hk ea.size) (fun e => by have := (hown.lt k e.symm).1; omega)⟩

/-- a row in a box: something was appended to it, and the new slice laid into the box's cell o -/
theorem box_push {w3 W w5 : World} {T : TypeId} {c n n' : Nat} {xs ys : List Value} {v v' u : Value} {base bg o : Nat} (hb : bg < base) (ew : Ext w3 W) (hW : W.ownsRow base T c v n xs) (h3 : w3.heap.size ≤ bg) (hlt : bg < W.heap.size) (hg : W.grownBy w5 v.ownBlock) (h5 : w5.ownsRow base T c v' n' ys) :
    (w5.setCell ⟨bg, o, none⟩ u).ownsRow base T c v' n' ys ∧ Ext w3 (w5.setCell ⟨bg, o, none⟩ u) ∧ (∀ o', o' ≠ o → (w5.setCell ⟨bg, o, none⟩ u).cell? ⟨bg, o', none⟩ = W.cell? ⟨bg, o', none⟩) ∧ (∀ o', (w5.setCell ⟨bg, o, none⟩ u).frozen? ⟨bg, o', none⟩ = W.frozen? ⟨bg, o', none⟩) ∧ (∀ y, W.cell? ⟨bg, o, none⟩ = some y → (w5.setCell ⟨bg, o, none⟩ u).cell? ⟨bg, o, none⟩ = some u) ∧ (∀ q, q < W.heap.size → q ≠ bg → v.ownBlock ≠ some q → (w5.setCell ⟨bg, o, none⟩ u).heap[q]? = W.heap[q]?) := by
  have hblk : w5.heap[bg]? = W.heap[bg]? := hg.block bg hlt (fun e => by have := (hW.lt bg e.symm).1; omega)
  refine ⟨ownsRow_of_block h5 (fun q hq => Below.heap_setCell _ _ _ _ (fun e => by have := (h5.lt q hq).1; simp only at e; omega)), (grown_ext ew hW (by omega) hg).setCell h3 u, fun o' ho => ?_, fun o' => ?_, fun y hy => ?_, fun q hq hne hv => ?_⟩
  · rw [cell_other _ (.inr (fun e => ho e.symm))]; exact World.cell?_of_block (a := ⟨bg, o', none⟩) hblk
  · rw [World.frozen?_setCell]; exact World.frozen?_of_block (a := ⟨bg, o', none⟩) hblk
  · exact World.cell?_setCell_same _ _ _ ((World.cell?_of_block (a := ⟨bg, o, none⟩) hblk).trans hy)
  · exact (Below.heap_setCell _ _ _ _ hne).trans (hg.block q hq (fun e => hv e.symm))


theorem own_less {w : World} {b b' : Nat} {T : TypeId} {c n : Nat} {v : Value} {xs : List Value} (h : w.ownsRow b T c v n xs) (hb : b' ≤ b) : w.ownsRow b' T c v n xs :=
  ⟨h.1, h.2.imp id (fun ⟨g, cap, cur, hv, hg, r⟩ => ⟨g, cap, cur, hv, Nat.le_trans hb hg, r⟩)⟩
theorem flat_len {α : Type} (f : α → List Value) (c : Nat) (hc : ∀ a, (f a).length = c) (L : List α) : (L.flatMap f).length = L.length * c := by
  induction L with
  | nil => simp
  | cons a L ih => simp [ih, hc, Nat.succ_mul]; omega
theorem flat_one {α : Type} (f : α → List Value) (h : ∀ a u, u ∈ f a → u.oneCell' = true) (L : List α) : ∀ u, u ∈ L.flatMap f → u.oneCell' = true := fun u hu => by
  obtain ⟨a, _, h2⟩ := List.mem_flatMap.1 hu
  exact h a u h2
theorem addr_add (b o j : Nat) : (⟨b, o, none⟩ : Addr).add j = ⟨b, o + j, none⟩ := by unfold Addr.add; split <;> simp_all
theorem flat_news {α : Type} {w : World} (f : α → List Value) (c : Nat) (h0 : 0 < c) (hc : ∀ a, (f a).length = c) (L : List α) (b o : Nat) (h : ∀ i (hi : i < L.length), ∀ j, j < c → w.cell? ⟨b, o + i * c + j, none⟩ = (f L[i])[j]?) : ∀ j u, (L.flatMap f)[j]? = some u → w.cell? ((⟨b, o, none⟩ : Addr).add j) = some u := fun j u hu => by
  have hj : j < L.length * c := by
    have := (List.getElem?_eq_some_iff.1 hu).1
    rwa [flat_len f c hc] at this
  have hq : j / c < L.length := (Nat.div_lt_iff_lt_mul h0).2 hj
  have hm : j % c < c := Nat.mod_lt _ h0
  have e : j / c * c + j % c = j := Nat.div_add_mod' j c
  rw [addr_add, ← hu]
  have := h (j / c) hq (j % c) hm
  rw [Nat.add_assoc, e] at this
  rw [this, ← flat_get f c hc L (j / c) (j % c) hq hm, e]
end Go.Proofs.YtddkhnclmeikfacGreat

namespace Go.Proofs.YtddkhnclmeikfacGreat
open Go.RowKit

/-! The rules of a heap, in plain words of numbers and lists. -/
def Cl0 : Cl := ⟨0, 0, 0, 0, 0, 0, 0, []⟩
def Hp.c (x : Hp) (i : Nat) : Cl := x.cells.getD i Cl0
theorem Hp.c_eq (x : Hp) (i : Nat) (h : i < x.cells.length) : x.cells[i] = x.c i := by simp [Hp.c, h]

structure R1 (x : Hp) : Prop where
  room : 1 ≤ x.room ∧ x.room ≤ 4000
  regs : x.regs.length = 16
  cells : (x.cells.length : Int) ≤ 2 * x.room
  gray : x.gray.length ≤ x.cells.length
  born : 0 ≤ x.born ∧ x.born ≤ 1000000000
  rounds : 0 ≤ x.rounds ∧ x.rounds ≤ 1000000000
  forced : 0 ≤ x.forced ∧ x.forced ≤ 1000000000
  per : 0 ≤ x.per ∧ x.per ≤ 64
  start : 0 ≤ x.start ∧ x.start ≤ 4000
  phase : 0 ≤ x.phase ∧ x.phase ≤ 6
  hand : 0 ≤ x.hand ∧ x.hand ≤ x.cells.length
  sub : 0 ≤ x.sub ∧ x.sub ≤ 200

/-- a cell with nothing but its State and To -/
def Bare (c : Cl) : Prop := c.kind = 0 ∧ c.weak = 0 ∧ c.last = 0 ∧ c.born = 0 ∧ c.color = 0 ∧ c.prs.length = 0
def UsedOk (x : Hp) (c : Cl) : Prop :=
  (0 ≤ c.kind ∧ c.kind ≤ 255) ∧ (0 ≤ c.weak ∧ c.weak ≤ 3) ∧ (0 ≤ c.last ∧ c.last ≤ 3) ∧ (1 ≤ c.born ∧ c.born ≤ x.born) ∧ (0 ≤ c.color ∧ c.color ≤ 2) ∧ c.to = 0 ∧ c.prs.length ≤ 200
def MovedOk (x : Hp) (i : Nat) (c : Cl) : Prop :=
  Bare c ∧ 4 ≤ x.phase ∧ 0 ≤ c.to ∧ c.to < i ∧ (x.c c.to.toNat).st = 1 ∧ (x.phase = 4 → ∀ k : Nat, (k : Int) < c.to → (x.c k).st ≠ 0)
def CellOk (x : Hp) (i : Nat) : Prop :=
  ((x.c i).st = 0 ∧ Bare (x.c i) ∧ (x.c i).to = 0) ∨ ((x.c i).st = 2 ∧ MovedOk x i (x.c i)) ∨ ((x.c i).st = 1 ∧ UsedOk x (x.c i))
def Apart (x : Hp) : Prop :=
  ∀ i, i < x.cells.length → (x.c i).st ≠ 0 → ∀ k, k < i → ¬ ((x.c k).st = (x.c i).st ∧ (x.c k).born = (x.c i).born ∧ (x.c k).to = (x.c i).to)
def R2 (x : Hp) : Prop := (∀ i, i < x.cells.length → CellOk x i) ∧ Apart x

def unitsOf (c : Cl) : Nat := if c.st = 1 then 1 + c.prs.length else 0
def units (cs : List Cl) : Nat := (cs.map unitsOf).sum
def R3 (x : Hp) : Prop := x.used = units x.cells ∧ x.used ≤ x.room

def Formed (w : Wd) (n : Nat) : Prop := (w.k = 0 ∧ w.n = 0 ∧ w.a = 0) ∨ (w.k = 1 ∧ w.a = 0) ∨ (w.k = 2 ∧ w.n = 0 ∧ 0 ≤ w.a ∧ w.a < n)
def Doomed (x : Hp) (i : Nat) : Prop := x.phase = 3 ∧ x.hand ≤ i ∧ (x.c i).st = 1 ∧ (x.c i).color = 0
def Leads (x : Hp) (w : Wd) (moved : Prop) : Prop :=
  Formed w x.cells.length ∧ (w.k = 2 → ((x.c w.a.toNat).st = 2 ∧ moved) ∨ ((x.c w.a.toNat).st = 1 ∧ ¬ Doomed x w.a.toNat))
def Mended (x : Hp) (i k : Nat) : Prop := x.phase ≠ 4 ∧ (x.phase = 5 → (i : Int) < x.hand ∨ ((i : Int) = x.hand ∧ (k : Int) < x.sub))
def PairOk (x : Hp) (i k : Nat) (p : Pr) : Prop :=
  (Doomed x i → Formed p.key x.cells.length ∧ Formed p.val x.cells.length) ∧ (¬ Doomed x i → Leads x p.key (¬ Mended x i k) ∧ Leads x p.val (¬ Mended x i k))
def Pr0 : Pr := ⟨⟨0, 0, 0⟩, ⟨0, 0, 0⟩⟩
def Cl.p (c : Cl) (k : Nat) : Pr := c.prs.getD k Pr0
theorem Cl.p_eq (c : Cl) (k : Nat) (h : k < c.prs.length) : c.prs[k] = c.p k := by simp [Cl.p, h]
def Speaks (c : Cl) : Prop := c.last = 1 ∨ c.last = 2
def R4 (x : Hp) : Prop :=
  (∀ i (h : i < x.regs.length), Leads x x.regs[i] False) ∧
  (∀ i, i < x.cells.length → ¬ (Doomed x i ∧ Speaks (x.c i)) ∧ ∀ k, k < (x.c i).prs.length → PairOk x i k ((x.c i).p k))

def Marking (x : Hp) : Prop := x.phase = 1 ∨ x.phase = 2
def cnt (g : List Int) (i : Nat) : Nat := g.count (i : Int)
def ColorOk (x : Hp) (i : Nat) : Prop :=
  ((x.c i).color = 1 → cnt x.gray i = 1) ∧ ((x.c i).color ≠ 1 → cnt x.gray i = 0) ∧ ((x.c i).color = 2 → Marking x ∨ (x.phase = 3 ∧ x.hand ≤ i))
def R5 (x : Hp) : Prop :=
  (¬ Marking x → x.gray.length = 0) ∧ (∀ i, i < x.cells.length → ColorOk x i) ∧ (∀ g, g ∈ x.gray → 0 ≤ g ∧ g < x.cells.length)

def Hp.g0 (x : Hp) : Nat := (x.gray.getD 0 0).toNat
def R6 (x : Hp) : Prop :=
  ((x.phase = 0 ∨ x.phase = 4) → x.hand = 0 ∧ x.sub = 0) ∧
  (x.phase = 2 → x.hand = 0 ∧ (x.gray.length = 0 → x.sub = 0) ∧ (x.gray.length ≠ 0 → x.sub ≤ (x.c x.g0).prs.length)) ∧
  (x.phase = 5 → ((x.hand = x.cells.length ∨ (x.c x.hand.toNat).st ≠ 1) → x.sub = 0) ∧ (x.hand ≠ x.cells.length ∧ (x.c x.hand.toNat).st = 1 → x.sub ≤ (x.c x.hand.toNat).prs.length)) ∧
  ((x.phase = 1 ∨ x.phase = 3 ∨ x.phase = 6) → x.sub = 0)

def White (x : Hp) (w : Wd) : Prop := w.k = 2 ∧ (x.c w.a.toNat).color = 0
def looked (x : Hp) (i : Nat) : Nat :=
  if (x.c i).color = 2 then (x.c i).prs.length else if x.phase = 2 ∧ x.gray.length ≠ 0 ∧ x.gray.getD 0 0 = (i : Int) then x.sub.toNat else 0
def R7 (x : Hp) : Prop :=
  Marking x → ∀ i, i < x.cells.length → ¬ (Speaks (x.c i) ∧ (x.c i).color = 0 ∧ (x.phase = 2 ∨ (i : Int) < x.hand)) ∧ ∀ k, k < looked x i → ¬ White x ((x.c i).p k).key ∧ ¬ White x ((x.c i).p k).val
def R8 (x : Hp) : Prop := ∀ i, i < x.cells.length → ¬ (x.phase = 6 ∧ x.hand ≤ i ∧ (x.c i).st = 2)

/-- n is the number of the first rule that fails, 0 when none does -/
def OkIs (x : Hp) (n : Int) : Prop :=
  (¬ R1 x ∧ n = 1) ∨ (R1 x ∧ ¬ R2 x ∧ n = 2) ∨ (R1 x ∧ R2 x ∧ ¬ R3 x ∧ n = 3) ∨ (R1 x ∧ R2 x ∧ R3 x ∧ ¬ R4 x ∧ n = 4) ∨ (R1 x ∧ R2 x ∧ R3 x ∧ R4 x ∧ ¬ R5 x ∧ n = 5) ∨
  (R1 x ∧ R2 x ∧ R3 x ∧ R4 x ∧ R5 x ∧ ¬ R6 x ∧ n = 6) ∨ (R1 x ∧ R2 x ∧ R3 x ∧ R4 x ∧ R5 x ∧ R6 x ∧ ¬ R7 x ∧ n = 7) ∨ (R1 x ∧ R2 x ∧ R3 x ∧ R4 x ∧ R5 x ∧ R6 x ∧ R7 x ∧ ¬ R8 x ∧ n = 8) ∨
  (R1 x ∧ R2 x ∧ R3 x ∧ R4 x ∧ R5 x ∧ R6 x ∧ R7 x ∧ R8 x ∧ n = 0)
theorem OkIs.uniq {x : Hp} {n m : Int} (h : OkIs x n) (k : OkIs x m) : n = m := by
  unfold OkIs at h k
  by_cases h1 : R1 x <;> by_cases h2 : R2 x <;> by_cases h3 : R3 x <;> by_cases h4 : R4 x <;> by_cases h5 : R5 x <;> by_cases h6 : R6 x <;> by_cases h7 : R7 x <;> by_cases h8 : R8 x <;> simp only [h1, h2, h3, h4, h5, h6, h7, h8, true_and, false_and, not_true_eq_false, not_false_eq_true, false_or, or_false] at h k <;> omega

/-- a heap behind a pointer: its thirteen cells, and the slices in it -/
structure HAt (w : World) (b : Nat) (x : Hp) (ar : Option Addr) (kr : Nat) (ac : Option Addr) (kc : Nat) (ag : Option Addr) (kg : Nat) : Prop where
  c0 : w.cell? ⟨b, 0, none⟩ = some (iv x.room)
  c1 : w.cell? ⟨b, 1, none⟩ = some (iv x.used)
  c2 : w.cell? ⟨b, 2, none⟩ = some (iv x.born)
  c3 : w.cell? ⟨b, 3, none⟩ = some (.slice ar x.regs.length kr)
  c4 : w.cell? ⟨b, 4, none⟩ = some (.slice ac x.cells.length kc)
  c5 : w.cell? ⟨b, 5, none⟩ = some (iv x.phase)
  c6 : w.cell? ⟨b, 6, none⟩ = some (iv x.hand)
  c7 : w.cell? ⟨b, 7, none⟩ = some (iv x.sub)
  c8 : w.cell? ⟨b, 8, none⟩ = some (.slice ag x.gray.length kg)
  c9 : w.cell? ⟨b, 9, none⟩ = some (iv x.per)
  c10 : w.cell? ⟨b, 10, none⟩ = some (iv x.start)
  c11 : w.cell? ⟨b, 11, none⟩ = some (iv x.rounds)
  c12 : w.cell? ⟨b, 12, none⟩ = some (iv x.forced)
  lr : x.regs.length ≤ 35184372088832
  lc : x.cells.length ≤ 35184372088832
  lg : x.gray.length ≤ 35184372088832
  R : ∀ i (hi : i < x.regs.length), ∃ b' o, ar = some ⟨b', o, none⟩ ∧ WdAt w b' (o + i * 3) x.regs[i]
  C : ∀ i, i < x.cells.length → ∃ b' o, ac = some ⟨b', o, none⟩ ∧ ClAt w b' (o + i * 8) (x.c i)
  G : ∀ i (hi : i < x.gray.length), ∃ b' o, ag = some ⟨b', o, none⟩ ∧ InAt w b' (o + i * 1) x.gray[i]

theorem HAt.ext {w w' : World} {b : Nat} {x : Hp} {ar : Option Addr} {kr : Nat} {ac : Option Addr} {kc : Nat} {ag : Option Addr} {kg : Nat} (h : HAt w b x ar kr ac kc ag kg) (e : Ext w w') : HAt w' b x ar kr ac kc ag kg :=
  ⟨e.keep h.c0, e.keep h.c1, e.keep h.c2, e.keep h.c3, e.keep h.c4, e.keep h.c5, e.keep h.c6, e.keep h.c7, e.keep h.c8, e.keep h.c9, e.keep h.c10, e.keep h.c11, e.keep h.c12, h.lr, h.lc, h.lg,
    fun i hi => let ⟨b', o, a, p⟩ := h.R i hi; ⟨b', o, a, p.ext e⟩, fun i hi => let ⟨b', o, a, p⟩ := h.C i hi; ⟨b', o, a, p.ext e⟩, fun i hi => let ⟨b', o, a, p⟩ := h.G i hi; ⟨b', o, a, p.ext e⟩⟩

/-- the cell at i, all of it laid open -/
structure CAt (w : World) (b o : Nat) (c : Cl) (ap : Option Addr) (kp : Nat) : Prop where
  p0 : w.cell? ⟨b, o, none⟩ = some (iv c.st)
  p1 : w.cell? ⟨b, o + 1, none⟩ = some (iv c.kind)
  p2 : w.cell? ⟨b, o + 2, none⟩ = some (iv c.weak)
  p3 : w.cell? ⟨b, o + 3, none⟩ = some (iv c.last)
  p4 : w.cell? ⟨b, o + 4, none⟩ = some (iv c.born)
  p5 : w.cell? ⟨b, o + 5, none⟩ = some (iv c.color)
  p6 : w.cell? ⟨b, o + 6, none⟩ = some (iv c.to)
  p7 : w.cell? ⟨b, o + 7, none⟩ = some (.slice ap c.prs.length kp)
  lp : c.prs.length ≤ 35184372088832
  P : ∀ k, k < c.prs.length → ∃ b' o', ap = some ⟨b', o', none⟩ ∧ PrAt w b' (o' + k * 6) (c.p k)
theorem HAt.cell {w : World} {b : Nat} {x : Hp} {ar : Option Addr} {kr : Nat} {ac : Option Addr} {kc : Nat} {ag : Option Addr} {kg : Nat} (h : HAt w b x ar kr ac kc ag kg) (i : Nat) (hi : i < x.cells.length) :
    ∃ b' o ap kp, ac = some ⟨b', o, none⟩ ∧ CAt w b' (o + i * 8) (x.c i) ap kp := by
  obtain ⟨b', o, e, vp, p0, p1, p2, p3, p4, p5, p6, p7, ap, kp, rfl, lp, P⟩ := h.C i hi
  exact ⟨b', o, ap, kp, e, p0, p1, p2, p3, p4, p5, p6, p7, lp, fun k hk => by obtain ⟨b2, o2, e2, q⟩ := P k hk; rw [Cl.p_eq _ _ hk] at q; exact ⟨b2, o2, e2, q⟩⟩
theorem CAt.ext {w w' : World} {b o : Nat} {c : Cl} {ap : Option Addr} {kp : Nat} (h : CAt w b o c ap kp) (e : Ext w w') : CAt w' b o c ap kp :=
  ⟨e.keep h.p0, e.keep h.p1, e.keep h.p2, e.keep h.p3, e.keep h.p4, e.keep h.p5, e.keep h.p6, e.keep h.p7, h.lp, fun k hk => let ⟨b', o', a, p⟩ := h.P k hk; ⟨b', o', a, p.ext e⟩⟩

end Go.Proofs.YtddkhnclmeikfacGreat

namespace Go.Proofs.YtddkhnclmeikfacGreat

/-! The heap of least items, as a list of numbers. -/
/-- the item at i -/
def it (L : List Int) (i : Nat) : Int := L.getD i 0
theorem it_eq (L : List Int) (i : Nat) (h : i < L.length) : L[i] = it L i := by simp [it, h]
def swp (L : List Int) (i j : Nat) : List Int := (L.set i (it L j)).set j (it L i)
theorem swp_len (L : List Int) (i j : Nat) : (swp L i j).length = L.length := by simp [swp]
theorem swp_it (L : List Int) (i j k : Nat) (hi : i < L.length) (hj : j < L.length) : it (swp L i j) k = if k = j then it L i else if k = i then it L j else it L k := by
  simp only [it, swp, List.getD_eq_getElem?_getD, List.getElem?_set]
  by_cases h1 : j = k
  · subst h1; simp [hj]
  · have h1' : ¬ k = j := fun e => h1 e.symm
    by_cases h2 : i = k
    · subst h2; simp [h1, h1', hi]
    · have h2' : ¬ k = i := fun e => h2 e.symm
      simp [h1, h2, h1', h2']
theorem swp_perm (L : List Int) (i j : Nat) (hi : i < L.length) (hj : j < L.length) : (swp L i j).Perm L := by
  have := List.set_set_perm hi hj
  rw [it_eq L i hi, it_eq L j hj] at this
  exact this

/-- no item is less than the one above it -/
def Ho (L : List Int) : Prop := ∀ i, 0 < i → i < L.length → it L ((i - 1) / 2) ≤ it L i
theorem Ho.root {L : List Int} (h : Ho L) : ∀ i, i < L.length → it L 0 ≤ it L i := by
  intro i
  induction i using Nat.strongRecOn with
  | ind i ih =>
    intro hi
    by_cases h0 : i = 0
    · subst h0; exact Int.le_refl _
    · have h1 := h i (by omega) hi
      have h2 := ih ((i - 1) / 2) (by omega) (by omega)
      omega
theorem it_mem (L : List Int) (i : Nat) (h : i < L.length) : it L i ∈ L := by rw [← it_eq L i h]; exact List.getElem_mem h
theorem Ho.least {L : List Int} (h : Ho L) {x : Int} (hx : x ∈ L) : it L 0 ≤ x := by
  obtain ⟨i, hi, e⟩ := List.getElem_of_mem hx
  rw [← e, it_eq L i hi]; exact h.root i hi
theorem Ho.nil : Ho [] := fun i _ h => by simp at h

/-- all in order but for the item at a, which may be less than the one above it -/
def Rise (L : List Int) (a : Nat) : Prop :=
  (∀ i, 0 < i → i < L.length → i ≠ a → it L ((i - 1) / 2) ≤ it L i) ∧ (∀ i, 0 < i → i < L.length → (i - 1) / 2 = a → 0 < a → it L ((a - 1) / 2) ≤ it L i)
theorem it_append (L : List Int) (x : Int) (i : Nat) : it (L ++ [x]) i = if i < L.length then it L i else if i = L.length then x else 0 := by
  simp only [it, List.getD_eq_getElem?_getD]
  by_cases h : i < L.length
  · simp [h, List.getElem?_append_left]
  · by_cases h2 : i = L.length
    · subst h2; simp
    · rw [List.getElem?_eq_none (by simp; omega)]; simp [h, h2]
theorem Rise.start {L : List Int} (h : Ho L) (x : Int) : Rise (L ++ [x]) L.length := by
  refine ⟨fun i h0 hi hne => ?_, fun i h0 hi he => ?_⟩
  · simp at hi
    rw [it_append, it_append, if_pos (by omega), if_pos (by omega)]
    exact h i h0 (by omega)
  · simp at hi; omega
theorem Rise.top {L : List Int} (h : Rise L 0) : Ho L := fun i h0 hi => h.1 i h0 hi (by omega)
theorem Rise.done {L : List Int} {a : Nat} (h : Rise L a) (hc : it L ((a - 1) / 2) ≤ it L a) : Ho L := fun i h0 hi => by
  by_cases e : i = a
  · subst e; exact hc
  · exact h.1 i h0 hi e
theorem Rise.up {L : List Int} {a u : Nat} (h : Rise L a) (ha : 0 < a) (hl : a < L.length) (hu : u = (a - 1) / 2) (hc : it L a < it L u) : Rise (swp L u a) u := by
  have hul : u < L.length := by omega
  refine ⟨fun i h0 hi hne => ?_, fun i h0 hi he hp => ?_⟩
  · rw [swp_len] at hi
    rw [swp_it L u a _ hul hl, swp_it L u a _ hul hl]
    by_cases e1 : i = a
    · subst e1
      rw [if_pos rfl, if_neg (by omega), if_pos hu.symm]; omega
    · rw [if_neg e1, if_neg hne]
      by_cases e2 : (i - 1) / 2 = a
      · rw [if_pos e2]
        have := h.2 i h0 hi e2 ha
        rw [hu]; exact this
      · rw [if_neg e2]
        by_cases e3 : (i - 1) / 2 = u
        · rw [if_pos e3]
          have := h.1 i h0 hi e1
          rw [e3] at this; omega
        · rw [if_neg e3]; exact h.1 i h0 hi e1
  · rw [swp_len] at hi
    rw [swp_it L u a _ hul hl, swp_it L u a _ hul hl]
    rw [if_neg (by omega), if_neg (by omega)]
    have hup := h.1 u hp hul (by omega)
    by_cases e1 : i = a
    · rw [if_pos e1]; exact hup
    · rw [if_neg e1, if_neg (by omega)]
      have := h.1 i h0 hi e1
      rw [he] at this; omega

/-- all in order but for the item at a, which may be greater than those below it -/
def Fall (L : List Int) (a : Nat) : Prop :=
  (∀ i, 0 < i → i < L.length → (i - 1) / 2 ≠ a → it L ((i - 1) / 2) ≤ it L i) ∧ (∀ i, 0 < i → i < L.length → (i - 1) / 2 = a → 0 < a → it L ((a - 1) / 2) ≤ it L i)
theorem Fall.bottom {L : List Int} {a : Nat} (h : Fall L a) (hb : L.length ≤ 2 * a + 1) : Ho L := fun i h0 hi => h.1 i h0 hi (by omega)
/-- s is the lesser of the two below a -/
def Lesser (L : List Int) (a s : Nat) : Prop := (s = 2 * a + 1 ∨ s = 2 * a + 2) ∧ s < L.length ∧ (∀ i, 0 < i → i < L.length → (i - 1) / 2 = a → it L s ≤ it L i)
theorem Lesser.right {L : List Int} {a : Nat} (h : 2 * a + 2 < L.length) (hc : it L (2 * a + 2) < it L (2 * a + 1)) : Lesser L a (2 * a + 2) :=
  ⟨.inr rfl, h, fun i h0 hi e => by
    by_cases q : i = 2 * a + 2
    · rw [q]; exact Int.le_refl _
    · have : i = 2 * a + 1 := by omega
      rw [this]; omega⟩
theorem Lesser.left {L : List Int} {a : Nat} (h : 2 * a + 1 < L.length) (hc : 2 * a + 2 < L.length → it L (2 * a + 1) ≤ it L (2 * a + 2)) : Lesser L a (2 * a + 1) :=
  ⟨.inl rfl, h, fun i h0 hi e => by
    by_cases q : i = 2 * a + 1
    · rw [q]; exact Int.le_refl _
    · have : i = 2 * a + 2 := by omega
      rw [this]; exact hc (by omega)⟩
theorem Fall.done {L : List Int} {a s : Nat} (h : Fall L a) (hs : Lesser L a s) (hc : it L a ≤ it L s) : Ho L := fun i h0 hi => by
  by_cases e : (i - 1) / 2 = a
  · have := hs.2.2 i h0 hi e
    rw [e]; omega
  · exact h.1 i h0 hi e
theorem Fall.down {L : List Int} {a s : Nat} (h : Fall L a) (hs : Lesser L a s) (hc : it L s < it L a) : Fall (swp L a s) s := by
  obtain ⟨hs1, hsl, hs2⟩ := hs
  have hal : a < L.length := by omega
  refine ⟨fun i h0 hi hne => ?_, fun i h0 hi he hp => ?_⟩
  · rw [swp_len] at hi
    rw [swp_it L a s _ hal hsl, swp_it L a s _ hal hsl]
    rw [if_neg hne]
    by_cases e1 : i = s
    · subst e1
      rw [if_pos (by omega), if_pos rfl]; omega
    · rw [if_neg e1]
      by_cases e2 : (i - 1) / 2 = a
      · rw [if_pos e2, if_neg (by omega)]; exact hs2 i h0 hi e2
      · rw [if_neg e2]
        by_cases e3 : i = a
        · subst e3
          rw [if_pos rfl]
          exact h.2 s (by omega) hsl (by omega) h0
        · rw [if_neg e3]; exact h.1 i h0 hi e2
  · rw [swp_len] at hi
    rw [swp_it L a s _ hal hsl, swp_it L a s _ hal hsl]
    have e0 : (s - 1) / 2 = a := by omega
    rw [e0, if_neg (by omega), if_pos rfl, if_neg (by omega), if_neg (by omega)]
    have := h.1 i h0 hi (by omega)
    rw [he] at this; exact this

/-- behind a taking: the last item stands first, the last place is cut off -/
def cutl (L : List Int) : List Int := (swp L 0 (L.length - 1)).take (L.length - 1)
theorem cutl_len (L : List Int) : (cutl L).length = L.length - 1 := by simp [cutl, swp_len]
theorem it_take (L : List Int) (n i : Nat) (h : i < n) : it (L.take n) i = it L i := by simp [it, h]
theorem cutl_perm (L : List Int) (h : 0 < L.length) : (it L 0 :: cutl L).Perm L := by
  have h1 := swp_perm L 0 (L.length - 1) h (by omega)
  have hs : swp L 0 (L.length - 1) = cutl L ++ [it L 0] := by
    have h2 := List.take_append_getElem (l := swp L 0 (L.length - 1)) (i := L.length - 1) (by rw [swp_len]; omega)
    rw [it_eq, swp_it L 0 _ _ h (by omega), if_pos rfl] at h2
    have : L.length - 1 + 1 = (swp L 0 (L.length - 1)).length := by rw [swp_len]; omega
    rw [this, List.take_length] at h2
    exact h2.symm
  rw [hs] at h1
  exact (List.perm_append_singleton _ _).symm.trans h1
theorem Fall.start {L : List Int} (h : Ho L) : Fall (cutl L) 0 := by
  refine ⟨fun i h0 hi hne => ?_, fun i h0 hi he hp => by omega⟩
  rw [cutl_len] at hi
  unfold cutl
  rw [it_take _ _ _ (by omega), it_take _ _ _ (by omega), swp_it L 0 _ _ (by omega) (by omega), swp_it L 0 _ _ (by omega) (by omega), if_neg (by omega), if_neg hne, if_neg (by omega), if_neg (by omega)]
  exact h i h0 (by omega)

theorem drain_same {L M : List Int} {x : Int} (hp : (x :: M).Perm L) (hL : Ho L) (hx : x = it L 0) (hM : Ho M) (hm : M = [] ∨ it M 0 ≠ x) : L.Nodup ↔ M.Nodup := by
  rw [← hp.nodup_iff, List.nodup_cons]
  refine ⟨fun h => h.2, fun h => ⟨fun hmem => ?_, h⟩⟩
  rcases hm with e | e
  · rw [e] at hmem; cases hmem
  · have h1 := hM.least hmem
    have hne : M ≠ [] := List.ne_nil_of_mem hmem
    have h2 : it M 0 ∈ M := it_mem M 0 (by cases M with | nil => exact (hne rfl).elim | cons _ _ => simp)
    have h3 := hL.least (hp.mem_iff.1 (List.mem_cons_of_mem _ h2))
    omega
theorem drain_twice {L M : List Int} {x : Int} (hp : (x :: M).Perm L) (hm : 0 < M.length) (e : it M 0 = x) : ¬ L.Nodup := by
  rw [← hp.nodup_iff, List.nodup_cons]
  exact fun h => h.1 (by rw [← e]; exact it_mem M 0 hm)
end Go.Proofs.YtddkhnclmeikfacGreat
