import Derived.Test.YtbcmjcomdjdjaaaGreatProg
import Derived.WalkKit
import Derived.WalkLawsBesides
import Derived.WalkSpells
import Derived.Outline
import Derived.Deep.RegionHeld3
import Derived.Deep.DrawnRows
namespace Go.Proofs.YtbcmjcomdjdjaaaGreat
open Go.RowKit

/-! The plain data of the program, and how they lie in memory. -/
structure Wd where
  k : Int
  n : Int
  a : Int
structure Pr where
  key : Wd
  val : Wd
structure Cl where
  st : Int
  kind : Int
  weak : Int
  last : Int
  born : Int
  color : Int
  to : Int
  prs : List Pr
structure Hp where
  room : Int
  used : Int
  born : Int
  regs : List Wd
  cells : List Cl
  phase : Int
  hand : Int
  sub : Int
  gray : List Int
  per : Int
  start : Int
  rounds : Int
  forced : Int

abbrev iv (n : Int) : Value := .int .i64 n
abbrev Wd.v (x : Wd) : Value := .agg #[iv x.k, iv x.n, iv x.a]
abbrev Pr.v (x : Pr) : Value := .agg #[iv x.key.k, iv x.key.n, iv x.key.a, iv x.val.k, iv x.val.n, iv x.val.a]
abbrev Cl.v (x : Cl) (vp : Value) : Value := .agg #[iv x.st, iv x.kind, iv x.weak, iv x.last, iv x.born, iv x.color, iv x.to, vp]
abbrev Hp.v (x : Hp) (vr vc vg : Value) : Value := .agg #[iv x.room, iv x.used, iv x.born, vr, vc, iv x.phase, iv x.hand, iv x.sub, vg, iv x.per, iv x.start, iv x.rounds, iv x.forced]

theorem hide {p : Prop} (h : p) : Hid p := h
theorem unhide {p : Prop} (h : Hid p) : p := h

/-- the world only has new blocks beside the old ones -/
abbrev Ext (w w' : World) : Prop := Below w.heap.size w w'

theorem Ext.refl (w : World) : Ext w w := Below.refl _ _
theorem Ext.trans {a b c : World} (h : Ext a b) (k : Ext b c) : Ext a c := Below.trans h (Below.mono k h.size)
theorem Ext.alloc {a w : World} (h : Ext a w) (o : Obj) : Ext a (w.alloc o) := Below.alloc h h.size o
theorem Ext.drew {a w : World} (h : Ext a w) : Ext a w.drew := Below.drew h
theorem Ext.setCell {a w : World} (h : Ext a w) {p : Addr} (hp : a.heap.size ≤ p.block) (u : Value) : Ext a (w.setCell p u) := Below.setCell h hp u

theorem cell_lt {w : World} {p : Addr} {v : Value} (h : w.cell? p = some v) : p.block < w.heap.size := by
  unfold World.cell? at h
  by_cases hlt : p.block < w.heap.size
  · exact hlt
  · rw [Array.getElem?_eq_none (by omega)] at h
    simp at h

/-- a cell that is there stays -/
theorem Ext.keep {w w' : World} (h : Ext w w') {b o : Nat} {v : Value} (hc : w.cell? ⟨b, o, none⟩ = some v) : w'.cell? ⟨b, o, none⟩ = some v := by
  rw [Below.cell h (p := ⟨b, o, none⟩) (cell_lt hc)]; exact hc

theorem bcell {W w1 : World} (hb : Ext W w1) : (∀ b o, b < W.heap.size → w1.cell? ⟨b, o, none⟩ = W.cell? ⟨b, o, none⟩) ∧ (∀ b o, b < W.heap.size → w1.frozen? ⟨b, o, none⟩ = W.frozen? ⟨b, o, none⟩) :=
  ⟨fun b o h => hb.cell (p := ⟨b, o, none⟩) h, fun b o h => hb.frozen (p := ⟨b, o, none⟩) h⟩

def WdAt (w : World) (b o : Nat) (x : Wd) : Prop :=
  w.cell? ⟨b, o, none⟩ = some (iv x.k) ∧ w.cell? ⟨b, o + 1, none⟩ = some (iv x.n) ∧ w.cell? ⟨b, o + 2, none⟩ = some (iv x.a)
def PrAt (w : World) (b o : Nat) (x : Pr) : Prop :=
  w.cell? ⟨b, o, none⟩ = some (iv x.key.k) ∧ w.cell? ⟨b, o + 1, none⟩ = some (iv x.key.n) ∧ w.cell? ⟨b, o + 2, none⟩ = some (iv x.key.a) ∧
  w.cell? ⟨b, o + 3, none⟩ = some (iv x.val.k) ∧ w.cell? ⟨b, o + 4, none⟩ = some (iv x.val.n) ∧ w.cell? ⟨b, o + 5, none⟩ = some (iv x.val.a)
def InAt (w : World) (b o : Nat) (x : Int) : Prop := w.cell? ⟨b, o, none⟩ = some (iv x)

/-- v is a slice whose elements, sz cells each, are xs -/
def SlOf {α : Type} (at_ : Nat → Nat → α → Prop) (sz : Nat) (v : Value) (xs : List α) : Prop :=
  ∃ (ad : Option Addr) (cap : Nat), v = .slice ad xs.length cap ∧ xs.length ≤ 35184372088832 ∧ ∀ i (hi : i < xs.length), ∃ b o, ad = some ⟨b, o, none⟩ ∧ at_ b (o + i * sz) xs[i]

abbrev SlW (w : World) (v : Value) (xs : List Wd) : Prop := SlOf (WdAt w) 3 v xs
abbrev SlP (w : World) (v : Value) (xs : List Pr) : Prop := SlOf (PrAt w) 6 v xs
abbrev SlI (w : World) (v : Value) (xs : List Int) : Prop := SlOf (InAt w) 1 v xs
def ClAt (w : World) (b o : Nat) (x : Cl) : Prop :=
  ∃ vp, w.cell? ⟨b, o, none⟩ = some (iv x.st) ∧ w.cell? ⟨b, o + 1, none⟩ = some (iv x.kind) ∧ w.cell? ⟨b, o + 2, none⟩ = some (iv x.weak) ∧
    w.cell? ⟨b, o + 3, none⟩ = some (iv x.last) ∧ w.cell? ⟨b, o + 4, none⟩ = some (iv x.born) ∧ w.cell? ⟨b, o + 5, none⟩ = some (iv x.color) ∧
    w.cell? ⟨b, o + 6, none⟩ = some (iv x.to) ∧ w.cell? ⟨b, o + 7, none⟩ = some vp ∧ SlP w vp x.prs
abbrev SlC (w : World) (v : Value) (xs : List Cl) : Prop := SlOf (ClAt w) 8 v xs

theorem SlOf.mono {α : Type} {p q : Nat → Nat → α → Prop} {sz : Nat} {v : Value} {xs : List α} (h : SlOf p sz v xs) (hpq : ∀ b o x, p b o x → q b o x) : SlOf q sz v xs := by
  obtain ⟨ad, cap, hv, hl, hx⟩ := h
  exact ⟨ad, cap, hv, hl, fun i hi => by obtain ⟨b, o, ha, hp⟩ := hx i hi; exact ⟨b, o, ha, hpq _ _ _ hp⟩⟩
theorem WdAt.ext {w w' : World} (h : Ext w w') {b o : Nat} {x : Wd} (hx : WdAt w b o x) : WdAt w' b o x := ⟨h.keep hx.1, h.keep hx.2.1, h.keep hx.2.2⟩
theorem PrAt.ext {w w' : World} (h : Ext w w') {b o : Nat} {x : Pr} (hx : PrAt w b o x) : PrAt w' b o x :=
  ⟨h.keep hx.1, h.keep hx.2.1, h.keep hx.2.2.1, h.keep hx.2.2.2.1, h.keep hx.2.2.2.2.1, h.keep hx.2.2.2.2.2⟩
theorem InAt.ext {w w' : World} (h : Ext w w') {b o : Nat} {x : Int} (hx : InAt w b o x) : InAt w' b o x := h.keep hx
theorem SlW.ext {w w' : World} (h : Ext w w') {v : Value} {xs : List Wd} (hx : SlW w v xs) : SlW w' v xs := hx.mono fun _ _ _ k => k.ext h
theorem SlP.ext {w w' : World} (h : Ext w w') {v : Value} {xs : List Pr} (hx : SlP w v xs) : SlP w' v xs := hx.mono fun _ _ _ k => k.ext h
theorem SlI.ext {w w' : World} (h : Ext w w') {v : Value} {xs : List Int} (hx : SlI w v xs) : SlI w' v xs := hx.mono fun _ _ _ k => k.ext h
theorem ClAt.ext {w w' : World} (h : Ext w w') {b o : Nat} {x : Cl} (hx : ClAt w b o x) : ClAt w' b o x := by
  obtain ⟨vp, h0, h1, h2, h3, h4, h5, h6, h7, h8⟩ := hx
  exact ⟨vp, h.keep h0, h.keep h1, h.keep h2, h.keep h3, h.keep h4, h.keep h5, h.keep h6, h.keep h7, SlP.ext h h8⟩
theorem SlC.ext {w w' : World} (h : Ext w w') {v : Value} {xs : List Cl} (hx : SlC w v xs) : SlC w' v xs := hx.mono fun _ _ _ k => k.ext h

/-- the nil slice, and every slice without elements -/
theorem SlOf.nil {α : Type} {p : Nat → Nat → α → Prop} {sz : Nat} {ad : Option Addr} {cap : Nat} : SlOf p sz (.slice ad 0 cap) [] :=
  ⟨ad, cap, rfl, by simp, fun i hi => by simp at hi⟩

/-- old blocks outside S are as they were -/
structure Only (S : Nat → Prop) (w w' : World) : Prop where
  os : w'.os = w.os
  tape : w'.tape = w.tape
  output : w'.output = w.output
  size : w.heap.size ≤ w'.heap.size
  block : ∀ k, k < w.heap.size → ¬ S k → w'.heap[k]? = w.heap[k]?

theorem Only.refl (S : Nat → Prop) (w : World) : Only S w w := ⟨rfl, rfl, rfl, Nat.le_refl _, fun _ _ _ => rfl⟩
theorem Only.trans {S : Nat → Prop} {a b c : World} (h : Only S a b) (k : Only S b c) : Only S a c :=
  ⟨k.os.trans h.os, k.tape.trans h.tape, k.output.trans h.output, Nat.le_trans h.size k.size, fun i hi hs => (k.block i (Nat.lt_of_lt_of_le hi h.size) hs).trans (h.block i hi hs)⟩
theorem Only.of_ext {S : Nat → Prop} {w w' : World} (h : Ext w w') : Only S w w' := ⟨h.os, h.tape, h.output, h.size, fun k hk _ => h.block k hk⟩
theorem Only.below {S : Nat → Prop} {w w' : World} (h : Only S w w') {B : Nat} (hB : B ≤ w.heap.size) (hS : ∀ k, k < B → ¬ S k) : Below B w w' :=
  ⟨h.os, h.tape, h.output, h.size, fun k hk => h.block k (by omega) (hS k hk)⟩
theorem Only.ext {S : Nat → Prop} {a w w' : World} (h : Only S w w') (ha : Ext a w) (hS : ∀ k, k < a.heap.size → ¬ S k) : Ext a w' :=
  Below.trans ha (h.below ha.size hS)
theorem Only.setCell {S : Nat → Prop} {a w : World} (h : Only S a w) {p : Addr} (hp : S p.block) (u : Value) : Only S a (w.setCell p u) :=
  h.trans ⟨rfl, rfl, rfl, by simp [World.setCell], fun k _ hk => Below.heap_setCell _ _ _ _ (fun e => hk (e ▸ hp))⟩
theorem Only.drew {S : Nat → Prop} {a w : World} (h : Only S a w) : Only S a w.drew := ⟨h.os, h.tape, h.output, h.size, h.block⟩
theorem Only.mono {S T : Nat → Prop} {w w' : World} (h : Only S w w') (hST : ∀ k, S k → T k) : Only T w w' :=
  ⟨h.os, h.tape, h.output, h.size, fun k hk hn => h.block k hk (fun hs => hn (hST k hs))⟩
theorem Only.keep {S : Nat → Prop} {w w' : World} (h : Only S w w') {b o : Nat} {v : Value} (hs : ¬ S b) (hc : w.cell? ⟨b, o, none⟩ = some v) : w'.cell? ⟨b, o, none⟩ = some v := by
  have hb : w'.heap[b]? = w.heap[b]? := h.block b (cell_lt hc) hs
  have := World.cell?_of_block (w := w) (w' := w') (a := ⟨b, o, none⟩) hb
  rw [this]; exact hc
theorem Only.cells {S : Nat → Prop} {w w' : World} (h : Only S w w') (b : Nat) (hb : b < w.heap.size) (hs : ¬ S b) : (∀ o, w'.cell? ⟨b, o, none⟩ = w.cell? ⟨b, o, none⟩) :=
  fun o => World.cell?_of_block (w := w) (w' := w') (a := ⟨b, o, none⟩) (h.block b hb hs)
theorem Only.frozen {S : Nat → Prop} {w w' : World} (h : Only S w w') {b o : Nat} (hb : b < w.heap.size) (hs : ¬ S b) : w'.frozen? ⟨b, o, none⟩ = w.frozen? ⟨b, o, none⟩ :=
  World.frozen?_of_block (w := w) (h.block b hb hs)

/-- cells that are there and may be written -/
def Open (w : World) (b o : Nat) : Prop := (∃ v, w.cell? ⟨b, o, none⟩ = some v) ∧ w.frozen? ⟨b, o, none⟩ = false
theorem Open.set {w : World} {b o : Nat} (h : Open w b o) (p : Addr) (u : Value) : Open (w.setCell p u) b o :=
  ⟨by obtain ⟨v, hv⟩ := h.1; exact cell?_setCell_some hv, by rw [World.frozen?_setCell]; exact h.2⟩
theorem Open.ext {w w' : World} {b o : Nat} (h : Open w b o) (he : Ext w w') : Open w' b o := by
  obtain ⟨⟨v, hv⟩, hf⟩ := h
  exact ⟨⟨v, he.keep hv⟩, by rw [(bcell he).2 b o (cell_lt hv)]; exact hf⟩
theorem Open.same {w : World} {b o : Nat} (h : Open w b o) (u : Value) : (w.setCell ⟨b, o, none⟩ u).cell? ⟨b, o, none⟩ = some u := by
  obtain ⟨v, hv⟩ := h.1; exact World.cell?_setCell_same _ _ _ hv
theorem cell_other {w : World} {b o b' o' : Nat} (u : Value) (h : b ≠ b' ∨ o ≠ o') : (w.setCell ⟨b, o, none⟩ u).cell? ⟨b', o', none⟩ = w.cell? ⟨b', o', none⟩ :=
  World.cell?_setCell_other _ _ _ _ (by intro e; cases e; simp at h)

end Go.Proofs.YtbcmjcomdjdjaaaGreat
