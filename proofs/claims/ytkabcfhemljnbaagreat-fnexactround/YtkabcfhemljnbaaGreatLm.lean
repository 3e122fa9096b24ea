import Derived.Test.YtkabcfhemljnbaaGreatProg
import Derived.WalkKit
import Derived.WalkLawsBesides
import Derived.WalkSpells
import Derived.Outline
import Derived.Deep.RegionHeld3
import Derived.Deep.DrawnRows
import Derived.Laws.OwnMore
import Derived.Deep.AppendLies
import Derived.Maps.AppendAt
namespace Go.Proofs.YtkabcfhemljnbaaGreat
open Go.RowKit

/-! The plain data of the program, and how they lie in memory. -/
structure Wd where
  k : Int
  n : Int
  a : Int
structure Pr where
  key : Wd
  val : Wd
structure Cl where
  st : Int
  kind : Int
  weak : Int
  last : Int
  born : Int
  color : Int
  to : Int
  prs : List Pr
structure Hp where
  room : Int
  used : Int
  born : Int
  regs : List Wd
  cells : List Cl
  phase : Int
  hand : Int
  sub : Int
  gray : List Int
  per : Int
  start : Int
  rounds : Int
  forced : Int

abbrev iv (n : Int) : Value := .int .i64 n
abbrev Wd.v (x : Wd) : Value := .agg #[iv x.k, iv x.n, iv x.a]
abbrev Pr.v (x : Pr) : Value := .agg #[iv x.key.k, iv x.key.n, iv x.key.a, iv x.val.k, iv x.val.n, iv x.val.a]
abbrev Cl.v (x : Cl) (vp : Value) : Value := .agg #[iv x.st, iv x.kind, iv x.weak, iv x.last, iv x.born, iv x.color, iv x.to, vp]
abbrev Hp.v (x : Hp) (vr vc vg : Value) : Value := .agg #[iv x.room, iv x.used, iv x.born, vr, vc, iv x.phase, iv x.hand, iv x.sub, vg, iv x.per, iv x.start, iv x.rounds, iv x.forced]

theorem hide {p : Prop} (h : p) : Hid p := h
theorem unhide {p : Prop} (h : Hid p) : p := h

/-- the world only has new blocks beside the old ones -/
abbrev Ext (w w' : World) : Prop := Below w.heap.size w w'

theorem Ext.refl (w : World) : Ext w w := Below.refl _ _
theorem Ext.trans {a b c : World} (h : Ext a b) (k : Ext b c) : Ext a c := Below.trans h (Below.mono k h.size)
theorem Ext.alloc {a w : World} (h : Ext a w) (o : Obj) : Ext a (w.alloc o) := Below.alloc h h.size o
theorem Ext.drew {a w : World} (h : Ext a w) : Ext a w.drew := Below.drew h
theorem Ext.setCell {a w : World} (h : Ext a w) {p : Addr} (hp : a.heap.size ≤ p.block) (u : Value) : Ext a (w.setCell p u) := Below.setCell h hp u

theorem cell_lt {w : World} {p : Addr} {v : Value} (h : w.cell? p = some v) : p.block < w.heap.size := by
  unfold World.cell? at h
  by_cases hlt : p.block < w.heap.size
  · exact hlt
  · rw [Array.getElem?_eq_none (by omega)] at h
    simp at h

/-- a cell that is there stays -/
theorem Ext.keep {w w' : World} (h : Ext w w') {b o : Nat} {v : Value} (hc : w.cell? ⟨b, o, none⟩ = some v) : w'.cell? ⟨b, o, none⟩ = some v := by
  rw [Below.cell h (p := ⟨b, o, none⟩) (cell_lt hc)]; exact hc

theorem bcell {W w1 : World} (hb : Ext W w1) : (∀ b o, b < W.heap.size → w1.cell? ⟨b, o, none⟩ = W.cell? ⟨b, o, none⟩) ∧ (∀ b o, b < W.heap.size → w1.frozen? ⟨b, o, none⟩ = W.frozen? ⟨b, o, none⟩) :=
  ⟨fun b o h => hb.cell (p := ⟨b, o, none⟩) h, fun b o h => hb.frozen (p := ⟨b, o, none⟩) h⟩

def WdAt (w : World) (b o : Nat) (x : Wd) : Prop :=
  w.cell? ⟨b, o, none⟩ = some (iv x.k) ∧ w.cell? ⟨b, o + 1, none⟩ = some (iv x.n) ∧ w.cell? ⟨b, o + 2, none⟩ = some (iv x.a)
def PrAt (w : World) (b o : Nat) (x : Pr) : Prop :=
  w.cell? ⟨b, o, none⟩ = some (iv x.key.k) ∧ w.cell? ⟨b, o + 1, none⟩ = some (iv x.key.n) ∧ w.cell? ⟨b, o + 2, none⟩ = some (iv x.key.a) ∧
  w.cell? ⟨b, o + 3, none⟩ = some (iv x.val.k) ∧ w.cell? ⟨b, o + 4, none⟩ = some (iv x.val.n) ∧ w.cell? ⟨b, o + 5, none⟩ = some (iv x.val.a)
def InAt (w : World) (b o : Nat) (x : Int) : Prop := w.cell? ⟨b, o, none⟩ = some (iv x)

/-- v is a slice whose elements, sz cells each, are xs -/
def SlOf {α : Type} (at_ : Nat → Nat → α → Prop) (sz : Nat) (v : Value) (xs : List α) : Prop :=
  ∃ (ad : Option Addr) (cap : Nat), v = .slice ad xs.length cap ∧ xs.length ≤ 35184372088832 ∧ ∀ i (hi : i < xs.length), ∃ b o, ad = some ⟨b, o, none⟩ ∧ at_ b (o + i * sz) xs[i]

abbrev SlW (w : World) (v : Value) (xs : List Wd) : Prop := SlOf (WdAt w) 3 v xs
abbrev SlP (w : World) (v : Value) (xs : List Pr) : Prop := SlOf (PrAt w) 6 v xs
abbrev SlI (w : World) (v : Value) (xs : List Int) : Prop := SlOf (InAt w) 1 v xs
def ClAt (w : World) (b o : Nat) (x : Cl) : Prop :=
  ∃ vp, w.cell? ⟨b, o, none⟩ = some (iv x.st) ∧ w.cell? ⟨b, o + 1, none⟩ = some (iv x.kind) ∧ w.cell? ⟨b, o + 2, none⟩ = some (iv x.weak) ∧
    w.cell? ⟨b, o + 3, none⟩ = some (iv x.last) ∧ w.cell? ⟨b, o + 4, none⟩ = some (iv x.born) ∧ w.cell? ⟨b, o + 5, none⟩ = some (iv x.color) ∧
    w.cell? ⟨b, o + 6, none⟩ = some (iv x.to) ∧ w.cell? ⟨b, o + 7, none⟩ = some vp ∧ SlP w vp x.prs
abbrev SlC (w : World) (v : Value) (xs : List Cl) : Prop := SlOf (ClAt w) 8 v xs

theorem SlOf.mono {α : Type} {p q : Nat → Nat → α → Prop} {sz : Nat} {v : Value} {xs : List α} (h : SlOf p sz v xs) (hpq : ∀ b o x, p b o x → q b o x) : SlOf q sz v xs := by
  obtain ⟨ad, cap, hv, hl, hx⟩ := h
  exact ⟨ad, cap, hv, hl, fun i hi => by obtain ⟨b, o, ha, hp⟩ := hx i hi; exact ⟨b, o, ha, hpq _ _ _ hp⟩⟩
theorem WdAt.ext {w w' : World} (h : Ext w w') {b o : Nat} {x : Wd} (hx : WdAt w b o x) : WdAt w' b o x := ⟨h.keep hx.1, h.keep hx.2.1, h.keep hx.2.2⟩
theorem PrAt.ext {w w' : World} (h : Ext w w') {b o : Nat} {x : Pr} (hx : PrAt w b o x) : PrAt w' b o x :=
  ⟨h.keep hx.1, h.keep hx.2.1, h.keep hx.2.2.1, h.keep hx.2.2.2.1, h.keep hx.2.2.2.2.1, h.keep hx.2.2.2.2.2⟩
theorem InAt.ext {w w' : World} (h : Ext w w') {b o : Nat} {x : Int} (hx : InAt w b o x) : InAt w' b o x := h.keep hx
theorem SlW.ext {w w' : World} (h : Ext w w') {v : Value} {xs : List Wd} (hx : SlW w v xs) : SlW w' v xs := hx.mono fun _ _ _ k => k.ext h
theorem SlP.ext {w w' : World} (h : Ext w w') {v : Value} {xs : List Pr} (hx : SlP w v xs) : SlP w' v xs := hx.mono fun _ _ _ k => k.ext h
theorem SlI.ext {w w' : World} (h : Ext w w') {v : Value} {xs : List Int} (hx : SlI w v xs) : SlI w' v xs := hx.mono fun _ _ _ k => k.ext h
theorem ClAt.ext {w w' : World} (h : Ext w w') {b o : Nat} {x : Cl} (hx : ClAt w b o x) : ClAt w' b o x := by
  obtain ⟨vp, h0, h1, h2, h3, h4, h5, h6, h7, h8⟩ := hx
  exact ⟨vp, h.keep h0, h.keep h1, h.keep h2, h.keep h3, h.keep h4, h.keep h5, h.keep h6, h.keep h7, SlP.ext h h8⟩
theorem SlC.ext {w w' : World} (h : Ext w w') {v : Value} {xs : List Cl} (hx : SlC w v xs) : SlC w' v xs := hx.mono fun _ _ _ k => k.ext h

/-- the nil slice, and every slice without elements -/
theorem SlOf.nil {α : Type} {p : Nat → Nat → α → Prop} {sz : Nat} {ad : Option Addr} {cap : Nat} : SlOf p sz (.slice ad 0 cap) [] :=
  ⟨ad, cap, rfl, by simp, fun i hi => by simp at hi⟩

/-- old blocks outside S are as they were -/
structure Only (S : Nat → Prop) (w w' : World) : Prop where
  os : w'.os = w.os
  tape : w'.tape = w.tape
  output : w'.output = w.output
  size : w.heap.size ≤ w'.heap.size
  block : ∀ k, k < w.heap.size → ¬ S k → w'.heap[k]? = w.heap[k]?

theorem Only.refl (S : Nat → Prop) (w : World) : Only S w w := ⟨rfl, rfl, rfl, Nat.le_refl _, fun _ _ _ => rfl⟩
theorem Only.trans {S : Nat → Prop} {a b c : World} (h : Only S a b) (k : Only S b c) : Only S a c :=
  ⟨k.os.trans h.os, k.tape.trans h.tape, k.output.trans h.output, Nat.le_trans h.size k.size, fun i hi hs => (k.block i (Nat.lt_of_lt_of_le hi h.size) hs).trans (h.block i hi hs)⟩
theorem Only.of_ext {S : Nat → Prop} {w w' : World} (h : Ext w w') : Only S w w' := ⟨h.os, h.tape, h.output, h.size, fun k hk _ => h.block k hk⟩
theorem Only.below {S : Nat → Prop} {w w' : World} (h : Only S w w') {B : Nat} (hB : B ≤ w.heap.size) (hS : ∀ k, k < B → ¬ S k) : Below B w w' :=
  ⟨h.os, h.tape, h.output, h.size, fun k hk => h.block k (by omega) (hS k hk)⟩
theorem Only.ext {S : Nat → Prop} {a w w' : World} (h : Only S w w') (ha : Ext a w) (hS : ∀ k, k < a.heap.size → ¬ S k) : Ext a w' :=
  Below.trans ha (h.below ha.size hS)
theorem Only.setCell {S : Nat → Prop} {a w : World} (h : Only S a w) {p : Addr} (hp : S p.block) (u : Value) : Only S a (w.setCell p u) :=
  h.trans ⟨rfl, rfl, rfl, by simp [World.setCell], fun k _ hk => Below.heap_setCell _ _ _ _ (fun e => hk (e ▸ hp))⟩
theorem Only.drew {S : Nat → Prop} {a w : World} (h : Only S a w) : Only S a w.drew := ⟨h.os, h.tape, h.output, h.size, h.block⟩
theorem Only.mono {S T : Nat → Prop} {w w' : World} (h : Only S w w') (hST : ∀ k, S k → T k) : Only T w w' :=
  ⟨h.os, h.tape, h.output, h.size, fun k hk hn => h.block k hk (fun hs => hn (hST k hs))⟩
theorem Only.keep {S : Nat → Prop} {w w' : World} (h : Only S w w') {b o : Nat} {v : Value} (hs : ¬ S b) (hc : w.cell? ⟨b, o, none⟩ = some v) : w'.cell? ⟨b, o, none⟩ = some v := by
  have hb : w'.heap[b]? = w.heap[b]? := h.block b (cell_lt hc) hs
  have := World.cell?_of_block (w := w) (w' := w') (a := ⟨b, o, none⟩) hb
  rw [this]; exact hc
theorem Only.cells {S : Nat → Prop} {w w' : World} (h : Only S w w') (b : Nat) (hb : b < w.heap.size) (hs : ¬ S b) : (∀ o, w'.cell? ⟨b, o, none⟩ = w.cell? ⟨b, o, none⟩) :=
  fun o => World.cell?_of_block (w := w) (w' := w') (a := ⟨b, o, none⟩) (h.block b hb hs)
theorem Only.frozen {S : Nat → Prop} {w w' : World} (h : Only S w w') {b o : Nat} (hb : b < w.heap.size) (hs : ¬ S b) : w'.frozen? ⟨b, o, none⟩ = w.frozen? ⟨b, o, none⟩ :=
  World.frozen?_of_block (w := w) (h.block b hb hs)

/-- cells that are there and may be written -/
def Open (w : World) (b o : Nat) : Prop := (∃ v, w.cell? ⟨b, o, none⟩ = some v) ∧ w.frozen? ⟨b, o, none⟩ = false
theorem Open.set {w : World} {b o : Nat} (h : Open w b o) (p : Addr) (u : Value) : Open (w.setCell p u) b o :=
  ⟨by obtain ⟨v, hv⟩ := h.1; exact cell?_setCell_some hv, by rw [World.frozen?_setCell]; exact h.2⟩
theorem Open.ext {w w' : World} {b o : Nat} (h : Open w b o) (he : Ext w w') : Open w' b o := by
  obtain ⟨⟨v, hv⟩, hf⟩ := h
  exact ⟨⟨v, he.keep hv⟩, by rw [(bcell he).2 b o (cell_lt hv)]; exact hf⟩
theorem Open.same {w : World} {b o : Nat} (h : Open w b o) (u : Value) : (w.setCell ⟨b, o, none⟩ u).cell? ⟨b, o, none⟩ = some u := by
  obtain ⟨v, hv⟩ := h.1; exact World.cell?_setCell_same _ _ _ hv
theorem cell_other {w : World} {b o b' o' : Nat} (u : Value) (h : b ≠ b' ∨ o ≠ o') : (w.setCell ⟨b, o, none⟩ u).cell? ⟨b', o', none⟩ = w.cell? ⟨b', o', none⟩ :=
  World.cell?_setCell_other _ _ _ _ (by intro e; cases e; simp at h)

end Go.Proofs.YtkabcfhemljnbaaGreat

namespace Go.Proofs.YtkabcfhemljnbaaGreat
open Go.RowKit

/-! Rows that are written anew: what is common to all kinds of elements. -/
theorem made_open (w : World) (z : Array Value) (m : Nat) (t : TypeId) (j : Nat) (hj : j < m) : Open (w.alloc (.cells (madeCells z m) t)) w.heap.size j := by
  have e : (w.alloc (.cells (madeCells z m) t)).heap[w.heap.size]? = some (.cells (madeCells z m) t) := by show (w.heap.push _)[w.heap.size]? = _; simp
  have hs := size_madeCells z m
  refine ⟨⟨(madeCells z m)[j]'(by omega), ?_⟩, ?_⟩
  · unfold World.cell?
    rw [e]
    simp [hs, hj]
  · unfold World.frozen?
    rw [e]
    simp

theorem put_in {w1 : World} {g o : Nat} {vs : List Value} (ho : ∀ j, j < vs.length → Open w1 g (o + j)) (j : Nat) (hj : j < vs.length) : (w1.setCells g o vs).cell? ⟨g, o + j, none⟩ = some vs[j] := by
  refine World.cell?_setCells_in g vs o w1 (fun j hj => ?_) j hj
  obtain ⟨⟨v, hv⟩, _⟩ := ho j hj
  rw [hv]; rfl
theorem put_out {w1 : World} {g o : Nat} {vs : List Value} (b' o' : Nat) (h : b' ≠ g ∨ o' < o ∨ o + vs.length ≤ o') : (w1.setCells g o vs).cell? ⟨b', o', none⟩ = w1.cell? ⟨b', o', none⟩ :=
  World.cell?_setCells_out g vs o w1 ⟨b', o', none⟩ (fun e _ => by simp at e; simp; omega)
theorem put_open {g : Nat} : ∀ {vs : List Value} {w1 : World} {o b' o' : Nat}, Open w1 b' o' → Open (w1.setCells g o vs) b' o'
  | [], _, _, _, _, h => h
  | _ :: r, _, _, _, _, h => put_open (vs := r) (h.set _ _)
theorem put_only {S : Nat → Prop} {g : Nat} (hg : S g) : ∀ {vs : List Value} {a w1 : World} {o : Nat}, Only S a w1 → Only S a (w1.setCells g o vs)
  | [], _, _, _, h => h
  | _ :: r, _, _, _, h => put_only hg (vs := r) (h.setCell hg _)

theorem SlOf.mono2 {α : Type} {p q : Nat → Nat → α → Prop} {sz : Nat} {v : Value} {xs : List α} (h : SlOf p sz v xs) (hpq : ∀ b o n c, v = .slice (some ⟨b, o, none⟩) n c → ∀ o' x, p b o' x → q b o' x) : SlOf q sz v xs := by
  obtain ⟨ad, cap, hv, hl, hx⟩ := h
  exact ⟨ad, cap, hv, hl, fun i hi => by obtain ⟨b, o, ha, hp⟩ := hx i hi; exact ⟨b, o, ha, hpq b o _ _ (by rw [hv, ha]) _ _ hp⟩⟩
/-- the slice lies in a block from B on, and is no longer than its capacity -/
def From (B : Nat) (v : Value) : Prop := ∀ b o n c, v = .slice (some ⟨b, o, none⟩) n c → B ≤ b ∧ n ≤ c
theorem From.mono {B C : Nat} {v : Value} (h : From B v) (hc : C ≤ B) : From C v := fun b o n c e => ⟨Nat.le_trans hc (h b o n c e).1, (h b o n c e).2⟩
/-- no cell of the slice's block is frozen -/
def Nfz (w : World) (v : Value) : Prop := ∀ b o n c, v = .slice (some ⟨b, o, none⟩) n c → b < w.heap.size ∧ ∀ j, w.frozen? ⟨b, j, none⟩ = false
/-- in a block from B on, of which no cell is frozen -/
def Fn0 (B : Nat) (w : World) (v : Value) : Prop := From B v ∧ Nfz w v
theorem Fn0.mono {B C : Nat} {w : World} {v : Value} (h : Fn0 B w v) (hc : C ≤ B) : Fn0 C w v := ⟨h.1.mono hc, h.2⟩
theorem Fn0.ext {B : Nat} {w w' : World} {v : Value} (h : Fn0 B w v) (e : Ext w w') : Fn0 B w' v :=
  ⟨h.1, fun b o n c hv => ⟨Nat.lt_of_lt_of_le (h.2 b o n c hv).1 e.size, fun j => by rw [(bcell e).2 b j (h.2 b o n c hv).1]; exact (h.2 b o n c hv).2 j⟩⟩
theorem Fn0.only {S : Nat → Prop} {B : Nat} {w w' : World} {v : Value} (h : Fn0 B w v) (ho : Only S w w') (hS : ∀ q, S q → q < B) : Fn0 B w' v :=
  ⟨h.1, fun b o n c hv => ⟨Nat.lt_of_lt_of_le (h.2 b o n c hv).1 ho.size, fun j => by rw [ho.frozen (h.2 b o n c hv).1 (fun s => by have := hS b s; have := (h.1 b o n c hv).1; omega)]; exact (h.2 b o n c hv).2 j⟩⟩
/-- a new block -/
def Nf1 (B : Nat) (w : World) : Prop := B < w.heap.size ∧ ∀ j, w.frozen? ⟨B, j, none⟩ = false
theorem Nf1.ext {B : Nat} {w w' : World} (h : Nf1 B w) (e : Ext w w') : Nf1 B w' := ⟨Nat.lt_of_lt_of_le h.1 e.size, fun j => by rw [(bcell e).2 B j h.1]; exact h.2 j⟩
theorem Nf1.set {B : Nat} {w : World} (h : Nf1 B w) (p : Addr) (u : Value) : Nf1 B (w.setCell p u) := ⟨by have := h.1; simpa [World.setCell] using this, fun j => by rw [World.frozen?_setCell]; exact h.2 j⟩
theorem Nf1.put {B g : Nat} : ∀ {vs : List Value} {w : World} {o : Nat}, Nf1 B w → Nf1 B (w.setCells g o vs)
  | [], _, _, h => h
  | _ :: r, _, _, h => Nf1.put (vs := r) (h.set _ _)
theorem Nf1.made (w : World) (z : Array Value) (m : Nat) (t : TypeId) : Nf1 w.heap.size (w.alloc (.cells (madeCells z m) t)) := by
  refine ⟨by simp, fun j => ?_⟩
  have e : (w.alloc (.cells (madeCells z m) t)).heap[w.heap.size]? = some (.cells (madeCells z m) t) := by show (w.heap.push _)[w.heap.size]? = _; simp
  unfold World.frozen?
  rw [e]
  simp
theorem Nf1.fn {B n : Nat} {w : World} (h : Nf1 B w) : Fn0 B w (.slice (some ⟨B, 0, none⟩) n n) := ⟨fun b o n c e => by simp at e; omega, fun b o n c e => by simp at e; obtain ⟨⟨e1, _⟩, _⟩ := e; subst e1; exact h⟩
theorem slP_only {S : Nat → Prop} {w w' : World} (h : Only S w w') {v : Value} {xs : List Pr} (hv : ∀ b o n c, v = .slice (some ⟨b, o, none⟩) n c → ¬ S b) (hx : SlP w v xs) : SlP w' v xs :=
  SlOf.mono2 hx fun b o n c e _ _ hp => ⟨h.keep (hv b o n c e) hp.1, h.keep (hv b o n c e) hp.2.1, h.keep (hv b o n c e) hp.2.2.1, h.keep (hv b o n c e) hp.2.2.2.1, h.keep (hv b o n c e) hp.2.2.2.2.1, h.keep (hv b o n c e) hp.2.2.2.2.2⟩
end Go.Proofs.YtkabcfhemljnbaaGreat

namespace Go.Proofs.YtkabcfhemljnbaaGreat
open Go.RowKit
attribute [local go_sem ↓] Go.wp_at_zero Go.wp_at_succ

/-! The laws' copies. -/
theorem toWord_any (x : Wd) (w : World) : Calls Tryz.prog 97 #[x.v] w fun e w' => e = .returned x.v ∧ ∃ a b c, w' = ((w.alloc a).alloc b).alloc c := by
  go_enter Tryz.func97, Tryz.ntmps97
  go_wp2
  exact bodyPost_ret (v := x.v) (by simp [results, Tryz.results97, go_sem]) rfl ⟨rfl, _, _, _, rfl⟩

theorem infoWords : (Tryz.prog.info? 90).map (fun i => (i.zero, i.size, i.bytes)) = some (some (.agg #[iv 0, iv 0, iv 0]), 3, 24) := by kernel_rfl
theorem mkWords (n : Nat) (hn : n ≤ 1048576) (w : World) : ∃ z, (Instr.makeSlice 30 (.int .i64 n) (.int .i64 n)).run Tryz.prog w = .ok (.slice (some ⟨w.heap.size, 0, none⟩) n n) (w.alloc (.cells (madeCells z (n * 3)) 90)) := by
  obtain ⟨i0, hi, hz0, hz1, hz2⟩ := info_parts infoWords
  have h := run_make (P := Tryz.prog) w 30 90 i0 _ Tryz.underlying30 hi hz0 .i64 .i64 n n (by omega) (Int.le_refl _) (by rw [hz2]; omega) (by omega)
  rw [hz1] at h
  simp only [Int.toNat_natCast] at h
  exact ⟨_, h⟩

theorem infoPairs : (Tryz.prog.info? 123).map (fun i => (i.zero, i.size, i.bytes)) = some (some (.agg #[iv 0, iv 0, iv 0, iv 0, iv 0, iv 0]), 6, 48) := by kernel_rfl
theorem mkPairs (n : Nat) (hn : n ≤ 1048576) (w : World) : ∃ z, (Instr.makeSlice 84 (.int .i64 n) (.int .i64 n)).run Tryz.prog w = .ok (.slice (some ⟨w.heap.size, 0, none⟩) n n) (w.alloc (.cells (madeCells z (n * 6)) 123)) := by
  obtain ⟨i0, hi, hz0, hz1, hz2⟩ := info_parts infoPairs
  have h := run_make (P := Tryz.prog) w 84 123 i0 _ Tryz.underlying84 hi hz0 .i64 .i64 n n (by omega) (Int.le_refl _) (by rw [hz2]; omega) (by omega)
  rw [hz1] at h
  simp only [Int.toNat_natCast] at h
  exact ⟨_, h⟩

theorem infoInts : (Tryz.prog.info? 3).map (fun i => (i.zero, i.size, i.bytes)) = some (some (iv 0), 1, 8) := by kernel_rfl
theorem mkInts (n : Nat) (hn : n ≤ 1048576) (w : World) : ∃ z, (Instr.makeSlice 24 (.int .i64 n) (.int .i64 n)).run Tryz.prog w = .ok (.slice (some ⟨w.heap.size, 0, none⟩) n n) (w.alloc (.cells (madeCells z (n * 1)) 3)) := by
  obtain ⟨i0, hi, hz0, hz1, hz2⟩ := info_parts infoInts
  have h := run_make (P := Tryz.prog) w 24 3 i0 _ Tryz.underlying24 hi hz0 .i64 .i64 n n (by omega) (Int.le_refl _) (by rw [hz2]; omega) (by omega)
  rw [hz1] at h
  simp only [Int.toNat_natCast] at h
  exact ⟨_, h⟩

theorem infoCells : (Tryz.prog.info? 86).map (fun i => (i.zero, i.size, i.bytes)) = some (some (.agg #[iv 0, iv 0, iv 0, iv 0, iv 0, iv 0, iv 0, .slice none 0 0]), 8, 80) := by kernel_rfl
theorem mkCells (n : Nat) (hn : n ≤ 1048576) (w : World) : ∃ z, (Instr.makeSlice 31 (.int .i64 n) (.int .i64 n)).run Tryz.prog w = .ok (.slice (some ⟨w.heap.size, 0, none⟩) n n) (w.alloc (.cells (madeCells z (n * 8)) 86)) := by
  obtain ⟨i0, hi, hz0, hz1, hz2⟩ := info_parts infoCells
  have h := run_make (P := Tryz.prog) w 31 86 i0 _ Tryz.underlying31 hi hz0 .i64 .i64 n n (by omega) (Int.le_refl _) (by rw [hz2]; omega) (by omega)
  rw [hz1] at h
  simp only [Int.toNat_natCast] at h
  exact ⟨_, h⟩

set_option maxHeartbeats 1000000 in
theorem toPair_any (x : Pr) (w : World) : Calls Tryz.prog 172 #[x.v] w fun e w' => e = .returned x.v ∧ Ext w w' := by
  go_enter Tryz.func172, Tryz.ntmps172
  go_wp2_with fail
  refine (toWord_any x.key _).mono ?_
  rintro e w1 ⟨rfl, a1, b1, c1, rfl⟩
  go_wp2_with fail
  refine (toWord_any x.val _).mono ?_
  rintro e w1 ⟨rfl, a2, b2, c2, rfl⟩
  go_wp2_with fail
  exact bodyPost_ret (v := x.v) (by simp [results, Tryz.results172, go_sem]) rfl ⟨rfl, by repeat (first | exact Ext.refl _ | refine Ext.alloc ?_ _)⟩

theorem words_step {w wr w1 : World} {xs : List Wd} {k : Nat} (hlt : k < xs.length) (hm : ∀ j (hj : j < xs.length), j < k → WdAt wr w.heap.size (0 + j * 3) xs[j]) (ho : ∀ j, j < xs.length * 3 → Open wr w.heap.size j) (hbl : Ext w wr) (hq : Ext wr w1) (hnf : Nf1 w.heap.size wr) :
    let W := w1.setCells w.heap.size (k * 3) (let x := xs[k]; [iv x.k, iv x.n, iv x.a])
    (∀ j (hj : j < xs.length), j < k + 1 → WdAt W w.heap.size (0 + j * 3) xs[j]) ∧ (∀ j, j < xs.length * 3 → Open W w.heap.size j) ∧ Ext w W ∧ Nf1 w.heap.size W := by
  intro W
  have ho1 : ∀ j, j < [iv xs[k].k, iv xs[k].n, iv xs[k].a].length → Open w1 w.heap.size (k * 3 + j) := fun j hj => (ho (k * 3 + j) (by simp at hj; omega)).ext hq
  refine ⟨fun j hj hjk => ?_, fun j hj => put_open ((ho j hj).ext hq), (put_only (S := fun q => q = w.heap.size) rfl (Only.refl _ w1)).ext (hbl.trans hq) (by intro k hk; omega), (hnf.ext hq).put⟩
  by_cases e : j = k
  · subst e
    refine ⟨?_, ?_, ?_⟩
    · have := put_in ho1 0 (by simp)
      simpa using this
    · have := put_in ho1 1 (by simp)
      simpa using this
    · have := put_in ho1 2 (by simp)
      simpa using this
  · have hx := hm j hj (by omega)
    have hx := WdAt.ext hq hx
    refine ⟨?_, ?_, ?_⟩
    · rw [put_out _ _ (Or.inr (by simp; omega))]; exact hx.1
    · rw [put_out _ _ (Or.inr (by simp; omega))]; exact hx.2.1
    · rw [put_out _ _ (Or.inr (by simp; omega))]; exact hx.2.2

theorem pairs_step {w wr w1 : World} {xs : List Pr} {k : Nat} (hlt : k < xs.length) (hm : ∀ j (hj : j < xs.length), j < k → PrAt wr w.heap.size (0 + j * 6) xs[j]) (ho : ∀ j, j < xs.length * 6 → Open wr w.heap.size j) (hbl : Ext w wr) (hq : Ext wr w1) (hnf : Nf1 w.heap.size wr) :
    let W := w1.setCells w.heap.size (k * 6) (let x := xs[k]; [iv x.key.k, iv x.key.n, iv x.key.a, iv x.val.k, iv x.val.n, iv x.val.a])
    (∀ j (hj : j < xs.length), j < k + 1 → PrAt W w.heap.size (0 + j * 6) xs[j]) ∧ (∀ j, j < xs.length * 6 → Open W w.heap.size j) ∧ Ext w W ∧ Nf1 w.heap.size W := by
  intro W
  have ho1 : ∀ j, j < [iv xs[k].key.k, iv xs[k].key.n, iv xs[k].key.a, iv xs[k].val.k, iv xs[k].val.n, iv xs[k].val.a].length → Open w1 w.heap.size (k * 6 + j) := fun j hj => (ho (k * 6 + j) (by simp at hj; omega)).ext hq
  refine ⟨fun j hj hjk => ?_, fun j hj => put_open ((ho j hj).ext hq), (put_only (S := fun q => q = w.heap.size) rfl (Only.refl _ w1)).ext (hbl.trans hq) (by intro k hk; omega), (hnf.ext hq).put⟩
  by_cases e : j = k
  · subst e
    refine ⟨?_, ?_, ?_, ?_, ?_, ?_⟩
    · have := put_in ho1 0 (by simp)
      simpa using this
    · have := put_in ho1 1 (by simp)
      simpa using this
    · have := put_in ho1 2 (by simp)
      simpa using this
    · have := put_in ho1 3 (by simp)
      simpa using this
    · have := put_in ho1 4 (by simp)
      simpa using this
    · have := put_in ho1 5 (by simp)
      simpa using this
  · have hx := hm j hj (by omega)
    have hx := PrAt.ext hq hx
    refine ⟨?_, ?_, ?_, ?_, ?_, ?_⟩
    · rw [put_out _ _ (Or.inr (by simp; omega))]; exact hx.1
    · rw [put_out _ _ (Or.inr (by simp; omega))]; exact hx.2.1
    · rw [put_out _ _ (Or.inr (by simp; omega))]; exact hx.2.2.1
    · rw [put_out _ _ (Or.inr (by simp; omega))]; exact hx.2.2.2.1
    · rw [put_out _ _ (Or.inr (by simp; omega))]; exact hx.2.2.2.2.1
    · rw [put_out _ _ (Or.inr (by simp; omega))]; exact hx.2.2.2.2.2

set_option maxHeartbeats 1000000 in
theorem toWordS_any (xs : List Wd) (v : Value) (w : World) (h : SlW w v xs) (hn : xs.length ≤ 1048576) :
    Calls Tryz.prog 49 #[v] w fun e w' => ∃ v', e = .returned v' ∧ SlW w' v' xs ∧ Fn0 w.heap.size w' v' ∧ Ext w w' := by
  obtain ⟨ad, cap, rfl, hl, hx⟩ := h
  obtain ⟨z, hmk⟩ := mkWords xs.length hn w
  go_enter Tryz.func49, Tryz.ntmps49
  go_wp2_with fail
  go_loopw [4] (fun i wr => ∃ k : Nat, k ≤ xs.length ∧ i = .int .i64 k ∧ (∀ j (hj : j < xs.length), j < k → WdAt wr w.heap.size (0 + j * 3) xs[j]) ∧ (∀ j, j < xs.length * 3 → Open wr w.heap.size j) ∧ Ext w wr ∧ Hid (Nf1 w.heap.size wr)) (fun i _ => xs.length - (intOf i).toNat)
  case atStart => exact ⟨0, Nat.zero_le _, rfl, fun j hj h => by omega, fun j hj => made_open _ _ _ _ _ hj, (Ext.refl w).alloc _, Nf1.made _ _ _ _⟩
  case round =>
    obtain ⟨k, hk, rfl, hm, hop, hbl, hnf⟩ := hrel
    by_cases hlt : k < xs.length
    · obtain ⟨b, o, rfl, p0, p1, p2⟩ := hx k hlt
      have e0 := hbl.keep p0
      have e1 := hbl.keep p1
      have e2 := hbl.keep p2
      clear p0 p1 p2
      have hk0 : (0:Int) ≤ (k:Int) := by omega
      have hk1 : (k:Int) < (xs.length:Int) := by omega
      go_wp2_with fail
      refine (toWord_any xs[k] _).mono ?_
      rintro e w1 ⟨rfl, a1, b1, c1, hw1⟩
      have hq1 : Ext wr w1 := by rw [hw1]; exact (((Ext.refl wr).alloc _).alloc _).alloc _
      clear hw1
      obtain ⟨⟨v0, c0⟩, f0⟩ := (hop (k * 3) (by omega)).ext hq1
      obtain ⟨⟨v1, c1⟩, f1⟩ := (hop (k * 3 + 1) (by omega)).ext hq1
      obtain ⟨⟨v2, c2⟩, f2⟩ := (hop (k * 3 + 2) (by omega)).ext hq1
      have R := hide (words_step hlt hm hop hbl hq1 (unhide hnf))
      clear hm hop
      go_wp2_with fail
      go_roundw
      case rel => exact ⟨k + 1, by omega, by go_num, (unhide R).1, (unhide R).2.1, (unhide R).2.2.1, (unhide R).2.2.2⟩
      case measure => simp [intOf]; omega
    · have hk2 : k = xs.length := by omega
      have HM : SlOf (WdAt wr) 3 (.slice (some ⟨w.heap.size, 0, none⟩) xs.length xs.length) xs := ⟨_, _, rfl, hl, fun i hi => ⟨_, _, rfl, hm i hi (by omega)⟩⟩
      have HM := hide HM
      clear hm hop hk2
      go_wp2_with fail
      go_ret
      exact ⟨_, rfl, unhide HM, (unhide hnf).fn, hbl⟩

set_option maxHeartbeats 1000000 in
theorem toPairS_any (xs : List Pr) (v : Value) (w : World) (h : SlP w v xs) (hn : xs.length ≤ 1048576) :
    Calls Tryz.prog 141 #[v] w fun e w' => ∃ v', e = .returned v' ∧ SlP w' v' xs ∧ Fn0 w.heap.size w' v' ∧ Ext w w' := by
  obtain ⟨ad, cap, rfl, hl, hx⟩ := h
  obtain ⟨z, hmk⟩ := mkPairs xs.length hn w
  go_enter Tryz.func141, Tryz.ntmps141
  go_wp2_with fail
  go_loopw [4] (fun i wr => ∃ k : Nat, k ≤ xs.length ∧ i = .int .i64 k ∧ (∀ j (hj : j < xs.length), j < k → PrAt wr w.heap.size (0 + j * 6) xs[j]) ∧ (∀ j, j < xs.length * 6 → Open wr w.heap.size j) ∧ Ext w wr ∧ Hid (Nf1 w.heap.size wr)) (fun i _ => xs.length - (intOf i).toNat)
  case atStart => exact ⟨0, Nat.zero_le _, rfl, fun j hj h => by omega, fun j hj => made_open _ _ _ _ _ hj, (Ext.refl w).alloc _, Nf1.made _ _ _ _⟩
  case round =>
    obtain ⟨k, hk, rfl, hm, hop, hbl, hnf⟩ := hrel
    by_cases hlt : k < xs.length
    · obtain ⟨b, o, rfl, p0, p1, p2, p3, p4, p5⟩ := hx k hlt
      have e0 := hbl.keep p0
      have e1 := hbl.keep p1
      have e2 := hbl.keep p2
      have e3 := hbl.keep p3
      have e4 := hbl.keep p4
      have e5 := hbl.keep p5
      clear p0 p1 p2 p3 p4 p5
      have hk0 : (0:Int) ≤ (k:Int) := by omega
      have hk1 : (k:Int) < (xs.length:Int) := by omega
      go_wp2_with fail
      refine (toPair_any xs[k] _).mono ?_
      rintro e w1 ⟨rfl, hq1⟩
      obtain ⟨⟨v0, c0⟩, f0⟩ := (hop (k * 6) (by omega)).ext hq1
      obtain ⟨⟨v1, c1⟩, f1⟩ := (hop (k * 6 + 1) (by omega)).ext hq1
      obtain ⟨⟨v2, c2⟩, f2⟩ := (hop (k * 6 + 2) (by omega)).ext hq1
      obtain ⟨⟨v3, c3⟩, f3⟩ := (hop (k * 6 + 3) (by omega)).ext hq1
      obtain ⟨⟨v4, c4⟩, f4⟩ := (hop (k * 6 + 4) (by omega)).ext hq1
      obtain ⟨⟨v5, c5⟩, f5⟩ := (hop (k * 6 + 5) (by omega)).ext hq1
      have R := hide (pairs_step hlt hm hop hbl hq1 (unhide hnf))
      clear hm hop
      go_wp2_with fail
      go_roundw
      case rel => exact ⟨k + 1, by omega, by go_num, (unhide R).1, (unhide R).2.1, (unhide R).2.2.1, (unhide R).2.2.2⟩
      case measure => simp [intOf]; omega
    · have hk2 : k = xs.length := by omega
      have HM : SlOf (PrAt wr) 6 (.slice (some ⟨w.heap.size, 0, none⟩) xs.length xs.length) xs := ⟨_, _, rfl, hl, fun i hi => ⟨_, _, rfl, hm i hi (by omega)⟩⟩
      have HM := hide HM
      clear hm hop hk2
      go_wp2_with fail
      go_ret
      exact ⟨_, rfl, unhide HM, (unhide hnf).fn, hbl⟩

end Go.Proofs.YtkabcfhemljnbaaGreat

namespace Go.Proofs.YtkabcfhemljnbaaGreat
open Go.RowKit

theorem ownsRow_of_block {w w' : World} {base e size n : Nat} {v : Value} {xs : List Value} (h : w.ownsRow base e size v n xs) (hb : ∀ k, v.ownBlock = some k → w'.heap[k]? = w.heap[k]?) : w'.ownsRow base e size v n xs := by
  refine ⟨h.1, ?_⟩
  rcases h.2 with h' | ⟨g, cap, cur, rfl, h1, h2, h3⟩
  · exact .inl h'
  · exact .inr ⟨g, cap, cur, rfl, h1, (hb g rfl).trans h2, h3⟩
end Go.Proofs.YtkabcfhemljnbaaGreat

namespace Go.Proofs.YtkabcfhemljnbaaGreat
open Go.RowKit

/-! Rows of memory that a call owns, flat: what is common to all kinds of elements. -/
theorem flat_get {α : Type} (f : α → List Value) (c : Nat) (hc : ∀ a, (f a).length = c) : ∀ (l : List α) (i j : Nat) (hi : i < l.length), j < c → (l.flatMap f)[i * c + j]? = (f l[i])[j]?
  | a :: l, 0, j, _, hj => by simp only [List.flatMap_cons, Nat.zero_mul, Nat.zero_add, List.getElem_cons_zero]; exact List.getElem?_append_left (by rw [hc]; exact hj)
  | a :: l, i + 1, j, hi, hj => by
    simp only [List.flatMap_cons, List.getElem_cons_succ]
    rw [List.getElem?_append_right (by rw [hc, Nat.succ_mul]; omega), hc, show (i + 1) * c + j - c = i * c + j by rw [Nat.succ_mul]; omega]
    exact flat_get f c hc l i j (by simpa using hi) hj
theorem own_cells {w : World} {base : Nat} {t : TypeId} {c : Nat} {v : Value} {α : Type} {f : α → List Value} (hc : ∀ a, (f a).length = c) {L : List α} (h : w.ownsRow base t c v L.length (L.flatMap f)) : ∃ ad cap, v = .slice ad L.length cap ∧ (0 < L.length → ∃ g, ad = some ⟨g, 0, none⟩) ∧ ∀ i (hi : i < L.length), ∃ g, ad = some ⟨g, 0, none⟩ ∧ base ≤ g ∧ g < w.heap.size ∧ ∀ j, j < c → w.cell? ⟨g, 0 + i * c + j, none⟩ = (f L[i])[j]? := by
  rcases h.2 with ⟨h0, h1⟩ | ⟨g, cap, cur, h0, hb, hg, hr⟩
  · exact ⟨none, 0, by rw [h0, h1], fun q => by omega, fun i hi => by omega⟩
  · subst h0
    refine ⟨_, cap, rfl, fun _ => ⟨g, rfl⟩, fun i hi => ⟨g, rfl, (h.lt g rfl).1, (h.lt g rfl).2, fun j hj => ?_⟩⟩
    have hlt : i * c + j < L.length * c := by
      have : (i + 1) * c ≤ L.length * c := Nat.mul_le_mul_right c (by omega)
      rw [Nat.succ_mul] at this; omega
    rw [Nat.zero_add, World.ownsRow.cellAt h (i * c + j) hlt]
    exact flat_get f c hc L i j hi hj
theorem grown_ext {a W w5 : World} {v : Value} {base : Nat} {t : TypeId} {c n : Nat} {xs : List Value} (ea : Ext a W) (hown : W.ownsRow base t c v n xs) (hb : a.heap.size ≤ base) (hg : W.grownBy w5 v.ownBlock) : Ext a w5 :=
  Below.trans ea ⟨hg.os, hg.tape, hg.output, hg.size, fun k hk => hg.block k (Nat.lt_of_lt_of_le hk ea.size) (fun e => by have := (hown.lt k e.symm).1; omega)⟩

/-- a row in a box: something was appended to it, and the new slice laid into the box's cell o -/
theorem box_push {w3 W w5 : World} {T : TypeId} {c n n' : Nat} {xs ys : List Value} {v v' u : Value} {base bg o : Nat} (hb : bg < base) (ew : Ext w3 W) (hW : W.ownsRow base T c v n xs) (h3 : w3.heap.size ≤ bg) (hlt : bg < W.heap.size) (hg : W.grownBy w5 v.ownBlock) (h5 : w5.ownsRow base T c v' n' ys) :
    (w5.setCell ⟨bg, o, none⟩ u).ownsRow base T c v' n' ys ∧ Ext w3 (w5.setCell ⟨bg, o, none⟩ u) ∧ (∀ o', o' ≠ o → (w5.setCell ⟨bg, o, none⟩ u).cell? ⟨bg, o', none⟩ = W.cell? ⟨bg, o', none⟩) ∧ (∀ o', (w5.setCell ⟨bg, o, none⟩ u).frozen? ⟨bg, o', none⟩ = W.frozen? ⟨bg, o', none⟩) ∧ (∀ y, W.cell? ⟨bg, o, none⟩ = some y → (w5.setCell ⟨bg, o, none⟩ u).cell? ⟨bg, o, none⟩ = some u) ∧ (∀ q, q < W.heap.size → q ≠ bg → v.ownBlock ≠ some q → (w5.setCell ⟨bg, o, none⟩ u).heap[q]? = W.heap[q]?) := by
  have hblk : w5.heap[bg]? = W.heap[bg]? := hg.block bg hlt (fun e => by have := (hW.lt bg e.symm).1; omega)
  refine ⟨ownsRow_of_block h5 (fun q hq => Below.heap_setCell _ _ _ _ (fun e => by have := (h5.lt q hq).1; simp only at e; omega)), (grown_ext ew hW (by omega) hg).setCell h3 u, fun o' ho => ?_, fun o' => ?_, fun y hy => ?_, fun q hq hne hv => ?_⟩
  · rw [cell_other _ (.inr (fun e => ho e.symm))]; exact World.cell?_of_block (a := ⟨bg, o', none⟩) hblk
  · rw [World.frozen?_setCell]; exact World.frozen?_of_block (a := ⟨bg, o', none⟩) hblk
  · exact World.cell?_setCell_same _ _ _ ((World.cell?_of_block (a := ⟨bg, o, none⟩) hblk).trans hy)
  · exact (Below.heap_setCell _ _ _ _ hne).trans (hg.block q hq (fun e => hv e.symm))


theorem own_less {w : World} {b b' : Nat} {T : TypeId} {c n : Nat} {v : Value} {xs : List Value} (h : w.ownsRow b T c v n xs) (hb : b' ≤ b) : w.ownsRow b' T c v n xs :=
  ⟨h.1, h.2.imp id (fun ⟨g, cap, cur, hv, hg, r⟩ => ⟨g, cap, cur, hv, Nat.le_trans hb hg, r⟩)⟩
theorem flat_len {α : Type} (f : α → List Value) (c : Nat) (hc : ∀ a, (f a).length = c) (L : List α) : (L.flatMap f).length = L.length * c := by
  induction L with
  | nil => simp
  | cons a L ih => simp [ih, hc, Nat.succ_mul]; omega
theorem flat_one {α : Type} (f : α → List Value) (h : ∀ a u, u ∈ f a → u.oneCell' = true) (L : List α) : ∀ u, u ∈ L.flatMap f → u.oneCell' = true := fun u hu => by
  obtain ⟨a, _, h2⟩ := List.mem_flatMap.1 hu
  exact h a u h2
theorem addr_add (b o j : Nat) : (⟨b, o, none⟩ : Addr).add j = ⟨b, o + j, none⟩ := by unfold Addr.add; split <;> simp_all
theorem flat_news {α : Type} {w : World} (f : α → List Value) (c : Nat) (h0 : 0 < c) (hc : ∀ a, (f a).length = c) (L : List α) (b o : Nat) (h : ∀ i (hi : i < L.length), ∀ j, j < c → w.cell? ⟨b, o + i * c + j, none⟩ = (f L[i])[j]?) : ∀ j u, (L.flatMap f)[j]? = some u → w.cell? ((⟨b, o, none⟩ : Addr).add j) = some u := fun j u hu => by
  have hj : j < L.length * c := by
    have := (List.getElem?_eq_some_iff.1 hu).1
    rwa [flat_len f c hc] at this
  have hq : j / c < L.length := (Nat.div_lt_iff_lt_mul h0).2 hj
  have hm : j % c < c := Nat.mod_lt _ h0
  have e : j / c * c + j % c = j := Nat.div_add_mod' j c
  rw [addr_add, ← hu]
  have := h (j / c) hq (j % c) hm
  rw [Nat.add_assoc, e] at this
  rw [this, ← flat_get f c hc L (j / c) (j % c) hq hm, e]
end Go.Proofs.YtkabcfhemljnbaaGreat

namespace Go.Proofs.YtkabcfhemljnbaaGreat
open Go.RowKit

/-! The rules of a heap, in plain words of numbers and lists. -/
def Cl0 : Cl := ⟨0, 0, 0, 0, 0, 0, 0, []⟩
def Hp.c (x : Hp) (i : Nat) : Cl := x.cells.getD i Cl0
theorem Hp.c_eq (x : Hp) (i : Nat) (h : i < x.cells.length) : x.cells[i] = x.c i := by simp [Hp.c, h]

structure R1 (x : Hp) : Prop where
  room : 1 ≤ x.room ∧ x.room ≤ 4000
  regs : x.regs.length = 16
  cells : (x.cells.length : Int) ≤ 2 * x.room
  gray : x.gray.length ≤ x.cells.length
  born : 0 ≤ x.born ∧ x.born ≤ 1000000000
  rounds : 0 ≤ x.rounds ∧ x.rounds ≤ 1000000000
  forced : 0 ≤ x.forced ∧ x.forced ≤ 1000000000
  per : 0 ≤ x.per ∧ x.per ≤ 64
  start : 0 ≤ x.start ∧ x.start ≤ 4000
  phase : 0 ≤ x.phase ∧ x.phase ≤ 6
  hand : 0 ≤ x.hand ∧ x.hand ≤ x.cells.length
  sub : 0 ≤ x.sub ∧ x.sub ≤ 200

/-- a cell with nothing but its State and To -/
def Bare (c : Cl) : Prop := c.kind = 0 ∧ c.weak = 0 ∧ c.last = 0 ∧ c.born = 0 ∧ c.color = 0 ∧ c.prs.length = 0
def UsedOk (x : Hp) (c : Cl) : Prop :=
  (0 ≤ c.kind ∧ c.kind ≤ 255) ∧ (0 ≤ c.weak ∧ c.weak ≤ 3) ∧ (0 ≤ c.last ∧ c.last ≤ 3) ∧ (1 ≤ c.born ∧ c.born ≤ x.born) ∧ (0 ≤ c.color ∧ c.color ≤ 2) ∧ c.to = 0 ∧ c.prs.length ≤ 200
def MovedOk (x : Hp) (i : Nat) (c : Cl) : Prop :=
  Bare c ∧ 4 ≤ x.phase ∧ 0 ≤ c.to ∧ c.to < i ∧ (x.c c.to.toNat).st = 1 ∧ (x.phase = 4 → ∀ k : Nat, (k : Int) < c.to → (x.c k).st ≠ 0)
def CellOk (x : Hp) (i : Nat) : Prop :=
  ((x.c i).st = 0 ∧ Bare (x.c i) ∧ (x.c i).to = 0) ∨ ((x.c i).st = 2 ∧ MovedOk x i (x.c i)) ∨ ((x.c i).st = 1 ∧ UsedOk x (x.c i))
def Apart (x : Hp) : Prop :=
  ∀ i, i < x.cells.length → (x.c i).st ≠ 0 → ∀ k, k < i → ¬ ((x.c k).st = (x.c i).st ∧ (x.c k).born = (x.c i).born ∧ (x.c k).to = (x.c i).to)
def R2 (x : Hp) : Prop := (∀ i, i < x.cells.length → CellOk x i) ∧ Apart x

def unitsOf (c : Cl) : Nat := if c.st = 1 then 1 + c.prs.length else 0
def units (cs : List Cl) : Nat := (cs.map unitsOf).sum
def R3 (x : Hp) : Prop := x.used = units x.cells ∧ x.used ≤ x.room

def Formed (w : Wd) (n : Nat) : Prop := (w.k = 0 ∧ w.n = 0 ∧ w.a = 0) ∨ (w.k = 1 ∧ w.a = 0) ∨ (w.k = 2 ∧ w.n = 0 ∧ 0 ≤ w.a ∧ w.a < n)
def Doomed (x : Hp) (i : Nat) : Prop := x.phase = 3 ∧ x.hand ≤ i ∧ (x.c i).st = 1 ∧ (x.c i).color = 0
def Leads (x : Hp) (w : Wd) (moved : Prop) : Prop :=
  Formed w x.cells.length ∧ (w.k = 2 → ((x.c w.a.toNat).st = 2 ∧ moved) ∨ ((x.c w.a.toNat).st = 1 ∧ ¬ Doomed x w.a.toNat))
def Mended (x : Hp) (i k : Nat) : Prop := x.phase ≠ 4 ∧ (x.phase = 5 → (i : Int) < x.hand ∨ ((i : Int) = x.hand ∧ (k : Int) < x.sub))
def PairOk (x : Hp) (i k : Nat) (p : Pr) : Prop :=
  (Doomed x i → Formed p.key x.cells.length ∧ Formed p.val x.cells.length) ∧ (¬ Doomed x i → Leads x p.key (¬ Mended x i k) ∧ Leads x p.val (¬ Mended x i k))
def Pr0 : Pr := ⟨⟨0, 0, 0⟩, ⟨0, 0, 0⟩⟩
def Cl.p (c : Cl) (k : Nat) : Pr := c.prs.getD k Pr0
theorem Cl.p_eq (c : Cl) (k : Nat) (h : k < c.prs.length) : c.prs[k] = c.p k := by simp [Cl.p, h]
def Speaks (c : Cl) : Prop := c.last = 1 ∨ c.last = 2
def R4 (x : Hp) : Prop :=
  (∀ i (h : i < x.regs.length), Leads x x.regs[i] False) ∧
  (∀ i, i < x.cells.length → ¬ (Doomed x i ∧ Speaks (x.c i)) ∧ ∀ k, k < (x.c i).prs.length → PairOk x i k ((x.c i).p k))

def Marking (x : Hp) : Prop := x.phase = 1 ∨ x.phase = 2
def cnt (g : List Int) (i : Nat) : Nat := g.count (i : Int)
def ColorOk (x : Hp) (i : Nat) : Prop :=
  ((x.c i).color = 1 → cnt x.gray i = 1) ∧ ((x.c i).color ≠ 1 → cnt x.gray i = 0) ∧ ((x.c i).color = 2 → Marking x ∨ (x.phase = 3 ∧ x.hand ≤ i))
def R5 (x : Hp) : Prop :=
  (¬ Marking x → x.gray.length = 0) ∧ (∀ i, i < x.cells.length → ColorOk x i) ∧ (∀ g, g ∈ x.gray → 0 ≤ g ∧ g < x.cells.length)

def Hp.g0 (x : Hp) : Nat := (x.gray.getD 0 0).toNat
def R6 (x : Hp) : Prop :=
  ((x.phase = 0 ∨ x.phase = 4) → x.hand = 0 ∧ x.sub = 0) ∧
  (x.phase = 2 → x.hand = 0 ∧ (x.gray.length = 0 → x.sub = 0) ∧ (x.gray.length ≠ 0 → x.sub ≤ (x.c x.g0).prs.length)) ∧
  (x.phase = 5 → ((x.hand = x.cells.length ∨ (x.c x.hand.toNat).st ≠ 1) → x.sub = 0) ∧ (x.hand ≠ x.cells.length ∧ (x.c x.hand.toNat).st = 1 → x.sub ≤ (x.c x.hand.toNat).prs.length)) ∧
  ((x.phase = 1 ∨ x.phase = 3 ∨ x.phase = 6) → x.sub = 0)

def White (x : Hp) (w : Wd) : Prop := w.k = 2 ∧ (x.c w.a.toNat).color = 0
def looked (x : Hp) (i : Nat) : Nat :=
  if (x.c i).color = 2 then (x.c i).prs.length else if x.phase = 2 ∧ x.gray.length ≠ 0 ∧ x.gray.getD 0 0 = (i : Int) then x.sub.toNat else 0
def R7 (x : Hp) : Prop :=
  Marking x → ∀ i, i < x.cells.length → ¬ (Speaks (x.c i) ∧ (x.c i).color = 0 ∧ (x.phase = 2 ∨ (i : Int) < x.hand)) ∧ ∀ k, k < looked x i → ¬ White x ((x.c i).p k).key ∧ ¬ White x ((x.c i).p k).val
def R8 (x : Hp) : Prop := ∀ i, i < x.cells.length → ¬ (x.phase = 6 ∧ x.hand ≤ i ∧ (x.c i).st = 2)

/-- n is the number of the first rule that fails, 0 when none does -/
def OkIs (x : Hp) (n : Int) : Prop :=
  (¬ R1 x ∧ n = 1) ∨ (R1 x ∧ ¬ R2 x ∧ n = 2) ∨ (R1 x ∧ R2 x ∧ ¬ R3 x ∧ n = 3) ∨ (R1 x ∧ R2 x ∧ R3 x ∧ ¬ R4 x ∧ n = 4) ∨ (R1 x ∧ R2 x ∧ R3 x ∧ R4 x ∧ ¬ R5 x ∧ n = 5) ∨
  (R1 x ∧ R2 x ∧ R3 x ∧ R4 x ∧ R5 x ∧ ¬ R6 x ∧ n = 6) ∨ (R1 x ∧ R2 x ∧ R3 x ∧ R4 x ∧ R5 x ∧ R6 x ∧ ¬ R7 x ∧ n = 7) ∨ (R1 x ∧ R2 x ∧ R3 x ∧ R4 x ∧ R5 x ∧ R6 x ∧ R7 x ∧ ¬ R8 x ∧ n = 8) ∨
  (R1 x ∧ R2 x ∧ R3 x ∧ R4 x ∧ R5 x ∧ R6 x ∧ R7 x ∧ R8 x ∧ n = 0)
theorem OkIs.uniq {x : Hp} {n m : Int} (h : OkIs x n) (k : OkIs x m) : n = m := by
  unfold OkIs at h k
  by_cases h1 : R1 x <;> by_cases h2 : R2 x <;> by_cases h3 : R3 x <;> by_cases h4 : R4 x <;> by_cases h5 : R5 x <;> by_cases h6 : R6 x <;> by_cases h7 : R7 x <;> by_cases h8 : R8 x <;> simp only [h1, h2, h3, h4, h5, h6, h7, h8, true_and, false_and, not_true_eq_false, not_false_eq_true, false_or, or_false] at h k <;> omega

/-- a heap behind a pointer: its thirteen cells, and the slices in it -/
structure HAt (w : World) (b : Nat) (x : Hp) (ar : Option Addr) (kr : Nat) (ac : Option Addr) (kc : Nat) (ag : Option Addr) (kg : Nat) : Prop where
  c0 : w.cell? ⟨b, 0, none⟩ = some (iv x.room)
  c1 : w.cell? ⟨b, 1, none⟩ = some (iv x.used)
  c2 : w.cell? ⟨b, 2, none⟩ = some (iv x.born)
  c3 : w.cell? ⟨b, 3, none⟩ = some (.slice ar x.regs.length kr)
  c4 : w.cell? ⟨b, 4, none⟩ = some (.slice ac x.cells.length kc)
  c5 : w.cell? ⟨b, 5, none⟩ = some (iv x.phase)
  c6 : w.cell? ⟨b, 6, none⟩ = some (iv x.hand)
  c7 : w.cell? ⟨b, 7, none⟩ = some (iv x.sub)
  c8 : w.cell? ⟨b, 8, none⟩ = some (.slice ag x.gray.length kg)
  c9 : w.cell? ⟨b, 9, none⟩ = some (iv x.per)
  c10 : w.cell? ⟨b, 10, none⟩ = some (iv x.start)
  c11 : w.cell? ⟨b, 11, none⟩ = some (iv x.rounds)
  c12 : w.cell? ⟨b, 12, none⟩ = some (iv x.forced)
  lr : x.regs.length ≤ 35184372088832
  lc : x.cells.length ≤ 35184372088832
  lg : x.gray.length ≤ 35184372088832
  R : ∀ i (hi : i < x.regs.length), ∃ b' o, ar = some ⟨b', o, none⟩ ∧ WdAt w b' (o + i * 3) x.regs[i]
  C : ∀ i, i < x.cells.length → ∃ b' o, ac = some ⟨b', o, none⟩ ∧ ClAt w b' (o + i * 8) (x.c i)
  G : ∀ i (hi : i < x.gray.length), ∃ b' o, ag = some ⟨b', o, none⟩ ∧ InAt w b' (o + i * 1) x.gray[i]

theorem HAt.ext {w w' : World} {b : Nat} {x : Hp} {ar : Option Addr} {kr : Nat} {ac : Option Addr} {kc : Nat} {ag : Option Addr} {kg : Nat} (h : HAt w b x ar kr ac kc ag kg) (e : Ext w w') : HAt w' b x ar kr ac kc ag kg :=
  ⟨e.keep h.c0, e.keep h.c1, e.keep h.c2, e.keep h.c3, e.keep h.c4, e.keep h.c5, e.keep h.c6, e.keep h.c7, e.keep h.c8, e.keep h.c9, e.keep h.c10, e.keep h.c11, e.keep h.c12, h.lr, h.lc, h.lg,
    fun i hi => let ⟨b', o, a, p⟩ := h.R i hi; ⟨b', o, a, p.ext e⟩, fun i hi => let ⟨b', o, a, p⟩ := h.C i hi; ⟨b', o, a, p.ext e⟩, fun i hi => let ⟨b', o, a, p⟩ := h.G i hi; ⟨b', o, a, p.ext e⟩⟩

/-- the cell at i, all of it laid open -/
structure CAt (w : World) (b o : Nat) (c : Cl) (ap : Option Addr) (kp : Nat) : Prop where
  p0 : w.cell? ⟨b, o, none⟩ = some (iv c.st)
  p1 : w.cell? ⟨b, o + 1, none⟩ = some (iv c.kind)
  p2 : w.cell? ⟨b, o + 2, none⟩ = some (iv c.weak)
  p3 : w.cell? ⟨b, o + 3, none⟩ = some (iv c.last)
  p4 : w.cell? ⟨b, o + 4, none⟩ = some (iv c.born)
  p5 : w.cell? ⟨b, o + 5, none⟩ = some (iv c.color)
  p6 : w.cell? ⟨b, o + 6, none⟩ = some (iv c.to)
  p7 : w.cell? ⟨b, o + 7, none⟩ = some (.slice ap c.prs.length kp)
  lp : c.prs.length ≤ 35184372088832
  P : ∀ k, k < c.prs.length → ∃ b' o', ap = some ⟨b', o', none⟩ ∧ PrAt w b' (o' + k * 6) (c.p k)
theorem HAt.cell {w : World} {b : Nat} {x : Hp} {ar : Option Addr} {kr : Nat} {ac : Option Addr} {kc : Nat} {ag : Option Addr} {kg : Nat} (h : HAt w b x ar kr ac kc ag kg) (i : Nat) (hi : i < x.cells.length) :
    ∃ b' o ap kp, ac = some ⟨b', o, none⟩ ∧ CAt w b' (o + i * 8) (x.c i) ap kp := by
  obtain ⟨b', o, e, vp, p0, p1, p2, p3, p4, p5, p6, p7, ap, kp, rfl, lp, P⟩ := h.C i hi
  exact ⟨b', o, ap, kp, e, p0, p1, p2, p3, p4, p5, p6, p7, lp, fun k hk => by obtain ⟨b2, o2, e2, q⟩ := P k hk; rw [Cl.p_eq _ _ hk] at q; exact ⟨b2, o2, e2, q⟩⟩
theorem CAt.ext {w w' : World} {b o : Nat} {c : Cl} {ap : Option Addr} {kp : Nat} (h : CAt w b o c ap kp) (e : Ext w w') : CAt w' b o c ap kp :=
  ⟨e.keep h.p0, e.keep h.p1, e.keep h.p2, e.keep h.p3, e.keep h.p4, e.keep h.p5, e.keep h.p6, e.keep h.p7, h.lp, fun k hk => let ⟨b', o', a, p⟩ := h.P k hk; ⟨b', o', a, p.ext e⟩⟩

end Go.Proofs.YtkabcfhemljnbaaGreat

namespace Go.Proofs.YtkabcfhemljnbaaGreat

/-! The heap of least items, as a list of numbers. -/
/-- the item at i -/
def it (L : List Int) (i : Nat) : Int := L.getD i 0
theorem it_eq (L : List Int) (i : Nat) (h : i < L.length) : L[i] = it L i := by simp [it, h]
def swp (L : List Int) (i j : Nat) : List Int := (L.set i (it L j)).set j (it L i)
theorem swp_len (L : List Int) (i j : Nat) : (swp L i j).length = L.length := by simp [swp]
theorem swp_it (L : List Int) (i j k : Nat) (hi : i < L.length) (hj : j < L.length) : it (swp L i j) k = if k = j then it L i else if k = i then it L j else it L k := by
  simp only [it, swp, List.getD_eq_getElem?_getD, List.getElem?_set]
  by_cases h1 : j = k
  · subst h1; simp [hj]
  · have h1' : ¬ k = j := fun e => h1 e.symm
    by_cases h2 : i = k
    · subst h2; simp [h1, h1', hi]
    · have h2' : ¬ k = i := fun e => h2 e.symm
      simp [h1, h2, h1', h2']
theorem swp_perm (L : List Int) (i j : Nat) (hi : i < L.length) (hj : j < L.length) : (swp L i j).Perm L := by
  have := List.set_set_perm hi hj
  rw [it_eq L i hi, it_eq L j hj] at this
  exact this

/-- no item is less than the one above it -/
def Ho (L : List Int) : Prop := ∀ i, 0 < i → i < L.length → it L ((i - 1) / 2) ≤ it L i
theorem Ho.root {L : List Int} (h : Ho L) : ∀ i, i < L.length → it L 0 ≤ it L i := by
  intro i
  induction i using Nat.strongRecOn with
  | ind i ih =>
    intro hi
    by_cases h0 : i = 0
    · subst h0; exact Int.le_refl _
    · have h1 := h i (by omega) hi
      have h2 := ih ((i - 1) / 2) (by omega) (by omega)
      omega
theorem it_mem (L : List Int) (i : Nat) (h : i < L.length) : it L i ∈ L := by rw [← it_eq L i h]; exact List.getElem_mem h
theorem Ho.least {L : List Int} (h : Ho L) {x : Int} (hx : x ∈ L) : it L 0 ≤ x := by
  obtain ⟨i, hi, e⟩ := List.getElem_of_mem hx
  rw [← e, it_eq L i hi]; exact h.root i hi
theorem Ho.nil : Ho [] := fun i _ h => by simp at h

/-- all in order but for the item at a, which may be less than the one above it -/
def Rise (L : List Int) (a : Nat) : Prop :=
  (∀ i, 0 < i → i < L.length → i ≠ a → it L ((i - 1) / 2) ≤ it L i) ∧ (∀ i, 0 < i → i < L.length → (i - 1) / 2 = a → 0 < a → it L ((a - 1) / 2) ≤ it L i)
theorem it_append (L : List Int) (x : Int) (i : Nat) : it (L ++ [x]) i = if i < L.length then it L i else if i = L.length then x else 0 := by
  simp only [it, List.getD_eq_getElem?_getD]
  by_cases h : i < L.length
  · simp [h, List.getElem?_append_left]
  · by_cases h2 : i = L.length
    · subst h2; simp
    · rw [List.getElem?_eq_none (by simp; omega)]; simp [h, h2]
theorem Rise.start {L : List Int} (h : Ho L) (x : Int) : Rise (L ++ [x]) L.length := by
  refine ⟨fun i h0 hi hne => ?_, fun i h0 hi he => ?_⟩
  · simp at hi
    rw [it_append, it_append, if_pos (by omega), if_pos (by omega)]
    exact h i h0 (by omega)
  · simp at hi; omega
theorem Rise.top {L : List Int} (h : Rise L 0) : Ho L := fun i h0 hi => h.1 i h0 hi (by omega)
theorem Rise.done {L : List Int} {a : Nat} (h : Rise L a) (hc : it L ((a - 1) / 2) ≤ it L a) : Ho L := fun i h0 hi => by
  by_cases e : i = a
  · subst e; exact hc
  · exact h.1 i h0 hi e
theorem Rise.up {L : List Int} {a u : Nat} (h : Rise L a) (ha : 0 < a) (hl : a < L.length) (hu : u = (a - 1) / 2) (hc : it L a < it L u) : Rise (swp L u a) u := by
  have hul : u < L.length := by omega
  refine ⟨fun i h0 hi hne => ?_, fun i h0 hi he hp => ?_⟩
  · rw [swp_len] at hi
    rw [swp_it L u a _ hul hl, swp_it L u a _ hul hl]
    by_cases e1 : i = a
    · subst e1
      rw [if_pos rfl, if_neg (by omega), if_pos hu.symm]; omega
    · rw [if_neg e1, if_neg hne]
      by_cases e2 : (i - 1) / 2 = a
      · rw [if_pos e2]
        have := h.2 i h0 hi e2 ha
        rw [hu]; exact this
      · rw [if_neg e2]
        by_cases e3 : (i - 1) / 2 = u
        · rw [if_pos e3]
          have := h.1 i h0 hi e1
          rw [e3] at this; omega
        · rw [if_neg e3]; exact h.1 i h0 hi e1
  · rw [swp_len] at hi
    rw [swp_it L u a _ hul hl, swp_it L u a _ hul hl]
    rw [if_neg (by omega), if_neg (by omega)]
    have hup := h.1 u hp hul (by omega)
    by_cases e1 : i = a
    · rw [if_pos e1]; exact hup
    · rw [if_neg e1, if_neg (by omega)]
      have := h.1 i h0 hi e1
      rw [he] at this; omega

/-- all in order but for the item at a, which may be greater than those below it -/
def Fall (L : List Int) (a : Nat) : Prop :=
  (∀ i, 0 < i → i < L.length → (i - 1) / 2 ≠ a → it L ((i - 1) / 2) ≤ it L i) ∧ (∀ i, 0 < i → i < L.length → (i - 1) / 2 = a → 0 < a → it L ((a - 1) / 2) ≤ it L i)
theorem Fall.bottom {L : List Int} {a : Nat} (h : Fall L a) (hb : L.length ≤ 2 * a + 1) : Ho L := fun i h0 hi => h.1 i h0 hi (by omega)
/-- s is the lesser of the two below a -/
def Lesser (L : List Int) (a s : Nat) : Prop := (s = 2 * a + 1 ∨ s = 2 * a + 2) ∧ s < L.length ∧ (∀ i, 0 < i → i < L.length → (i - 1) / 2 = a → it L s ≤ it L i)
theorem Lesser.right {L : List Int} {a : Nat} (h : 2 * a + 2 < L.length) (hc : it L (2 * a + 2) < it L (2 * a + 1)) : Lesser L a (2 * a + 2) :=
  ⟨.inr rfl, h, fun i h0 hi e => by
    by_cases q : i = 2 * a + 2
    · rw [q]; exact Int.le_refl _
    · have : i = 2 * a + 1 := by omega
      rw [this]; omega⟩
theorem Lesser.left {L : List Int} {a : Nat} (h : 2 * a + 1 < L.length) (hc : 2 * a + 2 < L.length → it L (2 * a + 1) ≤ it L (2 * a + 2)) : Lesser L a (2 * a + 1) :=
  ⟨.inl rfl, h, fun i h0 hi e => by
    by_cases q : i = 2 * a + 1
    · rw [q]; exact Int.le_refl _
    · have : i = 2 * a + 2 := by omega
      rw [this]; exact hc (by omega)⟩
theorem Fall.done {L : List Int} {a s : Nat} (h : Fall L a) (hs : Lesser L a s) (hc : it L a ≤ it L s) : Ho L := fun i h0 hi => by
  by_cases e : (i - 1) / 2 = a
  · have := hs.2.2 i h0 hi e
    rw [e]; omega
  · exact h.1 i h0 hi e
theorem Fall.down {L : List Int} {a s : Nat} (h : Fall L a) (hs : Lesser L a s) (hc : it L s < it L a) : Fall (swp L a s) s := by
  obtain ⟨hs1, hsl, hs2⟩ := hs
  have hal : a < L.length := by omega
  refine ⟨fun i h0 hi hne => ?_, fun i h0 hi he hp => ?_⟩
  · rw [swp_len] at hi
    rw [swp_it L a s _ hal hsl, swp_it L a s _ hal hsl]
    rw [if_neg hne]
    by_cases e1 : i = s
    · subst e1
      rw [if_pos (by omega), if_pos rfl]; omega
    · rw [if_neg e1]
      by_cases e2 : (i - 1) / 2 = a
      · rw [if_pos e2, if_neg (by omega)]; exact hs2 i h0 hi e2
      · rw [if_neg e2]
        by_cases e3 : i = a
        · subst e3
          rw [if_pos rfl]
          exact h.2 s (by omega) hsl (by omega) h0
        · rw [if_neg e3]; exact h.1 i h0 hi e2
  · rw [swp_len] at hi
    rw [swp_it L a s _ hal hsl, swp_it L a s _ hal hsl]
    have e0 : (s - 1) / 2 = a := by omega
    rw [e0, if_neg (by omega), if_pos rfl, if_neg (by omega), if_neg (by omega)]
    have := h.1 i h0 hi (by omega)
    rw [he] at this; exact this

/-- behind a taking: the last item stands first, the last place is cut off -/
def cutl (L : List Int) : List Int := (swp L 0 (L.length - 1)).take (L.length - 1)
theorem cutl_len (L : List Int) : (cutl L).length = L.length - 1 := by simp [cutl, swp_len]
theorem it_take (L : List Int) (n i : Nat) (h : i < n) : it (L.take n) i = it L i := by simp [it, h]
theorem cutl_perm (L : List Int) (h : 0 < L.length) : (it L 0 :: cutl L).Perm L := by
  have h1 := swp_perm L 0 (L.length - 1) h (by omega)
  have hs : swp L 0 (L.length - 1) = cutl L ++ [it L 0] := by
    have h2 := List.take_append_getElem (l := swp L 0 (L.length - 1)) (i := L.length - 1) (by rw [swp_len]; omega)
    rw [it_eq, swp_it L 0 _ _ h (by omega), if_pos rfl] at h2
    have : L.length - 1 + 1 = (swp L 0 (L.length - 1)).length := by rw [swp_len]; omega
    rw [this, List.take_length] at h2
    exact h2.symm
  rw [hs] at h1
  exact (List.perm_append_singleton _ _).symm.trans h1
theorem Fall.start {L : List Int} (h : Ho L) : Fall (cutl L) 0 := by
  refine ⟨fun i h0 hi hne => ?_, fun i h0 hi he hp => by omega⟩
  rw [cutl_len] at hi
  unfold cutl
  rw [it_take _ _ _ (by omega), it_take _ _ _ (by omega), swp_it L 0 _ _ (by omega) (by omega), swp_it L 0 _ _ (by omega) (by omega), if_neg (by omega), if_neg hne, if_neg (by omega), if_neg (by omega)]
  exact h i h0 (by omega)

theorem drain_same {L M : List Int} {x : Int} (hp : (x :: M).Perm L) (hL : Ho L) (hx : x = it L 0) (hM : Ho M) (hm : M = [] ∨ it M 0 ≠ x) : L.Nodup ↔ M.Nodup := by
  rw [← hp.nodup_iff, List.nodup_cons]
  refine ⟨fun h => h.2, fun h => ⟨fun hmem => ?_, h⟩⟩
  rcases hm with e | e
  · rw [e] at hmem; cases hmem
  · have h1 := hM.least hmem
    have hne : M ≠ [] := List.ne_nil_of_mem hmem
    have h2 : it M 0 ∈ M := it_mem M 0 (by cases M with | nil => exact (hne rfl).elim | cons _ _ => simp)
    have h3 := hL.least (hp.mem_iff.1 (List.mem_cons_of_mem _ h2))
    omega
theorem drain_twice {L M : List Int} {x : Int} (hp : (x :: M).Perm L) (hm : 0 < M.length) (e : it M 0 = x) : ¬ L.Nodup := by
  rw [← hp.nodup_iff, List.nodup_cons]
  exact fun h => h.1 (by rw [← e]; exact it_mem M 0 hm)
end Go.Proofs.YtkabcfhemljnbaaGreat
