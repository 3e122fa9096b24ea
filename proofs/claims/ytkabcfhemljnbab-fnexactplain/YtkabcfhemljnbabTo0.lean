import Derived.Test.YtkabcfhemljnbabBase
namespace Go.Proofs.Ytkabcfhemljnbab
open Go.RowKit

/-! Rows that are written anew: what is common to all kinds of elements. -/
theorem made_open (w : World) (z : Array Value) (m : Nat) (t : TypeId) (j : Nat) (hj : j < m) : Open (w.alloc (.cells (madeCells z m) t)) w.heap.size j := by
  have e : (w.alloc (.cells (madeCells z m) t)).heap[w.heap.size]? = some (.cells (madeCells z m) t) := by show (w.heap.push _)[w.heap.size]? = _; simp
  have hs := size_madeCells z m
  refine ⟨⟨(madeCells z m)[j]'(by omega), ?_⟩, ?_⟩
  · unfold World.cell?
    rw [e]
    simp [hs, hj]
  · unfold World.frozen?
    rw [e]
    simp

theorem put_in {w1 : World} {g o : Nat} {vs : List Value} (ho : ∀ j, j < vs.length → Open w1 g (o + j)) (j : Nat) (hj : j < vs.length) : (w1.setCells g o vs).cell? ⟨g, o + j, none⟩ = some vs[j] := by
  refine World.cell?_setCells_in g vs o w1 (fun j hj => ?_) j hj
  obtain ⟨⟨v, hv⟩, _⟩ := ho j hj
  rw [hv]; rfl
theorem put_out {w1 : World} {g o : Nat} {vs : List Value} (b' o' : Nat) (h : b' ≠ g ∨ o' < o ∨ o + vs.length ≤ o') : (w1.setCells g o vs).cell? ⟨b', o', none⟩ = w1.cell? ⟨b', o', none⟩ :=
  World.cell?_setCells_out g vs o w1 ⟨b', o', none⟩ (fun e _ => by simp at e; simp; omega)
theorem put_open {g : Nat} : ∀ {vs : List Value} {w1 : World} {o b' o' : Nat}, Open w1 b' o' → Open (w1.setCells g o vs) b' o'
  | [], _, _, _, _, h => h
  | _ :: r, _, _, _, _, h => put_open (vs := r) (h.set _ _)
theorem put_only {S : Nat → Prop} {g : Nat} (hg : S g) : ∀ {vs : List Value} {a w1 : World} {o : Nat}, Only S a w1 → Only S a (w1.setCells g o vs)
  | [], _, _, _, h => h
  | _ :: r, _, _, _, h => put_only hg (vs := r) (h.setCell hg _)

theorem SlOf.mono2 {α : Type} {p q : Nat → Nat → α → Prop} {sz : Nat} {v : Value} {xs : List α} (h : SlOf p sz v xs) (hpq : ∀ b o n c, v = .slice (some ⟨b, o, none⟩) n c → ∀ o' x, p b o' x → q b o' x) : SlOf q sz v xs := by
  obtain ⟨ad, cap, hv, hl, hx⟩ := h
  exact ⟨ad, cap, hv, hl, fun i hi => by obtain ⟨b, o, ha, hp⟩ := hx i hi; exact ⟨b, o, ha, hpq b o _ _ (by rw [hv, ha]) _ _ hp⟩⟩
/-- the slice lies in a block from B on, and is no longer than its capacity -/
def From (B : Nat) (v : Value) : Prop := ∀ b o n c, v = .slice (some ⟨b, o, none⟩) n c → B ≤ b ∧ n ≤ c
theorem From.mono {B C : Nat} {v : Value} (h : From B v) (hc : C ≤ B) : From C v := fun b o n c e => ⟨Nat.le_trans hc (h b o n c e).1, (h b o n c e).2⟩
/-- no cell of the slice's block is frozen -/
def Nfz (w : World) (v : Value) : Prop := ∀ b o n c, v = .slice (some ⟨b, o, none⟩) n c → b < w.heap.size ∧ ∀ j, w.frozen? ⟨b, j, none⟩ = false
/-- in a block from B on, of which no cell is frozen -/
def Fn0 (B : Nat) (w : World) (v : Value) : Prop := From B v ∧ Nfz w v
theorem Fn0.mono {B C : Nat} {w : World} {v : Value} (h : Fn0 B w v) (hc : C ≤ B) : Fn0 C w v := ⟨h.1.mono hc, h.2⟩
theorem Fn0.ext {B : Nat} {w w' : World} {v : Value} (h : Fn0 B w v) (e : Ext w w') : Fn0 B w' v :=
  ⟨h.1, fun b o n c hv => ⟨Nat.lt_of_lt_of_le (h.2 b o n c hv).1 e.size, fun j => by rw [(bcell e).2 b j (h.2 b o n c hv).1]; exact (h.2 b o n c hv).2 j⟩⟩
theorem Fn0.only {S : Nat → Prop} {B : Nat} {w w' : World} {v : Value} (h : Fn0 B w v) (ho : Only S w w') (hS : ∀ q, S q → q < B) : Fn0 B w' v :=
  ⟨h.1, fun b o n c hv => ⟨Nat.lt_of_lt_of_le (h.2 b o n c hv).1 ho.size, fun j => by rw [ho.frozen (h.2 b o n c hv).1 (fun s => by have := hS b s; have := (h.1 b o n c hv).1; omega)]; exact (h.2 b o n c hv).2 j⟩⟩
/-- a new block -/
def Nf1 (B : Nat) (w : World) : Prop := B < w.heap.size ∧ ∀ j, w.frozen? ⟨B, j, none⟩ = false
theorem Nf1.ext {B : Nat} {w w' : World} (h : Nf1 B w) (e : Ext w w') : Nf1 B w' := ⟨Nat.lt_of_lt_of_le h.1 e.size, fun j => by rw [(bcell e).2 B j h.1]; exact h.2 j⟩
theorem Nf1.set {B : Nat} {w : World} (h : Nf1 B w) (p : Addr) (u : Value) : Nf1 B (w.setCell p u) := ⟨by have := h.1; simpa [World.setCell] using this, fun j => by rw [World.frozen?_setCell]; exact h.2 j⟩
theorem Nf1.put {B g : Nat} : ∀ {vs : List Value} {w : World} {o : Nat}, Nf1 B w → Nf1 B (w.setCells g o vs)
  | [], _, _, h => h
  | _ :: r, _, _, h => Nf1.put (vs := r) (h.set _ _)
theorem Nf1.made (w : World) (z : Array Value) (m : Nat) (t : TypeId) : Nf1 w.heap.size (w.alloc (.cells (madeCells z m) t)) := by
  refine ⟨by simp, fun j => ?_⟩
  have e : (w.alloc (.cells (madeCells z m) t)).heap[w.heap.size]? = some (.cells (madeCells z m) t) := by show (w.heap.push _)[w.heap.size]? = _; simp
  unfold World.frozen?
  rw [e]
  simp
theorem Nf1.fn {B n : Nat} {w : World} (h : Nf1 B w) : Fn0 B w (.slice (some ⟨B, 0, none⟩) n n) := ⟨fun b o n c e => by simp at e; omega, fun b o n c e => by simp at e; obtain ⟨⟨e1, _⟩, _⟩ := e; subst e1; exact h⟩
theorem slP_only {S : Nat → Prop} {w w' : World} (h : Only S w w') {v : Value} {xs : List Pr} (hv : ∀ b o n c, v = .slice (some ⟨b, o, none⟩) n c → ¬ S b) (hx : SlP w v xs) : SlP w' v xs :=
  SlOf.mono2 hx fun b o n c e _ _ hp => ⟨h.keep (hv b o n c e) hp.1, h.keep (hv b o n c e) hp.2.1, h.keep (hv b o n c e) hp.2.2.1, h.keep (hv b o n c e) hp.2.2.2.1, h.keep (hv b o n c e) hp.2.2.2.2.1, h.keep (hv b o n c e) hp.2.2.2.2.2⟩
end Go.Proofs.Ytkabcfhemljnbab
