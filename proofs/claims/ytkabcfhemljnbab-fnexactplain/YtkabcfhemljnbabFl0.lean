import Derived.Test.YtkabcfhemljnbabTo0
import Derived.Test.YtkabcfhemljnbabLs0
import Derived.Deep.AppendLies
import Derived.Maps.AppendAt
namespace Go.Proofs.Ytkabcfhemljnbab
open Go.RowKit

/-! Rows of memory that a call owns, flat: what is common to all kinds of elements. -/
theorem flat_get {α : Type} (f : α → List Value) (c : Nat) (hc : ∀ a, (f a).length = c) : ∀ (l : List α) (i j : Nat) (hi : i < l.length), j < c → (l.flatMap f)[i * c + j]? = (f l[i])[j]?
  | a :: l, 0, j, _, hj => by simp only [List.flatMap_cons, Nat.zero_mul, Nat.zero_add, List.getElem_cons_zero]; exact List.getElem?_append_left (by rw [hc]; exact hj)
  | a :: l, i + 1, j, hi, hj => by
    simp only [List.flatMap_cons, List.getElem_cons_succ]
    rw [List.getElem?_append_right (by rw [hc, Nat.succ_mul]; omega), hc, show (i + 1) * c + j - c = i * c + j by rw [Nat.succ_mul]; omega]
    exact flat_get f c hc l i j (by simpa using hi) hj
theorem own_cells {w : World} {base : Nat} {t : TypeId} {c : Nat} {v : Value} {α : Type} {f : α → List Value} (hc : ∀ a, (f a).length = c) {L : List α} (h : w.ownsRow base t c v L.length (L.flatMap f)) : ∃ ad cap, v = .slice ad L.length cap ∧ (0 < L.length → ∃ g, ad = some ⟨g, 0, none⟩) ∧ ∀ i (hi : i < L.length), ∃ g, ad = some ⟨g, 0, none⟩ ∧ base ≤ g ∧ g < w.heap.size ∧ ∀ j, j < c → w.cell? ⟨g, 0 + i * c + j, none⟩ = (f L[i])[j]? := by
  rcases h.2 with ⟨h0, h1⟩ | ⟨g, cap, cur, h0, hb, hg, hr⟩
  · exact ⟨none, 0, by rw [h0, h1], fun q => by omega, fun i hi => by omega⟩
  · subst h0
    refine ⟨_, cap, rfl, fun _ => ⟨g, rfl⟩, fun i hi => ⟨g, rfl, (h.lt g rfl).1, (h.lt g rfl).2, fun j hj => ?_⟩⟩
    have hlt : i * c + j < L.length * c := by
      have : (i + 1) * c ≤ L.length * c := Nat.mul_le_mul_right c (by omega)
      rw [Nat.succ_mul] at this; omega
    rw [Nat.zero_add, World.ownsRow.cellAt h (i * c + j) hlt]
    exact flat_get f c hc L i j hi hj
theorem grown_ext {a W w5 : World} {v : Value} {base : Nat} {t : TypeId} {c n : Nat} {xs : List Value} (ea : Ext a W) (hown : W.ownsRow base t c v n xs) (hb : a.heap.size ≤ base) (hg : W.grownBy w5 v.ownBlock) : Ext a w5 :=
  Below.trans ea ⟨hg.os, hg.tape, hg.output, hg.size, fun k hk => hg.block k (Nat.lt_of_lt_of_le hk ea.size) (fun e => by have := (hown.lt k e.symm).1; omega)⟩

/-- a row in a box: something was appended to it, and the new slice laid into the box's cell o -/
theorem box_push {w3 W w5 : World} {T : TypeId} {c n n' : Nat} {xs ys : List Value} {v v' u : Value} {base bg o : Nat} (hb : bg < base) (ew : Ext w3 W) (hW : W.ownsRow base T c v n xs) (h3 : w3.heap.size ≤ bg) (hlt : bg < W.heap.size) (hg : W.grownBy w5 v.ownBlock) (h5 : w5.ownsRow base T c v' n' ys) :
    (w5.setCell ⟨bg, o, none⟩ u).ownsRow base T c v' n' ys ∧ Ext w3 (w5.setCell ⟨bg, o, none⟩ u) ∧ (∀ o', o' ≠ o → (w5.setCell ⟨bg, o, none⟩ u).cell? ⟨bg, o', none⟩ = W.cell? ⟨bg, o', none⟩) ∧ (∀ o', (w5.setCell ⟨bg, o, none⟩ u).frozen? ⟨bg, o', none⟩ = W.frozen? ⟨bg, o', none⟩) ∧ (∀ y, W.cell? ⟨bg, o, none⟩ = some y → (w5.setCell ⟨bg, o, none⟩ u).cell? ⟨bg, o, none⟩ = some u) ∧ (∀ q, q < W.heap.size → q ≠ bg → v.ownBlock ≠ some q → (w5.setCell ⟨bg, o, none⟩ u).heap[q]? = W.heap[q]?) := by
  have hblk : w5.heap[bg]? = W.heap[bg]? := hg.block bg hlt (fun e => by have := (hW.lt bg e.symm).1; omega)
  refine ⟨ownsRow_of_block h5 (fun q hq => Below.heap_setCell _ _ _ _ (fun e => by have := (h5.lt q hq).1; simp only at e; omega)), (grown_ext ew hW (by omega) hg).setCell h3 u, fun o' ho => ?_, fun o' => ?_, fun y hy => ?_, fun q hq hne hv => ?_⟩
  · rw [cell_other _ (.inr (fun e => ho e.symm))]; exact World.cell?_of_block (a := ⟨bg, o', none⟩) hblk
  · rw [World.frozen?_setCell]; exact World.frozen?_of_block (a := ⟨bg, o', none⟩) hblk
  · exact World.cell?_setCell_same _ _ _ ((World.cell?_of_block (a := ⟨bg, o, none⟩) hblk).trans hy)
  · exact (Below.heap_setCell _ _ _ _ hne).trans (hg.block q hq (fun e => hv e.symm))


theorem own_less {w : World} {b b' : Nat} {T : TypeId} {c n : Nat} {v : Value} {xs : List Value} (h : w.ownsRow b T c v n xs) (hb : b' ≤ b) : w.ownsRow b' T c v n xs :=
  ⟨h.1, h.2.imp id (fun ⟨g, cap, cur, hv, hg, r⟩ => ⟨g, cap, cur, hv, Nat.le_trans hb hg, r⟩)⟩
theorem flat_len {α : Type} (f : α → List Value) (c : Nat) (hc : ∀ a, (f a).length = c) (L : List α) : (L.flatMap f).length = L.length * c := by
  induction L with
  | nil => simp
  | cons a L ih => simp [ih, hc, Nat.succ_mul]; omega
theorem flat_one {α : Type} (f : α → List Value) (h : ∀ a u, u ∈ f a → u.oneCell' = true) (L : List α) : ∀ u, u ∈ L.flatMap f → u.oneCell' = true := fun u hu => by
  obtain ⟨a, _, h2⟩ := List.mem_flatMap.1 hu
  exact h a u h2
theorem addr_add (b o j : Nat) : (⟨b, o, none⟩ : Addr).add j = ⟨b, o + j, none⟩ := by unfold Addr.add; split <;> simp_all
theorem flat_news {α : Type} {w : World} (f : α → List Value) (c : Nat) (h0 : 0 < c) (hc : ∀ a, (f a).length = c) (L : List α) (b o : Nat) (h : ∀ i (hi : i < L.length), ∀ j, j < c → w.cell? ⟨b, o + i * c + j, none⟩ = (f L[i])[j]?) : ∀ j u, (L.flatMap f)[j]? = some u → w.cell? ((⟨b, o, none⟩ : Addr).add j) = some u := fun j u hu => by
  have hj : j < L.length * c := by
    have := (List.getElem?_eq_some_iff.1 hu).1
    rwa [flat_len f c hc] at this
  have hq : j / c < L.length := (Nat.div_lt_iff_lt_mul h0).2 hj
  have hm : j % c < c := Nat.mod_lt _ h0
  have e : j / c * c + j % c = j := Nat.div_add_mod' j c
  rw [addr_add, ← hu]
  have := h (j / c) hq (j % c) hm
  rw [Nat.add_assoc, e] at this
  rw [this, ← flat_get f c hc L (j / c) (j % c) hq hm, e]
end Go.Proofs.Ytkabcfhemljnbab
