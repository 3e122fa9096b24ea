import Derived.Test.YtojdehkcggbdeabGreatLm
import Derived.Test.YtojdehkcggbdeabGreatImpD
import Derived.Laws.OwnMore
import Derived.WalkSmall
import Derived.Deep.AppendLies
namespace Go.Proofs.YtojdehkcggbdeabGreat
open Go.RowKit

/-! The heap of least items in memory: its header lies at ⟨bq, oq⟩, its items in a row of the call's own. -/
structure LsAt (w : World) (base bq oq : Nat) (v : Value) (L : List Int) : Prop where
  hd : w.cell? ⟨bq, oq, none⟩ = some v
  hf : w.frozen? ⟨bq, oq, none⟩ = false
  own : w.ownsRow base 3 1 v L.length (L.map iv)
  apart : v.ownBlock ≠ some bq

/-- what a call on it leaves as it was -/
structure QFr (bq oq : Nat) (v v' : Value) (w w' : World) : Prop where
  os : w'.os = w.os
  tape : w'.tape = w.tape
  output : w'.output = w.output
  size : w.heap.size ≤ w'.heap.size
  block : ∀ k, k < w.heap.size → k ≠ bq → v.ownBlock ≠ some k → w'.heap[k]? = w.heap[k]?
  hdr : ∀ o, o ≠ oq → w'.cell? ⟨bq, o, none⟩ = w.cell? ⟨bq, o, none⟩
  hfr : ∀ o, w'.frozen? ⟨bq, o, none⟩ = w.frozen? ⟨bq, o, none⟩
  own : v'.ownBlock = v.ownBlock ∨ ∃ g, v'.ownBlock = some g ∧ w.heap.size ≤ g

theorem QFr.refl (bq oq : Nat) (v : Value) (w : World) : QFr bq oq v v w w := ⟨rfl, rfl, rfl, Nat.le_refl _, fun _ _ _ _ => rfl, fun _ _ => rfl, fun _ => rfl, .inl rfl⟩
theorem QFr.trans {bq oq : Nat} {v v1 v2 : Value} {w w1 w2 : World} (h : QFr bq oq v v1 w w1) (k : QFr bq oq v1 v2 w1 w2) : QFr bq oq v v2 w w2 :=
  ⟨k.os.trans h.os, k.tape.trans h.tape, k.output.trans h.output, Nat.le_trans h.size k.size,
    fun i hi hne hv => (k.block i (Nat.lt_of_lt_of_le hi h.size) hne (fun e => by
      rcases h.own with h1 | ⟨g, h1, h2⟩
      · rw [h1] at e; exact hv e
      · rw [h1] at e; cases e; omega)).trans (h.block i hi hne hv),
    fun o ho => (k.hdr o ho).trans (h.hdr o ho), fun o => (k.hfr o).trans (h.hfr o), by
      rcases k.own with h1 | ⟨g, h1, h2⟩
      · rcases h.own with h3 | ⟨g, h3, h4⟩
        · exact .inl (h1.trans h3)
        · exact .inr ⟨g, h1.trans h3, h4⟩
      · exact .inr ⟨g, h1, Nat.le_trans h.size h2⟩⟩
theorem QFr.ext {a : World} {bq oq : Nat} {v v' : Value} {w w' : World} (h : QFr bq oq v v' w w') (e : Ext a w) (hb : a.heap.size ≤ bq) (hv : ∀ k, v.ownBlock = some k → a.heap.size ≤ k) : Ext a w' :=
  Below.trans e ⟨h.os, h.tape, h.output, h.size, fun k hk => h.block k (Nat.lt_of_lt_of_le hk e.size) (by omega) (fun q => by have := hv k q; omega)⟩
theorem QFr.drewN {bq oq : Nat} {v v' : Value} {w w' : World} (h : QFr bq oq v v' w w') (n : Nat) : QFr bq oq v v' w (w'.drewN n) := ⟨h.os, h.tape, h.output, h.size, h.block, h.hdr, h.hfr, h.own⟩
theorem QFr.bare {bq oq : Nat} {v : Value} {w w' : World} (h : Ext w w') (hb : bq < w.heap.size) : QFr bq oq v v w w' :=
  ⟨h.os, h.tape, h.output, h.size, fun k hk _ _ => h.block k hk, fun o _ => h.cell (p := ⟨bq, o, none⟩) hb, fun o => h.frozen (p := ⟨bq, o, none⟩) hb, .inl rfl⟩
theorem QFr.cells {bq oq : Nat} {v v' : Value} {w w' : World} (h : QFr bq oq v v' w w') {b o : Nat} {u : Value} (hc : w.cell? ⟨b, o, none⟩ = some u) (hb : b ≠ bq) (hv : v.ownBlock ≠ some b) : w'.cell? ⟨b, o, none⟩ = some u :=
  (World.cell?_of_block (w := w) (w' := w') (a := ⟨b, o, none⟩) (h.block b (cell_lt hc) hb hv)).trans hc
theorem LsAt.hlt {w : World} {base bq oq : Nat} {v : Value} {L : List Int} (h : LsAt w base bq oq v L) : bq < w.heap.size := cell_lt h.hd
theorem LsAt.rlt {w : World} {base bq oq : Nat} {v : Value} {L : List Int} (h : LsAt w base bq oq v L) : ∀ k, v.ownBlock = some k → base ≤ k ∧ k < w.heap.size := h.own.lt

theorem ownsRow_of_block {w w' : World} {base e size n : Nat} {v : Value} {xs : List Value} (h : w.ownsRow base e size v n xs) (hb : ∀ k, v.ownBlock = some k → w'.heap[k]? = w.heap[k]?) : w'.ownsRow base e size v n xs := by
  refine ⟨h.1, ?_⟩
  rcases h.2 with h' | ⟨g, cap, cur, rfl, h1, h2, h3⟩
  · exact .inl h'
  · exact .inr ⟨g, cap, cur, rfl, h1, (hb g rfl).trans h2, h3⟩
theorem LsAt.ext {w w' : World} {base bq oq : Nat} {v : Value} {L : List Int} (h : LsAt w base bq oq v L) (e : Ext w w') : LsAt w' base bq oq v L :=
  ⟨e.keep h.hd, by rw [e.frozen (p := ⟨bq, oq, none⟩) h.hlt]; exact h.hf, ownsRow_of_block h.own (fun k hk => e.block k (h.rlt k hk).2), h.apart⟩
/-- another heap stays -/
theorem LsAt.other {w w' : World} {base bq oq b2 o2 : Nat} {v v' v2 : Value} {L : List Int} (h : LsAt w base b2 o2 v2 L) (q : QFr bq oq v v' w w') (hb : b2 ≠ bq) (h1 : v.ownBlock ≠ some b2) (h2 : v2.ownBlock ≠ some bq) (h3 : ∀ k, v2.ownBlock = some k → v.ownBlock ≠ some k) : LsAt w' base b2 o2 v2 L := by
  have hbl : w'.heap[b2]? = w.heap[b2]? := q.block b2 h.hlt hb h1
  refine ⟨(World.cell?_of_block (w := w) (w' := w') (a := ⟨b2, o2, none⟩) hbl).trans h.hd, (World.frozen?_of_block (w := w) (w' := w') (a := ⟨b2, o2, none⟩) hbl).trans h.hf, ownsRow_of_block h.own (fun k hk => q.block k (h.rlt k hk).2 (fun e => h2 (e ▸ hk)) (h3 k hk)), h.apart⟩

theorem LsAt.nil {w : World} {base bq oq : Nat} (hd : w.cell? ⟨bq, oq, none⟩ = some (.slice none 0 0)) (hf : w.frozen? ⟨bq, oq, none⟩ = false) : LsAt w base bq oq (.slice none 0 0) [] :=
  ⟨hd, hf, World.ownsRow_nil _ _ _ _, by simp [Value.ownBlock]⟩
theorem LsAt.form {w : World} {base bq oq : Nat} {v : Value} {L : List Int} (h : LsAt w base bq oq v L) (hn : 0 < L.length) : ∃ g cap, v = .slice (some ⟨g, 0, none⟩) L.length cap ∧ g ≠ bq := by
  obtain ⟨g, cap, rfl, _, _⟩ := h.own.form hn
  exact ⟨g, cap, rfl, fun e => h.apart (by rw [← e]; rfl)⟩
theorem LsAt.empty {w : World} {base bq oq : Nat} {v : Value} {L : List Int} (h : LsAt w base bq oq v L) (hn : L.length = 0) : ∃ ad cap, v = .slice ad 0 cap := by
  rcases h.own.2 with ⟨h1, _⟩ | ⟨g, cap, cur, h1, _⟩
  · exact ⟨none, 0, h1⟩
  · rw [hn] at h1; exact ⟨_, _, h1⟩
theorem LsAt.cell {w : World} {base bq oq g n cap : Nat} {L : List Int} (h : LsAt w base bq oq (.slice (some ⟨g, 0, none⟩) n cap) L) (i : Nat) (hi : i < L.length) : w.cell? ⟨g, i, none⟩ = some (iv (it L i)) := by
  obtain ⟨h1, h2⟩ := h.own
  rcases h2 with ⟨h0, _⟩ | ⟨g', cap', cur, h0, hb, hg, hr⟩
  · cases h0
  · cases h0
    have := World.ownsRow.cellAt (w := w) (base := base) (e := 3) (size := 1) (g := g) (n := L.length) (cap := cap) (xs := L.map iv) h.own i (by omega)
    rw [this]; simp [it, hi]
theorem LsAt.froz {w : World} {base bq oq g n cap : Nat} {L : List Int} (h : LsAt w base bq oq (.slice (some ⟨g, 0, none⟩) n cap) L) (i : Nat) : w.frozen? ⟨g, i, none⟩ = false := by
  obtain ⟨h1, h2⟩ := h.own
  rcases h2 with ⟨h0, _⟩ | ⟨g', cap', cur, h0, hb, hg, hr⟩
  · cases h0
  · cases h0
    exact World.ownsRow.frozenAt (w := w) (base := base) (e := 3) (size := 1) (g := g) (n := L.length) (cap := cap) (xs := L.map iv) h.own i
theorem LsAt.len {w : World} {base bq oq g n cap : Nat} {L : List Int} (h : LsAt w base bq oq (.slice (some ⟨g, 0, none⟩) n cap) L) : n = L.length ∧ n ≤ cap := by
  rcases h.own.2 with ⟨h0, _⟩ | ⟨g', cap', cur, h0, hb, hg, hr, _⟩
  · cases h0
  · cases h0; exact ⟨rfl, hr⟩

/-- an item stored -/
theorem LsAt.store {w : World} {base bq oq g n cap : Nat} {L : List Int} (h : LsAt w base bq oq (.slice (some ⟨g, 0, none⟩) n cap) L) (i : Nat) (x : Int) :
    LsAt (w.setCell ⟨g, i, none⟩ (iv x)) base bq oq (.slice (some ⟨g, 0, none⟩) n cap) (L.set i x) ∧ QFr bq oq (.slice (some ⟨g, 0, none⟩) n cap) (.slice (some ⟨g, 0, none⟩) n cap) w (w.setCell ⟨g, i, none⟩ (iv x)) := by
  have hne : g ≠ bq := fun e => h.apart (by rw [← e]; rfl)
  obtain ⟨hl, hc⟩ := h.len
  subst hl
  obtain ⟨s1, s2⟩ := World.ownsRow.stored h.own i (iv x)
  refine ⟨⟨?_, ?_, ?_, h.apart⟩, ⟨rfl, rfl, rfl, s2.size, fun k hk h1 h2 => s2.block k hk (fun e => h2 e.symm), fun o ho => ?_, fun o => ?_, .inl rfl⟩⟩
  · rw [cell_other _ (.inl hne)]; exact h.hd
  · rw [World.frozen?_setCell]; exact h.hf
  · rw [List.length_set, List.map_set]; exact s1
  · exact cell_other _ (.inl hne)
  · rw [World.frozen?_setCell]

/-- the world of an exchange -/
theorem LsAt.swap {w w' : World} {base bq oq g n cap : Nat} {L : List Int} (h : LsAt w base bq oq (.slice (some ⟨g, 0, none⟩) n cap) L) (i j : Nat)
    (h1 : w'.heap = ((w.setCell ⟨g, i, none⟩ (iv (it L j))).setCell ⟨g, j, none⟩ (iv (it L i))).heap) (h2 : w'.os = w.os) (h3 : w'.tape = w.tape) (h4 : w'.output = w.output) :
    LsAt w' base bq oq (.slice (some ⟨g, 0, none⟩) n cap) (swp L i j) ∧ QFr bq oq (.slice (some ⟨g, 0, none⟩) n cap) (.slice (some ⟨g, 0, none⟩) n cap) w w' := by
  obtain ⟨a1, a2⟩ := h.store i (it L j)
  obtain ⟨b1, b2⟩ := a1.store j (it L i)
  have q := a2.trans b2
  have hb : ∀ k : Nat, w'.heap[k]? = ((w.setCell ⟨g, i, none⟩ (iv (it L j))).setCell ⟨g, j, none⟩ (iv (it L i))).heap[k]? := fun k => by rw [h1]
  refine ⟨⟨(World.cell?_of_block (a := ⟨bq, oq, none⟩) (hb bq)).trans b1.hd, (World.frozen?_of_block (a := ⟨bq, oq, none⟩) (hb bq)).trans b1.hf, ownsRow_of_block b1.own (fun k _ => hb k), h.apart⟩,
    ⟨h2, h3, h4, by rw [h1]; exact q.size, fun k hk x y => (hb k).trans (q.block k hk x y), fun o ho => (World.cell?_of_block (a := ⟨bq, o, none⟩) (hb bq)).trans (q.hdr o ho), fun o => (World.frozen?_of_block (a := ⟨bq, o, none⟩) (hb bq)).trans (q.hfr o), .inl rfl⟩⟩

theorem swap_ls (w : World) (base bq oq g n cap i j : Nat) (L : List Int) (h : LsAt w base bq oq (.slice (some ⟨g, 0, none⟩) n cap) L) (hi : i < n) (hj : j < n) :
    Calls Tryz.prog 121 #[.pointer (some ⟨bq, oq, none⟩), .int .i64 i, .int .i64 j] w fun e w' => e = .returned (.tuple #[]) ∧ LsAt w' base bq oq (.slice (some ⟨g, 0, none⟩) n cap) (swp L i j) ∧ QFr bq oq (.slice (some ⟨g, 0, none⟩) n cap) (.slice (some ⟨g, 0, none⟩) n cap) w w' := by
  have hl := h.len.1
  by_cases e : i = j
  · subst e
    refine Calls.mono (swap_eq w bq oq g 0 n cap i (it L i) h.hd (by simpa using h.cell i (by omega)) (by simpa using h.froz i) hi) ?_
    intro e w' ⟨r, hh, ho, ht, hout⟩
    exact ⟨r, h.swap i i (by rw [hh]; simp) ho ht hout⟩
  · refine Calls.mono (swap_ne w bq oq g 0 n cap i j (it L i) (it L j) h.hd (by simpa using h.cell i (by omega)) (by simpa using h.cell j (by omega)) (by simpa using h.froz i) (by simpa using h.froz j) hi hj e) ?_
    intro e w' ⟨r, hh, ho, ht, hout⟩
    exact ⟨r, h.swap i j (by rw [hh]; simp) ho ht hout⟩
end Go.Proofs.YtojdehkcggbdeabGreat
