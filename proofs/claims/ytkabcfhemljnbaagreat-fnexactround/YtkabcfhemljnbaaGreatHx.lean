import Derived.Test.YtkabcfhemljnbaaGreatLm
import Derived.BigRegion
import Derived.BigQuiet
import Derived.Deep.QuietTactic
import Derived.Laws.OwnMore
import Derived.WalkSmall
import Derived.Deep.AppendLies
import Derived.Maps.AppendAt
namespace Go.Proofs.YtkabcfhemljnbaaGreat
open Go.RowKit
attribute [local go_sem ↓] Go.wp_at_zero Go.wp_at_succ

set_option maxRecDepth 100000 in
set_option maxHeartbeats 1000000 in
theorem swap_ne (w : World) (bq oq g og n cap i j : Nat) (xi xj : Int) (hf : w.cell? ⟨bq, oq, none⟩ = some (.slice (some ⟨g, og, none⟩) n cap)) (ci : w.cell? ⟨g, og + i, none⟩ = some (iv xi)) (cj : w.cell? ⟨g, og + j, none⟩ = some (iv xj)) (fi : w.frozen? ⟨g, og + i, none⟩ = false) (fj : w.frozen? ⟨g, og + j, none⟩ = false) (hi : i < n) (hj : j < n) (hij : i ≠ j) :
    Calls Tryz.prog 173 #[.pointer (some ⟨bq, oq, none⟩), .int .i64 i, .int .i64 j] w fun e w' => e = .returned (.tuple #[]) ∧ w'.heap = ((w.setCell ⟨g, og + i, none⟩ (iv xj)).setCell ⟨g, og + j, none⟩ (iv xi)).heap ∧ w'.os = w.os ∧ w'.tape = w.tape ∧ w'.output = w.output := by
  have hi0 : (0 : Int) ≤ (i : Int) := by omega
  have hi1 : (i : Int) < (n : Int) := by omega
  have hj0 : (0 : Int) ≤ (j : Int) := by omega
  have hj1 : (j : Int) < (n : Int) := by omega
  go_enter Tryz.func173, Tryz.ntmps173
  go_wp2
  go_region
  all_goals go_end0
  all_goals exact ⟨rfl, rfl, rfl, rfl, rfl⟩

set_option maxRecDepth 100000 in
set_option maxHeartbeats 1000000 in
theorem swap_eq (w : World) (bq oq g og n cap i : Nat) (xi : Int) (hf : w.cell? ⟨bq, oq, none⟩ = some (.slice (some ⟨g, og, none⟩) n cap)) (ci : w.cell? ⟨g, og + i, none⟩ = some (iv xi)) (fi : w.frozen? ⟨g, og + i, none⟩ = false) (hi : i < n) :
    Calls Tryz.prog 173 #[.pointer (some ⟨bq, oq, none⟩), .int .i64 i, .int .i64 i] w fun e w' => e = .returned (.tuple #[]) ∧ w'.heap = ((w.setCell ⟨g, og + i, none⟩ (iv xi)).setCell ⟨g, og + i, none⟩ (iv xi)).heap ∧ w'.os = w.os ∧ w'.tape = w.tape ∧ w'.output = w.output := by
  have hi0 : (0 : Int) ≤ (i : Int) := by omega
  have hi1 : (i : Int) < (n : Int) := by omega
  go_enter Tryz.func173, Tryz.ntmps173
  go_wp2
  go_region
  all_goals go_end0
  all_goals exact ⟨rfl, rfl, rfl, rfl, rfl⟩

theorem first_none (w : World) (bq oq : Nat) (ad : Option Addr) (cap : Nat) (hf : w.cell? ⟨bq, oq, none⟩ = some (.slice ad 0 cap)) :
    Calls Tryz.prog 193 #[.pointer (some ⟨bq, oq, none⟩)] w fun e w' => e = .returned (.tuple #[.int .i64 0, .bool false]) ∧ w' = w := by
  go_enter Tryz.func193, Tryz.ntmps193
  go_wp2
  go_ret2
  exact ⟨rfl, rfl⟩

theorem first_some (w : World) (bq oq g og n cap : Nat) (x0 : Int) (hn : 0 < n) (hf : w.cell? ⟨bq, oq, none⟩ = some (.slice (some ⟨g, og, none⟩) n cap)) (c0 : w.cell? ⟨g, og, none⟩ = some (iv x0)) :
    Calls Tryz.prog 193 #[.pointer (some ⟨bq, oq, none⟩)] w fun e w' => e = .returned (.tuple #[.int .i64 x0, .bool true]) ∧ w' = w := by
  have h0 : ((n : Int) == 0) = false := beq_eq_false_iff_ne.2 (by omega)
  have h1 : (0 : Int) < (n : Int) := by omega
  go_enter Tryz.func193, Tryz.ntmps193
  go_wp2
  go_ret2
  exact ⟨rfl, rfl⟩
end Go.Proofs.YtkabcfhemljnbaaGreat

namespace Go.Proofs.YtkabcfhemljnbaaGreat
open Go.RowKit

/-! The heap of least items in memory: its header lies at ⟨bq, oq⟩, its items in a row of the call's own. -/
structure LsAt (w : World) (base bq oq : Nat) (v : Value) (L : List Int) : Prop where
  hd : w.cell? ⟨bq, oq, none⟩ = some v
  hf : w.frozen? ⟨bq, oq, none⟩ = false
  own : w.ownsRow base 3 1 v L.length (L.map iv)
  apart : v.ownBlock ≠ some bq

/-- what a call on it leaves as it was -/
structure QFr (bq oq : Nat) (v v' : Value) (w w' : World) : Prop where
  os : w'.os = w.os
  tape : w'.tape = w.tape
  output : w'.output = w.output
  size : w.heap.size ≤ w'.heap.size
  block : ∀ k, k < w.heap.size → k ≠ bq → v.ownBlock ≠ some k → w'.heap[k]? = w.heap[k]?
  hdr : ∀ o, o ≠ oq → w'.cell? ⟨bq, o, none⟩ = w.cell? ⟨bq, o, none⟩
  hfr : ∀ o, w'.frozen? ⟨bq, o, none⟩ = w.frozen? ⟨bq, o, none⟩
  own : v'.ownBlock = v.ownBlock ∨ ∃ g, v'.ownBlock = some g ∧ w.heap.size ≤ g

theorem QFr.refl (bq oq : Nat) (v : Value) (w : World) : QFr bq oq v v w w := ⟨rfl, rfl, rfl, Nat.le_refl _, fun _ _ _ _ => rfl, fun _ _ => rfl, fun _ => rfl, .inl rfl⟩
theorem QFr.trans {bq oq : Nat} {v v1 v2 : Value} {w w1 w2 : World} (h : QFr bq oq v v1 w w1) (k : QFr bq oq v1 v2 w1 w2) : QFr bq oq v v2 w w2 :=
  ⟨k.os.trans h.os, k.tape.trans h.tape, k.output.trans h.output, Nat.le_trans h.size k.size,
    fun i hi hne hv => (k.block i (Nat.lt_of_lt_of_le hi h.size) hne (fun e => by
      rcases h.own with h1 | ⟨g, h1, h2⟩
      · rw [h1] at e; exact hv e
      · rw [h1] at e; cases e; omega)).trans (h.block i hi hne hv),
    fun o ho => (k.hdr o ho).trans (h.hdr o ho), fun o => (k.hfr o).trans (h.hfr o), by
      rcases k.own with h1 | ⟨g, h1, h2⟩
      · rcases h.own with h3 | ⟨g, h3, h4⟩
        · exact .inl (h1.trans h3)
        · exact .inr ⟨g, h1.trans h3, h4⟩
      · exact .inr ⟨g, h1, Nat.le_trans h.size h2⟩⟩
theorem QFr.ext {a : World} {bq oq : Nat} {v v' : Value} {w w' : World} (h : QFr bq oq v v' w w') (e : Ext a w) (hb : a.heap.size ≤ bq) (hv : ∀ k, v.ownBlock = some k → a.heap.size ≤ k) : Ext a w' :=
  Below.trans e ⟨h.os, h.tape, h.output, h.size, fun k hk => h.block k (Nat.lt_of_lt_of_le hk e.size) (by omega) (fun q => by have := hv k q; omega)⟩
theorem QFr.drewN {bq oq : Nat} {v v' : Value} {w w' : World} (h : QFr bq oq v v' w w') (n : Nat) : QFr bq oq v v' w (w'.drewN n) := ⟨h.os, h.tape, h.output, h.size, h.block, h.hdr, h.hfr, h.own⟩
theorem QFr.bare {bq oq : Nat} {v : Value} {w w' : World} (h : Ext w w') (hb : bq < w.heap.size) : QFr bq oq v v w w' :=
  ⟨h.os, h.tape, h.output, h.size, fun k hk _ _ => h.block k hk, fun o _ => h.cell (p := ⟨bq, o, none⟩) hb, fun o => h.frozen (p := ⟨bq, o, none⟩) hb, .inl rfl⟩
theorem QFr.cells {bq oq : Nat} {v v' : Value} {w w' : World} (h : QFr bq oq v v' w w') {b o : Nat} {u : Value} (hc : w.cell? ⟨b, o, none⟩ = some u) (hb : b ≠ bq) (hv : v.ownBlock ≠ some b) : w'.cell? ⟨b, o, none⟩ = some u :=
  (World.cell?_of_block (w := w) (w' := w') (a := ⟨b, o, none⟩) (h.block b (cell_lt hc) hb hv)).trans hc
theorem LsAt.hlt {w : World} {base bq oq : Nat} {v : Value} {L : List Int} (h : LsAt w base bq oq v L) : bq < w.heap.size := cell_lt h.hd
theorem LsAt.rlt {w : World} {base bq oq : Nat} {v : Value} {L : List Int} (h : LsAt w base bq oq v L) : ∀ k, v.ownBlock = some k → base ≤ k ∧ k < w.heap.size := h.own.lt

theorem LsAt.ext {w w' : World} {base bq oq : Nat} {v : Value} {L : List Int} (h : LsAt w base bq oq v L) (e : Ext w w') : LsAt w' base bq oq v L :=
  ⟨e.keep h.hd, by rw [e.frozen (p := ⟨bq, oq, none⟩) h.hlt]; exact h.hf, ownsRow_of_block h.own (fun k hk => e.block k (h.rlt k hk).2), h.apart⟩
/-- another heap stays -/
theorem LsAt.other {w w' : World} {base bq oq b2 o2 : Nat} {v v' v2 : Value} {L : List Int} (h : LsAt w base b2 o2 v2 L) (q : QFr bq oq v v' w w') (hb : b2 ≠ bq) (h1 : v.ownBlock ≠ some b2) (h2 : v2.ownBlock ≠ some bq) (h3 : ∀ k, v2.ownBlock = some k → v.ownBlock ≠ some k) : LsAt w' base b2 o2 v2 L := by
  have hbl : w'.heap[b2]? = w.heap[b2]? := q.block b2 h.hlt hb h1
  refine ⟨(World.cell?_of_block (w := w) (w' := w') (a := ⟨b2, o2, none⟩) hbl).trans h.hd, (World.frozen?_of_block (w := w) (w' := w') (a := ⟨b2, o2, none⟩) hbl).trans h.hf, ownsRow_of_block h.own (fun k hk => q.block k (h.rlt k hk).2 (fun e => h2 (e ▸ hk)) (h3 k hk)), h.apart⟩

theorem LsAt.nil {w : World} {base bq oq : Nat} (hd : w.cell? ⟨bq, oq, none⟩ = some (.slice none 0 0)) (hf : w.frozen? ⟨bq, oq, none⟩ = false) : LsAt w base bq oq (.slice none 0 0) [] :=
  ⟨hd, hf, World.ownsRow_nil _ _ _ _, by simp [Value.ownBlock]⟩
theorem LsAt.form {w : World} {base bq oq : Nat} {v : Value} {L : List Int} (h : LsAt w base bq oq v L) (hn : 0 < L.length) : ∃ g cap, v = .slice (some ⟨g, 0, none⟩) L.length cap ∧ g ≠ bq := by
  obtain ⟨g, cap, rfl, _, _⟩ := h.own.form hn
  exact ⟨g, cap, rfl, fun e => h.apart (by rw [← e]; rfl)⟩
theorem LsAt.empty {w : World} {base bq oq : Nat} {v : Value} {L : List Int} (h : LsAt w base bq oq v L) (hn : L.length = 0) : ∃ ad cap, v = .slice ad 0 cap := by
  rcases h.own.2 with ⟨h1, _⟩ | ⟨g, cap, cur, h1, _⟩
  · exact ⟨none, 0, h1⟩
  · rw [hn] at h1; exact ⟨_, _, h1⟩
theorem LsAt.cell {w : World} {base bq oq g n cap : Nat} {L : List Int} (h : LsAt w base bq oq (.slice (some ⟨g, 0, none⟩) n cap) L) (i : Nat) (hi : i < L.length) : w.cell? ⟨g, i, none⟩ = some (iv (it L i)) := by
  obtain ⟨h1, h2⟩ := h.own
  rcases h2 with ⟨h0, _⟩ | ⟨g', cap', cur, h0, hb, hg, hr⟩
  · cases h0
  · cases h0
    have := World.ownsRow.cellAt (w := w) (base := base) (e := 3) (size := 1) (g := g) (n := L.length) (cap := cap) (xs := L.map iv) h.own i (by omega)
    rw [this]; simp [it, hi]
theorem LsAt.froz {w : World} {base bq oq g n cap : Nat} {L : List Int} (h : LsAt w base bq oq (.slice (some ⟨g, 0, none⟩) n cap) L) (i : Nat) : w.frozen? ⟨g, i, none⟩ = false := by
  obtain ⟨h1, h2⟩ := h.own
  rcases h2 with ⟨h0, _⟩ | ⟨g', cap', cur, h0, hb, hg, hr⟩
  · cases h0
  · cases h0
    exact World.ownsRow.frozenAt (w := w) (base := base) (e := 3) (size := 1) (g := g) (n := L.length) (cap := cap) (xs := L.map iv) h.own i
theorem LsAt.len {w : World} {base bq oq g n cap : Nat} {L : List Int} (h : LsAt w base bq oq (.slice (some ⟨g, 0, none⟩) n cap) L) : n = L.length ∧ n ≤ cap := by
  rcases h.own.2 with ⟨h0, _⟩ | ⟨g', cap', cur, h0, hb, hg, hr, _⟩
  · cases h0
  · cases h0; exact ⟨rfl, hr⟩

/-- an item stored -/
theorem LsAt.store {w : World} {base bq oq g n cap : Nat} {L : List Int} (h : LsAt w base bq oq (.slice (some ⟨g, 0, none⟩) n cap) L) (i : Nat) (x : Int) :
    LsAt (w.setCell ⟨g, i, none⟩ (iv x)) base bq oq (.slice (some ⟨g, 0, none⟩) n cap) (L.set i x) ∧ QFr bq oq (.slice (some ⟨g, 0, none⟩) n cap) (.slice (some ⟨g, 0, none⟩) n cap) w (w.setCell ⟨g, i, none⟩ (iv x)) := by
  have hne : g ≠ bq := fun e => h.apart (by rw [← e]; rfl)
  obtain ⟨hl, hc⟩ := h.len
  subst hl
  obtain ⟨s1, s2⟩ := World.ownsRow.stored h.own i (iv x)
  refine ⟨⟨?_, ?_, ?_, h.apart⟩, ⟨rfl, rfl, rfl, s2.size, fun k hk h1 h2 => s2.block k hk (fun e => h2 e.symm), fun o ho => ?_, fun o => ?_, .inl rfl⟩⟩
  · rw [cell_other _ (.inl hne)]; exact h.hd
  · rw [World.frozen?_setCell]; exact h.hf
  · rw [List.length_set, List.map_set]; exact s1
  · exact cell_other _ (.inl hne)
  · rw [World.frozen?_setCell]

/-- the world of an exchange -/
theorem LsAt.swap {w w' : World} {base bq oq g n cap : Nat} {L : List Int} (h : LsAt w base bq oq (.slice (some ⟨g, 0, none⟩) n cap) L) (i j : Nat)
    (h1 : w'.heap = ((w.setCell ⟨g, i, none⟩ (iv (it L j))).setCell ⟨g, j, none⟩ (iv (it L i))).heap) (h2 : w'.os = w.os) (h3 : w'.tape = w.tape) (h4 : w'.output = w.output) :
    LsAt w' base bq oq (.slice (some ⟨g, 0, none⟩) n cap) (swp L i j) ∧ QFr bq oq (.slice (some ⟨g, 0, none⟩) n cap) (.slice (some ⟨g, 0, none⟩) n cap) w w' := by
  obtain ⟨a1, a2⟩ := h.store i (it L j)
  obtain ⟨b1, b2⟩ := a1.store j (it L i)
  have q := a2.trans b2
  have hb : ∀ k : Nat, w'.heap[k]? = ((w.setCell ⟨g, i, none⟩ (iv (it L j))).setCell ⟨g, j, none⟩ (iv (it L i))).heap[k]? := fun k => by rw [h1]
  refine ⟨⟨(World.cell?_of_block (a := ⟨bq, oq, none⟩) (hb bq)).trans b1.hd, (World.frozen?_of_block (a := ⟨bq, oq, none⟩) (hb bq)).trans b1.hf, ownsRow_of_block b1.own (fun k _ => hb k), h.apart⟩,
    ⟨h2, h3, h4, by rw [h1]; exact q.size, fun k hk x y => (hb k).trans (q.block k hk x y), fun o ho => (World.cell?_of_block (a := ⟨bq, o, none⟩) (hb bq)).trans (q.hdr o ho), fun o => (World.frozen?_of_block (a := ⟨bq, o, none⟩) (hb bq)).trans (q.hfr o), .inl rfl⟩⟩

theorem swap_ls (w : World) (base bq oq g n cap i j : Nat) (L : List Int) (h : LsAt w base bq oq (.slice (some ⟨g, 0, none⟩) n cap) L) (hi : i < n) (hj : j < n) :
    Calls Tryz.prog 173 #[.pointer (some ⟨bq, oq, none⟩), .int .i64 i, .int .i64 j] w fun e w' => e = .returned (.tuple #[]) ∧ LsAt w' base bq oq (.slice (some ⟨g, 0, none⟩) n cap) (swp L i j) ∧ QFr bq oq (.slice (some ⟨g, 0, none⟩) n cap) (.slice (some ⟨g, 0, none⟩) n cap) w w' := by
  have hl := h.len.1
  by_cases e : i = j
  · subst e
    refine Calls.mono (swap_eq w bq oq g 0 n cap i (it L i) h.hd (by simpa using h.cell i (by omega)) (by simpa using h.froz i) hi) ?_
    intro e w' ⟨r, hh, ho, ht, hout⟩
    exact ⟨r, h.swap i i (by rw [hh]; simp) ho ht hout⟩
  · refine Calls.mono (swap_ne w bq oq g 0 n cap i j (it L i) (it L j) h.hd (by simpa using h.cell i (by omega)) (by simpa using h.cell j (by omega)) (by simpa using h.froz i) (by simpa using h.froz j) hi hj e) ?_
    intro e w' ⟨r, hh, ho, ht, hout⟩
    exact ⟨r, h.swap i j (by rw [hh]; simp) ho ht hout⟩
end Go.Proofs.YtkabcfhemljnbaaGreat

namespace Go.Proofs.YtkabcfhemljnbaaGreat
open Go.RowKit

/-! Rows of memory that a call owns, flat. -/
def fW (y : Wd) : List Value := [iv y.k, iv y.n, iv y.a]
def fP (p : Pr) : List Value := [iv p.key.k, iv p.key.n, iv p.key.a, iv p.val.k, iv p.val.n, iv p.val.a]
def fC (z : Cl × Value) : List Value := [iv z.1.st, iv z.1.kind, iv z.1.weak, iv z.1.last, iv z.1.born, iv z.1.color, iv z.1.to, z.2]
theorem ownW {w : World} {base : Nat} {v : Value} {L : List Wd} (h : w.ownsRow base 90 3 v L.length (L.flatMap fW)) (hl : L.length ≤ 1048576) : SlW w v L := by
  obtain ⟨ad, cap, e, _, hx⟩ := own_cells (f := fW) (fun _ => rfl) h
  refine ⟨ad, cap, e, by omega, fun i hi => ?_⟩
  obtain ⟨g, ea, _, _, hc⟩ := hx i hi
  exact ⟨g, 0, ea, by have := hc 0 (by omega); simpa [fW] using this, by have := hc 1 (by omega); simpa [fW] using this, by have := hc 2 (by omega); simpa [fW] using this⟩
theorem ownP {w : World} {base : Nat} {v : Value} {L : List Pr} (h : w.ownsRow base 123 6 v L.length (L.flatMap fP)) (hl : L.length ≤ 1048576) : SlP w v L := by
  obtain ⟨ad, cap, e, _, hx⟩ := own_cells (f := fP) (fun _ => rfl) h
  refine ⟨ad, cap, e, by omega, fun i hi => ?_⟩
  obtain ⟨g, ea, _, _, hc⟩ := hx i hi
  exact ⟨g, 0, ea, by have := hc 0 (by omega); simpa [fP] using this, by have := hc 1 (by omega); simpa [fP] using this, by have := hc 2 (by omega); simpa [fP] using this, by have := hc 3 (by omega); simpa [fP] using this, by have := hc 4 (by omega); simpa [fP] using this, by have := hc 5 (by omega); simpa [fP] using this⟩
/-- the seven numbers of a cell -/
def S7 (w : World) (b o : Nat) (c : Cl) : Prop :=
  w.cell? ⟨b, o, none⟩ = some (iv c.st) ∧ w.cell? ⟨b, o + 1, none⟩ = some (iv c.kind) ∧ w.cell? ⟨b, o + 2, none⟩ = some (iv c.weak) ∧ w.cell? ⟨b, o + 3, none⟩ = some (iv c.last) ∧ w.cell? ⟨b, o + 4, none⟩ = some (iv c.born) ∧ w.cell? ⟨b, o + 5, none⟩ = some (iv c.color) ∧ w.cell? ⟨b, o + 6, none⟩ = some (iv c.to)
theorem S7.of {w w' : World} {b o : Nat} {c : Cl} (h : S7 w b o c) (e : ∀ j, j < 7 → w'.cell? ⟨b, o + j, none⟩ = w.cell? ⟨b, o + j, none⟩) : S7 w' b o c := by
  obtain ⟨a0, a1, a2, a3, a4, a5, a6⟩ := h
  exact ⟨(e 0 (by omega)).trans a0, (e 1 (by omega)).trans a1, (e 2 (by omega)).trans a2, (e 3 (by omega)).trans a3, (e 4 (by omega)).trans a4, (e 5 (by omega)).trans a5, (e 6 (by omega)).trans a6⟩
theorem PrAt.of {w w' : World} {b o : Nat} {p : Pr} (h : PrAt w b o p) (e : ∀ j, j < 6 → w'.cell? ⟨b, o + j, none⟩ = w.cell? ⟨b, o + j, none⟩) : PrAt w' b o p := by
  obtain ⟨a0, a1, a2, a3, a4, a5⟩ := h
  exact ⟨(e 0 (by omega)).trans a0, (e 1 (by omega)).trans a1, (e 2 (by omega)).trans a2, (e 3 (by omega)).trans a3, (e 4 (by omega)).trans a4, (e 5 (by omega)).trans a5⟩
theorem WdAt.of {w w' : World} {b o : Nat} {y : Wd} (h : WdAt w b o y) (e : ∀ j, j < 3 → w'.cell? ⟨b, o + j, none⟩ = w.cell? ⟨b, o + j, none⟩) : WdAt w' b o y := by
  obtain ⟨a0, a1, a2⟩ := h
  exact ⟨(e 0 (by omega)).trans a0, (e 1 (by omega)).trans a1, (e 2 (by omega)).trans a2⟩

/-- the rows of a heap in memory of its own: registers in block br, cells in block bc, pairs of cell q in block pb q; all from B on -/
structure Rws (B : Nat) (w : World) (x : Hp) (br bc : Nat) (pb : Nat → Nat) (pa : Nat → Option Addr) (pk : Nat → Nat) : Prop where
  r : ∀ i (hi : i < x.regs.length), WdAt w br (i * 3) x.regs[i]
  s : ∀ q, q < x.cells.length → S7 w bc (q * 8) (x.c q)
  p7 : ∀ q, q < x.cells.length → w.cell? ⟨bc, q * 8 + 7, none⟩ = some (.slice (pa q) (x.c q).prs.length (pk q))
  p : ∀ q, q < x.cells.length → ∀ k, k < (x.c q).prs.length → PrAt w (pb q) (k * 6) ((x.c q).p k)
  pl : ∀ q, q < x.cells.length → 0 < (x.c q).prs.length → pa q = some ⟨pb q, 0, none⟩ ∧ Nf1 (pb q) w ∧ (pb q ≠ br ∧ pb q ≠ bc) ∧ B ≤ pb q
  nr : 0 < x.regs.length → Nf1 br w ∧ B ≤ br
  nc : 0 < x.cells.length → Nf1 bc w ∧ B ≤ bc
  d : 0 < x.cells.length → br ≠ bc
  dp : ∀ q q', q < x.cells.length → q' < x.cells.length → q ≠ q' → 0 < (x.c q).prs.length → 0 < (x.c q').prs.length → pb q ≠ pb q'
theorem nf1_block {w w' : World} {b : Nat} (h : Nf1 b w) (hb : w'.heap[b]? = w.heap[b]?) (hs : w.heap.size ≤ w'.heap.size) : Nf1 b w' :=
  ⟨Nat.lt_of_lt_of_le h.1 hs, fun j => (World.frozen?_of_block (a := ⟨b, j, none⟩) hb).trans (h.2 j)⟩
/-- blocks that are as they were -/
theorem Rws.same {B : Nat} {w w' : World} {x : Hp} {br bc : Nat} {pb : Nat → Nat} {pa : Nat → Option Addr} {pk : Nat → Nat} (h : Rws B w x br bc pb pa pk) (hs : w.heap.size ≤ w'.heap.size)
    (hr : 0 < x.regs.length → w'.heap[br]? = w.heap[br]?) (hc : 0 < x.cells.length → w'.heap[bc]? = w.heap[bc]?) (hp : ∀ q, q < x.cells.length → 0 < (x.c q).prs.length → w'.heap[pb q]? = w.heap[pb q]?) : Rws B w' x br bc pb pa pk where
  r := fun i hi => (h.r i hi).of fun j _ => World.cell?_of_block (a := ⟨br, _, none⟩) (hr (by omega))
  s := fun q hq => (h.s q hq).of fun j _ => World.cell?_of_block (a := ⟨bc, _, none⟩) (hc (by omega))
  p7 := fun q hq => (World.cell?_of_block (a := ⟨bc, _, none⟩) (hc (by omega))).trans (h.p7 q hq)
  p := fun q hq k hk => (h.p q hq k hk).of fun j _ => World.cell?_of_block (a := ⟨pb q, _, none⟩) (hp q hq (by omega))
  pl := fun q hq hl => let ⟨a, b, c⟩ := h.pl q hq hl; ⟨a, nf1_block b (hp q hq hl) hs, c⟩
  nr := fun hl => ⟨nf1_block (h.nr hl).1 (hr hl) hs, (h.nr hl).2⟩
  nc := fun hl => ⟨nf1_block (h.nc hl).1 (hc hl) hs, (h.nc hl).2⟩
  d := h.d
  dp := h.dp
theorem Rws.ext {B : Nat} {w w' : World} {x : Hp} {br bc : Nat} {pb : Nat → Nat} {pa : Nat → Option Addr} {pk : Nat → Nat} (h : Rws B w x br bc pb pa pk) (e : Ext w w') : Rws B w' x br bc pb pa pk :=
  h.same e.size (fun hl => e.block _ (h.nr hl).1.1) (fun hl => e.block _ (h.nc hl).1.1) (fun q hq hl => e.block _ (h.pl q hq hl).2.1.1)
theorem Rws.only {S : Nat → Prop} {B : Nat} {w w' : World} {x : Hp} {br bc : Nat} {pb : Nat → Nat} {pa : Nat → Option Addr} {pk : Nat → Nat} (h : Rws B w x br bc pb pa pk) (e : Only S w w') (hr : 0 < x.regs.length → ¬ S br) (hc : 0 < x.cells.length → ¬ S bc) (hp : ∀ q, q < x.cells.length → 0 < (x.c q).prs.length → ¬ S (pb q)) : Rws B w' x br bc pb pa pk :=
  h.same e.size (fun hl => e.block _ (h.nr hl).1.1 (hr hl)) (fun hl => e.block _ (h.nc hl).1.1 (hc hl)) (fun q hq hl => e.block _ (h.pl q hq hl).2.1.1 (hp q hq hl))
theorem Rws.less {B C : Nat} {w : World} {x : Hp} {br bc : Nat} {pb : Nat → Nat} {pa : Nat → Option Addr} {pk : Nat → Nat} (h : Rws B w x br bc pb pa pk) (hc : C ≤ B) : Rws C w x br bc pb pa pk :=
  ⟨h.r, h.s, h.p7, h.p, fun q hq hl => let ⟨a, b, c, d⟩ := h.pl q hq hl; ⟨a, b, c, Nat.le_trans hc d⟩, fun hl => ⟨(h.nr hl).1, Nat.le_trans hc (h.nr hl).2⟩, fun hl => ⟨(h.nc hl).1, Nat.le_trans hc (h.nc hl).2⟩, h.d, h.dp⟩
theorem Rws.slW {B : Nat} {w : World} {x : Hp} {br bc : Nat} {pb : Nat → Nat} {pa : Nat → Option Addr} {pk : Nat → Nat} (h : Rws B w x br bc pb pa pk) {ad : Option Addr} (kr : Nat) (ha : 0 < x.regs.length → ad = some ⟨br, 0, none⟩) (hl : x.regs.length ≤ 1048576) : SlW w (.slice ad x.regs.length kr) x.regs :=
  ⟨_, _, rfl, by omega, fun i hi => ⟨br, 0, ha (by omega), by rw [Nat.zero_add]; exact h.r i hi⟩⟩
theorem Rws.slC {B : Nat} {w : World} {x : Hp} {br bc : Nat} {pb : Nat → Nat} {pa : Nat → Option Addr} {pk : Nat → Nat} (h : Rws B w x br bc pb pa pk) {ad : Option Addr} (kc : Nat) (ha : 0 < x.cells.length → ad = some ⟨bc, 0, none⟩) (hl : x.cells.length ≤ 1048576) (h2 : ∀ q, q < x.cells.length → (x.c q).prs.length ≤ 200) : SlC w (.slice ad x.cells.length kc) x.cells := by
  refine ⟨_, _, rfl, by omega, fun i hi => ⟨bc, 0, ha (by omega), ?_⟩⟩
  rw [Nat.zero_add, Hp.c_eq x i hi]
  obtain ⟨a0, a1, a2, a3, a4, a5, a6⟩ := h.s i hi
  refine ⟨_, a0, a1, a2, a3, a4, a5, a6, h.p7 i hi, _, _, rfl, by have := h2 i hi; omega, fun k hk => ⟨pb i, 0, (h.pl i hi (by omega)).1, ?_⟩⟩
  rw [Nat.zero_add, Cl.p_eq _ _ hk]
  exact h.p i hi k hk
end Go.Proofs.YtkabcfhemljnbaaGreat

namespace Go.Proofs.YtkabcfhemljnbaaGreat
open Go.RowKit
attribute [local go_sem ↓] Go.wp_at_zero Go.wp_at_succ

/-! slices.Clone at words and pairs. -/
set_option maxRecDepth 100000 in
set_option maxHeartbeats 1000000 in
theorem cloneW_any (xs : List Wd) (v : Value) (w : World) (h : SlW w v xs) (hn : xs.length ≤ 1048576) :
    Calls Tryz.prog 161 #[v] w fun e w' => ∃ v', e = .returned v' ∧ w'.ownsRow w.heap.size 90 3 v' xs.length (xs.flatMap fW) ∧ Ext w w' := by
  obtain ⟨i0, hi0, hz0, hz1, hz2⟩ := info_parts infoWords
  obtain ⟨ad, cap, rfl, _, hx⟩ := h
  have HX := hide hx
  clear hx
  cases ad with
  | none =>
    have hl : xs.length = 0 := by
      rcases Nat.eq_zero_or_pos xs.length with h | h
      · exact h
      · obtain ⟨b, o, e, _⟩ := unhide HX 0 h; cases e
    have hx0 : xs = [] := List.eq_nil_of_length_eq_zero hl
    subst hx0
    clear HX hl
    have hq : ∀ W, (binOp .eql 30 (.slice none 0 cap) (.slice none 0 0)).run Tryz.prog W = .ok (.bool true) W := fun _ => by kernel_rfl
    simp only [List.length_nil]
    go_enter Tryz.func161, Tryz.ntmps161
    go_wp2_with fail
    go_ret
    exact ⟨_, rfl, World.ownsRow_nil _ _ _ _, Ext.refl _⟩
  | some ad =>
    have NW := hide (show ∀ W, Ext w W → ∀ j u, (xs.flatMap fW)[j]? = some u → W.cell? (ad.add j) = some u from fun W e j u hu => by
      rcases Nat.eq_zero_or_pos xs.length with h | h
      · rw [List.eq_nil_of_length_eq_zero h] at hu; simp at hu
      · obtain ⟨b, o, e0, _⟩ := unhide HX 0 h
        cases e0
        refine flat_news fW 3 (by omega) (fun _ => rfl) xs b o (fun i hi j hj => ?_) j u hu
        obtain ⟨b2, o2, e2, q⟩ := unhide HX i hi
        cases e2
        have q := q.ext e
        obtain ⟨q0, q1, q2⟩ := q
        match j, hj with
        | 0, _ => exact q0
        | 1, _ => exact q1
        | 2, _ => exact q2
      )
    have V1 := hide (show ∀ u, u ∈ xs.flatMap fW → u.oneCell' = true from flat_one fW (fun a u hu => by simp [fW] at hu; rcases hu with e | e | e <;> subst e <;> rfl) xs)
    have hq : ∀ W n k, (binOp .eql 30 (.slice (some ad) n k) (.slice none 0 0)).run Tryz.prog W = .ok (.bool false) W := fun _ _ _ => by kernel_rfl
    go_enter Tryz.func161, Tryz.ntmps161
    go_wp2_with (at_builtin; refine wpList_append_own_at _ rfl _ _ 30 rfl w.heap.size 90 i0 (.agg #[iv 0, iv 0, iv 0]) 3 24 Tryz.underlying30 hi0 hz0 hz1 hz2 rfl (by decide) _ 0 [] rfl (World.ownsRow_made w #[] 0 (Nat.le_refl _) (by unfold maxLen; omega) rfl) ad xs.length cap (xs.flatMap fW) rfl (flat_len fW 3 (fun _ => rfl) xs) (unhide NW _ ((Ext.refl w).alloc _)) (unhide V1) (by unfold maxLen; omega) (by omega) (by simp) ?_)
    intro v' w' hown hgrow _ _
    have FIN := hide (And.intro hown (grown_ext ((Ext.refl w).alloc _) (World.ownsRow_made (e := 90) (size := 3) w #[] 0 (Nat.le_refl _) (by unfold maxLen; omega) rfl) (Nat.le_refl _) hgrow))
    clear hown hgrow
    go_wp2_with fail
    go_ret
    exact ⟨_, rfl, (unhide FIN).1, (unhide FIN).2⟩
set_option maxRecDepth 100000 in
set_option maxHeartbeats 1000000 in
theorem cloneP_any (xs : List Pr) (v : Value) (w : World) (h : SlP w v xs) (hn : xs.length ≤ 1048576) :
    Calls Tryz.prog 163 #[v] w fun e w' => ∃ v', e = .returned v' ∧ w'.ownsRow w.heap.size 123 6 v' xs.length (xs.flatMap fP) ∧ Ext w w' := by
  obtain ⟨i0, hi0, hz0, hz1, hz2⟩ := info_parts infoPairs
  obtain ⟨ad, cap, rfl, _, hx⟩ := h
  have HX := hide hx
  clear hx
  cases ad with
  | none =>
    have hl : xs.length = 0 := by
      rcases Nat.eq_zero_or_pos xs.length with h | h
      · exact h
      · obtain ⟨b, o, e, _⟩ := unhide HX 0 h; cases e
    have hx0 : xs = [] := List.eq_nil_of_length_eq_zero hl
    subst hx0
    clear HX hl
    have hq : ∀ W, (binOp .eql 84 (.slice none 0 cap) (.slice none 0 0)).run Tryz.prog W = .ok (.bool true) W := fun _ => by kernel_rfl
    simp only [List.length_nil]
    go_enter Tryz.func163, Tryz.ntmps163
    go_wp2_with fail
    go_ret
    exact ⟨_, rfl, World.ownsRow_nil _ _ _ _, Ext.refl _⟩
  | some ad =>
    have NW := hide (show ∀ W, Ext w W → ∀ j u, (xs.flatMap fP)[j]? = some u → W.cell? (ad.add j) = some u from fun W e j u hu => by
      rcases Nat.eq_zero_or_pos xs.length with h | h
      · rw [List.eq_nil_of_length_eq_zero h] at hu; simp at hu
      · obtain ⟨b, o, e0, _⟩ := unhide HX 0 h
        cases e0
        refine flat_news fP 6 (by omega) (fun _ => rfl) xs b o (fun i hi j hj => ?_) j u hu
        obtain ⟨b2, o2, e2, q⟩ := unhide HX i hi
        cases e2
        have q := q.ext e
        obtain ⟨q0, q1, q2, q3, q4, q5⟩ := q
        match j, hj with
        | 0, _ => exact q0
        | 1, _ => exact q1
        | 2, _ => exact q2
        | 3, _ => exact q3
        | 4, _ => exact q4
        | 5, _ => exact q5
      )
    have V1 := hide (show ∀ u, u ∈ xs.flatMap fP → u.oneCell' = true from flat_one fP (fun a u hu => by simp [fP] at hu; rcases hu with e | e | e | e | e | e <;> subst e <;> rfl) xs)
    have hq : ∀ W n k, (binOp .eql 84 (.slice (some ad) n k) (.slice none 0 0)).run Tryz.prog W = .ok (.bool false) W := fun _ _ _ => by kernel_rfl
    go_enter Tryz.func163, Tryz.ntmps163
    go_wp2_with (at_builtin; refine wpList_append_own_at _ rfl _ _ 84 rfl w.heap.size 123 i0 (.agg #[iv 0, iv 0, iv 0, iv 0, iv 0, iv 0]) 6 48 Tryz.underlying84 hi0 hz0 hz1 hz2 rfl (by decide) _ 0 [] rfl (World.ownsRow_made w #[] 0 (Nat.le_refl _) (by unfold maxLen; omega) rfl) ad xs.length cap (xs.flatMap fP) rfl (flat_len fP 6 (fun _ => rfl) xs) (unhide NW _ ((Ext.refl w).alloc _)) (unhide V1) (by unfold maxLen; omega) (by omega) (by simp) ?_)
    intro v' w' hown hgrow _ _
    have FIN := hide (And.intro hown (grown_ext ((Ext.refl w).alloc _) (World.ownsRow_made (e := 123) (size := 6) w #[] 0 (Nat.le_refl _) (by unfold maxLen; omega) rfl) (Nat.le_refl _) hgrow))
    clear hown hgrow
    go_wp2_with fail
    go_ret
    exact ⟨_, rfl, (unhide FIN).1, (unhide FIN).2⟩

/-- a cell with its slice of pairs as a value -/
def CvAt (w : World) (b o : Nat) (z : Cl × Value) : Prop := ∀ j, j < 8 → w.cell? ⟨b, o + j, none⟩ = (fC z)[j]?
theorem slC_pick {w : World} {v : Value} {xs : List Cl} (h : SlC w v xs) : ∃ L : List (Cl × Value), L.map (·.1) = xs ∧ SlOf (CvAt w) 8 v L ∧ ∀ z, z ∈ L → SlP w z.2 z.1.prs := by
  obtain ⟨ad, cap, rfl, hl, hx⟩ := h
  have hv : ∀ i, ∃ vp, ∀ (hi : i < xs.length), ∃ b o, ad = some ⟨b, o, none⟩ ∧ CvAt w b (o + i * 8) (xs[i], vp) ∧ SlP w vp xs[i].prs := fun i => by
    by_cases hi : i < xs.length
    · obtain ⟨b, o, e, vp, p0, p1, p2, p3, p4, p5, p6, p7, hP⟩ := hx i hi
      refine ⟨vp, fun _ => ⟨b, o, e, fun j hj => ?_, hP⟩⟩
      match j, hj with
      | 0, _ => exact p0
      | 1, _ => exact p1
      | 2, _ => exact p2
      | 3, _ => exact p3
      | 4, _ => exact p4
      | 5, _ => exact p5
      | 6, _ => exact p6
      | 7, _ => exact p7
    · exact ⟨.slice none 0 0, fun h => absurd h hi⟩
  have hm := fun i => Classical.choose_spec (hv i)
  refine ⟨(List.range xs.length).map (fun i => (xs.getD i Cl0, Classical.choose (hv i))), ?_, ⟨ad, cap, by simp, by simpa using hl, fun i hi => ?_⟩, fun z hz => ?_⟩
  · refine List.ext_getElem (by simp) (fun i h1 h2 => ?_)
    simp [h2]
  · have hi' : i < xs.length := by simpa using hi
    obtain ⟨b, o, e, c, _⟩ := hm i hi'
    refine ⟨b, o, e, ?_⟩
    simp only [List.getElem_map, List.getElem_range]
    have e2 : xs.getD i Cl0 = xs[i] := by simp [hi']
    rw [e2]; exact c
  · obtain ⟨i, hi, rfl⟩ := List.mem_map.1 hz
    have hi' : i < xs.length := by simpa using hi
    obtain ⟨b, o, e, _, c⟩ := hm i hi'
    have e2 : xs.getD i Cl0 = xs[i] := by simp [hi']
    simp only [e2]
    exact c
theorem slP_one {w : World} {v : Value} {xs : List Pr} (h : SlP w v xs) : v.oneCell' = true := by obtain ⟨ad, cap, rfl, _⟩ := h; rfl

set_option maxRecDepth 100000 in
set_option maxHeartbeats 1000000 in
theorem cloneC_any (L : List (Cl × Value)) (v : Value) (w : World) (h : SlOf (CvAt w) 8 v L) (h1 : ∀ z, z ∈ L → z.2.oneCell' = true) (hn : L.length ≤ 1048576) :
    Calls Tryz.prog 162 #[v] w fun e w' => ∃ v', e = .returned v' ∧ w'.ownsRow w.heap.size 86 8 v' L.length (L.flatMap fC) ∧ Ext w w' := by
  obtain ⟨i0, hi0, hz0, hz1, hz2⟩ := info_parts infoCells
  obtain ⟨ad, cap, rfl, _, hx⟩ := h
  have HX := hide hx
  have V1 := hide (show ∀ u, u ∈ L.flatMap fC → u.oneCell' = true from fun u hu => by
    obtain ⟨a, h2, hu⟩ := List.mem_flatMap.1 hu
    simp [fC] at hu; rcases hu with e | e | e | e | e | e | e | e <;> subst e <;> first | rfl | exact h1 a h2)
  clear hx h1
  cases ad with
  | none =>
    have hl : L.length = 0 := by
      rcases Nat.eq_zero_or_pos L.length with h | h
      · exact h
      · obtain ⟨b, o, e, _⟩ := unhide HX 0 h; cases e
    have hx0 : L = [] := List.eq_nil_of_length_eq_zero hl
    subst hx0
    clear HX hl V1
    have hq : ∀ W, (binOp .eql 31 (.slice none 0 cap) (.slice none 0 0)).run Tryz.prog W = .ok (.bool true) W := fun _ => by kernel_rfl
    simp only [List.length_nil]
    go_enter Tryz.func162, Tryz.ntmps162
    go_wp2_with fail
    go_ret
    exact ⟨_, rfl, World.ownsRow_nil _ _ _ _, Ext.refl _⟩
  | some ad =>
    have NW := hide (show ∀ W, Ext w W → ∀ j u, (L.flatMap fC)[j]? = some u → W.cell? (ad.add j) = some u from fun W e j u hu => by
      rcases Nat.eq_zero_or_pos L.length with h | h
      · rw [List.eq_nil_of_length_eq_zero h] at hu; simp at hu
      · obtain ⟨b, o, e0, _⟩ := unhide HX 0 h
        cases e0
        refine flat_news fC 8 (by omega) (fun _ => rfl) L b o (fun i hi j hj => ?_) j u hu
        obtain ⟨b2, o2, e2, q⟩ := unhide HX i hi
        cases e2
        have := q j hj
        rw [← this]
        cases hc : w.cell? ⟨b, o + i * 8 + j, none⟩ with
        | none => rw [this] at hc; match j, hj with | 0, _ | 1, _ | 2, _ | 3, _ | 4, _ | 5, _ | 6, _ | 7, _ => simp [fC] at hc
        | some y => exact e.keep hc)
    have hq : ∀ W n k, (binOp .eql 31 (.slice (some ad) n k) (.slice none 0 0)).run Tryz.prog W = .ok (.bool false) W := fun _ _ _ => by kernel_rfl
    go_enter Tryz.func162, Tryz.ntmps162
    go_wp2_with (at_builtin; refine wpList_append_own_at _ rfl _ _ 31 rfl w.heap.size 86 i0 (.agg #[iv 0, iv 0, iv 0, iv 0, iv 0, iv 0, iv 0, .slice none 0 0]) 8 80 Tryz.underlying31 hi0 hz0 hz1 hz2 rfl (by decide) _ 0 [] rfl (World.ownsRow_made w #[] 0 (Nat.le_refl _) (by unfold maxLen; omega) rfl) ad L.length cap (L.flatMap fC) rfl (flat_len fC 8 (fun _ => rfl) L) (unhide NW _ ((Ext.refl w).alloc _)) (unhide V1) (by unfold maxLen; omega) (by omega) (by simp) ?_)
    intro v' w' hown hgrow _ _
    have FIN := hide (And.intro hown (grown_ext ((Ext.refl w).alloc _) (World.ownsRow_made (e := 86) (size := 8) w #[] 0 (Nat.le_refl _) (by unfold maxLen; omega) rfl) (Nat.le_refl _) hgrow))
    clear hown hgrow
    go_wp2_with fail
    go_ret
    exact ⟨_, rfl, (unhide FIN).1, (unhide FIN).2⟩

/-! Rows out of what is owned. -/
def vaddr : Value → Option Addr
  | .slice a _ _ => a
  | _ => none
def vcap : Value → Nat
  | .slice _ _ k => k
  | _ => 0
def vblk (v : Value) : Nat := v.ownBlock.getD 0
theorem own_form {w : World} {B : Nat} {t : TypeId} {c n : Nat} {v : Value} {xs : List Value} (h : w.ownsRow B t c v n xs) : v = .slice (vaddr v) n (vcap v) ∧ (0 < n → vaddr v = some ⟨vblk v, 0, none⟩ ∧ v.ownBlock = some (vblk v)) := by
  rcases h.2 with ⟨rfl, rfl⟩ | ⟨g, cap, cur, rfl, _⟩
  · exact ⟨rfl, fun h => by omega⟩
  · exact ⟨rfl, fun _ => ⟨rfl, rfl⟩⟩
theorem own_nf {w : World} {B : Nat} {t : TypeId} {c n : Nat} {v : Value} {xs : List Value} (h : w.ownsRow B t c v n xs) (hn : 0 < n) : Nf1 (vblk v) w ∧ B ≤ vblk v := by
  obtain ⟨e, h2⟩ := own_form h
  obtain ⟨h3, h4⟩ := h2 hn
  refine ⟨⟨(h.lt _ h4).2, fun j => ?_⟩, (h.lt _ h4).1⟩
  rw [e, h3] at h
  exact World.ownsRow.frozenAt h j
theorem own_at {w : World} {B : Nat} {t : TypeId} {c : Nat} {v : Value} {α : Type} {f : α → List Value} (hc : ∀ a, (f a).length = c) {L : List α} (h : w.ownsRow B t c v L.length (L.flatMap f)) (i : Nat) (hi : i < L.length) (j : Nat) (hj : j < c) : w.cell? ⟨vblk v, i * c + j, none⟩ = (f L[i])[j]? := by
  obtain ⟨e, h2⟩ := own_form h
  obtain ⟨h3, h4⟩ := h2 (by omega)
  obtain ⟨ad, cap, e2, _, hx⟩ := own_cells hc h
  obtain ⟨g, e3, _, _, q⟩ := hx i hi
  have : vblk v = g := by rw [e2, e3]; rfl
  rw [this]
  have := q j hj
  rwa [Nat.zero_add] at this
theorem Rws.of {B : Nat} {w : World} {x : Hp} {bc : Nat} {vr : Value} {pv : Nat → Value} (hr : w.ownsRow B 90 3 vr x.regs.length (x.regs.flatMap fW)) (hs : ∀ q, q < x.cells.length → S7 w bc (q * 8) (x.c q)) (h7 : ∀ q, q < x.cells.length → w.cell? ⟨bc, q * 8 + 7, none⟩ = some (pv q)) (hc : 0 < x.cells.length → Nf1 bc w ∧ B ≤ bc) (hd : 0 < x.cells.length → vblk vr ≠ bc)
    (hp : ∀ q, q < x.cells.length → w.ownsRow B 123 6 (pv q) (x.c q).prs.length ((x.c q).prs.flatMap fP) ∧ ∀ b, (pv q).ownBlock = some b → b ≠ vblk vr ∧ b ≠ bc) (hdp : ∀ q q', q < x.cells.length → q' < x.cells.length → q ≠ q' → ∀ b, (pv q).ownBlock = some b → (pv q').ownBlock ≠ some b) :
    Rws B w x (vblk vr) bc (fun q => vblk (pv q)) (fun q => vaddr (pv q)) (fun q => vcap (pv q)) where
  r := fun i hi => ⟨own_at (f := fW) (fun _ => rfl) hr i hi 0 (by omega), own_at (f := fW) (fun _ => rfl) hr i hi 1 (by omega), own_at (f := fW) (fun _ => rfl) hr i hi 2 (by omega)⟩
  s := hs
  p7 := fun q hq => by rw [h7 q hq, ← (own_form (hp q hq).1).1]
  p := fun q hq k hk => by
    have := own_at (f := fP) (fun _ => rfl) (hp q hq).1 k hk
    rw [Cl.p_eq _ _ hk] at this
    exact ⟨this 0 (by omega), this 1 (by omega), this 2 (by omega), this 3 (by omega), this 4 (by omega), this 5 (by omega)⟩
  pl := fun q hq hl => by
    obtain ⟨h1, h2⟩ := (own_form (hp q hq).1).2 hl
    exact ⟨h1, (own_nf (hp q hq).1 hl).1, (hp q hq).2 _ h2, (own_nf (hp q hq).1 hl).2⟩
  nr := fun hl => own_nf hr hl
  nc := hc
  d := hd
  dp := fun q q' hq hq' hne hl hl' e => by
    have h1 := ((own_form (hp q hq).1).2 hl).2
    have h2 := ((own_form (hp q' hq').1).2 hl').2
    exact hdp q q' hq hq' hne _ h1 (by rw [h2, e])
end Go.Proofs.YtkabcfhemljnbaaGreat

namespace Go.Proofs.YtkabcfhemljnbaaGreat
open Go.RowKit

/-- a heap's box -/
def HBox (w : World) (B : Nat) (x : Hp) (vr vc vg : Value) : Prop :=
  w.cell? ⟨B, 0, none⟩ = some (iv x.room) ∧ w.cell? ⟨B, 1, none⟩ = some (iv x.used) ∧ w.cell? ⟨B, 2, none⟩ = some (iv x.born) ∧ w.cell? ⟨B, 3, none⟩ = some vr ∧ w.cell? ⟨B, 4, none⟩ = some vc ∧ w.cell? ⟨B, 5, none⟩ = some (iv x.phase) ∧ w.cell? ⟨B, 6, none⟩ = some (iv x.hand) ∧ w.cell? ⟨B, 7, none⟩ = some (iv x.sub) ∧ w.cell? ⟨B, 8, none⟩ = some vg ∧ w.cell? ⟨B, 9, none⟩ = some (iv x.per) ∧ w.cell? ⟨B, 10, none⟩ = some (iv x.start) ∧ w.cell? ⟨B, 11, none⟩ = some (iv x.rounds) ∧ w.cell? ⟨B, 12, none⟩ = some (iv x.forced)
theorem HBox.ext {w w' : World} {B : Nat} {x : Hp} {vr vc vg : Value} (h : HBox w B x vr vc vg) (e : Ext w w') : HBox w' B x vr vc vg := by
  obtain ⟨h0, h1, h2, h3, h4, h5, h6, h7, h8, h9, h10, h11, h12⟩ := h
  exact ⟨e.keep h0, e.keep h1, e.keep h2, e.keep h3, e.keep h4, e.keep h5, e.keep h6, e.keep h7, e.keep h8, e.keep h9, e.keep h10, e.keep h11, e.keep h12⟩
theorem HBox.new (w : World) (x : Hp) (vr vc vg : Value) (t : TypeId) : HBox (w.alloc (.cells #[iv x.room, iv x.used, iv x.born, vr, vc, iv x.phase, iv x.hand, iv x.sub, vg, iv x.per, iv x.start, iv x.rounds, iv x.forced] t)) w.heap.size x vr vc vg := by
  refine ⟨?_, ?_, ?_, ?_, ?_, ?_, ?_, ?_, ?_, ?_, ?_, ?_, ?_⟩ <;> simp [go_sem]
theorem HBox.of {w w' : World} {B B' : Nat} {x : Hp} {vr vc vg : Value} (h : HBox w B x vr vc vg) (e : ∀ o, o < 13 → w'.cell? ⟨B', o, none⟩ = w.cell? ⟨B, o, none⟩) : HBox w' B' x vr vc vg := by
  obtain ⟨h0, h1, h2, h3, h4, h5, h6, h7, h8, h9, h10, h11, h12⟩ := h
  exact ⟨(e 0 (by omega)).trans h0, (e 1 (by omega)).trans h1, (e 2 (by omega)).trans h2, (e 3 (by omega)).trans h3, (e 4 (by omega)).trans h4, (e 5 (by omega)).trans h5, (e 6 (by omega)).trans h6, (e 7 (by omega)).trans h7, (e 8 (by omega)).trans h8, (e 9 (by omega)).trans h9, (e 10 (by omega)).trans h10, (e 11 (by omega)).trans h11, (e 12 (by omega)).trans h12⟩
theorem HBox.only {S : Nat → Prop} {w w' : World} {B : Nat} {x : Hp} {vr vc vg : Value} (h : HBox w B x vr vc vg) (e : Only S w w') (hs : ¬ S B) : HBox w' B x vr vc vg :=
  h.of fun o _ => e.cells B (cell_lt h.1) hs o
theorem HBox.block {w w' : World} {B : Nat} {x : Hp} {vr vc vg : Value} (h : HBox w B x vr vc vg) (e : w'.heap[B]? = w.heap[B]?) : HBox w' B x vr vc vg :=
  h.of fun o _ => World.cell?_of_block (a := ⟨B, o, none⟩) e
theorem HBox.far {w : World} {B : Nat} {x : Hp} {vr vc vg : Value} (h : HBox w B x vr vc vg) (b o : Nat) (u : Value) (hb : b ≠ B ∨ 13 ≤ o) : HBox (w.setCell ⟨b, o, none⟩ u) B x vr vc vg :=
  h.of fun o' ho => cell_other _ (by omega)
theorem HBox.set3 {w : World} {B : Nat} {x : Hp} {vr vc vg : Value} (h : HBox w B x vr vc vg) (u : Value) : HBox (w.setCell ⟨B, 3, none⟩ u) B x u vc vg := by
  obtain ⟨h0, h1, h2, h3, h4, h5, h6, h7, h8, h9, h10, h11, h12⟩ := h
  exact ⟨(cell_other _ (by omega)).trans h0, (cell_other _ (by omega)).trans h1, (cell_other _ (by omega)).trans h2, World.cell?_setCell_same _ _ _ h3, (cell_other _ (by omega)).trans h4, (cell_other _ (by omega)).trans h5, (cell_other _ (by omega)).trans h6, (cell_other _ (by omega)).trans h7, (cell_other _ (by omega)).trans h8, (cell_other _ (by omega)).trans h9, (cell_other _ (by omega)).trans h10, (cell_other _ (by omega)).trans h11, (cell_other _ (by omega)).trans h12⟩
theorem HBox.set4 {w : World} {B : Nat} {x : Hp} {vr vc vg : Value} (h : HBox w B x vr vc vg) (u : Value) : HBox (w.setCell ⟨B, 4, none⟩ u) B x vr u vg := by
  obtain ⟨h0, h1, h2, h3, h4, h5, h6, h7, h8, h9, h10, h11, h12⟩ := h
  exact ⟨(cell_other _ (by omega)).trans h0, (cell_other _ (by omega)).trans h1, (cell_other _ (by omega)).trans h2, (cell_other _ (by omega)).trans h3, World.cell?_setCell_same _ _ _ h4, (cell_other _ (by omega)).trans h5, (cell_other _ (by omega)).trans h6, (cell_other _ (by omega)).trans h7, (cell_other _ (by omega)).trans h8, (cell_other _ (by omega)).trans h9, (cell_other _ (by omega)).trans h10, (cell_other _ (by omega)).trans h11, (cell_other _ (by omega)).trans h12⟩
theorem HBox.set8 {w : World} {B : Nat} {x : Hp} {vr vc vg : Value} (h : HBox w B x vr vc vg) (u : Value) : HBox (w.setCell ⟨B, 8, none⟩ u) B x vr vc u := by
  obtain ⟨h0, h1, h2, h3, h4, h5, h6, h7, h8, h9, h10, h11, h12⟩ := h
  exact ⟨(cell_other _ (by omega)).trans h0, (cell_other _ (by omega)).trans h1, (cell_other _ (by omega)).trans h2, (cell_other _ (by omega)).trans h3, (cell_other _ (by omega)).trans h4, (cell_other _ (by omega)).trans h5, (cell_other _ (by omega)).trans h6, (cell_other _ (by omega)).trans h7, World.cell?_setCell_same _ _ _ h8, (cell_other _ (by omega)).trans h9, (cell_other _ (by omega)).trans h10, (cell_other _ (by omega)).trans h11, (cell_other _ (by omega)).trans h12⟩
theorem HBox.set1 {w : World} {B : Nat} {x : Hp} {vr vc vg : Value} (h : HBox w B x vr vc vg) (u : Int) : HBox (w.setCell ⟨B, 1, none⟩ (iv u)) B { x with used := u } vr vc vg := by
  obtain ⟨h0, h1, h2, h3, h4, h5, h6, h7, h8, h9, h10, h11, h12⟩ := h
  exact ⟨(cell_other _ (by omega)).trans h0, World.cell?_setCell_same _ _ _ h1, (cell_other _ (by omega)).trans h2, (cell_other _ (by omega)).trans h3, (cell_other _ (by omega)).trans h4, (cell_other _ (by omega)).trans h5, (cell_other _ (by omega)).trans h6, (cell_other _ (by omega)).trans h7, (cell_other _ (by omega)).trans h8, (cell_other _ (by omega)).trans h9, (cell_other _ (by omega)).trans h10, (cell_other _ (by omega)).trans h11, (cell_other _ (by omega)).trans h12⟩
theorem HBox.set2 {w : World} {B : Nat} {x : Hp} {vr vc vg : Value} (h : HBox w B x vr vc vg) (u : Int) : HBox (w.setCell ⟨B, 2, none⟩ (iv u)) B { x with born := u } vr vc vg := by
  obtain ⟨h0, h1, h2, h3, h4, h5, h6, h7, h8, h9, h10, h11, h12⟩ := h
  exact ⟨(cell_other _ (by omega)).trans h0, (cell_other _ (by omega)).trans h1, World.cell?_setCell_same _ _ _ h2, (cell_other _ (by omega)).trans h3, (cell_other _ (by omega)).trans h4, (cell_other _ (by omega)).trans h5, (cell_other _ (by omega)).trans h6, (cell_other _ (by omega)).trans h7, (cell_other _ (by omega)).trans h8, (cell_other _ (by omega)).trans h9, (cell_other _ (by omega)).trans h10, (cell_other _ (by omega)).trans h11, (cell_other _ (by omega)).trans h12⟩
theorem HBox.set5 {w : World} {B : Nat} {x : Hp} {vr vc vg : Value} (h : HBox w B x vr vc vg) (u : Int) : HBox (w.setCell ⟨B, 5, none⟩ (iv u)) B { x with phase := u } vr vc vg := by
  obtain ⟨h0, h1, h2, h3, h4, h5, h6, h7, h8, h9, h10, h11, h12⟩ := h
  exact ⟨(cell_other _ (by omega)).trans h0, (cell_other _ (by omega)).trans h1, (cell_other _ (by omega)).trans h2, (cell_other _ (by omega)).trans h3, (cell_other _ (by omega)).trans h4, World.cell?_setCell_same _ _ _ h5, (cell_other _ (by omega)).trans h6, (cell_other _ (by omega)).trans h7, (cell_other _ (by omega)).trans h8, (cell_other _ (by omega)).trans h9, (cell_other _ (by omega)).trans h10, (cell_other _ (by omega)).trans h11, (cell_other _ (by omega)).trans h12⟩
theorem HBox.set6 {w : World} {B : Nat} {x : Hp} {vr vc vg : Value} (h : HBox w B x vr vc vg) (u : Int) : HBox (w.setCell ⟨B, 6, none⟩ (iv u)) B { x with hand := u } vr vc vg := by
  obtain ⟨h0, h1, h2, h3, h4, h5, h6, h7, h8, h9, h10, h11, h12⟩ := h
  exact ⟨(cell_other _ (by omega)).trans h0, (cell_other _ (by omega)).trans h1, (cell_other _ (by omega)).trans h2, (cell_other _ (by omega)).trans h3, (cell_other _ (by omega)).trans h4, (cell_other _ (by omega)).trans h5, World.cell?_setCell_same _ _ _ h6, (cell_other _ (by omega)).trans h7, (cell_other _ (by omega)).trans h8, (cell_other _ (by omega)).trans h9, (cell_other _ (by omega)).trans h10, (cell_other _ (by omega)).trans h11, (cell_other _ (by omega)).trans h12⟩
theorem HBox.set7 {w : World} {B : Nat} {x : Hp} {vr vc vg : Value} (h : HBox w B x vr vc vg) (u : Int) : HBox (w.setCell ⟨B, 7, none⟩ (iv u)) B { x with sub := u } vr vc vg := by
  obtain ⟨h0, h1, h2, h3, h4, h5, h6, h7, h8, h9, h10, h11, h12⟩ := h
  exact ⟨(cell_other _ (by omega)).trans h0, (cell_other _ (by omega)).trans h1, (cell_other _ (by omega)).trans h2, (cell_other _ (by omega)).trans h3, (cell_other _ (by omega)).trans h4, (cell_other _ (by omega)).trans h5, (cell_other _ (by omega)).trans h6, World.cell?_setCell_same _ _ _ h7, (cell_other _ (by omega)).trans h8, (cell_other _ (by omega)).trans h9, (cell_other _ (by omega)).trans h10, (cell_other _ (by omega)).trans h11, (cell_other _ (by omega)).trans h12⟩
theorem HBox.set11 {w : World} {B : Nat} {x : Hp} {vr vc vg : Value} (h : HBox w B x vr vc vg) (u : Int) : HBox (w.setCell ⟨B, 11, none⟩ (iv u)) B { x with rounds := u } vr vc vg := by
  obtain ⟨h0, h1, h2, h3, h4, h5, h6, h7, h8, h9, h10, h11, h12⟩ := h
  exact ⟨(cell_other _ (by omega)).trans h0, (cell_other _ (by omega)).trans h1, (cell_other _ (by omega)).trans h2, (cell_other _ (by omega)).trans h3, (cell_other _ (by omega)).trans h4, (cell_other _ (by omega)).trans h5, (cell_other _ (by omega)).trans h6, (cell_other _ (by omega)).trans h7, (cell_other _ (by omega)).trans h8, (cell_other _ (by omega)).trans h9, (cell_other _ (by omega)).trans h10, World.cell?_setCell_same _ _ _ h11, (cell_other _ (by omega)).trans h12⟩
theorem HBox.set12 {w : World} {B : Nat} {x : Hp} {vr vc vg : Value} (h : HBox w B x vr vc vg) (u : Int) : HBox (w.setCell ⟨B, 12, none⟩ (iv u)) B { x with forced := u } vr vc vg := by
  obtain ⟨h0, h1, h2, h3, h4, h5, h6, h7, h8, h9, h10, h11, h12⟩ := h
  exact ⟨(cell_other _ (by omega)).trans h0, (cell_other _ (by omega)).trans h1, (cell_other _ (by omega)).trans h2, (cell_other _ (by omega)).trans h3, (cell_other _ (by omega)).trans h4, (cell_other _ (by omega)).trans h5, (cell_other _ (by omega)).trans h6, (cell_other _ (by omega)).trans h7, (cell_other _ (by omega)).trans h8, (cell_other _ (by omega)).trans h9, (cell_other _ (by omega)).trans h10, (cell_other _ (by omega)).trans h11, World.cell?_setCell_same _ _ _ h12⟩
end Go.Proofs.YtkabcfhemljnbaaGreat
