import Derived.Test.YtbcmjcomdjdjaaaGreatImpD
import Derived.Laws.OwnMore
import Derived.WalkSmall
import Derived.Deep.AppendLies
import Derived.Deep.LoopGhost
import Derived.Test.YtbcmjcomdjdjaaaGreatSpecA
namespace Go.Proofs.YtbcmjcomdjdjaaaGreat
open Go.RowKit

/-! The heap of least items in memory: its header lies at ⟨bq, oq⟩, its items in a row of the call's own. -/
structure LsAt (w : World) (base bq oq : Nat) (v : Value) (L : List Int) : Prop where
  hd : w.cell? ⟨bq, oq, none⟩ = some v
  hf : w.frozen? ⟨bq, oq, none⟩ = false
  own : w.ownsRow base 3 1 v L.length (L.map iv)
  apart : v.ownBlock ≠ some bq

/-- what a call on it leaves as it was -/
structure QFr (bq oq : Nat) (v v' : Value) (w w' : World) : Prop where
  os : w'.os = w.os
  tape : w'.tape = w.tape
  output : w'.output = w.output
  size : w.heap.size ≤ w'.heap.size
  block : ∀ k, k < w.heap.size → k ≠ bq → v.ownBlock ≠ some k → w'.heap[k]? = w.heap[k]?
  hdr : ∀ o, o ≠ oq → w'.cell? ⟨bq, o, none⟩ = w.cell? ⟨bq, o, none⟩
  hfr : ∀ o, w'.frozen? ⟨bq, o, none⟩ = w.frozen? ⟨bq, o, none⟩
  own : v'.ownBlock = v.ownBlock ∨ ∃ g, v'.ownBlock = some g ∧ w.heap.size ≤ g

theorem QFr.refl (bq oq : Nat) (v : Value) (w : World) : QFr bq oq v v w w := ⟨rfl, rfl, rfl, Nat.le_refl _, fun _ _ _ _ => rfl, fun _ _ => rfl, fun _ => rfl, .inl rfl⟩
theorem QFr.trans {bq oq : Nat} {v v1 v2 : Value} {w w1 w2 : World} (h : QFr bq oq v v1 w w1) (k : QFr bq oq v1 v2 w1 w2) : QFr bq oq v v2 w w2 :=
  ⟨k.os.trans h.os, k.tape.trans h.tape, k.output.trans h.output, Nat.le_trans h.size k.size,
    fun i hi hne hv => (k.block i (Nat.lt_of_lt_of_le hi h.size) hne (fun e => by
      rcases h.own with h1 | ⟨g, h1, h2⟩
      · rw [h1] at e; exact hv e
      · rw [h1] at e; cases e; omega)).trans (h.block i hi hne hv),
    fun o ho => (k.hdr o ho).trans (h.hdr o ho), fun o => (k.hfr o).trans (h.hfr o), by
      rcases k.own with h1 | ⟨g, h1, h2⟩
      · rcases h.own with h3 | ⟨g, h3, h4⟩
        · exact .inl (h1.trans h3)
        · exact .inr ⟨g, h1.trans h3, h4⟩
      · exact .inr ⟨g, h1, Nat.le_trans h.size h2⟩⟩
theorem QFr.ext {a : World} {bq oq : Nat} {v v' : Value} {w w' : World} (h : QFr bq oq v v' w w') (e : Ext a w) (hb : a.heap.size ≤ bq) (hv : ∀ k, v.ownBlock = some k → a.heap.size ≤ k) : Ext a w' :=
  Below.trans e ⟨h.os, h.tape, h.output, h.size, fun k hk => h.block k (Nat.lt_of_lt_of_le hk e.size) (by omega) (fun q => by have := hv k q; omega)⟩
theorem QFr.drewN {bq oq : Nat} {v v' : Value} {w w' : World} (h : QFr bq oq v v' w w') (n : Nat) : QFr bq oq v v' w (w'.drewN n) := ⟨h.os, h.tape, h.output, h.size, h.block, h.hdr, h.hfr, h.own⟩
theorem QFr.bare {bq oq : Nat} {v : Value} {w w' : World} (h : Ext w w') (hb : bq < w.heap.size) : QFr bq oq v v w w' :=
  ⟨h.os, h.tape, h.output, h.size, fun k hk _ _ => h.block k hk, fun o _ => h.cell (p := ⟨bq, o, none⟩) hb, fun o => h.frozen (p := ⟨bq, o, none⟩) hb, .inl rfl⟩
theorem QFr.cells {bq oq : Nat} {v v' : Value} {w w' : World} (h : QFr bq oq v v' w w') {b o : Nat} {u : Value} (hc : w.cell? ⟨b, o, none⟩ = some u) (hb : b ≠ bq) (hv : v.ownBlock ≠ some b) : w'.cell? ⟨b, o, none⟩ = some u :=
  (World.cell?_of_block (w := w) (w' := w') (a := ⟨b, o, none⟩) (h.block b (cell_lt hc) hb hv)).trans hc
theorem LsAt.hlt {w : World} {base bq oq : Nat} {v : Value} {L : List Int} (h : LsAt w base bq oq v L) : bq < w.heap.size := cell_lt h.hd
theorem LsAt.rlt {w : World} {base bq oq : Nat} {v : Value} {L : List Int} (h : LsAt w base bq oq v L) : ∀ k, v.ownBlock = some k → base ≤ k ∧ k < w.heap.size := h.own.lt

theorem ownsRow_of_block {w w' : World} {base e size n : Nat} {v : Value} {xs : List Value} (h : w.ownsRow base e size v n xs) (hb : ∀ k, v.ownBlock = some k → w'.heap[k]? = w.heap[k]?) : w'.ownsRow base e size v n xs := by
  refine ⟨h.1, ?_⟩
  rcases h.2 with h' | ⟨g, cap, cur, rfl, h1, h2, h3⟩
  · exact .inl h'
  · exact .inr ⟨g, cap, cur, rfl, h1, (hb g rfl).trans h2, h3⟩
theorem LsAt.ext {w w' : World} {base bq oq : Nat} {v : Value} {L : List Int} (h : LsAt w base bq oq v L) (e : Ext w w') : LsAt w' base bq oq v L :=
  ⟨e.keep h.hd, by rw [e.frozen (p := ⟨bq, oq, none⟩) h.hlt]; exact h.hf, ownsRow_of_block h.own (fun k hk => e.block k (h.rlt k hk).2), h.apart⟩
/-- another heap stays -/
theorem LsAt.other {w w' : World} {base bq oq b2 o2 : Nat} {v v' v2 : Value} {L : List Int} (h : LsAt w base b2 o2 v2 L) (q : QFr bq oq v v' w w') (hb : b2 ≠ bq) (h1 : v.ownBlock ≠ some b2) (h2 : v2.ownBlock ≠ some bq) (h3 : ∀ k, v2.ownBlock = some k → v.ownBlock ≠ some k) : LsAt w' base b2 o2 v2 L := by
  have hbl : w'.heap[b2]? = w.heap[b2]? := q.block b2 h.hlt hb h1
  refine ⟨(World.cell?_of_block (w := w) (w' := w') (a := ⟨b2, o2, none⟩) hbl).trans h.hd, (World.frozen?_of_block (w := w) (w' := w') (a := ⟨b2, o2, none⟩) hbl).trans h.hf, ownsRow_of_block h.own (fun k hk => q.block k (h.rlt k hk).2 (fun e => h2 (e ▸ hk)) (h3 k hk)), h.apart⟩

theorem LsAt.nil {w : World} {base bq oq : Nat} (hd : w.cell? ⟨bq, oq, none⟩ = some (.slice none 0 0)) (hf : w.frozen? ⟨bq, oq, none⟩ = false) : LsAt w base bq oq (.slice none 0 0) [] :=
  ⟨hd, hf, World.ownsRow_nil _ _ _ _, by simp [Value.ownBlock]⟩
theorem LsAt.form {w : World} {base bq oq : Nat} {v : Value} {L : List Int} (h : LsAt w base bq oq v L) (hn : 0 < L.length) : ∃ g cap, v = .slice (some ⟨g, 0, none⟩) L.length cap ∧ g ≠ bq := by
  obtain ⟨g, cap, rfl, _, _⟩ := h.own.form hn
  exact ⟨g, cap, rfl, fun e => h.apart (by rw [← e]; rfl)⟩
theorem LsAt.empty {w : World} {base bq oq : Nat} {v : Value} {L : List Int} (h : LsAt w base bq oq v L) (hn : L.length = 0) : ∃ ad cap, v = .slice ad 0 cap := by
  rcases h.own.2 with ⟨h1, _⟩ | ⟨g, cap, cur, h1, _⟩
  · exact ⟨none, 0, h1⟩
  · rw [hn] at h1; exact ⟨_, _, h1⟩
theorem LsAt.cell {w : World} {base bq oq g n cap : Nat} {L : List Int} (h : LsAt w base bq oq (.slice (some ⟨g, 0, none⟩) n cap) L) (i : Nat) (hi : i < L.length) : w.cell? ⟨g, i, none⟩ = some (iv (it L i)) := by
  obtain ⟨h1, h2⟩ := h.own
  rcases h2 with ⟨h0, _⟩ | ⟨g', cap', cur, h0, hb, hg, hr⟩
  · cases h0
  · cases h0
    have := World.ownsRow.cellAt (w := w) (base := base) (e := 3) (size := 1) (g := g) (n := L.length) (cap := cap) (xs := L.map iv) h.own i (by omega)
    rw [this]; simp [it, hi]
theorem LsAt.froz {w : World} {base bq oq g n cap : Nat} {L : List Int} (h : LsAt w base bq oq (.slice (some ⟨g, 0, none⟩) n cap) L) (i : Nat) : w.frozen? ⟨g, i, none⟩ = false := by
  obtain ⟨h1, h2⟩ := h.own
  rcases h2 with ⟨h0, _⟩ | ⟨g', cap', cur, h0, hb, hg, hr⟩
  · cases h0
  · cases h0
    exact World.ownsRow.frozenAt (w := w) (base := base) (e := 3) (size := 1) (g := g) (n := L.length) (cap := cap) (xs := L.map iv) h.own i
theorem LsAt.len {w : World} {base bq oq g n cap : Nat} {L : List Int} (h : LsAt w base bq oq (.slice (some ⟨g, 0, none⟩) n cap) L) : n = L.length ∧ n ≤ cap := by
  rcases h.own.2 with ⟨h0, _⟩ | ⟨g', cap', cur, h0, hb, hg, hr, _⟩
  · cases h0
  · cases h0; exact ⟨rfl, hr⟩

/-- an item stored -/
theorem LsAt.store {w : World} {base bq oq g n cap : Nat} {L : List Int} (h : LsAt w base bq oq (.slice (some ⟨g, 0, none⟩) n cap) L) (i : Nat) (x : Int) :
    LsAt (w.setCell ⟨g, i, none⟩ (iv x)) base bq oq (.slice (some ⟨g, 0, none⟩) n cap) (L.set i x) ∧ QFr bq oq (.slice (some ⟨g, 0, none⟩) n cap) (.slice (some ⟨g, 0, none⟩) n cap) w (w.setCell ⟨g, i, none⟩ (iv x)) := by
  have hne : g ≠ bq := fun e => h.apart (by rw [← e]; rfl)
  obtain ⟨hl, hc⟩ := h.len
  subst hl
  obtain ⟨s1, s2⟩ := World.ownsRow.stored h.own i (iv x)
  refine ⟨⟨?_, ?_, ?_, h.apart⟩, ⟨rfl, rfl, rfl, s2.size, fun k hk h1 h2 => s2.block k hk (fun e => h2 e.symm), fun o ho => ?_, fun o => ?_, .inl rfl⟩⟩
  · rw [cell_other _ (.inl hne)]; exact h.hd
  · rw [World.frozen?_setCell]; exact h.hf
  · rw [List.length_set, List.map_set]; exact s1
  · exact cell_other _ (.inl hne)
  · rw [World.frozen?_setCell]

/-- the world of an exchange -/
theorem LsAt.swap {w w' : World} {base bq oq g n cap : Nat} {L : List Int} (h : LsAt w base bq oq (.slice (some ⟨g, 0, none⟩) n cap) L) (i j : Nat)
    (h1 : w'.heap = ((w.setCell ⟨g, i, none⟩ (iv (it L j))).setCell ⟨g, j, none⟩ (iv (it L i))).heap) (h2 : w'.os = w.os) (h3 : w'.tape = w.tape) (h4 : w'.output = w.output) :
    LsAt w' base bq oq (.slice (some ⟨g, 0, none⟩) n cap) (swp L i j) ∧ QFr bq oq (.slice (some ⟨g, 0, none⟩) n cap) (.slice (some ⟨g, 0, none⟩) n cap) w w' := by
  obtain ⟨a1, a2⟩ := h.store i (it L j)
  obtain ⟨b1, b2⟩ := a1.store j (it L i)
  have q := a2.trans b2
  have hb : ∀ k : Nat, w'.heap[k]? = ((w.setCell ⟨g, i, none⟩ (iv (it L j))).setCell ⟨g, j, none⟩ (iv (it L i))).heap[k]? := fun k => by rw [h1]
  refine ⟨⟨(World.cell?_of_block (a := ⟨bq, oq, none⟩) (hb bq)).trans b1.hd, (World.frozen?_of_block (a := ⟨bq, oq, none⟩) (hb bq)).trans b1.hf, ownsRow_of_block b1.own (fun k _ => hb k), h.apart⟩,
    ⟨h2, h3, h4, by rw [h1]; exact q.size, fun k hk x y => (hb k).trans (q.block k hk x y), fun o ho => (World.cell?_of_block (a := ⟨bq, o, none⟩) (hb bq)).trans (q.hdr o ho), fun o => (World.frozen?_of_block (a := ⟨bq, o, none⟩) (hb bq)).trans (q.hfr o), .inl rfl⟩⟩

theorem swap_ls (w : World) (base bq oq g n cap i j : Nat) (L : List Int) (h : LsAt w base bq oq (.slice (some ⟨g, 0, none⟩) n cap) L) (hi : i < n) (hj : j < n) :
    Calls Tryz.prog 128 #[.pointer (some ⟨bq, oq, none⟩), .int .i64 i, .int .i64 j] w fun e w' => e = .returned (.tuple #[]) ∧ LsAt w' base bq oq (.slice (some ⟨g, 0, none⟩) n cap) (swp L i j) ∧ QFr bq oq (.slice (some ⟨g, 0, none⟩) n cap) (.slice (some ⟨g, 0, none⟩) n cap) w w' := by
  have hl := h.len.1
  by_cases e : i = j
  · subst e
    refine Calls.mono (swap_eq w bq oq g 0 n cap i (it L i) h.hd (by simpa using h.cell i (by omega)) (by simpa using h.froz i) hi) ?_
    intro e w' ⟨r, hh, ho, ht, hout⟩
    exact ⟨r, h.swap i i (by rw [hh]; simp) ho ht hout⟩
  · refine Calls.mono (swap_ne w bq oq g 0 n cap i j (it L i) (it L j) h.hd (by simpa using h.cell i (by omega)) (by simpa using h.cell j (by omega)) (by simpa using h.froz i) (by simpa using h.froz j) hi hj e) ?_
    intro e w' ⟨r, hh, ho, ht, hout⟩
    exact ⟨r, h.swap i j (by rw [hh]; simp) ho ht hout⟩
end Go.Proofs.YtbcmjcomdjdjaaaGreat

namespace Go.Proofs.YtbcmjcomdjdjaaaGreat
open Go.RowKit
attribute [local go_sem ↓] Go.wp_at_zero Go.wp_at_succ

theorem infoInt : (Tryz.prog.info? 3).map (fun i => (i.zero, i.size, i.bytes)) = some (some (.int .i64 0), 1, 8) := by kernel_rfl

/-- the world behind 'q.items = append(q.items, x)' -/
theorem put_world {w w1 : World} {base bq oq g cap : Nat} {v : Value} {L : List Int} {x : Int} {o : Obj} (h : LsAt w base bq oq v L)
    (hown : w1.ownsRow base 3 1 (.slice (some ⟨g, 0, none⟩) (L.length + 1) cap) (L.length + 1) (L.map iv ++ [iv x])) (hg : (w.alloc o).grownBy w1 v.ownBlock) (hat : v.ownBlock = some g ∨ g = w.heap.size + 1) :
    LsAt (w1.setCell ⟨bq, oq, none⟩ (.slice (some ⟨g, 0, none⟩) (L.length + 1) cap)) base bq oq (.slice (some ⟨g, 0, none⟩) (L.length + 1) cap) (L ++ [x]) ∧
    QFr bq oq v (.slice (some ⟨g, 0, none⟩) (L.length + 1) cap) w (w1.setCell ⟨bq, oq, none⟩ (.slice (some ⟨g, 0, none⟩) (L.length + 1) cap)) ∧ w1.cell? ⟨bq, oq, none⟩ = some v ∧ w1.frozen? ⟨bq, oq, none⟩ = false := by
  have hlt := h.hlt
  have hne : g ≠ bq := by
    rcases hat with e | e
    · intro q; exact h.apart (q ▸ e)
    · omega
  have hs1 : w.heap.size + 1 ≤ w1.heap.size := by have := hg.size; simpa using this
  have hb : ∀ k, k < w.heap.size → v.ownBlock ≠ some k → w1.heap[k]? = w.heap[k]? := fun k hk hv =>
    (hg.block k (by simp; omega) (fun e => hv e.symm)).trans (Below.heap_alloc w o k hk)
  have hbq : w1.heap[bq]? = w.heap[bq]? := hb bq hlt h.apart
  have hc : w1.cell? ⟨bq, oq, none⟩ = some v := (World.cell?_of_block (a := ⟨bq, oq, none⟩) hbq).trans h.hd
  have hf : w1.frozen? ⟨bq, oq, none⟩ = false := (World.frozen?_of_block (a := ⟨bq, oq, none⟩) hbq).trans h.hf
  refine ⟨⟨World.cell?_setCell_same _ _ _ hc, by rw [World.frozen?_setCell]; exact hf, ?_, fun e => hne (by simpa [Value.ownBlock] using e)⟩, ⟨?_, ?_, ?_, ?_, fun k hk h1 h2 => ?_, fun o' ho => ?_, fun o' => ?_, ?_⟩, hc, hf⟩
  · refine ownsRow_of_block (by simpa using hown) (fun k hk => Below.heap_setCell _ _ _ _ ?_)
    simp [Value.ownBlock] at hk
    show k ≠ bq
    omega
  · exact hg.os
  · exact hg.tape
  · exact hg.output
  · have : (w1.setCell ⟨bq, oq, none⟩ (.slice (some ⟨g, 0, none⟩) (L.length + 1) cap)).heap.size = w1.heap.size := by simp [World.setCell]
    omega
  · rw [Below.heap_setCell _ _ _ _ (show k ≠ bq from h1)]
    exact hb k hk h2
  · rw [cell_other _ (.inr (fun e => ho e.symm))]
    exact World.cell?_of_block (a := ⟨bq, o', none⟩) hbq
  · rw [World.frozen?_setCell]
    exact World.frozen?_of_block (a := ⟨bq, o', none⟩) hbq
  · rcases hat with e | e
    · exact .inl e.symm
    · exact .inr ⟨g, rfl, by omega⟩

set_option maxRecDepth 100000 in
set_option maxHeartbeats 1000000 in
theorem put_ls (w : World) (base bq oq : Nat) (v : Value) (L : List Int) (x : Int) (h : LsAt w base bq oq v L) (hb : base ≤ w.heap.size) (ho : Ho L) (hn : L.length ≤ 100000) :
    Calls Tryz.prog 96 #[.pointer (some ⟨bq, oq, none⟩), .int .i64 x] w fun e w' => e = .returned (.tuple #[]) ∧ ∃ v' L', LsAt w' base bq oq v' L' ∧ Ho L' ∧ L'.Perm (x :: L) ∧ QFr bq oq v v' w w' := by
  obtain ⟨i0, hi, hz0, hz1, hz2⟩ := info_parts infoInt
  have hd := h.hd
  have hf := h.hf
  have hlt := h.hlt
  have HL := hide h
  have HO := hide (Rise.start ho x)
  clear h ho
  go_enter Tryz.func96, Tryz.ntmps96
  go_wp2_with (at_builtin; refine wpList_append_lies _ rfl _ _ 24 rfl base 3 i0 (.int .i64 0) 1 8 Tryz.underlying24 hi hz0 hz1 hz2 rfl (by decide) v L.length (L.map iv) rfl ((unhide HL).own.alloc _) ⟨w.heap.size, 0, none⟩ 1 1 [.int .i64 x] rfl rfl ?c1 ?c2 (by decide) ?c3 ?c4 ?c5 (w.heap.size + 1) (by simp) ?_)
  case c1 =>
    intro j u hj
    match j, hj with
    | 0, hj => simp at hj; subst hj; simp [Addr.add]
  case c2 => intro u hu; simp at hu; subst hu; rfl
  case c3 => unfold maxLen; omega
  case c4 => omega
  case c5 => simp; omega
  intro g cap w1 hown hgrow hat hglt
  obtain ⟨P1, P2, P3, P4⟩ := put_world (unhide HL) hown hgrow hat
  have Q1 := hide P1
  have Q2 := hide P2
  clear hown hgrow hat P1 P2 hd hf
  go_wp2_with fail
  go_loopw [4] (fun si wr => ∃ (a : Nat) (M : List Int), a < M.length ∧ si = .int .i64 a ∧ M.length = L.length + 1 ∧ LsAt wr base bq oq (.slice (some ⟨g, 0, none⟩) (L.length + 1) cap) M ∧ Rise M a ∧ M.Perm (x :: L) ∧ QFr bq oq v (.slice (some ⟨g, 0, none⟩) (L.length + 1) cap) w wr) (fun si _ => (intOf si).toNat)
  case atStart => exact ⟨L.length, L ++ [x], by simp, by go_num, by simp, unhide Q1, unhide HO, List.perm_append_singleton _ _, unhide Q2⟩
  case round =>
    clear HO HL P3 P4 Q1 Q2
    obtain ⟨a, M, ha, rfl, hM, hls, hr, hp, hq⟩ := hrel
    have HLS := hide hls
    have HR := hide hr
    have HP := hide hp
    have HQ := hide hq
    have hd := hls.hd
    obtain ⟨xa, hxa⟩ : ∃ z, it M a = z := ⟨_, rfl⟩
    have ca := hls.cell a ha
    rw [hxa] at ca
    by_cases h0 : 0 < a
    · obtain ⟨u, hu⟩ : ∃ u, u = (a - 1) / 2 := ⟨_, rfl⟩
      have hum : u < M.length := by omega
      obtain ⟨xu, hxu⟩ : ∃ z, it M u = z := ⟨_, rfl⟩
      have cu := hls.cell u hum
      rw [hxu] at cu
      have hq2 : ((a : Int) - 1).tdiv 2 = (u : Int) := by
        rw [Int.tdiv_eq_ediv_of_nonneg (by omega)]; omega
      have i0 : (0 : Int) < (a : Int) := by omega
      have i1 : (0 : Int) ≤ (a : Int) := by omega
      have i2 : (a : Int) < (L.length : Int) + 1 := by omega
      have i3 : (0 : Int) ≤ (u : Int) := by omega
      have i4 : (u : Int) < (L.length : Int) + 1 := by omega
      have hua : u < a := by omega
      have HU := hide hu
      clear hls hr hp hq hu
      by_cases hc : xu ≤ xa
      · have Y := hide (Rise.done (unhide HR) (by rw [← unhide HU, hxu, hxa]; exact hc))
        go_wp2_with fail
        go_quiet (fail)
        go_wp2_with fail
        try simp only [Exit.inBlock, Exit.then]
        refine bodyPost_ret (results_none rfl _ _ _) rfl ?_
        exact ⟨rfl, _, M, (unhide HLS).ext ((Ext.refl _).drewN _), unhide Y, unhide HP, (unhide HQ).drewN _⟩
      · have hc2 : decide (xu ≤ xa) = false := decide_eq_false hc
        have hc3 : xa < xu := by omega
        have R2 := hide (Rise.up (unhide HR) h0 ha (unhide HU) (by rw [hxu, hxa]; exact hc3))
        clear hc hc3
        go_wp2_with fail
        go_quiet (fail)
        go_wp2_with fail
        refine (swap_ls _ base bq oq g (L.length + 1) cap u a M ((unhide HLS).ext ((Ext.refl _).drewN _)) (by omega) (by omega)).mono ?_
        rintro e w2 ⟨rfl, ls2, q2⟩
        have LS2 := hide ls2
        have QF2 := hide (((unhide HQ).drewN _).trans q2)
        clear ls2 q2
        go_wp2_with fail
        go_roundw
        case rel => exact ⟨u, swp M u a, by rw [swp_len]; omega, by go_num, by rw [swp_len]; omega, unhide LS2, unhide R2, (swp_perm M u a hum ha).trans (unhide HP), unhide QF2⟩
        case measure => simp [intOf]; omega
    · have h00 : a = 0 := by omega
      subst h00
      have Y := hide (Rise.top (unhide HR))
      clear hls hr hp hq
      go_wp2_with fail
      go_end0
      exact ⟨rfl, _, M, unhide HLS, unhide Y, unhide HP, unhide HQ⟩
end Go.Proofs.YtbcmjcomdjdjaaaGreat

namespace Go.Proofs.YtbcmjcomdjdjaaaGreat
open Go.RowKit
attribute [local go_sem ↓] Go.wp_at_zero Go.wp_at_succ

theorem swap_lsI (w : World) (base bq oq g n cap i j : Nat) (I J : Int) (L : List Int) (hI : I = (i : Int)) (hJ : J = (j : Int)) (h : LsAt w base bq oq (.slice (some ⟨g, 0, none⟩) n cap) L) (hi : i < n) (hj : j < n) :
    Calls Tryz.prog 128 #[.pointer (some ⟨bq, oq, none⟩), .int .i64 I, .int .i64 J] w fun e w' => e = .returned (.tuple #[]) ∧ LsAt w' base bq oq (.slice (some ⟨g, 0, none⟩) n cap) (swp L i j) ∧ QFr bq oq (.slice (some ⟨g, 0, none⟩) n cap) (.slice (some ⟨g, 0, none⟩) n cap) w w' := by
  subst hI; subst hJ; exact swap_ls w base bq oq g n cap i j L h hi hj

set_option maxRecDepth 100000 in
set_option maxHeartbeats 2000000 in
theorem sink_ls (w : World) (base bq oq g n cap : Nat) (L : List Int) (h : LsAt w base bq oq (.slice (some ⟨g, 0, none⟩) n cap) L) (hF : Fall L 0) (hn : n ≤ 100000) :
    Calls Tryz.prog 181 #[.pointer (some ⟨bq, oq, none⟩)] w fun e w' => e = .returned (.tuple #[]) ∧ ∃ L', LsAt w' base bq oq (.slice (some ⟨g, 0, none⟩) n cap) L' ∧ Ho L' ∧ L'.Perm L ∧ QFr bq oq (.slice (some ⟨g, 0, none⟩) n cap) (.slice (some ⟨g, 0, none⟩) n cap) w w' := by
  have hl := h.len.1
  have hlc := h.len.2
  have HL := hide h
  have HFF := hide hF
  clear h hF
  go_enter Tryz.func181, Tryz.ntmps181
  go_wp2_with fail
  go_loopw [2] (fun si wr => ∃ (a : Nat) (M : List Int), a ≤ n ∧ si = .int .i64 a ∧ M.length = n ∧ LsAt wr base bq oq (.slice (some ⟨g, 0, none⟩) n cap) M ∧ Fall M a ∧ M.Perm L ∧ QFr bq oq (.slice (some ⟨g, 0, none⟩) n cap) (.slice (some ⟨g, 0, none⟩) n cap) w wr) (fun si _ => n - (intOf si).toNat)
  case atStart => exact ⟨0, L, Nat.zero_le _, rfl, hl.symm, unhide HL, unhide HFF, List.Perm.refl _, QFr.refl _ _ _ _⟩
  case round =>
    clear HFF HL hl
    obtain ⟨a, M, ha, rfl, hM, hls, hr, hp, hq⟩ := hrel
    have HLS := hide hls
    have HR := hide hr
    have HP := hide hp
    have HQ := hide hq
    have hd := hls.hd
    have i0 : (0 : Int) ≤ (a : Int) := by omega
    have i1 : (a : Int) ≤ 100000 := by omega
    by_cases hb : n ≤ 2 * a + 1
    · have hb2 : (n : Int) ≤ 2 * (a : Int) + 1 := by omega
      have Y := hide (Fall.bottom (unhide HR) (by omega))
      clear hls hr hp hq hb
      go_wp2_with fail
      try simp only [Exit.inBlock, Exit.then]
      refine bodyPost_ret (results_none rfl _ _ _) rfl ?_
      exact ⟨rfl, M, unhide HLS, unhide Y, unhide HP, unhide HQ⟩
    · have hb2 : ¬ (n : Int) ≤ 2 * (a : Int) + 1 := by omega
      have hb3 : 2 * (a : Int) + 1 < (n : Int) := by omega
      have j0 : (0 : Int) ≤ 2 * (a : Int) + 1 := by omega
      have j1 : (2 * (a : Int) + 1).toNat = 2 * a + 1 := by omega
      have j2 : (a : Int) < (n : Int) := by omega
      have hwr : IntKind.i64.wrap (2 * (a : Int) + 1 + 1) = 2 * (a : Int) + 2 := by rw [IntKind.wrap_i64]; omega
      obtain ⟨xa, hxa⟩ : ∃ z, it M a = z := ⟨_, rfl⟩
      have ca := hls.cell a (by omega)
      rw [hxa] at ca
      obtain ⟨xl, hxl⟩ : ∃ z, it M (2 * a + 1) = z := ⟨_, rfl⟩
      have cl := hls.cell (2 * a + 1) (by omega)
      rw [hxl] at cl
      by_cases hr2 : 2 * a + 2 < n
      · obtain ⟨xr, hxr⟩ : ∃ z, it M (2 * a + 2) = z := ⟨_, rfl⟩
        have cr := hls.cell (2 * a + 2) (by omega)
        rw [hxr] at cr
        have k0 : 2 * (a : Int) + 2 < (n : Int) := by omega
        have k1 : (0 : Int) ≤ 2 * (a : Int) + 2 := by omega
        have k2 : (2 * (a : Int) + 2).toNat = 2 * a + 2 := by omega
        by_cases ht : xr < xl
        · have LE := hide (Lesser.right (by omega) (by rw [hxr, hxl]; exact ht) : Lesser M a (2 * a + 2))
          clear hls hr hp hq hb
          by_cases hc : xa ≤ xr
          · have Y := hide (Fall.done (unhide HR) (unhide LE) (by rw [hxa, hxr]; exact hc))
            go_wp2_with fail
            go_quiet (fail)
            go_wp2_with fail
            go_quiet (fail)
            go_wp2_with fail
            try simp only [Exit.inBlock, Exit.then]
            refine bodyPost_ret (results_none rfl _ _ _) rfl ?_
            exact ⟨rfl, M, (unhide HLS).ext (by first | exact ((Ext.refl _).drewN _).drewN _ | exact (Ext.refl _).drewN _), unhide Y, unhide HP, by first | exact ((unhide HQ).drewN _).drewN _ | exact (unhide HQ).drewN _⟩
          · have hc2 : decide (xa ≤ xr) = false := decide_eq_false hc
            have hc3 : xr < xa := by omega
            have R2 := hide (Fall.down (unhide HR) (unhide LE) (by rw [hxa, hxr]; exact hc3))
            have sl : 2 * a + 2 < M.length := (unhide LE).2.1
            have ez : ((2 * a + 2 : Nat) : Int) = 2 * (a : Int) + 2 := by omega
            clear hc hc3
            go_wp2_with fail
            go_quiet (fail)
            go_wp2_with fail
            go_quiet (fail)
            go_wp2_with fail
            refine (swap_lsI _ base bq oq g n cap a (2 * a + 2) (a : Int) (2 * (a : Int) + 2) M rfl ez.symm ((unhide HLS).ext (by first | exact ((Ext.refl _).drewN _).drewN _ | exact (Ext.refl _).drewN _)) (by omega) (by omega)).mono ?_
            rintro e w2 ⟨rfl, ls2, q2⟩
            have LS2 := hide ls2
            have QF2 := hide (QFr.trans (by first | exact ((unhide HQ).drewN _).drewN _ | exact (unhide HQ).drewN _) q2)
            clear ls2 q2
            go_wp2_with fail
            go_roundw
            case rel => exact ⟨2 * a + 2, swp M a (2 * a + 2), by omega, by go_num, by rw [swp_len]; omega, unhide LS2, unhide R2, (swp_perm M a (2 * a + 2) (by omega) sl).trans (unhide HP), unhide QF2⟩
            case measure => simp [intOf]; omega
        · have LE := hide (Lesser.left (by omega) (fun _ => by rw [hxr, hxl]; omega) : Lesser M a (2 * a + 1))
          have ht2 : decide (xr < xl) = false := decide_eq_false ht
          clear hls hr hp hq hb ht
          by_cases hc : xa ≤ xl
          · have Y := hide (Fall.done (unhide HR) (unhide LE) (by rw [hxa, hxl]; exact hc))
            go_wp2_with fail
            go_quiet (fail)
            go_wp2_with fail
            go_quiet (fail)
            go_wp2_with fail
            try simp only [Exit.inBlock, Exit.then]
            refine bodyPost_ret (results_none rfl _ _ _) rfl ?_
            exact ⟨rfl, M, (unhide HLS).ext (by first | exact ((Ext.refl _).drewN _).drewN _ | exact (Ext.refl _).drewN _), unhide Y, unhide HP, by first | exact ((unhide HQ).drewN _).drewN _ | exact (unhide HQ).drewN _⟩
          · have hc2 : decide (xa ≤ xl) = false := decide_eq_false hc
            have hc3 : xl < xa := by omega
            have R2 := hide (Fall.down (unhide HR) (unhide LE) (by rw [hxa, hxl]; exact hc3))
            have sl : 2 * a + 1 < M.length := (unhide LE).2.1
            have ez : ((2 * a + 1 : Nat) : Int) = 2 * (a : Int) + 1 := by omega
            clear hc hc3
            go_wp2_with fail
            go_quiet (fail)
            go_wp2_with fail
            go_quiet (fail)
            go_wp2_with fail
            refine (swap_lsI _ base bq oq g n cap a (2 * a + 1) (a : Int) (2 * (a : Int) + 1) M rfl ez.symm ((unhide HLS).ext (by first | exact ((Ext.refl _).drewN _).drewN _ | exact (Ext.refl _).drewN _)) (by omega) (by omega)).mono ?_
            rintro e w2 ⟨rfl, ls2, q2⟩
            have LS2 := hide ls2
            have QF2 := hide (QFr.trans (by first | exact ((unhide HQ).drewN _).drewN _ | exact (unhide HQ).drewN _) q2)
            clear ls2 q2
            go_wp2_with fail
            go_roundw
            case rel => exact ⟨2 * a + 1, swp M a (2 * a + 1), by omega, by go_num, by rw [swp_len]; omega, unhide LS2, unhide R2, (swp_perm M a (2 * a + 1) (by omega) sl).trans (unhide HP), unhide QF2⟩
            case measure => simp [intOf]; omega
      · have LE := hide (Lesser.left (by omega) (fun q => by omega) : Lesser M a (2 * a + 1))
        have hr3 : decide (2 * (a : Int) + 2 < (n : Int)) = false := decide_eq_false (by omega)
        clear hls hr hp hq hb hr2
        by_cases hc : xa ≤ xl
        · have Y := hide (Fall.done (unhide HR) (unhide LE) (by rw [hxa, hxl]; exact hc))
          go_wp2_with fail
          go_quiet (fail)
          go_wp2_with fail
          go_quiet (fail)
          go_wp2_with fail
          try simp only [Exit.inBlock, Exit.then]
          refine bodyPost_ret (results_none rfl _ _ _) rfl ?_
          exact ⟨rfl, M, (unhide HLS).ext (by first | exact ((Ext.refl _).drewN _).drewN _ | exact (Ext.refl _).drewN _), unhide Y, unhide HP, by first | exact ((unhide HQ).drewN _).drewN _ | exact (unhide HQ).drewN _⟩
        · have hc2 : decide (xa ≤ xl) = false := decide_eq_false hc
          have hc3 : xl < xa := by omega
          have R2 := hide (Fall.down (unhide HR) (unhide LE) (by rw [hxa, hxl]; exact hc3))
          have sl : 2 * a + 1 < M.length := (unhide LE).2.1
          have ez : ((2 * a + 1 : Nat) : Int) = 2 * (a : Int) + 1 := by omega
          clear hc hc3
          go_wp2_with fail
          go_quiet (fail)
          go_wp2_with fail
          go_quiet (fail)
          go_wp2_with fail
          refine (swap_lsI _ base bq oq g n cap a (2 * a + 1) (a : Int) (2 * (a : Int) + 1) M rfl ez.symm ((unhide HLS).ext (by first | exact ((Ext.refl _).drewN _).drewN _ | exact (Ext.refl _).drewN _)) (by omega) (by omega)).mono ?_
          rintro e w2 ⟨rfl, ls2, q2⟩
          have LS2 := hide ls2
          have QF2 := hide (QFr.trans (by first | exact ((unhide HQ).drewN _).drewN _ | exact (unhide HQ).drewN _) q2)
          clear ls2 q2
          go_wp2_with fail
          go_roundw
          case rel => exact ⟨2 * a + 1, swp M a (2 * a + 1), by omega, by go_num, by rw [swp_len]; omega, unhide LS2, unhide R2, (swp_perm M a (2 * a + 1) (by omega) sl).trans (unhide HP), unhide QF2⟩
          case measure => simp [intOf]; omega
end Go.Proofs.YtbcmjcomdjdjaaaGreat

namespace Go.Proofs.YtbcmjcomdjdjaaaGreat
open Go.RowKit
attribute [local go_sem ↓] Go.wp_at_zero Go.wp_at_succ

theorem take_none (w : World) (base bq oq : Nat) (v : Value) (L : List Int) (h : LsAt w base bq oq v L) (hn : L.length = 0) :
    Calls Tryz.prog 160 #[.pointer (some ⟨bq, oq, none⟩)] w fun e w' => e = .returned (.tuple #[.int .i64 0, .bool false]) ∧ w' = w := by
  obtain ⟨ad, cap, rfl⟩ := h.empty hn
  have hd := h.hd
  clear h
  go_enter Tryz.func160, Tryz.ntmps160
  go_wp2_with fail
  refine (first_none _ bq oq ad cap hd).mono ?_
  rintro e w1 ⟨rfl, rfl⟩
  go_wp2_with fail
  go_ret2
  exact ⟨rfl, rfl⟩

/-- the last place cut off -/
theorem LsAt.cut {w : World} {base bq oq g n cap : Nat} {L : List Int} (h : LsAt w base bq oq (.slice (some ⟨g, 0, none⟩) (n + 1) cap) L) :
    LsAt (w.setCell ⟨bq, oq, none⟩ (.slice (some ⟨g, 0, none⟩) n cap)) base bq oq (.slice (some ⟨g, 0, none⟩) n cap) (L.take n) ∧
    QFr bq oq (.slice (some ⟨g, 0, none⟩) (n + 1) cap) (.slice (some ⟨g, 0, none⟩) n cap) w (w.setCell ⟨bq, oq, none⟩ (.slice (some ⟨g, 0, none⟩) n cap)) := by
  have hne : g ≠ bq := fun e => h.apart (by rw [← e]; rfl)
  obtain ⟨hl, hc⟩ := h.len
  have hsp : L = L.take n ++ L.drop n := (List.take_append_drop n L).symm
  have hlen : (L.take n).length = n := by simp; omega
  have how : w.ownsRow base 3 1 (.slice (some ⟨g, 0, none⟩) n cap) n ((L.take n).map iv) := by
    refine ownsRow_pop (last := (L.drop n).map iv) (by simp; omega) ?_
    have := h.own
    rw [← hl] at this
    rw [← List.map_append, List.take_append_drop]
    exact this
  refine ⟨⟨World.cell?_setCell_same _ _ _ h.hd, by rw [World.frozen?_setCell]; exact h.hf, ?_, fun e => hne (by simpa [Value.ownBlock] using e)⟩, ⟨rfl, rfl, rfl, by simp [World.setCell], fun k _ h1 _ => Below.heap_setCell _ _ _ _ (show k ≠ bq from h1), fun o ho => cell_other _ (.inr (fun e => ho e.symm)), fun o => by rw [World.frozen?_setCell], .inl rfl⟩⟩
  rw [hlen]
  refine ownsRow_of_block how (fun k hk => Below.heap_setCell _ _ _ _ ?_)
  simp [Value.ownBlock] at hk
  show k ≠ bq
  omega

set_option maxRecDepth 100000 in
set_option maxHeartbeats 2000000 in
theorem take_some (w : World) (base bq oq : Nat) (v : Value) (L : List Int) (h : LsAt w base bq oq v L) (hn : 0 < L.length) (hO : Ho L) (hm : L.length ≤ 100000) :
    Calls Tryz.prog 160 #[.pointer (some ⟨bq, oq, none⟩)] w fun e w' => e = .returned (.tuple #[.int .i64 (it L 0), .bool true]) ∧ ∃ v' L', LsAt w' base bq oq v' L' ∧ Ho L' ∧ (it L 0 :: L').Perm L ∧ QFr bq oq v v' w w' := by
  obtain ⟨g, cap, rfl, hg⟩ := h.form hn
  obtain ⟨n, hn2⟩ : ∃ n, L.length = n + 1 := ⟨L.length - 1, by omega⟩
  rw [hn2] at h ⊢
  have hlc := h.len.2
  have hd := h.hd
  obtain ⟨x0, hx0⟩ : ∃ z, it L 0 = z := ⟨_, rfl⟩
  have c0 := h.cell 0 hn
  rw [hx0] at c0 ⊢
  have HL := hide h
  have HF := hide (Fall.start hO)
  have HPm := hide (cutl_perm L hn)
  have hn3 : n ≤ 100000 := by omega
  have hcl : cutl L = (swp L 0 n).take n := by unfold cutl; rw [hn2]; simp
  have HCL := hide hcl
  have HN := hide hn2
  have HX := hide hx0
  have i0 : (0 : Int) ≤ (n : Int) := by omega
  have i1 : (n : Int) ≤ (cap : Int) := by omega
  clear h hO hn hm hcl hn2 hx0
  go_enter Tryz.func160, Tryz.ntmps160
  go_wp2_with fail
  refine (first_some _ bq oq g 0 (n + 1) cap x0 (by omega) hd c0).mono ?_
  rintro e w1 ⟨rfl, rfl⟩
  go_wp2_with fail
  refine (swap_lsI _ base bq oq g (n + 1) cap 0 n 0 (n : Int) L rfl rfl (unhide HL) (by omega) (by omega)).mono ?_
  rintro e w2 ⟨rfl, ls2, q2⟩
  have LS2 := hide ls2
  have hd2 := ls2.hd
  have hf2 := ls2.hf
  have Q2 := hide q2
  clear ls2 q2 hd c0
  go_wp2_with fail
  have LC := (unhide LS2).cut
  rw [← unhide HCL] at LC
  refine (sink_ls _ base bq oq g n cap (cutl L) LC.1 (unhide HF) hn3).mono ?_
  rintro e w3 ⟨rfl, L3, ls3, ho3, p3, q3⟩
  have FIN := hide (show LsAt w3 base bq oq (.slice (some ⟨g, 0, none⟩) n cap) L3 ∧ Ho L3 ∧ (x0 :: L3).Perm L ∧ QFr bq oq (.slice (some ⟨g, 0, none⟩) (n + 1) cap) (.slice (some ⟨g, 0, none⟩) n cap) w1 w3 from
    ⟨ls3, ho3, by have := unhide HPm; rw [unhide HX] at this; exact (p3.cons x0).trans this, ((unhide Q2).trans LC.2).trans q3⟩)
  clear LC ls3 ho3 p3 q3
  go_wp2_with fail
  go_ret2
  exact ⟨rfl, _, L3, unhide FIN⟩

set_option maxRecDepth 100000 in
set_option maxHeartbeats 2000000 in
theorem drain_ls (w : World) (base bq oq : Nat) (v : Value) (L : List Int) (h : LsAt w base bq oq v L) (hO : Ho L) (hm : L.length ≤ 100000) :
    Calls Tryz.prog 132 #[.pointer (some ⟨bq, oq, none⟩)] w fun e w' => ∃ r : Bool, Hid (e = .returned (.bool r)) ∧ (r = true ↔ L.Nodup) ∧ ∃ v', QFr bq oq v v' w w' := by
  have HL := hide h
  have HO := hide hO
  clear h hO
  go_enter Tryz.func132, Tryz.ntmps132
  go_wp2_with fail
  go_loopg [3] (L.length + 1) (fun gh sd wr => ∃ (d : Bool) (v1 : Value) (M : List Int), sd = .bool d ∧ M.length + 1 ≤ gh ∧ M.length ≤ L.length ∧ LsAt wr base bq oq v1 M ∧ Ho M ∧ Hid ((d = true ∧ M.Nodup) ↔ L.Nodup) ∧ QFr bq oq v v1 w wr)
  case atStart => exact ⟨true, v, L, rfl, Nat.le_refl _, Nat.le_refl _, unhide HL, unhide HO, by show _ ↔ _; simp, QFr.refl _ _ _ _⟩
  case round =>
    clear HL HO
    obtain ⟨d, v1, M, rfl, hgh, hML, hls, ho, hnd, hq⟩ := hrel
    have HLS := hide hls
    have HO := hide ho
    have HQ := hide hq
    clear hls ho hq
    by_cases h0 : M.length = 0
    · have E := hide (show d = true ↔ L.Nodup by
        have := unhide hnd
        rw [List.length_eq_zero_iff.1 h0] at this
        simpa using this)
      clear hnd
      go_wp2_with fail
      refine (take_none _ base bq oq v1 M (unhide HLS) h0).mono ?_
      rintro e w1 ⟨rfl, rfl⟩
      go_wp2_with fail
      go_ret
      exact ⟨d, rfl, unhide E, v1, unhide HQ⟩
    · go_wp2_with fail
      refine (take_some _ base bq oq v1 M (unhide HLS) (by omega) (unhide HO) (by omega)).mono ?_
      rintro e w1 ⟨rfl, v2, M2, ls2, ho2, p2, q2⟩
      have hlen : M2.length + 1 = M.length := by have := p2.length_eq; simpa using this
      have LS2 := hide ls2
      have HO2 := hide ho2
      have P2 := hide p2
      have Q2 := hide ((unhide HQ).trans q2)
      clear q2 ho2 p2
      by_cases h2 : M2.length = 0
      · obtain ⟨ad, cap2, rfl⟩ := ls2.empty h2
        have hd2 := ls2.hd
        have S := hide (show (d = true ∧ M2.Nodup) ↔ L.Nodup by
          have e1 := unhide hnd
          rw [drain_same (unhide P2) (unhide HO) rfl (unhide HO2) (.inl (List.length_eq_zero_iff.1 h2))] at e1
          exact e1)
        clear ls2 hnd
        go_wp2_with fail
        refine (first_none _ bq oq ad cap2 hd2).mono ?_
        rintro e w2 ⟨rfl, rfl⟩
        go_wp2_with fail
        go_roundg (M2.length + 1)
        case rel => exact ⟨d, _, M2, rfl, Nat.le_refl _, by omega, unhide LS2, unhide HO2, unhide S, unhide Q2⟩
        case measure => omega
      · obtain ⟨g2, cap2, rfl, hg2⟩ := ls2.form (by omega)
        have hd2 := ls2.hd
        obtain ⟨y0, hy0⟩ : ∃ z, it M2 0 = z := ⟨_, rfl⟩
        obtain ⟨x0, hx0⟩ : ∃ z, it M 0 = z := ⟨_, rfl⟩
        have cy := ls2.cell 0 (by omega)
        rw [hy0] at cy
        rw [hx0]
        cases t : (y0 == x0)
        · have S := hide (show (d = true ∧ M2.Nodup) ↔ L.Nodup by
            have e1 := unhide hnd
            have t2 : ¬ y0 = x0 := by simpa using t
            rw [drain_same (unhide P2) (unhide HO) rfl (unhide HO2) (.inr (by rw [hy0, hx0]; exact t2))] at e1
            exact e1)
          clear ls2 hnd hy0 hx0
          go_wp2_with fail
          refine (first_some _ bq oq g2 0 M2.length cap2 y0 (by omega) hd2 cy).mono ?_
          rintro e w2 ⟨rfl, rfl⟩
          go_wp2_with fail
          go_roundg (M2.length + 1)
          case rel => exact ⟨d, _, M2, rfl, Nat.le_refl _, by omega, unhide LS2, unhide HO2, unhide S, unhide Q2⟩
          case measure => omega
        · have S := hide (show (false = true ∧ M2.Nodup) ↔ L.Nodup by
            have e1 := unhide hnd
            have t2 : y0 = x0 := by simpa using t
            have := drain_twice (unhide P2) (by omega) (by rw [hy0, hx0]; exact t2)
            constructor
            · intro f; simp at f
            · intro f; exact (this (e1.2 f).2).elim)
          clear ls2 hnd hy0 hx0
          go_wp2_with fail
          refine (first_some _ bq oq g2 0 M2.length cap2 y0 (by omega) hd2 cy).mono ?_
          rintro e w2 ⟨rfl, rfl⟩
          go_wp2_with fail
          go_roundg (M2.length + 1)
          case rel => exact ⟨false, _, M2, rfl, Nat.le_refl _, by omega, unhide LS2, unhide HO2, unhide S, unhide Q2⟩
          case measure => omega
end Go.Proofs.YtbcmjcomdjdjaaaGreat
