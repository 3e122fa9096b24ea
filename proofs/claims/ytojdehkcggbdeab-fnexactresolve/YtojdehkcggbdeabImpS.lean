import Derived.Test.YtojdehkcggbdeabImpB6
import Derived.Test.YtojdehkcggbdeabImpO
import Derived.Test.YtojdehkcggbdeabTo
import Derived.BigRegion
namespace Go.Proofs.Ytojdehkcggbdeab
open Go.RowKit
attribute [local go_sem ↓] Go.wp_at_zero Go.wp_at_succ

theorem infoNodes : (Try.prog.info? 84).map (fun i => (i.zero, i.size, i.bytes)) = some (some (.agg #[iv 0, .pointer none]), 2, 16) := by kernel_rfl
theorem mkNodes (n : Nat) (hn : n ≤ 1048576) (w : World) : ∃ z, (Instr.makeSlice 98 (.int .i64 n) (.int .i64 n)).run Try.prog w = .ok (.slice (some ⟨w.heap.size, 0, none⟩) n n) (w.alloc (.cells (madeCells z (n * 2)) 84)) := by
  obtain ⟨i0, hi, hz0, hz1, hz2⟩ := info_parts infoNodes
  have h := run_make (P := Try.prog) w 98 84 i0 _ Try.underlying98 hi hz0 .i64 .i64 n n (by omega) (Int.le_refl _) (by rw [hz2]; omega) (by omega)
  rw [hz1] at h
  simp only [Int.toNat_natCast] at h
  exact ⟨_, h⟩

/-- a heap in the first thirteen cells of a block -/
theorem hat_of (x : Hp) (w : World) (b : Nat) {ar : Option Addr} {kr : Nat} {ac : Option Addr} {kc : Nat} {ag : Option Addr} {kg : Nat}
    (hc : ∀ o v, #[iv x.room, iv x.used, iv x.born, .slice ar x.regs.length kr, .slice ac x.cells.length kc, iv x.phase, iv x.hand, iv x.sub, .slice ag x.gray.length kg, iv x.per, iv x.start, iv x.rounds, iv x.forced][o]? = some v → w.cell? ⟨b, o, none⟩ = some v)
    (hR : SlW w (.slice ar x.regs.length kr) x.regs) (hC : SlC w (.slice ac x.cells.length kc) x.cells) (hG : SlI w (.slice ag x.gray.length kg) x.gray) : HAt w b x ar kr ac kc ag kg := by
  obtain ⟨a1, k1, v1, l1, R⟩ := hR
  obtain ⟨a2, k2, v2, l2, C⟩ := hC
  obtain ⟨a3, k3, v3, l3, G⟩ := hG
  simp only [Value.slice.injEq] at v1 v2 v3
  obtain ⟨rfl, _, rfl⟩ := v1
  obtain ⟨rfl, _, rfl⟩ := v2
  obtain ⟨rfl, _, rfl⟩ := v3
  refine ⟨hc 0 _ rfl, hc 1 _ rfl, hc 2 _ rfl, hc 3 _ rfl, hc 4 _ rfl, hc 5 _ rfl, hc 6 _ rfl, hc 7 _ rfl, hc 8 _ rfl, hc 9 _ rfl, hc 10 _ rfl, hc 11 _ rfl, hc 12 _ rfl, l1, l2, l3, R, ?_, G⟩
  intro i hi
  obtain ⟨b', o, a, p⟩ := C i hi
  rw [Hp.c_eq] at p
  exact ⟨b', o, a, p⟩

/-- the view as 'open' makes it, the nodes of k places done, the free ones among j places put -/
structure Opn (w wr : World) (x : Hp) (bx b bn k j : Nat) (ar : Option Addr) (kr : Nat) (ac : Option Addr) (kc : Nat) (ag : Option Addr) (kg : Nat) (vf : Value) (F : List Int) : Prop where
  e : Ext w wr
  hb : w.heap.size ≤ bx ∧ bx < b ∧ b < bn ∧ bn < wr.heap.size
  x4 : wr.cell? ⟨bx, 4, none⟩ = some (.slice ac x.cells.length kc)
  c : ∀ o v, #[iv x.room, iv x.used, iv x.born, .slice ar x.regs.length kr, .slice ac x.cells.length kc, iv x.phase, iv x.hand, iv x.sub, .slice ag x.gray.length kg, iv x.per, iv x.start, iv x.rounds, iv x.forced][o]? = some v → wr.cell? ⟨b, o, none⟩ = some v
  n13 : wr.cell? ⟨b, 13, none⟩ = some (.slice (some ⟨bn, 0, none⟩) x.cells.length x.cells.length)
  n : ∀ i, i < k → ∃ bc oc, ac = some ⟨bc, oc, none⟩ ∧ wr.cell? ⟨bn, i * 2, none⟩ = some (iv i) ∧ wr.cell? ⟨bn, i * 2 + 1, none⟩ = some (.pointer (some ⟨bc, oc + i * 8, none⟩))
  o : ∀ j, j < x.cells.length * 2 → Open wr bn j
  f : LsAt wr (bn + 1) b 14 vf F
  fo : Ho F
  fp : F.Perm (frees x j)

theorem Opn.len {w wr : World} {x : Hp} {bx b bn k j : Nat} {ar : Option Addr} {kr : Nat} {ac : Option Addr} {kc : Nat} {ag : Option Addr} {kg : Nat} {vf : Value} {F : List Int} (h : Opn w wr x bx b bn k j ar kr ac kc ag kg vf F) : F.length ≤ j := by
  rw [h.fp.length_eq]; exact valsTo_len _ _ _
theorem Opn.same {w wr w' : World} {x : Hp} {bx b bn k j : Nat} {ar : Option Addr} {kr : Nat} {ac : Option Addr} {kc : Nat} {ag : Option Addr} {kg : Nat} {vf : Value} {F : List Int} (h : Opn w wr x bx b bn k j ar kr ac kc ag kg vf F) (h1 : w'.heap = wr.heap) (h2 : w'.os = wr.os) (h3 : w'.tape = wr.tape) (h4 : w'.output = wr.output) :
    Opn w w' x bx b bn k j ar kr ac kc ag kg vf F := by
  have e : Ext wr w' := ⟨h2, h3, h4, by rw [h1]; exact Nat.le_refl _, fun k _ => by rw [h1]⟩
  exact ⟨h.e.trans e, ⟨h.hb.1, h.hb.2.1, h.hb.2.2.1, by rw [h1]; exact h.hb.2.2.2⟩, e.keep h.x4, fun o v q => e.keep (h.c o v q), e.keep h.n13, fun i hi => let ⟨bc, oc, a, p, q⟩ := h.n i hi; ⟨bc, oc, a, e.keep p, e.keep q⟩, fun j hj => (h.o j hj).ext e, h.f.ext e, h.fo, h.fp⟩

/-- a node laid -/
theorem Opn.lay {w wr : World} {x : Hp} {bx b bn k : Nat} {ar : Option Addr} {kr : Nat} {ac : Option Addr} {kc : Nat} {ag : Option Addr} {kg : Nat} {vf : Value} {F : List Int} {bc oc : Nat} (h : Opn w wr x bx b bn k k ar kr ac kc ag kg vf F) (hac : ac = some ⟨bc, oc, none⟩) (hk : k < x.cells.length) :
    Opn w ((wr.setCell ⟨bn, k * 2, none⟩ (iv k)).setCell ⟨bn, k * 2 + 1, none⟩ (.pointer (some ⟨bc, oc + k * 8, none⟩))) x bx b bn (k + 1) k ar kr ac kc ag kg vf F := by
  obtain ⟨hb1, hb2, hb3, hb4⟩ := h.hb
  have o1 := h.o (k * 2) (by omega)
  have o2 := h.o (k * 2 + 1) (by omega)
  have far : ∀ B O, B ≠ bn → ((wr.setCell ⟨bn, k * 2, none⟩ (iv k)).setCell ⟨bn, k * 2 + 1, none⟩ (.pointer (some ⟨bc, oc + k * 8, none⟩))).cell? ⟨B, O, none⟩ = wr.cell? ⟨B, O, none⟩ := fun B O hB => by
    rw [cell_other _ (.inl (fun e => hB e.symm)), cell_other _ (.inl (fun e => hB e.symm))]
  have farb : ∀ B : Nat, B ≠ bn → ((wr.setCell ⟨bn, k * 2, none⟩ (iv k)).setCell ⟨bn, k * 2 + 1, none⟩ (.pointer (some ⟨bc, oc + k * 8, none⟩))).heap[B]? = wr.heap[B]? := fun B hB => by
    rw [Below.heap_setCell _ _ _ _ (show B ≠ bn from hB), Below.heap_setCell _ _ _ _ (show B ≠ bn from hB)]
  refine ⟨(h.e.setCell (by show w.heap.size ≤ bn; omega) _).setCell (by show w.heap.size ≤ bn; omega) _, ⟨hb1, hb2, hb3, by simpa [World.setCell] using hb4⟩, by rw [far _ _ (by omega)]; exact h.x4, fun o v q => by rw [far _ _ (by omega)]; exact h.c o v q, by rw [far _ _ (by omega)]; exact h.n13, fun i hi => ?_, fun j hj => ((h.o j hj).set _ _).set _ _, ⟨by rw [far _ _ (by omega)]; exact h.f.hd, ?_, ?_, h.f.apart⟩, h.fo, h.fp⟩
  · by_cases e : i = k
    · subst e
      refine ⟨bc, oc, hac, ?_, (o2.set _ _).same _⟩
      rw [cell_other _ (.inr (by omega))]
      exact o1.same _
    · obtain ⟨bc', oc', a, p, q⟩ := h.n i (by omega)
      refine ⟨bc', oc', a, ?_, ?_⟩
      · rw [cell_other _ (.inr (by omega)), cell_other _ (.inr (by omega))]; exact p
      · rw [cell_other _ (.inr (by omega)), cell_other _ (.inr (by omega))]; exact q
  · rw [World.frozen?_setCell, World.frozen?_setCell]; exact h.f.hf
  · exact ownsRow_of_block h.f.own (fun B hB => farb B (by have := (h.f.rlt B hB).1; omega))

theorem Opn.skip {w wr : World} {x : Hp} {bx b bn k : Nat} {ar : Option Addr} {kr : Nat} {ac : Option Addr} {kc : Nat} {ag : Option Addr} {kg : Nat} {vf : Value} {F : List Int} (h : Opn w wr x bx b bn (k + 1) k ar kr ac kc ag kg vf F) (hs : isSt x 0 k = false) :
    Opn w wr x bx b bn (k + 1) (k + 1) ar kr ac kc ag kg vf F :=
  ⟨h.e, h.hb, h.x4, h.c, h.n13, h.n, h.o, h.f, h.fo, by unfold frees; rw [valsTo_no _ _ _ hs]; exact h.fp⟩

theorem Opn.put {w wr w' : World} {x : Hp} {bx b bn k : Nat} {ar : Option Addr} {kr : Nat} {ac : Option Addr} {kc : Nat} {ag : Option Addr} {kg : Nat} {vf v' : Value} {F F' : List Int} (h : Opn w wr x bx b bn (k + 1) k ar kr ac kc ag kg vf F) (hs : isSt x 0 k = true)
    (l : LsAt w' (bn + 1) b 14 v' F') (o : Ho F') (p : F'.Perm ((k : Int) :: F)) (q : QFr b 14 vf v' wr w') : Opn w w' x bx b bn (k + 1) (k + 1) ar kr ac kc ag kg v' F' := by
  obtain ⟨hb1, hb2, hb3, hb4⟩ := h.hb
  have hv : ∀ B, B ≤ bn → vf.ownBlock ≠ some B := fun B hB e => by have := (h.f.rlt B e).1; omega
  refine ⟨q.ext h.e (by omega) (fun B hB => by have := (h.f.rlt B hB).1; omega), ⟨hb1, hb2, hb3, Nat.lt_of_lt_of_le hb4 q.size⟩, q.cells h.x4 (by omega) (hv _ (by omega)), fun o v hq => ?_, by rw [q.hdr 13 (by omega)]; exact h.n13, fun i hi => ?_, fun j hj => ?_, l, o, ?_⟩
  · have ho : o < 13 := by
      rcases Nat.lt_or_ge o 13 with h' | h'
      · exact h'
      · rw [Array.getElem?_eq_none (by simpa using h')] at hq; cases hq
    rw [q.hdr o (by omega)]; exact h.c o v hq
  · obtain ⟨bc, oc, a, p1, p2⟩ := h.n i hi
    exact ⟨bc, oc, a, q.cells p1 (by omega) (hv _ (by omega)), q.cells p2 (by omega) (hv _ (by omega))⟩
  · obtain ⟨⟨v, h1⟩, h2⟩ := h.o j hj
    refine ⟨⟨v, q.cells h1 (by omega) (hv _ (by omega))⟩, ?_⟩
    rw [World.frozen?_of_block (w := wr) (a := ⟨bn, j, none⟩) (q.block bn hb4 (by omega) (hv _ (by omega)))]; exact h2
  · unfold frees
    rw [valsTo_yes _ _ _ hs]
    exact (p.trans (h.fp.cons _)).trans (List.perm_append_singleton _ _).symm

theorem Opn.done {w wr : World} {x : Hp} {bx b bn : Nat} {ar : Option Addr} {kr : Nat} {ac : Option Addr} {kc : Nat} {ag : Option Addr} {kg : Nat} {vf : Value} {F : List Int} (h : Opn w wr x bx b bn x.cells.length x.cells.length ar kr ac kc ag kg vf F)
    (hR : SlW w (.slice ar x.regs.length kr) x.regs) (hC : SlC w (.slice ac x.cells.length kc) x.cells) (hG : SlI w (.slice ag x.gray.length kg) x.gray) :
    VAt wr b x ar kr ac kc ag kg (some ⟨bn, 0, none⟩) x.cells.length ∧ FAt wr b x (bn + 1) vf F :=
  ⟨⟨hat_of x wr b h.c (SlW.ext h.e hR) (SlC.ext h.e hC) (SlI.ext h.e hG), h.n13, fun i hi => let ⟨bc, oc, a, p, q⟩ := h.n i hi; ⟨bn, 0, bc, oc, rfl, a, by simpa using p, by simpa using q⟩⟩, h.f, h.fo, h.fp⟩
end Go.Proofs.Ytojdehkcggbdeab
