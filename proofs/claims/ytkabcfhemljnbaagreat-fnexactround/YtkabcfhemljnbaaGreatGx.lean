import Derived.Test.YtkabcfhemljnbaaGreatImpB6
import Derived.Test.YtkabcfhemljnbaaGreatImpO
import Derived.Test.YtkabcfhemljnbaaGreatLm
import Derived.BigRegion
import Derived.Test.YtkabcfhemljnbaaGreatCpd
import Derived.Test.YtkabcfhemljnbaaGreatIn
import Derived.Lib.AppendZerosOnto
import Derived.Lib.Walk
namespace Go.Proofs.YtkabcfhemljnbaaGreat
open Go.RowKit
attribute [local go_sem ↓] Go.wp_at_zero Go.wp_at_succ

theorem infoNodes : (Tryz.prog.info? 99).map (fun i => (i.zero, i.size, i.bytes)) = some (some (.agg #[iv 0, .pointer none]), 2, 16) := by kernel_rfl
theorem mkNodes (n : Nat) (hn : n ≤ 1048576) (w : World) : ∃ z, (Instr.makeSlice 92 (.int .i64 n) (.int .i64 n)).run Tryz.prog w = .ok (.slice (some ⟨w.heap.size, 0, none⟩) n n) (w.alloc (.cells (madeCells z (n * 2)) 99)) := by
  obtain ⟨i0, hi, hz0, hz1, hz2⟩ := info_parts infoNodes
  have h := run_make (P := Tryz.prog) w 92 99 i0 _ Tryz.underlying92 hi hz0 .i64 .i64 n n (by omega) (Int.le_refl _) (by rw [hz2]; omega) (by omega)
  rw [hz1] at h
  simp only [Int.toNat_natCast] at h
  exact ⟨_, h⟩

/-- a heap in the first thirteen cells of a block -/
theorem hat_of (x : Hp) (w : World) (b : Nat) {ar : Option Addr} {kr : Nat} {ac : Option Addr} {kc : Nat} {ag : Option Addr} {kg : Nat}
    (hc : ∀ o v, #[iv x.room, iv x.used, iv x.born, .slice ar x.regs.length kr, .slice ac x.cells.length kc, iv x.phase, iv x.hand, iv x.sub, .slice ag x.gray.length kg, iv x.per, iv x.start, iv x.rounds, iv x.forced][o]? = some v → w.cell? ⟨b, o, none⟩ = some v)
    (hR : SlW w (.slice ar x.regs.length kr) x.regs) (hC : SlC w (.slice ac x.cells.length kc) x.cells) (hG : SlI w (.slice ag x.gray.length kg) x.gray) : HAt w b x ar kr ac kc ag kg := by
  obtain ⟨a1, k1, v1, l1, R⟩ := hR
  obtain ⟨a2, k2, v2, l2, C⟩ := hC
  obtain ⟨a3, k3, v3, l3, G⟩ := hG
  simp only [Value.slice.injEq] at v1 v2 v3
  obtain ⟨rfl, _, rfl⟩ := v1
  obtain ⟨rfl, _, rfl⟩ := v2
  obtain ⟨rfl, _, rfl⟩ := v3
  refine ⟨hc 0 _ rfl, hc 1 _ rfl, hc 2 _ rfl, hc 3 _ rfl, hc 4 _ rfl, hc 5 _ rfl, hc 6 _ rfl, hc 7 _ rfl, hc 8 _ rfl, hc 9 _ rfl, hc 10 _ rfl, hc 11 _ rfl, hc 12 _ rfl, l1, l2, l3, R, ?_, G⟩
  intro i hi
  obtain ⟨b', o, a, p⟩ := C i hi
  rw [Hp.c_eq] at p
  exact ⟨b', o, a, p⟩

/-- the view as 'open' makes it, the nodes of k places done, the free ones among j places put -/
structure Opn (w wr : World) (x : Hp) (bx b bn k j : Nat) (ar : Option Addr) (kr : Nat) (ac : Option Addr) (kc : Nat) (ag : Option Addr) (kg : Nat) (vf : Value) (F : List Int) : Prop where
  e : Ext w wr
  hb : w.heap.size ≤ bx ∧ bx < b ∧ b < bn ∧ bn < wr.heap.size
  x4 : wr.cell? ⟨bx, 4, none⟩ = some (.slice ac x.cells.length kc)
  c : ∀ o v, #[iv x.room, iv x.used, iv x.born, .slice ar x.regs.length kr, .slice ac x.cells.length kc, iv x.phase, iv x.hand, iv x.sub, .slice ag x.gray.length kg, iv x.per, iv x.start, iv x.rounds, iv x.forced][o]? = some v → wr.cell? ⟨b, o, none⟩ = some v
  n13 : wr.cell? ⟨b, 13, none⟩ = some (.slice (some ⟨bn, 0, none⟩) x.cells.length x.cells.length)
  n : ∀ i, i < k → ∃ bc oc, ac = some ⟨bc, oc, none⟩ ∧ wr.cell? ⟨bn, i * 2, none⟩ = some (iv i) ∧ wr.cell? ⟨bn, i * 2 + 1, none⟩ = some (.pointer (some ⟨bc, oc + i * 8, none⟩))
  o : ∀ j, j < x.cells.length * 2 → Open wr bn j
  f : LsAt wr (bn + 1) b 14 vf F
  fo : Ho F
  fp : F.Perm (frees x j)

theorem Opn.len {w wr : World} {x : Hp} {bx b bn k j : Nat} {ar : Option Addr} {kr : Nat} {ac : Option Addr} {kc : Nat} {ag : Option Addr} {kg : Nat} {vf : Value} {F : List Int} (h : Opn w wr x bx b bn k j ar kr ac kc ag kg vf F) : F.length ≤ j := by
  rw [h.fp.length_eq]; exact valsTo_len _ _ _
theorem Opn.same {w wr w' : World} {x : Hp} {bx b bn k j : Nat} {ar : Option Addr} {kr : Nat} {ac : Option Addr} {kc : Nat} {ag : Option Addr} {kg : Nat} {vf : Value} {F : List Int} (h : Opn w wr x bx b bn k j ar kr ac kc ag kg vf F) (h1 : w'.heap = wr.heap) (h2 : w'.os = wr.os) (h3 : w'.tape = wr.tape) (h4 : w'.output = wr.output) :
    Opn w w' x bx b bn k j ar kr ac kc ag kg vf F := by
  have e : Ext wr w' := ⟨h2, h3, h4, by rw [h1]; exact Nat.le_refl _, fun k _ => by rw [h1]⟩
  exact ⟨h.e.trans e, ⟨h.hb.1, h.hb.2.1, h.hb.2.2.1, by rw [h1]; exact h.hb.2.2.2⟩, e.keep h.x4, fun o v q => e.keep (h.c o v q), e.keep h.n13, fun i hi => let ⟨bc, oc, a, p, q⟩ := h.n i hi; ⟨bc, oc, a, e.keep p, e.keep q⟩, fun j hj => (h.o j hj).ext e, h.f.ext e, h.fo, h.fp⟩

/-- a node laid -/
theorem Opn.lay {w wr : World} {x : Hp} {bx b bn k : Nat} {ar : Option Addr} {kr : Nat} {ac : Option Addr} {kc : Nat} {ag : Option Addr} {kg : Nat} {vf : Value} {F : List Int} {bc oc : Nat} (h : Opn w wr x bx b bn k k ar kr ac kc ag kg vf F) (hac : ac = some ⟨bc, oc, none⟩) (hk : k < x.cells.length) :
    Opn w ((wr.setCell ⟨bn, k * 2, none⟩ (iv k)).setCell ⟨bn, k * 2 + 1, none⟩ (.pointer (some ⟨bc, oc + k * 8, none⟩))) x bx b bn (k + 1) k ar kr ac kc ag kg vf F := by
  obtain ⟨hb1, hb2, hb3, hb4⟩ := h.hb
  have o1 := h.o (k * 2) (by omega)
  have o2 := h.o (k * 2 + 1) (by omega)
  have far : ∀ B O, B ≠ bn → ((wr.setCell ⟨bn, k * 2, none⟩ (iv k)).setCell ⟨bn, k * 2 + 1, none⟩ (.pointer (some ⟨bc, oc + k * 8, none⟩))).cell? ⟨B, O, none⟩ = wr.cell? ⟨B, O, none⟩ := fun B O hB => by
    rw [cell_other _ (.inl (fun e => hB e.symm)), cell_other _ (.inl (fun e => hB e.symm))]
  have farb : ∀ B : Nat, B ≠ bn → ((wr.setCell ⟨bn, k * 2, none⟩ (iv k)).setCell ⟨bn, k * 2 + 1, none⟩ (.pointer (some ⟨bc, oc + k * 8, none⟩))).heap[B]? = wr.heap[B]? := fun B hB => by
    rw [Below.heap_setCell _ _ _ _ (show B ≠ bn from hB), Below.heap_setCell _ _ _ _ (show B ≠ bn from hB)]
  refine ⟨(h.e.setCell (by show w.heap.size ≤ bn; omega) _).setCell (by show w.heap.size ≤ bn; omega) _, ⟨hb1, hb2, hb3, by simpa [World.setCell] using hb4⟩, by rw [far _ _ (by omega)]; exact h.x4, fun o v q => by rw [far _ _ (by omega)]; exact h.c o v q, by rw [far _ _ (by omega)]; exact h.n13, fun i hi => ?_, fun j hj => ((h.o j hj).set _ _).set _ _, ⟨by rw [far _ _ (by omega)]; exact h.f.hd, ?_, ?_, h.f.apart⟩, h.fo, h.fp⟩
  · by_cases e : i = k
    · subst e
      refine ⟨bc, oc, hac, ?_, (o2.set _ _).same _⟩
      rw [cell_other _ (.inr (by omega))]
      exact o1.same _
    · obtain ⟨bc', oc', a, p, q⟩ := h.n i (by omega)
      refine ⟨bc', oc', a, ?_, ?_⟩
      · rw [cell_other _ (.inr (by omega)), cell_other _ (.inr (by omega))]; exact p
      · rw [cell_other _ (.inr (by omega)), cell_other _ (.inr (by omega))]; exact q
  · rw [World.frozen?_setCell, World.frozen?_setCell]; exact h.f.hf
  · exact ownsRow_of_block h.f.own (fun B hB => farb B (by have := (h.f.rlt B hB).1; omega))

theorem Opn.skip {w wr : World} {x : Hp} {bx b bn k : Nat} {ar : Option Addr} {kr : Nat} {ac : Option Addr} {kc : Nat} {ag : Option Addr} {kg : Nat} {vf : Value} {F : List Int} (h : Opn w wr x bx b bn (k + 1) k ar kr ac kc ag kg vf F) (hs : isSt x 0 k = false) :
    Opn w wr x bx b bn (k + 1) (k + 1) ar kr ac kc ag kg vf F :=
  ⟨h.e, h.hb, h.x4, h.c, h.n13, h.n, h.o, h.f, h.fo, by unfold frees; rw [valsTo_no _ _ _ hs]; exact h.fp⟩

theorem Opn.put {w wr w' : World} {x : Hp} {bx b bn k : Nat} {ar : Option Addr} {kr : Nat} {ac : Option Addr} {kc : Nat} {ag : Option Addr} {kg : Nat} {vf v' : Value} {F F' : List Int} (h : Opn w wr x bx b bn (k + 1) k ar kr ac kc ag kg vf F) (hs : isSt x 0 k = true)
    (l : LsAt w' (bn + 1) b 14 v' F') (o : Ho F') (p : F'.Perm ((k : Int) :: F)) (q : QFr b 14 vf v' wr w') : Opn w w' x bx b bn (k + 1) (k + 1) ar kr ac kc ag kg v' F' := by
  obtain ⟨hb1, hb2, hb3, hb4⟩ := h.hb
  have hv : ∀ B, B ≤ bn → vf.ownBlock ≠ some B := fun B hB e => by have := (h.f.rlt B e).1; omega
  refine ⟨q.ext h.e (by omega) (fun B hB => by have := (h.f.rlt B hB).1; omega), ⟨hb1, hb2, hb3, Nat.lt_of_lt_of_le hb4 q.size⟩, q.cells h.x4 (by omega) (hv _ (by omega)), fun o v hq => ?_, by rw [q.hdr 13 (by omega)]; exact h.n13, fun i hi => ?_, fun j hj => ?_, l, o, ?_⟩
  · have ho : o < 13 := by
      rcases Nat.lt_or_ge o 13 with h' | h'
      · exact h'
      · rw [Array.getElem?_eq_none (by simpa using h')] at hq; cases hq
    rw [q.hdr o (by omega)]; exact h.c o v hq
  · obtain ⟨bc, oc, a, p1, p2⟩ := h.n i hi
    exact ⟨bc, oc, a, q.cells p1 (by omega) (hv _ (by omega)), q.cells p2 (by omega) (hv _ (by omega))⟩
  · obtain ⟨⟨v, h1⟩, h2⟩ := h.o j hj
    refine ⟨⟨v, q.cells h1 (by omega) (hv _ (by omega))⟩, ?_⟩
    rw [World.frozen?_of_block (w := wr) (a := ⟨bn, j, none⟩) (q.block bn hb4 (by omega) (hv _ (by omega)))]; exact h2
  · unfold frees
    rw [valsTo_yes _ _ _ hs]
    exact (p.trans (h.fp.cons _)).trans (List.perm_append_singleton _ _).symm

theorem Opn.done {w wr : World} {x : Hp} {bx b bn : Nat} {ar : Option Addr} {kr : Nat} {ac : Option Addr} {kc : Nat} {ag : Option Addr} {kg : Nat} {vf : Value} {F : List Int} (h : Opn w wr x bx b bn x.cells.length x.cells.length ar kr ac kc ag kg vf F)
    (hR : SlW w (.slice ar x.regs.length kr) x.regs) (hC : SlC w (.slice ac x.cells.length kc) x.cells) (hG : SlI w (.slice ag x.gray.length kg) x.gray) :
    VAt wr b x ar kr ac kc ag kg (some ⟨bn, 0, none⟩) x.cells.length ∧ FAt wr b x (bn + 1) vf F :=
  ⟨⟨hat_of x wr b h.c (SlW.ext h.e hR) (SlC.ext h.e hC) (SlI.ext h.e hG), h.n13, fun i hi => let ⟨bc, oc, a, p, q⟩ := h.n i hi; ⟨bn, 0, bc, oc, rfl, a, by simpa using p, by simpa using q⟩⟩, h.f, h.fo, h.fp⟩
end Go.Proofs.YtkabcfhemljnbaaGreat

namespace Go.Proofs.YtkabcfhemljnbaaGreat
open Go.RowKit
attribute [local go_sem ↓] Go.wp_at_zero Go.wp_at_succ

theorem view_box (x : Hp) (w : World) (ar : Option Addr) (kr : Nat) (ac : Option Addr) (kc : Nat) (ag : Option Addr) (kg : Nat) :
    ∀ o v, #[iv x.room, iv x.used, iv x.born, .slice ar x.regs.length kr, .slice ac x.cells.length kc, iv x.phase, iv x.hand, iv x.sub, .slice ag x.gray.length kg, iv x.per, iv x.start, iv x.rounds, iv x.forced][o]? = some v → ((w.alloc (.cells #[iv x.room, iv x.used, iv x.born, .slice ar x.regs.length kr, .slice ac x.cells.length kc, iv x.phase, iv x.hand, iv x.sub, .slice ag x.gray.length kg, iv x.per, iv x.start, iv x.rounds, iv x.forced] 33)).alloc (.cells #[iv x.room, iv x.used, iv x.born, .slice ar x.regs.length kr, .slice ac x.cells.length kc, iv x.phase, iv x.hand, iv x.sub, .slice ag x.gray.length kg, iv x.per, iv x.start, iv x.rounds, iv x.forced, .slice none 0 0, .slice none 0 0] 96)).cell? ⟨w.heap.size + 1, o, none⟩ = some v := fun o v hv => by
  have ho : o < 13 := by
    rcases Nat.lt_or_ge o 13 with h' | h'
    · exact h'
    · rw [Array.getElem?_eq_none (by simpa using h')] at hv; cases hv
  match o, ho with
  | 0, _ | 1, _ | 2, _ | 3, _ | 4, _ | 5, _ | 6, _ | 7, _ | 8, _ | 9, _ | 10, _ | 11, _ | 12, _ => simp [go_sem]; exact Option.some.inj hv

theorem SlC.nth {w : World} {x : Hp} {ac : Option Addr} {kc : Nat} (h : SlC w (.slice ac x.cells.length kc) x.cells) (k : Nat) (hk : k < x.cells.length) : ∃ bc oc, ac = some ⟨bc, oc, none⟩ ∧ bc < w.heap.size ∧ ClAt w bc (oc + k * 8) (x.c k) := by
  obtain ⟨_, _, v, _, C⟩ := h
  obtain ⟨b', o', a, p⟩ := C k hk
  rw [Hp.c_eq] at p
  simp only [Value.slice.injEq] at v
  exact ⟨b', o', v.1.trans a, let ⟨_, p0, _⟩ := p; cell_lt p0, p⟩

/-- the view with its nodes made, none laid -/
theorem Opn.start {w w1 : World} {x : Hp} {ar : Option Addr} {kr : Nat} {ac : Option Addr} {kc : Nat} {ag : Option Addr} {kg : Nat} (z : Array Value)
    (hq : Ext ((w.alloc (.cells #[iv x.room, iv x.used, iv x.born, .slice ar x.regs.length kr, .slice ac x.cells.length kc, iv x.phase, iv x.hand, iv x.sub, .slice ag x.gray.length kg, iv x.per, iv x.start, iv x.rounds, iv x.forced] 33)).alloc (.cells #[iv x.room, iv x.used, iv x.born, .slice ar x.regs.length kr, .slice ac x.cells.length kc, iv x.phase, iv x.hand, iv x.sub, .slice ag x.gray.length kg, iv x.per, iv x.start, iv x.rounds, iv x.forced, .slice none 0 0, .slice none 0 0] 96)) w1) :
    Opn w ((w1.alloc (.cells (madeCells z (x.cells.length * 2)) 99)).setCell ⟨w.heap.size + 1, 13, none⟩ (.slice (some ⟨w1.heap.size, 0, none⟩) x.cells.length x.cells.length)) x w.heap.size (w.heap.size + 1) w1.heap.size 0 0 ar kr ac kc ag kg (.slice none 0 0) [] := by
  have xe : Ext w ((w.alloc (.cells #[iv x.room, iv x.used, iv x.born, .slice ar x.regs.length kr, .slice ac x.cells.length kc, iv x.phase, iv x.hand, iv x.sub, .slice ag x.gray.length kg, iv x.per, iv x.start, iv x.rounds, iv x.forced] 33)).alloc (.cells #[iv x.room, iv x.used, iv x.born, .slice ar x.regs.length kr, .slice ac x.cells.length kc, iv x.phase, iv x.hand, iv x.sub, .slice ag x.gray.length kg, iv x.per, iv x.start, iv x.rounds, iv x.forced, .slice none 0 0, .slice none 0 0] 96)) := ((Ext.refl w).alloc _).alloc _
  have hsz : w.heap.size + 2 ≤ w1.heap.size := by have := hq.size; simp at this; omega
  have old : ∀ o v, w1.cell? ⟨w.heap.size + 1, o, none⟩ = some v → o ≠ 13 → ((w1.alloc (.cells (madeCells z (x.cells.length * 2)) 99)).setCell ⟨w.heap.size + 1, 13, none⟩ (.slice (some ⟨w1.heap.size, 0, none⟩) x.cells.length x.cells.length)).cell? ⟨w.heap.size + 1, o, none⟩ = some v := fun o v h ho => by
    rw [cell_other _ (.inr (fun e => ho e.symm))]; exact ((Ext.refl w1).alloc _).keep h
  have c13 : (w1.alloc (.cells (madeCells z (x.cells.length * 2)) 99)).cell? ⟨w.heap.size + 1, 13, none⟩ = some (.slice none 0 0) := ((Ext.refl w1).alloc _).keep (hq.keep (by simp [go_sem]))
  have c14 : w1.cell? ⟨w.heap.size + 1, 14, none⟩ = some (.slice none 0 0) := hq.keep (by simp [go_sem])
  have f14 : w1.frozen? ⟨w.heap.size + 1, 14, none⟩ = false := by
    rw [hq.frozen (p := ⟨w.heap.size + 1, 14, none⟩) (by simp)]; simp [go_sem]
  refine ⟨((xe.trans hq).alloc _).setCell (by show _ ≤ w.heap.size + 1; omega) _, ⟨Nat.le_refl _, by omega, by omega, by simp [World.setCell]⟩, ?_, fun o v hv => old o v (hq.keep (view_box x w ar kr ac kc ag kg o v hv)) ?_, World.cell?_setCell_same _ _ _ c13, fun i hi => by omega, fun j hj => (made_open _ _ _ _ _ hj).set _ _, LsAt.nil (old 14 _ c14 (by omega)) ?_, Ho.nil, List.Perm.refl _⟩
  · rw [cell_other _ (.inl (by omega))]
    exact ((Ext.refl w1).alloc _).keep (hq.keep (by simp [go_sem]))
  · intro e
    rw [e] at hv
    simp at hv
  · rw [World.frozen?_setCell, ((Ext.refl w1).alloc _).frozen (p := ⟨w.heap.size + 1, 14, none⟩) (by show w.heap.size + 1 < w1.heap.size; omega)]
    exact f14

set_option maxRecDepth 100000 in
set_option maxHeartbeats 4000000 in
theorem open_own (x : Hp) (w : World) {ar : Option Addr} {kr : Nat} {ac : Option Addr} {kc : Nat} {ag : Option Addr} {kg : Nat} (hR : SlW w (.slice ar x.regs.length kr) x.regs) (hC : SlC w (.slice ac x.cells.length kc) x.cells) (hG : SlI w (.slice ag x.gray.length kg) x.gray) :
    Calls Tryz.prog 99 #[x.v (.slice ar x.regs.length kr) (.slice ac x.cells.length kc) (.slice ag x.gray.length kg)] w fun e w' => ∃ b, Hid (e = .returned (.pointer (some ⟨b, 0, none⟩))) ∧ Ext w w' ∧ Hid ((¬ R1 x ∧ HAt w' b x ar kr ac kc ag kg) ∨ (R1 x ∧ ∃ bx bn vf F, Opn w w' x bx b bn x.cells.length x.cells.length ar kr ac kc ag kg vf F)) := by
  have HSL := hide (And.intro hR (And.intro hC hG))
  have lc : x.cells.length ≤ 35184372088832 := let ⟨_, _, _, l, _⟩ := hC; l
  clear hR hC hG
  go_enter Tryz.func99, Tryz.ntmps99
  go_wp2_with fail
  have xe : Ext w ((w.alloc (.cells #[iv x.room, iv x.used, iv x.born, .slice ar x.regs.length kr, .slice ac x.cells.length kc, iv x.phase, iv x.hand, iv x.sub, .slice ag x.gray.length kg, iv x.per, iv x.start, iv x.rounds, iv x.forced] 33)).alloc (.cells #[iv x.room, iv x.used, iv x.born, .slice ar x.regs.length kr, .slice ac x.cells.length kc, iv x.phase, iv x.hand, iv x.sub, .slice ag x.gray.length kg, iv x.per, iv x.start, iv x.rounds, iv x.forced, .slice none 0 0, .slice none 0 0] 96)) := ((Ext.refl w).alloc _).alloc _
  have hh := hat_of x _ (w.heap.size + 1) (view_box x w ar kr ac kc ag kg) (SlW.ext xe (unhide HSL).1) (SlC.ext xe (unhide HSL).2.1) (SlI.ext xe (unhide HSL).2.2)
  refine (limitsKept_any x (w.heap.size + 1) _ hh).mono ?_
  rintro e w1 ⟨r, rfl, hr, hq⟩
  have X1 := hide (xe.trans hq)
  cases r
  · have N := hide (show ¬ R1 x from fun r => by have := hr.2 r; simp at this)
    have H1 := hide (hh.ext hq)
    clear hr hq hh xe
    go_wp2_with fail
    go_ret
    exact ⟨w.heap.size + 1, rfl, unhide X1, .inl ⟨unhide N, unhide H1⟩⟩
  have Y := hide (hr.1 rfl)
  have hn8 : x.cells.length ≤ 8000 := by have := (unhide Y).room; have := (unhide Y).cells; omega
  have hsz : w.heap.size + 2 ≤ w1.heap.size := by have := hq.size; simp at this; omega
  have hs0 : w.heap.size < w1.heap.size := by omega
  have hs1 : w.heap.size + 1 < w1.heap.size := by omega
  obtain ⟨z, hmk⟩ := mkNodes x.cells.length (by omega) w1
  have s0 := Opn.start z hq
  rw [World.setCell_alloc_past _ _ _ _ hs1] at s0
  have S0 := hide s0
  clear s0
  have b4 : w1.cell? ⟨w.heap.size, 4, none⟩ = some (.slice ac x.cells.length kc) := hq.keep (by simp [go_sem])
  have b13 : w1.cell? ⟨w.heap.size + 1, 13, none⟩ = some (.slice none 0 0) := hq.keep (by simp [go_sem])
  have g13 : w1.frozen? ⟨w.heap.size + 1, 13, none⟩ = false := by
    rw [hq.frozen (p := ⟨w.heap.size + 1, 13, none⟩) (by simp)]; simp [go_sem]
  clear hr hh xe hq
  go_wp2_with fail
  go_loopw [22] (fun i wr => ∃ (k : Nat) (vf : Value) (F : List Int), k ≤ x.cells.length ∧ i = .int .i64 k ∧ Opn w wr x w.heap.size (w.heap.size + 1) w1.heap.size k k ar kr ac kc ag kg vf F) (fun i _ => x.cells.length - (intOf i).toNat)
  case atStart => exact ⟨0, _, _, Nat.zero_le _, rfl, unhide S0⟩
  case round =>
    clear S0 b4 b13 g13 hmk
    obtain ⟨k, vf, F, hk, rfl, hop⟩ := hrel
    have HO := hide hop
    by_cases hlt : k < x.cells.length
    · obtain ⟨bc, oc, hac, hbc, vp, p0', _⟩ := SlC.nth (unhide HSL).2.1 k hlt
      have P0 := hide p0'
      clear p0'
      have q4 := hop.x4
      have q13 := hop.n13
      rw [hac] at q4
      obtain ⟨⟨u1, v1⟩, f1⟩ := hop.o (k * 2) (by omega)
      obtain ⟨⟨u2, v2⟩, f2⟩ := hop.o (k * 2 + 1) (by omega)
      have hk0 : (0:Int) ≤ (k:Int) := by omega
      have hk1 : (k:Int) < (x.cells.length:Int) := by omega
      have hbw : w1.heap.size < wr.heap.size := hop.hb.2.2.2
      have L2 := hide (hop.lay hac hlt)
      have HAC := hide hac
      clear hop hac
      go_wp2_with fail
      go_region
      generalize hW : ((wr.setCell ⟨w1.heap.size, k * 2, none⟩ (.int .i64 k)).setCell ⟨w1.heap.size, k * 2 + 1, none⟩ (.pointer (some ⟨bc, oc + k * 8, none⟩))).drew = W2
      have L3 := hide ((unhide L2).same (w' := W2) (by rw [← hW]; rfl) (by rw [← hW]; rfl) (by rw [← hW]; rfl) (by rw [← hW]; rfl))
      have q4' := (unhide L3).x4
      rw [unhide HAC] at q4'
      have p0 := (unhide L3).e.keep (unhide P0)
      have hlen : F.length ≤ 100000 := by have := (unhide L3).len; omega
      have hbs : w1.heap.size + 1 ≤ W2.heap.size := (unhide L3).hb.2.2.2
      clear hW L2 q4 q13 v1 v2 f1 f2 hbw
      cases s0 : ((x.c k).st == 0)
      · have L4 := hide ((unhide L3).skip s0)
        go_wp2_with fail
        go_roundw
        case rel => exact ⟨k + 1, vf, F, by omega, by go_num, unhide L4⟩
        case measure => simp [intOf]; omega
      · go_wp2_with fail
        refine (put_ls _ (w1.heap.size + 1) (w.heap.size + 1) 14 vf F (k : Int) (unhide L3).f hbs (unhide L3).fo hlen).mono ?_
        rintro e w3 ⟨rfl, v3, F3, l3, o3, p3, q3⟩
        have L4 := hide ((unhide L3).put s0 l3 o3 p3 q3)
        clear l3 o3 p3 q3
        go_wp2_with fail
        go_roundw
        case rel => exact ⟨k + 1, v3, F3, by omega, by go_num, unhide L4⟩
        case measure => simp [intOf]; omega
    · have hk2 : k = x.cells.length := by omega
      subst hk2
      have D := hide hop
      have E := hide hop.e
      clear hop hk hlt
      go_wp2_with fail
      go_ret
      exact ⟨w.heap.size + 1, rfl, unhide E, .inr ⟨unhide Y, _, _, _, _, unhide D⟩⟩
theorem open_any (x : Hp) (w : World) {ar : Option Addr} {kr : Nat} {ac : Option Addr} {kc : Nat} {ag : Option Addr} {kg : Nat} (hR : SlW w (.slice ar x.regs.length kr) x.regs) (hC : SlC w (.slice ac x.cells.length kc) x.cells) (hG : SlI w (.slice ag x.gray.length kg) x.gray) :
    Calls Tryz.prog 99 #[x.v (.slice ar x.regs.length kr) (.slice ac x.cells.length kc) (.slice ag x.gray.length kg)] w fun e w' => ∃ b, Hid (e = .returned (.pointer (some ⟨b, 0, none⟩))) ∧ Ext w w' ∧ Hid ((¬ R1 x ∧ HAt w' b x ar kr ac kc ag kg) ∨ (R1 x ∧ ∃ an kn base vf F, VAt w' b x ar kr ac kc ag kg an kn ∧ FAt w' b x base vf F ∧ Hid (∃ bn on, an = some ⟨bn, on, none⟩))) :=
  (open_own x w hR hC hG).mono fun _ _ ⟨b, he, hx, h⟩ => ⟨b, he, hx, by
    rcases h with h | ⟨h1, bx, bn, vf, F, h2⟩
    · exact .inl h
    · exact .inr ⟨h1, _, _, _, _, _, (h2.done hR hC hG).1, (h2.done hR hC hG).2, ⟨_, _, rfl⟩⟩⟩
end Go.Proofs.YtkabcfhemljnbaaGreat

namespace Go.Proofs.YtkabcfhemljnbaaGreat
open Go.RowKit
attribute [local go_sem ↓] Go.wp_at_zero Go.wp_at_succ

/-! The store: a sound heap in memory of its own. -/
abbrev ndp (bn i : Nat) : Value := .pointer (some ⟨bn, i * 2, none⟩)
/-- the parts of the store lie in blocks apart: each block has one role -/
structure SSep (x : Hp) (role : Nat → Nat) (b br bc bn : Nat) (pb : Nat → Nat) (vf vk : Value) : Prop where
  b : role b = 0
  n : role bn = 1
  r : 0 < x.regs.length → role br = 2
  c : 0 < x.cells.length → role bc = 3
  f : ∀ q, vf.ownBlock = some q → role q = 4
  k : ∀ q, vk.ownBlock = some q → role q = 5
  p : ∀ q, q < x.cells.length → 0 < (x.c q).prs.length → role (pb q) = 6 + q
/-- the ring in the store's box -/
structure RAt (w : World) (b bn hd : Nat) (G : List Int) : Prop where
  h0 : hd < 4000
  hl : G.length ≤ 4000
  r0 : w.cell? ⟨b, 4015, none⟩ = some (iv hd)
  r1 : w.cell? ⟨b, 4016, none⟩ = some (iv G.length)
  rg : ∀ i (hi : i < G.length), w.cell? ⟨b, 15 + (hd + i) % 4000, none⟩ = some (ndp bn G[i].toNat)
  ro : ∀ j, j < 4000 → ∃ v, w.cell? ⟨b, 15 + j, none⟩ = some v
/-- the store's box, its nodes, its free places, its ring, what it keeps -/
structure SB (B : Nat) (w : World) (b : Nat) (x : Hp) (ar : Option Addr) (kr : Nat) (v4 v8 : Value) (br bc bn : Nat) (kn hd : Nat) (vf : Value) (F : List Int) (vk : Value) (K : List Nat) : Prop where
  bx : HBox w b x (.slice ar x.regs.length kr) v4 v8
  ha : 0 < x.regs.length → ar = some ⟨br, 0, none⟩
  n13 : w.cell? ⟨b, 13, none⟩ = some (.slice (some ⟨bn, 0, none⟩) x.cells.length kn)
  nd : ∀ i, i < x.cells.length → w.cell? ⟨bn, i * 2, none⟩ = some (iv i) ∧ w.cell? ⟨bn, i * 2 + 1, none⟩ = some (.pointer (some ⟨bc, i * 8, none⟩))
  fr : LsAt w B b 14 vf F
  rg : RAt w b bn hd x.gray
  k0 : w.cell? ⟨b, 4017, none⟩ = some vk
  kp : w.ownsRow B 103 1 vk K.length (K.map (ndp bn))
  nb : Nf1 b w
  lo : B ≤ b ∧ B ≤ bn ∧ bn < w.heap.size
/-- the whole store -/
structure SAt (B : Nat) (w : World) (b : Nat) (x : Hp) (ar : Option Addr) (kr : Nat) (v4 v8 : Value) (br bc bn : Nat) (pb : Nat → Nat) (pa : Nat → Option Addr) (pk : Nat → Nat) (kn hd : Nat) (vf : Value) (F : List Int) (vk : Value) (K : List Nat) (role : Nat → Nat) : Prop where
  sb : SB B w b x ar kr v4 v8 br bc bn kn hd vf F vk K
  rw : Rws B w x br bc pb pa pk
  sp : SSep x role b br bc bn pb vf vk

theorem ring_idx (a : Nat) : ((a : Int).tmod 4000) = ((a % 4000 : Nat) : Int) := by
  rw [Int.tmod_eq_emod_of_nonneg (by omega)]; omega

theorem RAt.of {w w' : World} {b bn hd : Nat} {G : List Int} (h : RAt w b bn hd G) (e : ∀ o, 15 ≤ o → o < 4017 → w'.cell? ⟨b, o, none⟩ = w.cell? ⟨b, o, none⟩) : RAt w' b bn hd G :=
  ⟨h.h0, h.hl, (e 4015 (by omega) (by omega)).trans h.r0, (e 4016 (by omega) (by omega)).trans h.r1, fun i hi => (e _ (by omega) (by have : (hd + i) % 4000 < 4000 := Nat.mod_lt _ (by omega); omega)).trans (h.rg i hi), fun j hj => let ⟨v, q⟩ := h.ro j hj; ⟨v, (e _ (by omega) (by omega)).trans q⟩⟩
theorem RAt.block {w w' : World} {b bn hd : Nat} {G : List Int} (h : RAt w b bn hd G) (e : w'.heap[b]? = w.heap[b]?) : RAt w' b bn hd G := h.of fun o _ _ => World.cell?_of_block (a := ⟨b, o, none⟩) e
theorem RAt.put {w : World} {b bn hd i m : Nat} {G : List Int} (h : RAt w b bn hd G) (hl : G.length < 4000) (hm : m = (hd + G.length) % 4000) :
    RAt ((w.setCell ⟨b, 15 + m, none⟩ (ndp bn i)).setCell ⟨b, 4016, none⟩ (iv (G.length + 1))) b bn hd (G ++ [(i : Int)]) := by
  have hm4 : m < 4000 := by rw [hm]; exact Nat.mod_lt _ (by omega)
  refine ⟨h.h0, by simp; omega, ?_, ?_, fun k hk => ?_, fun j hj => ?_⟩
  · rw [cell_other _ (.inr (by omega)), cell_other _ (.inr (by omega))]; exact h.r0
  · have : (w.setCell ⟨b, 15 + m, none⟩ (ndp bn i)).cell? ⟨b, 4016, none⟩ = some (iv G.length) := by rw [cell_other _ (.inr (by omega))]; exact h.r1
    rw [World.cell?_setCell_same _ _ _ this]
    simp
  · have hk2 : (hd + k) % 4000 < 4000 := Nat.mod_lt _ (by omega)
    rw [cell_other _ (.inr (by omega))]
    by_cases e : k = G.length
    · subst e
      obtain ⟨v, hv⟩ := h.ro m hm4
      rw [← hm, World.cell?_setCell_same _ _ _ hv]
      simp
    · have hk3 : k < G.length := by simp at hk; omega
      rw [cell_other _ (.inr (by have := h.h0; omega)), h.rg k hk3]
      simp [hk3]
  · rw [cell_other _ (.inr (by omega))]
    obtain ⟨v, hv⟩ := h.ro j hj
    exact cell?_setCell_some hv
theorem drew_cell (w : World) (p : Addr) : w.drew.cell? p = w.cell? p := World.cell?_of_block (a := p) rfl

theorem SB.same {B : Nat} {w : World} {b : Nat} {x : Hp} {ar : Option Addr} {kr : Nat} {v4 v8 : Value} {br bc bn : Nat} {kn hd : Nat} {vf : Value} {F : List Int} {vk : Value} {K : List Nat} {w' : World} (h : SB B w b x ar kr v4 v8 br bc bn kn hd vf F vk K) (hs : w.heap.size ≤ w'.heap.size) (hb : w'.heap[b]? = w.heap[b]?) (hn : w'.heap[bn]? = w.heap[bn]?) (hf : ∀ q, vf.ownBlock = some q → w'.heap[q]? = w.heap[q]?) (hk : ∀ q, vk.ownBlock = some q → w'.heap[q]? = w.heap[q]?) : SB B w' b x ar kr v4 v8 br bc bn kn hd vf F vk K where
  bx := h.bx.block hb
  ha := h.ha
  n13 := (World.cell?_of_block (a := ⟨b, 13, none⟩) hb).trans h.n13
  nd := fun i hi => ⟨(World.cell?_of_block (a := ⟨bn, _, none⟩) hn).trans (h.nd i hi).1, (World.cell?_of_block (a := ⟨bn, _, none⟩) hn).trans (h.nd i hi).2⟩
  fr := ⟨(World.cell?_of_block (a := ⟨b, 14, none⟩) hb).trans h.fr.hd, (World.frozen?_of_block (a := ⟨b, 14, none⟩) hb).trans h.fr.hf, ownsRow_of_block h.fr.own hf, h.fr.apart⟩
  rg := h.rg.block hb
  k0 := (World.cell?_of_block (a := ⟨b, 4017, none⟩) hb).trans h.k0
  kp := ownsRow_of_block h.kp hk
  nb := nf1_block h.nb hb hs
  lo := ⟨h.lo.1, h.lo.2.1, Nat.lt_of_lt_of_le h.lo.2.2 hs⟩
theorem SAt.ext {B : Nat} {w : World} {b : Nat} {x : Hp} {ar : Option Addr} {kr : Nat} {v4 v8 : Value} {br bc bn : Nat} {pb : Nat → Nat} {pa : Nat → Option Addr} {pk : Nat → Nat} {kn hd : Nat} {vf : Value} {F : List Int} {vk : Value} {K : List Nat} {role : Nat → Nat} {w' : World} (h : SAt B w b x ar kr v4 v8 br bc bn pb pa pk kn hd vf F vk K role) (e : Ext w w') : SAt B w' b x ar kr v4 v8 br bc bn pb pa pk kn hd vf F vk K role :=
  ⟨h.sb.same e.size (e.block b h.sb.nb.1) (e.block bn h.sb.lo.2.2) (fun q hq => e.block q (h.sb.fr.own.lt q hq).2) (fun q hq => e.block q (h.sb.kp.lt q hq).2), h.rw.ext e, h.sp⟩
/-- something was appended to what is kept -/
theorem SAt.push {B : Nat} {b : Nat} {x : Hp} {ar : Option Addr} {kr : Nat} {v4 v8 : Value} {br bc bn : Nat} {pb : Nat → Nat} {pa : Nat → Option Addr} {pk : Nat → Nat} {kn hd : Nat} {vf : Value} {F : List Int} {vk : Value} {K : List Nat} {role : Nat → Nat} {W w5 : World} {i g cap : Nat} (h : SAt B W b x ar kr v4 v8 br bc bn pb pa pk kn hd vf F vk K role) (hg : W.grownBy w5 vk.ownBlock) (h5 : w5.ownsRow B 103 1 (.slice (some ⟨g, 0, none⟩) (K.length + 1) cap) (K.length + 1) (K.map (ndp bn) ++ [ndp bn i])) (hat : vk.ownBlock = some g ∨ g = W.heap.size) :
    SAt B (w5.setCell ⟨b, 4017, none⟩ (.slice (some ⟨g, 0, none⟩) (K.length + 1) cap)) b x ar kr v4 v8 br bc bn pb pa pk kn hd vf F (.slice (some ⟨g, 0, none⟩) (K.length + 1) cap) (K ++ [i]) (fun q => if q = g then 5 else role q) := by
  have hgb : ∀ q, q < W.heap.size → role q ≠ 5 → q ≠ g := fun q hq hr e => by
    rcases hat with a | a
    · exact hr (by rw [e]; exact h.sp.k g a)
    · omega
  have far : ∀ q, q < W.heap.size → role q ≠ 5 → w5.heap[q]? = W.heap[q]? := fun q hq hr => hg.block q hq (fun e => hr (h.sp.k q e.symm))
  have hb := h.sb.nb.1
  have rb : role b ≠ 5 := by rw [h.sp.b]; omega
  have fb := far b hb rb
  have nbg := hgb b hb rb
  have far2 : ∀ q, q < W.heap.size → role q ≠ 5 → q ≠ b → (w5.setCell ⟨b, 4017, none⟩ (.slice (some ⟨g, 0, none⟩) (K.length + 1) cap)).heap[q]? = W.heap[q]? := fun q hq hr hne => (Below.heap_setCell _ _ _ _ hne).trans (far q hq hr)
  have cb : ∀ o, o ≠ 4017 → (w5.setCell ⟨b, 4017, none⟩ (.slice (some ⟨g, 0, none⟩) (K.length + 1) cap)).cell? ⟨b, o, none⟩ = W.cell? ⟨b, o, none⟩ := fun o ho => (cell_other _ (.inr (fun e => ho e.symm))).trans (World.cell?_of_block (a := ⟨b, o, none⟩) fb)
  have hsz : W.heap.size ≤ (w5.setCell ⟨b, 4017, none⟩ (.slice (some ⟨g, 0, none⟩) (K.length + 1) cap)).heap.size := by have := hg.size; simpa [World.setCell] using this
  have rn : role bn ≠ 5 := by rw [h.sp.n]; omega
  have nnb : bn ≠ b := fun e => by have h1 := h.sp.n; have h2 := h.sp.b; rw [e] at h1; omega
  have fn := far2 bn h.sb.lo.2.2 rn nnb
  have ff : ∀ q, vf.ownBlock = some q → (w5.setCell ⟨b, 4017, none⟩ (.slice (some ⟨g, 0, none⟩) (K.length + 1) cap)).heap[q]? = W.heap[q]? := fun q hq => far2 q (h.sb.fr.own.lt q hq).2 (by rw [h.sp.f q hq]; omega) (fun e => by have h1 := h.sp.f q hq; have h2 := h.sp.b; rw [e] at h1; omega)
  refine ⟨⟨h.sb.bx.of fun o ho => cb o (by omega), h.sb.ha, (cb 13 (by omega)).trans h.sb.n13, fun k hk => ⟨(World.cell?_of_block (a := ⟨bn, _, none⟩) fn).trans (h.sb.nd k hk).1, (World.cell?_of_block (a := ⟨bn, _, none⟩) fn).trans (h.sb.nd k hk).2⟩, ⟨(cb 14 (by omega)).trans h.sb.fr.hd, ?_, ownsRow_of_block h.sb.fr.own ff, h.sb.fr.apart⟩, h.sb.rg.of fun o _ h2 => cb o (by omega), ?_, ?_, ?_, ⟨h.sb.lo.1, h.sb.lo.2.1, Nat.lt_of_lt_of_le h.sb.lo.2.2 hsz⟩⟩, ?_, ?_⟩
  · rw [World.frozen?_setCell]; exact (World.frozen?_of_block (a := ⟨b, 14, none⟩) fb).trans h.sb.fr.hf
  · exact World.cell?_setCell_same _ _ _ ((World.cell?_of_block (a := ⟨b, 4017, none⟩) fb).trans h.sb.k0)
  · have := ownsRow_of_block (w' := w5.setCell ⟨b, 4017, none⟩ (.slice (some ⟨g, 0, none⟩) (K.length + 1) cap)) h5 (fun q hq => Below.heap_setCell _ _ _ _ (fun e => nbg (by simp [Value.ownBlock] at hq; rw [hq]; exact e.symm)))
    simpa using this
  · refine ⟨Nat.lt_of_lt_of_le hb hsz, fun j => ?_⟩
    rw [World.frozen?_setCell]; exact (World.frozen?_of_block (a := ⟨b, j, none⟩) fb).trans (h.sb.nb.2 j)
  · exact h.rw.same hsz (fun hl => far2 br (h.rw.nr hl).1.1 (by rw [h.sp.r hl]; omega) (fun e => by have h1 := h.sp.r hl; have h2 := h.sp.b; rw [e] at h1; omega)) (fun hl => far2 bc (h.rw.nc hl).1.1 (by rw [h.sp.c hl]; omega) (fun e => by have h1 := h.sp.c hl; have h2 := h.sp.b; rw [e] at h1; omega)) (fun q hq hl => far2 (pb q) (h.rw.pl q hq hl).2.1.1 (by rw [h.sp.p q hq hl]; omega) (fun e => by have h1 := h.sp.p q hq hl; have h2 := h.sp.b; rw [e] at h1; omega))
  · refine ⟨?_, ?_, fun hl => ?_, fun hl => ?_, fun q hq => ?_, fun q hq => ?_, fun q hq hl => ?_⟩
    · rw [if_neg nbg]; exact h.sp.b
    · rw [if_neg (hgb bn h.sb.lo.2.2 rn)]; exact h.sp.n
    · rw [if_neg (hgb br (h.rw.nr hl).1.1 (by rw [h.sp.r hl]; omega))]; exact h.sp.r hl
    · rw [if_neg (hgb bc (h.rw.nc hl).1.1 (by rw [h.sp.c hl]; omega))]; exact h.sp.c hl
    · rw [if_neg (hgb q (h.sb.fr.own.lt q hq).2 (by rw [h.sp.f q hq]; omega))]; exact h.sp.f q hq
    · simp [Value.ownBlock] at hq; rw [if_pos hq.symm]
    · rw [if_neg (hgb (pb q) (h.rw.pl q hq hl).2.1.1 (by rw [h.sp.p q hq hl]; omega))]; exact h.sp.p q hq hl

def sweptB (x : Hp) (i : Nat) : Bool := x.phase == 4 || (x.phase == 3 && decide ((i : Int) < x.hand))
set_option maxRecDepth 100000 in
set_option maxHeartbeats 2000000 in
theorem swept_any (x : Hp) (b bn i : Nat) (w : World) (c5 : w.cell? ⟨b, 5, none⟩ = some (iv x.phase)) (c6 : w.cell? ⟨b, 6, none⟩ = some (iv x.hand)) (m0 : w.cell? ⟨bn, i * 2, none⟩ = some (iv i)) :
    Calls Tryz.prog 124 #[.pointer (some ⟨b, 0, none⟩), ndp bn i] w fun e w' => e = .returned (.bool (sweptB x i)) ∧ Ext w w' := by
  cases q4 : (x.phase == 4)
  · cases q3 : (x.phase == 3)
    · have E := hide (show sweptB x i = false by simp [sweptB, q4, q3])
      go_enter Tryz.func124, Tryz.ntmps124
      go_wp2_with fail
      go_quiet (fail)
      go_wp2_with fail
      go_ret
      exact ⟨by rw [unhide E]; rfl, Ext.drewN (Ext.refl _) _⟩
    · have E := hide (show sweptB x i = decide ((i : Int) < x.hand) by simp [sweptB, q4, q3])
      go_enter Tryz.func124, Tryz.ntmps124
      go_wp2_with fail
      go_quiet (fail)
      go_wp2_with fail
      go_ret
      exact ⟨by rw [unhide E]; rfl, Ext.drewN (Ext.refl _) _⟩
  · have E := hide (show sweptB x i = true by simp [sweptB, q4])
    go_enter Tryz.func124, Tryz.ntmps124
    go_wp2_with fail
    go_quiet (fail)
    go_wp2_with fail
    go_ret
    exact ⟨by rw [unhide E]; rfl, Ext.drewN (Ext.refl _) _⟩

set_option maxRecDepth 100000 in
set_option maxHeartbeats 2000000 in
theorem rput_any (b bn hd i : Nat) (G : List Int) (w : World) (h : RAt w b bn hd G) (hn : Nf1 b w) (hl : G.length < 4000) :
    Calls Tryz.prog 123 #[.pointer (some ⟨b, 15, none⟩), ndp bn i] w fun e w' => e = .returned (.tuple #[]) ∧ RAt w' b bn hd (G ++ [(i : Int)]) ∧ Only (fun q => q = b) w w' ∧ Nf1 b w' ∧ ∀ o, (o < 15 ∨ o = 4015 ∨ o = 4017) → w'.cell? ⟨b, o, none⟩ = w.cell? ⟨b, o, none⟩ := by
  have r0 := h.r0
  have r1 := h.r1
  have h0 := h.h0
  obtain ⟨u, ru⟩ := h.ro ((hd + G.length) % 4000) (Nat.mod_lt _ (by omega))
  have f0 := hn.2 (15 + (hd + G.length) % 4000)
  have f1 := hn.2 4016
  obtain ⟨m, hm⟩ : ∃ m, m = (hd + G.length) % 4000 := ⟨_, rfl⟩
  rw [← hm] at ru f0
  have hm4 : m < 4000 := by rw [hm]; exact Nat.mod_lt _ (by omega)
  have hr : ((hd : Int) + (G.length : Int)).tmod 4000 = (m : Int) := by have := ring_idx (hd + G.length); rw [← hm] at this; simpa using this
  have m0 : (0:Int) ≤ (m:Int) := by omega
  have m1 : (m:Int) < 4000 := by omega
  have HM := hide hm
  have H := hide h
  clear h hm
  go_enter Tryz.func123, Tryz.ntmps123
  go_wp2_with fail
  go_region
  all_goals
    go_wp2_with fail
    go_end0
    refine ⟨rfl, ((unhide H).put hl (unhide HM)).block rfl, (Only.setCell (S := fun q => q = b) (Only.setCell (S := fun q => q = b) (Only.refl _ w) (p := ⟨b, 15 + m, none⟩) rfl _) (p := ⟨b, 4016, none⟩) rfl _).drew, ⟨by have := hn.1; simpa [World.setCell] using this, fun j => by rw [show ∀ (W : World) (p : Addr), W.drew.frozen? p = W.frozen? p from fun W p => World.frozen?_of_block (a := p) rfl, World.frozen?_setCell, World.frozen?_setCell]; exact hn.2 j⟩, fun o ho => ?_⟩
    rw [drew_cell, cell_other _ (.inr (by omega)), cell_other _ (.inr (by omega))]
end Go.Proofs.YtkabcfhemljnbaaGreat

namespace Go.Proofs.YtkabcfhemljnbaaGreat
open Go.RowKit

/-- the ring has turned, and nothing else -/
theorem SAt.ring {B : Nat} {w : World} {b : Nat} {x : Hp} {ar : Option Addr} {kr : Nat} {v4 v8 : Value} {br bc bn : Nat} {pb : Nat → Nat} {pa : Nat → Option Addr} {pk : Nat → Nat} {kn hd : Nat} {vf : Value} {F : List Int} {vk : Value} {K : List Nat} {role : Nat → Nat} {w' : World} {hd' : Nat} {G : List Int} (h : SAt B w b x ar kr v4 v8 br bc bn pb pa pk kn hd vf F vk K role) (r : RAt w' b bn hd' G) (o : Only (fun q => q = b) w w') (n : Nf1 b w') (c : ∀ k, (k < 15 ∨ k = 4017) → w'.cell? ⟨b, k, none⟩ = w.cell? ⟨b, k, none⟩) :
    SAt B w' b { x with gray := G } ar kr v4 v8 br bc bn pb pa pk kn hd' vf F vk K role := by
  have far : ∀ q, q < w.heap.size → role q ≠ 0 → w'.heap[q]? = w.heap[q]? := fun q hq hr => o.block q hq (fun e => hr (by rw [e]; exact h.sp.b))
  have fn := far bn h.sb.lo.2.2 (by rw [h.sp.n]; omega)
  refine ⟨⟨h.sb.bx.of fun k hk => c k (by omega), h.sb.ha, (c 13 (by omega)).trans h.sb.n13, fun k hk => ⟨(World.cell?_of_block (a := ⟨bn, _, none⟩) fn).trans (h.sb.nd k hk).1, (World.cell?_of_block (a := ⟨bn, _, none⟩) fn).trans (h.sb.nd k hk).2⟩, ⟨(c 14 (by omega)).trans h.sb.fr.hd, n.2 14, ownsRow_of_block h.sb.fr.own (fun q hq => far q (h.sb.fr.own.lt q hq).2 (by rw [h.sp.f q hq]; omega)), h.sb.fr.apart⟩, r, (c 4017 (by omega)).trans h.sb.k0, ownsRow_of_block h.sb.kp (fun q hq => far q (h.sb.kp.lt q hq).2 (by rw [h.sp.k q hq]; omega)), n, ⟨h.sb.lo.1, h.sb.lo.2.1, Nat.lt_of_lt_of_le h.sb.lo.2.2 o.size⟩⟩, ?_, ⟨h.sp.b, h.sp.n, h.sp.r, h.sp.c, h.sp.f, h.sp.k, h.sp.p⟩⟩
  have := h.rw.same o.size (fun hl => far br (h.rw.nr hl).1.1 (by rw [h.sp.r hl]; omega)) (fun hl => far bc (h.rw.nc hl).1.1 (by rw [h.sp.c hl]; omega)) (fun q hq hl => far (pb q) (h.rw.pl q hq hl).2.1.1 (by rw [h.sp.p q hq hl]; omega))
  exact ⟨this.r, this.s, this.p7, this.p, this.pl, this.nr, this.nc, this.d, this.dp⟩

theorem SAt.start {B : Nat} {w1 w2 : World} {x : Hp} {bx b2 bn : Nat} {ar : Option Addr} {kr : Nat} {ac : Option Addr} {kc : Nat} {ag : Option Addr} {kg : Nat} {vf : Value} {F : List Int} {br bc : Nat} {pb : Nat → Nat} {pa : Nat → Option Addr} {pk : Nat → Nat} {Z : Array Value} {T : TypeId}
    (ho : Opn w1 w2 x bx b2 bn x.cells.length x.cells.length ar kr ac kc ag kg vf F) (hrw : Rws B w1 x br bc pb pa pk) (hB : B ≤ w1.heap.size) (har : 0 < x.regs.length → ar = some ⟨br, 0, none⟩) (hac : 0 < x.cells.length → ac = some ⟨bc, 0, none⟩) (hr : 0 < x.regs.length)
    (hZ : Z.size = 4018 ∧ (Z[0]? = some (iv x.room) ∧ Z[1]? = some (iv x.used) ∧ Z[2]? = some (iv x.born) ∧ Z[3]? = some (.slice ar x.regs.length kr) ∧ Z[4]? = some (.slice ac x.cells.length kc) ∧ Z[5]? = some (iv x.phase) ∧ Z[6]? = some (iv x.hand) ∧ Z[7]? = some (iv x.sub) ∧ Z[8]? = some (.slice ag x.gray.length kg) ∧ Z[9]? = some (iv x.per) ∧ Z[10]? = some (iv x.start) ∧ Z[11]? = some (iv x.rounds) ∧ Z[12]? = some (iv x.forced) ∧ Z[13]? = some (.slice (some ⟨bn, 0, none⟩) x.cells.length x.cells.length) ∧ Z[14]? = some vf) ∧ Z[4015]? = some (iv 0) ∧ Z[4016]? = some (iv 0) ∧ Z[4017]? = some (.slice none 0 0)) :
    ∃ role, SAt B (w2.alloc (.cells Z T)) w2.heap.size { x with gray := [] } ar kr (.slice ac x.cells.length kc) (.slice ag x.gray.length kg) br bc bn pb pa pk x.cells.length 0 vf F (.slice none 0 0) [] role := by
  obtain ⟨hZs, ⟨z0, z1, z2, z3, z4, z5, z6, z7, z8, z9, z10, z11, z12, z13, z14⟩, y0, y1, y2⟩ := hZ
  obtain ⟨hb1, hb2, hb3, hb4⟩ := ho.hb
  have xe : Ext w1 (w2.alloc (.cells Z T)) := ho.e.alloc _
  have x2 : Ext w2 (w2.alloc (.cells Z T)) := (Ext.refl w2).alloc _
  have hnew : (w2.alloc (.cells Z T)).heap[w2.heap.size]? = some (.cells Z T) := heap_alloc_new w2 _
  have cz : ∀ o, (w2.alloc (.cells Z T)).cell? ⟨w2.heap.size, o, none⟩ = Z[o]? := fun o => cell_of_row _ w2.heap.size o _ _ (0, 0) hnew
  have nz : Nf1 w2.heap.size (w2.alloc (.cells Z T)) := ⟨by simp, fun j => by simp [go_sem]⟩
  have lr := (hrw.nr hr).1.1
  have lsz := ho.e.size
  have lp : ∀ q, q < x.cells.length → 0 < (x.c q).prs.length → pb q < w1.heap.size := fun q hq hl => (hrw.pl q hq hl).2.1.1
  have lf : ∀ q, vf.ownBlock = some q → bn + 1 ≤ q ∧ q < w2.heap.size := fun q hq => ho.f.own.lt q hq
  refine ⟨fun q => if q = w2.heap.size then 0 else if q = bn then 1 else if q = br then 2 else if 0 < x.cells.length ∧ q = bc then 3 else
    (open Classical in if h : ∃ i, i < x.cells.length ∧ 0 < (x.c i).prs.length ∧ pb i = q then 6 + Classical.choose h else 4), ⟨⟨(cz 0).trans z0, (cz 1).trans z1, (cz 2).trans z2, (cz 3).trans z3, (cz 4).trans z4, (cz 5).trans z5, (cz 6).trans z6, (cz 7).trans z7, (cz 8).trans z8, (cz 9).trans z9, (cz 10).trans z10, (cz 11).trans z11, (cz 12).trans z12⟩, har, (cz 13).trans z13, fun i hi => ?_, ⟨(cz 14).trans z14, nz.2 14, own_less (ho.f.own.alloc _) (by omega), fun e => by have := (lf _ e).2; omega⟩, ⟨by omega, by simp, (cz 4015).trans y0, (cz 4016).trans y1, fun i hi => by simp at hi, fun j hj => ⟨Z[15 + j]'(by omega), (cz _).trans (by simp)⟩⟩, (cz 4017).trans y2, World.ownsRow_nil _ _ _ _, nz, ⟨by omega, by omega, by simp; omega⟩⟩, ?_, ?_⟩
  · obtain ⟨bc', oc, e, p, q⟩ := ho.n i hi
    have e2 := (hac (Nat.lt_of_le_of_lt (Nat.zero_le _) hi)).symm.trans e
    simp only [Option.some.injEq, Addr.mk.injEq] at e2
    obtain ⟨rfl, rfl, _⟩ := e2
    rw [Nat.zero_add] at q
    exact ⟨x2.keep p, x2.keep q⟩
  · have := hrw.ext xe
    exact ⟨this.r, this.s, this.p7, this.p, this.pl, this.nr, this.nc, this.d, this.dp⟩
  · refine ⟨if_pos rfl, ?_, fun _ => ?_, fun hl => ?_, fun q hq => ?_, fun q hq => by simp [Value.ownBlock] at hq, fun q hq hl => ?_⟩
    · rw [if_neg (by omega), if_pos rfl]
    · rw [if_neg (by omega), if_neg (by omega), if_pos rfl]
    · have l1 := (hrw.nc hl).1.1
      have l2 := hrw.d hl
      rw [if_neg (by omega), if_neg (by omega), if_neg (fun e => l2 e.symm), if_pos ⟨hl, rfl⟩]
    · have l1 := lf q hq
      rw [if_neg (by omega), if_neg (by omega), if_neg (by omega), if_neg (fun e => by have := (hrw.nc e.1).1.1; omega), dif_neg (fun ⟨i, h1, h2, h3⟩ => by have := lp i h1 h2; omega)]
    · have l1 := lp q hq hl
      have l2 := (hrw.pl q hq hl).2.2.1
      have hex : ∃ i, i < x.cells.length ∧ 0 < (x.c i).prs.length ∧ pb i = pb q := ⟨q, hq, hl, rfl⟩
      rw [if_neg (by omega), if_neg (by omega), if_neg l2.1, if_neg (fun e => l2.2 e.2), dif_pos hex]
      have sp := Classical.choose_spec hex
      have : Classical.choose hex = q := by
        rcases Nat.decEq (Classical.choose hex) q with h | h
        · exact absurd sp.2.2 (hrw.dp _ q sp.1 hq h sp.2.1 hl)
        · exact h
      rw [this]
end Go.Proofs.YtkabcfhemljnbaaGreat

namespace Go.Proofs.YtkabcfhemljnbaaGreat
open Go.RowKit
attribute [local go_sem ↓] Go.wp_at_zero Go.wp_at_succ

/-! slices.Grow of the nodes. -/
theorem set_same {w : World} {p : Addr} {v : Value} (h : w.cell? p = some v) : w.setCell p v = w := by
  have key : (w.setCell p v).heap = w.heap := by
    unfold World.cell? at h
    unfold World.setCell
    apply Array.ext_getElem?
    intro i
    rw [Array.getElem?_modify]
    by_cases e : p.block = i
    · subst e
      rw [if_pos rfl]
      cases hh : w.heap[p.block]? with
      | none => rfl
      | some o =>
        rw [hh] at h
        cases o with
        | cells c t f =>
          simp only at h
          by_cases hs : p.spot.isSome = true
          · simp [hs] at h
          · simp only [hs] at h
            simp only [Option.map_some, hs]
            congr 1
            have hc : c.setIfInBounds p.off v = c := by
              apply Array.ext_getElem?
              intro k
              rw [Array.getElem?_setIfInBounds]
              by_cases e2 : p.off = k
              · subst e2; rw [if_pos rfl]
                have := (Array.getElem?_eq_some_iff.1 h).1
                rw [if_pos this]; exact h.symm
              · rw [if_neg e2]
            simp [hc]
        | _ => simp at h
    · rw [if_neg e]
  unfold World.setCell at key ⊢
  simp only at key
  rw [key]
theorem infoNode2 : (Tryz.prog.info? 99).map (fun i => (i.zero, i.size, i.bytes)) = some (some (.agg #[.int .i64 0, .pointer none]), 2, 16) := by kernel_rfl
set_option maxRecDepth 100000 in
set_option maxHeartbeats 2000000 in
theorem grow_room (base : Option Addr) (l n : Nat) (w : World) (hn : n = 0) :
    Calls Tryz.prog 122 #[.slice base l l, .int .i64 n] w fun e w' => e = .returned (.slice base l l) ∧ w' = w := by
  subst hn
  have h2 : wrap64 ((l : Int) - (l : Int)) = 0 := by unfold wrap64; omega
  go_enter Tryz.func122, Tryz.ntmps122
  go_wp2
  go_ret
  exact ⟨rfl, rfl⟩
/-- the nodes in a new row with room -/
def GrowPost (w : World) (l n : Nat) (cs : List Value) (e : Ending) (w' : World) : Prop := ∃ k m, e = .returned (.slice (some ⟨w.heap.size, 0, none⟩) l k) ∧ l + n ≤ k ∧ w' = w.drew.alloc (.cells (cs.toArray ++ m) 99)
set_option maxRecDepth 100000 in
set_option maxHeartbeats 4000000 in
theorem grow_new (bn l n : Nat) (cs : List Value) (w : World) (hl : l + n ≤ 8000) (hn : 0 < n) (hcl : cs.length = l * 2) (hcs : ∀ j v, cs[j]? = some v → w.cell? ⟨bn, j, none⟩ = some v) :
    Calls Tryz.prog 122 #[.slice (some ⟨bn, 0, none⟩) l l, .int .i64 n] w fun e w' => GrowPost w l n cs e w' := by
  obtain ⟨i0, hi0, hz0, hz1, hz2⟩ : ∃ i, Tryz.prog.info? 99 = some i ∧ i.zero = some (.agg #[.int .i64 0, .pointer none]) ∧ i.size = 2 ∧ i.bytes = 16 := by
    have := infoNode2
    cases h : Tryz.prog.info? 99 with
    | none => rw [h] at this; simp at this
    | some i => rw [h] at this; simp at this; exact ⟨i, rfl, this.1, this.2.1, this.2.2⟩
  have h2 : wrap64 ((l : Int) - (l : Int)) = 0 := by unfold wrap64; omega
  have hold : (Builtin.firstCells i0.size l (.slice (some ⟨bn, 0, none⟩) l l)).run Tryz.prog w.drew = .ok cs.toArray w.drew := run_firstCells_some w.drew i0.size l ⟨bn, 0, none⟩ l l cs (by rw [hcl, hz1]) (fun j v hj => by
    have : (⟨bn, 0, none⟩ : Addr).add j = ⟨bn, j, none⟩ := by unfold Addr.add; split <;> simp_all
    rw [this]; exact hcs j v hj)
  have hrz : ∀ ty, (Builtin.append_ #[92, 3] ty #[.slice (some ⟨bn, 0, none⟩) l l, .int .i64 (n : Int)]).run Tryz.prog w = .ok (.slice (some ⟨w.heap.size, 0, none⟩) (l + n) (grownCap w (l + n) l 99)) (w.drew.alloc (.cells (cs.toArray ++ Builtin.zeroCells (Value.agg #[.int .i64 0, .pointer none]).cells n ++ Builtin.zeroCells (Value.agg #[.int .i64 0, .pointer none]).cells (grownCap w (l + n) l 99 - (l + n))) 99)) := fun ty =>
    Go.Lib.run_append_grow_zeros w 92 3 ty 99 i0 _ .i64 .i64 Tryz.underlying92 Tryz.underlying3 hi0 hz0 (some ⟨bn, 0, none⟩) l l cs hold n hn (by omega) (by omega) (by omega) (by rw [hz2]; omega) (growslice_fits (by omega) (by rw [hz2]; omega))
  have hGn : l + n ≤ grownCap w (l + n) l 99 := grownCap_ge w _ _ _
  obtain ⟨G, hG⟩ : ∃ G, G = grownCap w (l + n) l 99 := ⟨_, rfl⟩
  rw [← hG] at hrz hGn
  have hG63 : G ≤ 9223372036854775807 := by
    have := grownCap_le_maxLen w (l + n) l 99 (by unfold maxLen; omega)
    rw [← hG] at this
    unfold maxLen at this
    omega
  have n0 : ¬ ((n : Int) < 0) := by omega
  have n1 : wrap64 ((n : Int) - 0) = n := by unfold wrap64; omega
  have n2 : (n : Int) > 0 := by omega
  have HGN := hide hGn
  clear hold hG hcs hcl
  go_enter Tryz.func122, Tryz.ntmps122
  go_wp2_with (at_builtin; refine Go.Lib.wpList_append_run _ rfl _ _ _ _ rfl _ _ rfl rfl _ _ (hrz _) ?_)
  go_ret
  exact ⟨G, _, rfl, unhide HGN, rfl⟩
end Go.Proofs.YtkabcfhemljnbaaGreat

namespace Go.Proofs.YtkabcfhemljnbaaGreat
open Go.RowKit

/-- the cells of the nodes -/
def nodeL (bc n : Nat) : List Value := (List.range (n * 2)).map (fun j => if j % 2 = 0 then iv (j / 2 : Nat) else .pointer (some ⟨bc, j / 2 * 8, none⟩))
theorem nodeL_at (bc n j : Nat) (h : j < n * 2) : (nodeL bc n)[j]? = some (if j % 2 = 0 then iv (j / 2 : Nat) else .pointer (some ⟨bc, j / 2 * 8, none⟩)) := by
  unfold nodeL
  rw [List.getElem?_map, List.getElem?_range h]
  rfl
/-- the nodes lie in a new row -/
theorem SAt.regrow {B : Nat} {w : World} {b : Nat} {x : Hp} {ar : Option Addr} {kr : Nat} {v4 v8 : Value} {br bc bn : Nat} {pb : Nat → Nat} {pa : Nat → Option Addr} {pk : Nat → Nat} {kn hd : Nat} {vf : Value} {F : List Int} {vk : Value} {role : Nat → Nat} (h : SAt B w b x ar kr v4 v8 br bc bn pb pa pk kn hd vf F vk [] role) (hg : x.gray = []) (hB : B ≤ w.heap.size) (k : Nat) (m : Array Value) (T : TypeId) :
    SAt B ((w.drew.alloc (.cells ((nodeL bc x.cells.length).toArray ++ m) T)).setCell ⟨b, 13, none⟩ (.slice (some ⟨w.heap.size, 0, none⟩) x.cells.length k)) b x ar kr v4 v8 br bc w.heap.size pb pa pk k hd vf F vk [] (fun q => if q = w.heap.size then 1 else role q) := by
  have hb := h.sb.nb.1
  have nb : b ≠ w.heap.size := by omega
  have far1 : ∀ q, q < w.heap.size → (w.drew.alloc (.cells ((nodeL bc x.cells.length).toArray ++ m) T)).heap[q]? = w.heap[q]? := fun q hq => Below.heap_alloc w.drew _ q hq
  have far : ∀ q, q < w.heap.size → q ≠ b → ((w.drew.alloc (.cells ((nodeL bc x.cells.length).toArray ++ m) T)).setCell ⟨b, 13, none⟩ (.slice (some ⟨w.heap.size, 0, none⟩) x.cells.length k)).heap[q]? = w.heap[q]? := fun q hq hn => (Below.heap_setCell _ _ _ _ hn).trans (far1 q hq)
  have cb : ∀ o, o ≠ 13 → ((w.drew.alloc (.cells ((nodeL bc x.cells.length).toArray ++ m) T)).setCell ⟨b, 13, none⟩ (.slice (some ⟨w.heap.size, 0, none⟩) x.cells.length k)).cell? ⟨b, o, none⟩ = w.cell? ⟨b, o, none⟩ := fun o ho => (cell_other _ (.inr (fun e => ho e.symm))).trans (World.cell?_of_block (a := ⟨b, o, none⟩) (far1 b hb))
  have hsz : w.heap.size + 1 = ((w.drew.alloc (.cells ((nodeL bc x.cells.length).toArray ++ m) T)).setCell ⟨b, 13, none⟩ (.slice (some ⟨w.heap.size, 0, none⟩) x.cells.length k)).heap.size := by simp [World.setCell]
  have hnew : ((w.drew.alloc (.cells ((nodeL bc x.cells.length).toArray ++ m) T)).setCell ⟨b, 13, none⟩ (.slice (some ⟨w.heap.size, 0, none⟩) x.cells.length k)).heap[w.heap.size]? = some (.cells ((nodeL bc x.cells.length).toArray ++ m) T) := (Below.heap_setCell _ _ _ _ (fun e => nb e.symm)).trans (heap_alloc_new w.drew _)
  have cn : ∀ j, j < x.cells.length * 2 → ((w.drew.alloc (.cells ((nodeL bc x.cells.length).toArray ++ m) T)).setCell ⟨b, 13, none⟩ (.slice (some ⟨w.heap.size, 0, none⟩) x.cells.length k)).cell? ⟨w.heap.size, j, none⟩ = some (if j % 2 = 0 then iv (j / 2 : Nat) else .pointer (some ⟨bc, j / 2 * 8, none⟩)) := fun j hj => by
    rw [cell_of_row _ w.heap.size j _ _ (0, 0) hnew, ← nodeL_at bc x.cells.length j hj]
    have hl : j < (nodeL bc x.cells.length).toArray.size := by simp [nodeL]; exact hj
    rw [Array.getElem?_append_left hl]
    simp
  have rb : ∀ q, role q ≠ 0 → q ≠ b := fun q hq e => hq (by rw [e]; exact h.sp.b)
  have nfb : Nf1 b ((w.drew.alloc (.cells ((nodeL bc x.cells.length).toArray ++ m) T)).setCell ⟨b, 13, none⟩ (.slice (some ⟨w.heap.size, 0, none⟩) x.cells.length k)) := (nf1_block h.sb.nb (far1 b hb) (by simp)).set _ _
  have c13 : (w.drew.alloc (.cells ((nodeL bc x.cells.length).toArray ++ m) T)).cell? ⟨b, 13, none⟩ = some (.slice (some ⟨bn, 0, none⟩) x.cells.length kn) := (World.cell?_of_block (a := ⟨b, 13, none⟩) (far1 b hb)).trans h.sb.n13
  refine ⟨⟨h.sb.bx.of fun o ho => cb o (by omega), h.sb.ha, World.cell?_setCell_same _ _ _ c13, fun i hi => ⟨?_, ?_⟩, ⟨(cb 14 (by omega)).trans h.sb.fr.hd, nfb.2 14, ownsRow_of_block h.sb.fr.own (fun q hq => far q (h.sb.fr.own.lt q hq).2 (rb q (by rw [h.sp.f q hq]; omega))), h.sb.fr.apart⟩, ?_, (cb 4017 (by omega)).trans h.sb.k0, ?_, nfb, ⟨h.sb.lo.1, hB, by omega⟩⟩, h.rw.same (by omega) (fun hl => far br (h.rw.nr hl).1.1 (rb br (by rw [h.sp.r hl]; omega))) (fun hl => far bc (h.rw.nc hl).1.1 (rb bc (by rw [h.sp.c hl]; omega))) (fun q hq hl => far (pb q) (h.rw.pl q hq hl).2.1.1 (rb (pb q) (by rw [h.sp.p q hq hl]; omega))), ?_⟩
  · have := cn (i * 2) (by omega)
    rw [if_pos (by omega), show i * 2 / 2 = i by omega] at this
    exact this
  · have := cn (i * 2 + 1) (by omega)
    rw [if_neg (by omega), show (i * 2 + 1) / 2 = i by omega] at this
    exact this
  · have r := h.sb.rg
    rw [hg] at r
    rw [hg]
    exact ⟨r.h0, r.hl, (cb 4015 (by omega)).trans r.r0, (cb 4016 (by omega)).trans r.r1, fun i hi => by simp at hi, fun j hj => let ⟨v, q⟩ := r.ro j hj; ⟨v, (cb _ (by omega)).trans q⟩⟩
  · have := h.sb.kp
    exact ownsRow_of_block (by simpa using this) (fun q hq => far q (h.sb.kp.lt q hq).2 (rb q (by rw [h.sp.k q hq]; omega)))
  · have ne : ∀ q, q < w.heap.size → ¬ q = w.heap.size := fun q hq => by omega
    refine ⟨?_, if_pos rfl, fun hl => ?_, fun hl => ?_, fun q hq => ?_, fun q hq => ?_, fun q hq hl => ?_⟩
    · rw [if_neg nb]; exact h.sp.b
    · rw [if_neg (ne br (h.rw.nr hl).1.1)]; exact h.sp.r hl
    · rw [if_neg (ne bc (h.rw.nc hl).1.1)]; exact h.sp.c hl
    · rw [if_neg (ne q (h.sb.fr.own.lt q hq).2)]; exact h.sp.f q hq
    · rw [if_neg (ne q (h.sb.kp.lt q hq).2)]; exact h.sp.k q hq
    · rw [if_neg (ne (pb q) (h.rw.pl q hq hl).2.1.1)]; exact h.sp.p q hq hl
/-- the nodes grow -/
theorem grow_any {B : Nat} {w : World} {b : Nat} {x : Hp} {ar : Option Addr} {kr : Nat} {v4 v8 : Value} {br bc bn : Nat} {pb : Nat → Nat} {pa : Nat → Option Addr} {pk : Nat → Nat} {hd : Nat} {vf : Value} {F : List Int} {vk : Value} {role : Nat → Nat} (h : SAt B w b x ar kr v4 v8 br bc bn pb pa pk x.cells.length hd vf F vk [] role) (hg : x.gray = []) (hB : B ≤ w.heap.size) (m : Nat) (hm : x.cells.length + m ≤ 8000) :
    Calls Tryz.prog 122 #[.slice (some ⟨bn, 0, none⟩) x.cells.length x.cells.length, .int .i64 m] w fun e w' => ∃ bn' kn', e = .returned (.slice (some ⟨bn', 0, none⟩) x.cells.length kn') ∧ Hid (∃ role', SAt B (w'.setCell ⟨b, 13, none⟩ (.slice (some ⟨bn', 0, none⟩) x.cells.length kn')) b x ar kr v4 v8 br bc bn' pb pa pk kn' hd vf F vk [] role') ∧ Hid (w'.cell? ⟨b, 13, none⟩ = some (.slice (some ⟨bn, 0, none⟩) x.cells.length x.cells.length) ∧ w'.frozen? ⟨b, 13, none⟩ = false ∧ Ext w w' ∧ x.cells.length + m ≤ kn') := by
  rcases Nat.eq_zero_or_pos m with e | e
  · refine (grow_room (some ⟨bn, 0, none⟩) x.cells.length m w e).mono ?_
    rintro e w' ⟨rfl, rfl⟩
    refine ⟨bn, x.cells.length, rfl, ⟨role, ?_⟩, h.sb.n13, h.sb.nb.2 13, Ext.refl _, by omega⟩
    rw [set_same h.sb.n13]
    exact h
  · refine (grow_new bn x.cells.length m (nodeL bc x.cells.length) w hm e (by simp [nodeL]) (fun j v hj => ?_)).mono ?_
    · have hj2 : j < x.cells.length * 2 := by have := (List.getElem?_eq_some_iff.1 hj).1; simpa [nodeL] using this
      rw [nodeL_at bc x.cells.length j hj2] at hj
      rw [← hj]
      obtain ⟨p0, p1⟩ := h.sb.nd (j / 2) (by omega)
      by_cases ev : j % 2 = 0
      · rw [if_pos ev]
        rw [show j / 2 * 2 = j by omega] at p0
        exact p0
      · rw [if_neg ev]
        rw [show j / 2 * 2 + 1 = j by omega] at p1
        exact p1
    · rintro e w' ⟨k, mm, rfl, hk, rfl⟩
      have xw : Ext w (w.drew.alloc (.cells ((nodeL bc x.cells.length).toArray ++ mm) 99)) := (Ext.refl w).drew.alloc _
      exact ⟨w.heap.size, k, rfl, ⟨_, h.regrow hg hB k mm _⟩, xw.keep h.sb.n13, ((bcell xw).2 b 13 h.sb.nb.1).trans (h.sb.nb.2 13), xw, hk⟩
end Go.Proofs.YtkabcfhemljnbaaGreat
