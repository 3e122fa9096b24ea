import Derived.Test.YtbcmjcomdjdjaaaGreatImpB6
import Derived.Test.YtbcmjcomdjdjaaaGreatImpO
import Derived.Test.YtbcmjcomdjdjaaaGreatTo
import Derived.BigRegion
namespace Go.Proofs.YtbcmjcomdjdjaaaGreat
open Go.RowKit
attribute [local go_sem ↓] Go.wp_at_zero Go.wp_at_succ

theorem infoNodes : (Tryz.prog.info? 64).map (fun i => (i.zero, i.size, i.bytes)) = some (some (.agg #[iv 0, .pointer none]), 2, 16) := by kernel_rfl
theorem mkNodes (n : Nat) (hn : n ≤ 1048576) (w : World) : ∃ z, (Instr.makeSlice 94 (.int .i64 n) (.int .i64 n)).run Tryz.prog w = .ok (.slice (some ⟨w.heap.size, 0, none⟩) n n) (w.alloc (.cells (madeCells z (n * 2)) 64)) := by
  obtain ⟨i0, hi, hz0, hz1, hz2⟩ := info_parts infoNodes
  have h := run_make (P := Tryz.prog) w 94 64 i0 _ Tryz.underlying94 hi hz0 .i64 .i64 n n (by omega) (Int.le_refl _) (by rw [hz2]; omega) (by omega)
  rw [hz1] at h
  simp only [Int.toNat_natCast] at h
  exact ⟨_, h⟩

/-- a heap in the first thirteen cells of a block -/
theorem hat_of (x : Hp) (w : World) (b : Nat) {ar : Option Addr} {kr : Nat} {ac : Option Addr} {kc : Nat} {ag : Option Addr} {kg : Nat}
    (hc : ∀ o v, #[iv x.room, iv x.used, iv x.born, .slice ar x.regs.length kr, .slice ac x.cells.length kc, iv x.phase, iv x.hand, iv x.sub, .slice ag x.gray.length kg, iv x.per, iv x.start, iv x.rounds, iv x.forced][o]? = some v → w.cell? ⟨b, o, none⟩ = some v)
    (hR : SlW w (.slice ar x.regs.length kr) x.regs) (hC : SlC w (.slice ac x.cells.length kc) x.cells) (hG : SlI w (.slice ag x.gray.length kg) x.gray) : HAt w b x ar kr ac kc ag kg := by
  obtain ⟨a1, k1, v1, l1, R⟩ := hR
  obtain ⟨a2, k2, v2, l2, C⟩ := hC
  obtain ⟨a3, k3, v3, l3, G⟩ := hG
  simp only [Value.slice.injEq] at v1 v2 v3
  obtain ⟨rfl, _, rfl⟩ := v1
  obtain ⟨rfl, _, rfl⟩ := v2
  obtain ⟨rfl, _, rfl⟩ := v3
  refine ⟨hc 0 _ rfl, hc 1 _ rfl, hc 2 _ rfl, hc 3 _ rfl, hc 4 _ rfl, hc 5 _ rfl, hc 6 _ rfl, hc 7 _ rfl, hc 8 _ rfl, hc 9 _ rfl, hc 10 _ rfl, hc 11 _ rfl, hc 12 _ rfl, l1, l2, l3, R, ?_, G⟩
  intro i hi
  obtain ⟨b', o, a, p⟩ := C i hi
  rw [Hp.c_eq] at p
  exact ⟨b', o, a, p⟩

/-- the view as 'open' makes it, the nodes of k places done, the free ones among j places put -/
structure Opn (w wr : World) (x : Hp) (bx b bn k j : Nat) (ar : Option Addr) (kr : Nat) (ac : Option Addr) (kc : Nat) (ag : Option Addr) (kg : Nat) (vf : Value) (F : List Int) : Prop where
  e : Ext w wr
  hb : w.heap.size ≤ bx ∧ bx < b ∧ b < bn ∧ bn < wr.heap.size
  x4 : wr.cell? ⟨bx, 4, none⟩ = some (.slice ac x.cells.length kc)
  c : ∀ o v, #[iv x.room, iv x.used, iv x.born, .slice ar x.regs.length kr, .slice ac x.cells.length kc, iv x.phase, iv x.hand, iv x.sub, .slice ag x.gray.length kg, iv x.per, iv x.start, iv x.rounds, iv x.forced][o]? = some v → wr.cell? ⟨b, o, none⟩ = some v
  n13 : wr.cell? ⟨b, 13, none⟩ = some (.slice (some ⟨bn, 0, none⟩) x.cells.length x.cells.length)
  n : ∀ i, i < k → ∃ bc oc, ac = some ⟨bc, oc, none⟩ ∧ wr.cell? ⟨bn, i * 2, none⟩ = some (iv i) ∧ wr.cell? ⟨bn, i * 2 + 1, none⟩ = some (.pointer (some ⟨bc, oc + i * 8, none⟩))
  o : ∀ j, j < x.cells.length * 2 → Open wr bn j
  f : LsAt wr (bn + 1) b 14 vf F
  fo : Ho F
  fp : F.Perm (frees x j)

theorem Opn.len {w wr : World} {x : Hp} {bx b bn k j : Nat} {ar : Option Addr} {kr : Nat} {ac : Option Addr} {kc : Nat} {ag : Option Addr} {kg : Nat} {vf : Value} {F : List Int} (h : Opn w wr x bx b bn k j ar kr ac kc ag kg vf F) : F.length ≤ j := by
  rw [h.fp.length_eq]; exact valsTo_len _ _ _
theorem Opn.same {w wr w' : World} {x : Hp} {bx b bn k j : Nat} {ar : Option Addr} {kr : Nat} {ac : Option Addr} {kc : Nat} {ag : Option Addr} {kg : Nat} {vf : Value} {F : List Int} (h : Opn w wr x bx b bn k j ar kr ac kc ag kg vf F) (h1 : w'.heap = wr.heap) (h2 : w'.os = wr.os) (h3 : w'.tape = wr.tape) (h4 : w'.output = wr.output) :
    Opn w w' x bx b bn k j ar kr ac kc ag kg vf F := by
  have e : Ext wr w' := ⟨h2, h3, h4, by rw [h1]; exact Nat.le_refl _, fun k _ => by rw [h1]⟩
  exact ⟨h.e.trans e, ⟨h.hb.1, h.hb.2.1, h.hb.2.2.1, by rw [h1]; exact h.hb.2.2.2⟩, e.keep h.x4, fun o v q => e.keep (h.c o v q), e.keep h.n13, fun i hi => let ⟨bc, oc, a, p, q⟩ := h.n i hi; ⟨bc, oc, a, e.keep p, e.keep q⟩, fun j hj => (h.o j hj).ext e, h.f.ext e, h.fo, h.fp⟩

/-- a node laid -/
theorem Opn.lay {w wr : World} {x : Hp} {bx b bn k : Nat} {ar : Option Addr} {kr : Nat} {ac : Option Addr} {kc : Nat} {ag : Option Addr} {kg : Nat} {vf : Value} {F : List Int} {bc oc : Nat} (h : Opn w wr x bx b bn k k ar kr ac kc ag kg vf F) (hac : ac = some ⟨bc, oc, none⟩) (hk : k < x.cells.length) :
    Opn w ((wr.setCell ⟨bn, k * 2, none⟩ (iv k)).setCell ⟨bn, k * 2 + 1, none⟩ (.pointer (some ⟨bc, oc + k * 8, none⟩))) x bx b bn (k + 1) k ar kr ac kc ag kg vf F := by
  obtain ⟨hb1, hb2, hb3, hb4⟩ := h.hb
  have o1 := h.o (k * 2) (by omega)
  have o2 := h.o (k * 2 + 1) (by omega)
  have far : ∀ B O, B ≠ bn → ((wr.setCell ⟨bn, k * 2, none⟩ (iv k)).setCell ⟨bn, k * 2 + 1, none⟩ (.pointer (some ⟨bc, oc + k * 8, none⟩))).cell? ⟨B, O, none⟩ = wr.cell? ⟨B, O, none⟩ := fun B O hB => by
    rw [cell_other _ (.inl (fun e => hB e.symm)), cell_other _ (.inl (fun e => hB e.symm))]
  have farb : ∀ B : Nat, B ≠ bn → ((wr.setCell ⟨bn, k * 2, none⟩ (iv k)).setCell ⟨bn, k * 2 + 1, none⟩ (.pointer (some ⟨bc, oc + k * 8, none⟩))).heap[B]? = wr.heap[B]? := fun B hB => by
    rw [Below.heap_setCell _ _ _ _ (show B ≠ bn from hB), Below.heap_setCell _ _ _ _ (show B ≠ bn from hB)]
  refine ⟨(h.e.setCell (by show w.heap.size ≤ bn; omega) _).setCell (by show w.heap.size ≤ bn; omega) _, ⟨hb1, hb2, hb3, by simpa [World.setCell] using hb4⟩, by rw [far _ _ (by omega)]; exact h.x4, fun o v q => by rw [far _ _ (by omega)]; exact h.c o v q, by rw [far _ _ (by omega)]; exact h.n13, fun i hi => ?_, fun j hj => ((h.o j hj).set _ _).set _ _, ⟨by rw [far _ _ (by omega)]; exact h.f.hd, ?_, ?_, h.f.apart⟩, h.fo, h.fp⟩
  · by_cases e : i = k
    · subst e
      refine ⟨bc, oc, hac, ?_, (o2.set _ _).same _⟩
      rw [cell_other _ (.inr (by omega))]
      exact o1.same _
    · obtain ⟨bc', oc', a, p, q⟩ := h.n i (by omega)
      refine ⟨bc', oc', a, ?_, ?_⟩
      · rw [cell_other _ (.inr (by omega)), cell_other _ (.inr (by omega))]; exact p
      · rw [cell_other _ (.inr (by omega)), cell_other _ (.inr (by omega))]; exact q
  · rw [World.frozen?_setCell, World.frozen?_setCell]; exact h.f.hf
  · exact ownsRow_of_block h.f.own (fun B hB => farb B (by have := (h.f.rlt B hB).1; omega))

theorem Opn.skip {w wr : World} {x : Hp} {bx b bn k : Nat} {ar : Option Addr} {kr : Nat} {ac : Option Addr} {kc : Nat} {ag : Option Addr} {kg : Nat} {vf : Value} {F : List Int} (h : Opn w wr x bx b bn (k + 1) k ar kr ac kc ag kg vf F) (hs : isSt x 0 k = false) :
    Opn w wr x bx b bn (k + 1) (k + 1) ar kr ac kc ag kg vf F :=
  ⟨h.e, h.hb, h.x4, h.c, h.n13, h.n, h.o, h.f, h.fo, by unfold frees; rw [valsTo_no _ _ _ hs]; exact h.fp⟩

theorem Opn.put {w wr w' : World} {x : Hp} {bx b bn k : Nat} {ar : Option Addr} {kr : Nat} {ac : Option Addr} {kc : Nat} {ag : Option Addr} {kg : Nat} {vf v' : Value} {F F' : List Int} (h : Opn w wr x bx b bn (k + 1) k ar kr ac kc ag kg vf F) (hs : isSt x 0 k = true)
    (l : LsAt w' (bn + 1) b 14 v' F') (o : Ho F') (p : F'.Perm ((k : Int) :: F)) (q : QFr b 14 vf v' wr w') : Opn w w' x bx b bn (k + 1) (k + 1) ar kr ac kc ag kg v' F' := by
  obtain ⟨hb1, hb2, hb3, hb4⟩ := h.hb
  have hv : ∀ B, B ≤ bn → vf.ownBlock ≠ some B := fun B hB e => by have := (h.f.rlt B e).1; omega
  refine ⟨q.ext h.e (by omega) (fun B hB => by have := (h.f.rlt B hB).1; omega), ⟨hb1, hb2, hb3, Nat.lt_of_lt_of_le hb4 q.size⟩, q.cells h.x4 (by omega) (hv _ (by omega)), fun o v hq => ?_, by rw [q.hdr 13 (by omega)]; exact h.n13, fun i hi => ?_, fun j hj => ?_, l, o, ?_⟩
  · have ho : o < 13 := by
      rcases Nat.lt_or_ge o 13 with h' | h'
      · exact h'
      · rw [Array.getElem?_eq_none (by simpa using h')] at hq; cases hq
    rw [q.hdr o (by omega)]; exact h.c o v hq
  · obtain ⟨bc, oc, a, p1, p2⟩ := h.n i hi
    exact ⟨bc, oc, a, q.cells p1 (by omega) (hv _ (by omega)), q.cells p2 (by omega) (hv _ (by omega))⟩
  · obtain ⟨⟨v, h1⟩, h2⟩ := h.o j hj
    refine ⟨⟨v, q.cells h1 (by omega) (hv _ (by omega))⟩, ?_⟩
    rw [World.frozen?_of_block (w := wr) (a := ⟨bn, j, none⟩) (q.block bn hb4 (by omega) (hv _ (by omega)))]; exact h2
  · unfold frees
    rw [valsTo_yes _ _ _ hs]
    exact (p.trans (h.fp.cons _)).trans (List.perm_append_singleton _ _).symm

theorem Opn.done {w wr : World} {x : Hp} {bx b bn : Nat} {ar : Option Addr} {kr : Nat} {ac : Option Addr} {kc : Nat} {ag : Option Addr} {kg : Nat} {vf : Value} {F : List Int} (h : Opn w wr x bx b bn x.cells.length x.cells.length ar kr ac kc ag kg vf F)
    (hR : SlW w (.slice ar x.regs.length kr) x.regs) (hC : SlC w (.slice ac x.cells.length kc) x.cells) (hG : SlI w (.slice ag x.gray.length kg) x.gray) :
    VAt wr b x ar kr ac kc ag kg (some ⟨bn, 0, none⟩) x.cells.length ∧ FAt wr b x (bn + 1) vf F :=
  ⟨⟨hat_of x wr b h.c (SlW.ext h.e hR) (SlC.ext h.e hC) (SlI.ext h.e hG), h.n13, fun i hi => let ⟨bc, oc, a, p, q⟩ := h.n i hi; ⟨bn, 0, bc, oc, rfl, a, by simpa using p, by simpa using q⟩⟩, h.f, h.fo, h.fp⟩
end Go.Proofs.YtbcmjcomdjdjaaaGreat

namespace Go.Proofs.YtbcmjcomdjdjaaaGreat
open Go.RowKit
attribute [local go_sem ↓] Go.wp_at_zero Go.wp_at_succ

theorem view_box (x : Hp) (w : World) (ar : Option Addr) (kr : Nat) (ac : Option Addr) (kc : Nat) (ag : Option Addr) (kg : Nat) :
    ∀ o v, #[iv x.room, iv x.used, iv x.born, .slice ar x.regs.length kr, .slice ac x.cells.length kc, iv x.phase, iv x.hand, iv x.sub, .slice ag x.gray.length kg, iv x.per, iv x.start, iv x.rounds, iv x.forced][o]? = some v → ((w.alloc (.cells #[iv x.room, iv x.used, iv x.born, .slice ar x.regs.length kr, .slice ac x.cells.length kc, iv x.phase, iv x.hand, iv x.sub, .slice ag x.gray.length kg, iv x.per, iv x.start, iv x.rounds, iv x.forced] 32)).alloc (.cells #[iv x.room, iv x.used, iv x.born, .slice ar x.regs.length kr, .slice ac x.cells.length kc, iv x.phase, iv x.hand, iv x.sub, .slice ag x.gray.length kg, iv x.per, iv x.start, iv x.rounds, iv x.forced, .slice none 0 0, .slice none 0 0] 98)).cell? ⟨w.heap.size + 1, o, none⟩ = some v := fun o v hv => by
  have ho : o < 13 := by
    rcases Nat.lt_or_ge o 13 with h' | h'
    · exact h'
    · rw [Array.getElem?_eq_none (by simpa using h')] at hv; cases hv
  match o, ho with
  | 0, _ | 1, _ | 2, _ | 3, _ | 4, _ | 5, _ | 6, _ | 7, _ | 8, _ | 9, _ | 10, _ | 11, _ | 12, _ => simp [go_sem]; exact Option.some.inj hv

theorem SlC.nth {w : World} {x : Hp} {ac : Option Addr} {kc : Nat} (h : SlC w (.slice ac x.cells.length kc) x.cells) (k : Nat) (hk : k < x.cells.length) : ∃ bc oc, ac = some ⟨bc, oc, none⟩ ∧ bc < w.heap.size ∧ ClAt w bc (oc + k * 8) (x.c k) := by
  obtain ⟨_, _, v, _, C⟩ := h
  obtain ⟨b', o', a, p⟩ := C k hk
  rw [Hp.c_eq] at p
  simp only [Value.slice.injEq] at v
  exact ⟨b', o', v.1.trans a, let ⟨_, p0, _⟩ := p; cell_lt p0, p⟩

/-- the view with its nodes made, none laid -/
theorem Opn.start {w w1 : World} {x : Hp} {ar : Option Addr} {kr : Nat} {ac : Option Addr} {kc : Nat} {ag : Option Addr} {kg : Nat} (z : Array Value)
    (hq : Ext ((w.alloc (.cells #[iv x.room, iv x.used, iv x.born, .slice ar x.regs.length kr, .slice ac x.cells.length kc, iv x.phase, iv x.hand, iv x.sub, .slice ag x.gray.length kg, iv x.per, iv x.start, iv x.rounds, iv x.forced] 32)).alloc (.cells #[iv x.room, iv x.used, iv x.born, .slice ar x.regs.length kr, .slice ac x.cells.length kc, iv x.phase, iv x.hand, iv x.sub, .slice ag x.gray.length kg, iv x.per, iv x.start, iv x.rounds, iv x.forced, .slice none 0 0, .slice none 0 0] 98)) w1) :
    Opn w ((w1.alloc (.cells (madeCells z (x.cells.length * 2)) 64)).setCell ⟨w.heap.size + 1, 13, none⟩ (.slice (some ⟨w1.heap.size, 0, none⟩) x.cells.length x.cells.length)) x w.heap.size (w.heap.size + 1) w1.heap.size 0 0 ar kr ac kc ag kg (.slice none 0 0) [] := by
  have xe : Ext w ((w.alloc (.cells #[iv x.room, iv x.used, iv x.born, .slice ar x.regs.length kr, .slice ac x.cells.length kc, iv x.phase, iv x.hand, iv x.sub, .slice ag x.gray.length kg, iv x.per, iv x.start, iv x.rounds, iv x.forced] 32)).alloc (.cells #[iv x.room, iv x.used, iv x.born, .slice ar x.regs.length kr, .slice ac x.cells.length kc, iv x.phase, iv x.hand, iv x.sub, .slice ag x.gray.length kg, iv x.per, iv x.start, iv x.rounds, iv x.forced, .slice none 0 0, .slice none 0 0] 98)) := ((Ext.refl w).alloc _).alloc _
  have hsz : w.heap.size + 2 ≤ w1.heap.size := by have := hq.size; simp at this; omega
  have old : ∀ o v, w1.cell? ⟨w.heap.size + 1, o, none⟩ = some v → o ≠ 13 → ((w1.alloc (.cells (madeCells z (x.cells.length * 2)) 64)).setCell ⟨w.heap.size + 1, 13, none⟩ (.slice (some ⟨w1.heap.size, 0, none⟩) x.cells.length x.cells.length)).cell? ⟨w.heap.size + 1, o, none⟩ = some v := fun o v h ho => by
    rw [cell_other _ (.inr (fun e => ho e.symm))]; exact ((Ext.refl w1).alloc _).keep h
  have c13 : (w1.alloc (.cells (madeCells z (x.cells.length * 2)) 64)).cell? ⟨w.heap.size + 1, 13, none⟩ = some (.slice none 0 0) := ((Ext.refl w1).alloc _).keep (hq.keep (by simp [go_sem]))
  have c14 : w1.cell? ⟨w.heap.size + 1, 14, none⟩ = some (.slice none 0 0) := hq.keep (by simp [go_sem])
  have f14 : w1.frozen? ⟨w.heap.size + 1, 14, none⟩ = false := by
    rw [hq.frozen (p := ⟨w.heap.size + 1, 14, none⟩) (by simp)]; simp [go_sem]
  refine ⟨((xe.trans hq).alloc _).setCell (by show _ ≤ w.heap.size + 1; omega) _, ⟨Nat.le_refl _, by omega, by omega, by simp [World.setCell]⟩, ?_, fun o v hv => old o v (hq.keep (view_box x w ar kr ac kc ag kg o v hv)) ?_, World.cell?_setCell_same _ _ _ c13, fun i hi => by omega, fun j hj => (made_open _ _ _ _ _ hj).set _ _, LsAt.nil (old 14 _ c14 (by omega)) ?_, Ho.nil, List.Perm.refl _⟩
  · rw [cell_other _ (.inl (by omega))]
    exact ((Ext.refl w1).alloc _).keep (hq.keep (by simp [go_sem]))
  · intro e
    rw [e] at hv
    simp at hv
  · rw [World.frozen?_setCell, ((Ext.refl w1).alloc _).frozen (p := ⟨w.heap.size + 1, 14, none⟩) (by show w.heap.size + 1 < w1.heap.size; omega)]
    exact f14

set_option maxRecDepth 100000 in
set_option maxHeartbeats 4000000 in
theorem open_any (x : Hp) (w : World) {ar : Option Addr} {kr : Nat} {ac : Option Addr} {kc : Nat} {ag : Option Addr} {kg : Nat} (hR : SlW w (.slice ar x.regs.length kr) x.regs) (hC : SlC w (.slice ac x.cells.length kc) x.cells) (hG : SlI w (.slice ag x.gray.length kg) x.gray) :
    Calls Tryz.prog 49 #[x.v (.slice ar x.regs.length kr) (.slice ac x.cells.length kc) (.slice ag x.gray.length kg)] w fun e w' => ∃ b, Hid (e = .returned (.pointer (some ⟨b, 0, none⟩))) ∧ Ext w w' ∧ Hid ((¬ R1 x ∧ HAt w' b x ar kr ac kc ag kg) ∨ (R1 x ∧ ∃ an kn base vf F, VAt w' b x ar kr ac kc ag kg an kn ∧ FAt w' b x base vf F ∧ Hid (∃ bn on, an = some ⟨bn, on, none⟩))) := by
  have HSL := hide (And.intro hR (And.intro hC hG))
  have lc : x.cells.length ≤ 35184372088832 := let ⟨_, _, _, l, _⟩ := hC; l
  clear hR hC hG
  go_enter Tryz.func49, Tryz.ntmps49
  go_wp2_with fail
  have xe : Ext w ((w.alloc (.cells #[iv x.room, iv x.used, iv x.born, .slice ar x.regs.length kr, .slice ac x.cells.length kc, iv x.phase, iv x.hand, iv x.sub, .slice ag x.gray.length kg, iv x.per, iv x.start, iv x.rounds, iv x.forced] 32)).alloc (.cells #[iv x.room, iv x.used, iv x.born, .slice ar x.regs.length kr, .slice ac x.cells.length kc, iv x.phase, iv x.hand, iv x.sub, .slice ag x.gray.length kg, iv x.per, iv x.start, iv x.rounds, iv x.forced, .slice none 0 0, .slice none 0 0] 98)) := ((Ext.refl w).alloc _).alloc _
  have hh := hat_of x _ (w.heap.size + 1) (view_box x w ar kr ac kc ag kg) (SlW.ext xe (unhide HSL).1) (SlC.ext xe (unhide HSL).2.1) (SlI.ext xe (unhide HSL).2.2)
  refine (limitsKept_any x (w.heap.size + 1) _ hh).mono ?_
  rintro e w1 ⟨r, rfl, hr, hq⟩
  have X1 := hide (xe.trans hq)
  cases r
  · have N := hide (show ¬ R1 x from fun r => by have := hr.2 r; simp at this)
    have H1 := hide (hh.ext hq)
    clear hr hq hh xe
    go_wp2_with fail
    go_ret
    exact ⟨w.heap.size + 1, rfl, unhide X1, .inl ⟨unhide N, unhide H1⟩⟩
  have Y := hide (hr.1 rfl)
  have hn8 : x.cells.length ≤ 8000 := by have := (unhide Y).room; have := (unhide Y).cells; omega
  have hsz : w.heap.size + 2 ≤ w1.heap.size := by have := hq.size; simp at this; omega
  have hs0 : w.heap.size < w1.heap.size := by omega
  have hs1 : w.heap.size + 1 < w1.heap.size := by omega
  obtain ⟨z, hmk⟩ := mkNodes x.cells.length (by omega) w1
  have s0 := Opn.start z hq
  rw [World.setCell_alloc_past _ _ _ _ hs1] at s0
  have S0 := hide s0
  clear s0
  have b4 : w1.cell? ⟨w.heap.size, 4, none⟩ = some (.slice ac x.cells.length kc) := hq.keep (by simp [go_sem])
  have b13 : w1.cell? ⟨w.heap.size + 1, 13, none⟩ = some (.slice none 0 0) := hq.keep (by simp [go_sem])
  have g13 : w1.frozen? ⟨w.heap.size + 1, 13, none⟩ = false := by
    rw [hq.frozen (p := ⟨w.heap.size + 1, 13, none⟩) (by simp)]; simp [go_sem]
  clear hr hh xe hq
  go_wp2_with fail
  go_loopw [22] (fun i wr => ∃ (k : Nat) (vf : Value) (F : List Int), k ≤ x.cells.length ∧ i = .int .i64 k ∧ Opn w wr x w.heap.size (w.heap.size + 1) w1.heap.size k k ar kr ac kc ag kg vf F) (fun i _ => x.cells.length - (intOf i).toNat)
  case atStart => exact ⟨0, _, _, Nat.zero_le _, rfl, unhide S0⟩
  case round =>
    clear S0 b4 b13 g13 hmk
    obtain ⟨k, vf, F, hk, rfl, hop⟩ := hrel
    have HO := hide hop
    by_cases hlt : k < x.cells.length
    · obtain ⟨bc, oc, hac, hbc, vp, p0', _⟩ := SlC.nth (unhide HSL).2.1 k hlt
      have P0 := hide p0'
      clear p0'
      have q4 := hop.x4
      have q13 := hop.n13
      rw [hac] at q4
      obtain ⟨⟨u1, v1⟩, f1⟩ := hop.o (k * 2) (by omega)
      obtain ⟨⟨u2, v2⟩, f2⟩ := hop.o (k * 2 + 1) (by omega)
      have hk0 : (0:Int) ≤ (k:Int) := by omega
      have hk1 : (k:Int) < (x.cells.length:Int) := by omega
      have hbw : w1.heap.size < wr.heap.size := hop.hb.2.2.2
      have L2 := hide (hop.lay hac hlt)
      have HAC := hide hac
      clear hop hac
      go_wp2_with fail
      go_region
      generalize hW : ((wr.setCell ⟨w1.heap.size, k * 2, none⟩ (.int .i64 k)).setCell ⟨w1.heap.size, k * 2 + 1, none⟩ (.pointer (some ⟨bc, oc + k * 8, none⟩))).drew = W2
      have L3 := hide ((unhide L2).same (w' := W2) (by rw [← hW]; rfl) (by rw [← hW]; rfl) (by rw [← hW]; rfl) (by rw [← hW]; rfl))
      have q4' := (unhide L3).x4
      rw [unhide HAC] at q4'
      have p0 := (unhide L3).e.keep (unhide P0)
      have hlen : F.length ≤ 100000 := by have := (unhide L3).len; omega
      have hbs : w1.heap.size + 1 ≤ W2.heap.size := (unhide L3).hb.2.2.2
      clear hW L2 q4 q13 v1 v2 f1 f2 hbw
      cases s0 : ((x.c k).st == 0)
      · have L4 := hide ((unhide L3).skip s0)
        go_wp2_with fail
        go_roundw
        case rel => exact ⟨k + 1, vf, F, by omega, by go_num, unhide L4⟩
        case measure => simp [intOf]; omega
      · go_wp2_with fail
        refine (put_ls _ (w1.heap.size + 1) (w.heap.size + 1) 14 vf F (k : Int) (unhide L3).f hbs (unhide L3).fo hlen).mono ?_
        rintro e w3 ⟨rfl, v3, F3, l3, o3, p3, q3⟩
        have L4 := hide ((unhide L3).put s0 l3 o3 p3 q3)
        clear l3 o3 p3 q3
        go_wp2_with fail
        go_roundw
        case rel => exact ⟨k + 1, v3, F3, by omega, by go_num, unhide L4⟩
        case measure => simp [intOf]; omega
    · have hk2 : k = x.cells.length := by omega
      subst hk2
      have D := hide (hop.done (unhide HSL).1 (unhide HSL).2.1 (unhide HSL).2.2)
      have E := hide hop.e
      clear hop hk hlt
      go_wp2_with fail
      go_ret
      exact ⟨w.heap.size + 1, rfl, unhide E, .inr ⟨unhide Y, _, _, _, _, _, (unhide D).1, (unhide D).2, ⟨_, _, rfl⟩⟩⟩
end Go.Proofs.YtbcmjcomdjdjaaaGreat
