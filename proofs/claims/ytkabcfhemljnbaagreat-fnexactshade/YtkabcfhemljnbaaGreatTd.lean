import Derived.Test.YtkabcfhemljnbaaGreatSa
import Derived.Test.YtkabcfhemljnbaaGreatTo2
import Derived.Test.YtkabcfhemljnbaaGreatHh
namespace Go.Proofs.YtkabcfhemljnbaaGreat
open Go.RowKit
attribute [local go_sem ↓] Go.wp_at_zero Go.wp_at_succ

set_option maxRecDepth 100000 in
set_option maxHeartbeats 2000000 in
theorem places_any (b bn hd n : Nat) (G : List Int) (w : World) (h : RAt w b bn hd G) (hn : ∀ i, i < n → w.cell? ⟨bn, i * 2, none⟩ = some (iv i)) (hG : ∀ g, g ∈ G → 0 ≤ g ∧ g < n) :
    Calls Tryz.prog 127 #[.pointer (some ⟨b, 15, none⟩)] w fun e w' => e = .returned (.slice (some ⟨w.heap.size, 0, none⟩) G.length G.length) ∧ SlI w' (.slice (some ⟨w.heap.size, 0, none⟩) G.length G.length) G ∧ Nf1 w.heap.size w' ∧ Ext w w' := by
  have r1 := h.r1
  have hl := h.hl
  have H := hide h
  have HN := hide hn
  have HG := hide hG
  obtain ⟨z, hmk⟩ := mkInts G.length (by omega) w
  clear h hn hG
  go_enter Tryz.func127, Tryz.ntmps127
  go_wp2_with fail
  go_loopw [12] (fun i wr => ∃ (k : Nat), k ≤ G.length ∧ i = .int .i64 k ∧ Hid ((∀ j (hj : j < G.length), j < k → InAt wr w.heap.size (0 + j * 1) G[j]) ∧ (∀ j, j < G.length * 1 → Open wr w.heap.size j) ∧ Ext w wr ∧ Nf1 w.heap.size wr)) (fun i _ => G.length - (intOf i).toNat)
  case atStart => exact ⟨0, Nat.zero_le _, rfl, (fun j _ h => by omega), (fun j hj => made_open _ _ _ _ _ (by omega)), (Ext.refl w).alloc _, Nf1.made _ _ _ _⟩
  case round =>
    clear hmk r1
    obtain ⟨k, hk, rfl, hinv⟩ := hrel
    by_cases hlt : k < G.length
    · have hx := (unhide hinv).2.2.1
      obtain ⟨m, hm⟩ : ∃ m, m = (hd + k) % 4000 := ⟨_, rfl⟩
      have hm4 : m < 4000 := by rw [hm]; exact Nat.mod_lt _ (by omega)
      have hr : ((hd : Int) + (k : Int)).tmod 4000 = (m : Int) := by have := ring_idx (hd + k); rw [← hm] at this; simpa using this
      have m0 : (0:Int) ≤ (m:Int) := by omega
      have m1 : (m:Int) < 4000 := by omega
      have hg := unhide HG G[k] (List.getElem_mem hlt)
      obtain ⟨j, hj⟩ : ∃ j : Nat, G[k] = (j : Int) := ⟨G[k].toNat, by omega⟩
      have hjn : j < n := by omega
      have c0 := hx.keep (unhide H).r0
      have h0 := (unhide H).h0
      have cm := hx.keep ((unhide H).rg k hlt)
      rw [← hm, hj] at cm
      have cm : wr.cell? ⟨b, 15 + m, none⟩ = some (.pointer (some ⟨bn, j * 2, none⟩)) := cm
      have cj := hx.keep (unhide HN j hjn)
      have R := hide (ints_step (w := w) (wr := wr) (xs := G) (k := k) hlt (unhide hinv).1 (unhide hinv).2.1 hx (unhide hinv).2.2.2)
      rw [hj] at R
      obtain ⟨⟨u, cu⟩, fu⟩ := (unhide hinv).2.1 k (by omega)
      have k0 : (0:Int) ≤ (k:Int) := by omega
      have k1 : (k:Int) < (G.length:Int) := by omega
      have nb1 : ¬ w.heap.size = b := fun e => by have := cell_lt (unhide H).r0; simp only at this; omega
      have nb2 : ¬ b = w.heap.size := fun e => nb1 e.symm
      clear hg hj hm
      go_wp2_with fail
      go_region
      all_goals
        go_wp2_with fail
        go_roundw
        case rel =>
          have d := (Ext.refl (wr.setCell ⟨w.heap.size, k, none⟩ (iv j))).drew
          exact ⟨k + 1, by omega, by go_num, fun j hj hk => ((unhide R).1 j hj hk).ext d, fun j hj => ((unhide R).2.1 j hj).ext d, (unhide R).2.2.1.drew, (unhide R).2.2.2.ext d⟩
        case measure => simp [intOf]; omega
    · have hk2 : k = G.length := by omega
      have HM := hide (show SlI wr (.slice (some ⟨w.heap.size, 0, none⟩) G.length G.length) G from ⟨_, _, rfl, by omega, fun i hi => ⟨_, _, rfl, (unhide hinv).1 i hi (by omega)⟩⟩)
      clear hk2
      go_wp2_with fail
      go_ret
      exact ⟨rfl, unhide HM, (unhide hinv).2.2.2, (unhide hinv).2.2.1⟩

theorem Only.setNew {S : Nat → Prop} {a w : World} (h : Only S a w) {p : Addr} (hp : a.heap.size ≤ p.block) (u : Value) : Only S a (w.setCell p u) :=
  ⟨h.os, h.tape, h.output, by have := h.size; simpa [World.setCell] using this, fun k hk hs => (Below.heap_setCell _ _ _ _ (by omega)).trans (h.block k hk hs)⟩
/-- the cells of the answer, the first k of them laid -/
structure Tdl (w1 wr : World) (x : Hp) (t bN : Nat) (vr vc vg : Value) (pa : Nat → Option Addr) (pk : Nat → Nat) (k : Nat) : Prop where
  bx : HBox wr t x vr vc vg
  s : ∀ q, q < x.cells.length → q < k → S7 wr bN (q * 8) (x.c q) ∧ wr.cell? ⟨bN, q * 8 + 7, none⟩ = some (.slice (pa q) (x.c q).prs.length (pk q))
  o : ∀ j, j < x.cells.length * 8 → Open wr bN j
  nf : Nf1 bN wr
  on : Only (fun q => q = t) w1 wr
  lt : t < w1.heap.size ∧ w1.heap.size ≤ bN
theorem Tdl.step {w1 wr : World} {x : Hp} {t bN : Nat} {vr vc vg : Value} {pa : Nat → Option Addr} {pk : Nat → Nat} {k : Nat} (h : Tdl w1 wr x t bN vr vc vg pa pk k) (hk : k < x.cells.length) :
    Tdl w1 ((((((((wr.setCell ⟨bN, k * 8, none⟩ (iv (x.c k).st)).setCell ⟨bN, k * 8 + 1, none⟩ (iv (x.c k).kind)).setCell ⟨bN, k * 8 + 2, none⟩ (iv (x.c k).weak)).setCell ⟨bN, k * 8 + 3, none⟩ (iv (x.c k).last)).setCell ⟨bN, k * 8 + 4, none⟩ (iv (x.c k).born)).setCell ⟨bN, k * 8 + 5, none⟩ (iv (x.c k).color)).setCell ⟨bN, k * 8 + 6, none⟩ (iv (x.c k).to)).setCell ⟨bN, k * 8 + 7, none⟩ (.slice (pa k) (x.c k).prs.length (pk k))).drew x t bN vr vc vg pa pk (k + 1) := by
  have hl := h.lt
  have o0 : Open wr bN (k * 8) := h.o (k * 8) (by omega)
  have o1 := h.o (k * 8 + 1) (by omega)
  have o2 := h.o (k * 8 + 2) (by omega)
  have o3 := h.o (k * 8 + 3) (by omega)
  have o4 := h.o (k * 8 + 4) (by omega)
  have o5 := h.o (k * 8 + 5) (by omega)
  have o6 := h.o (k * 8 + 6) (by omega)
  have o7 := h.o (k * 8 + 7) (by omega)
  have oth : ∀ b o, (b ≠ bN ∨ o < k * 8 ∨ k * 8 + 8 ≤ o) → (((((((((wr.setCell ⟨bN, k * 8, none⟩ (iv (x.c k).st)).setCell ⟨bN, k * 8 + 1, none⟩ (iv (x.c k).kind)).setCell ⟨bN, k * 8 + 2, none⟩ (iv (x.c k).weak)).setCell ⟨bN, k * 8 + 3, none⟩ (iv (x.c k).last)).setCell ⟨bN, k * 8 + 4, none⟩ (iv (x.c k).born)).setCell ⟨bN, k * 8 + 5, none⟩ (iv (x.c k).color)).setCell ⟨bN, k * 8 + 6, none⟩ (iv (x.c k).to)).setCell ⟨bN, k * 8 + 7, none⟩ (.slice (pa k) (x.c k).prs.length (pk k))).drew).cell? ⟨b, o, none⟩ = wr.cell? ⟨b, o, none⟩ := fun b o hb => by
    rw [drew_cell, cell_other _ (by omega), cell_other _ (by omega), cell_other _ (by omega), cell_other _ (by omega), cell_other _ (by omega), cell_other _ (by omega), cell_other _ (by omega), cell_other _ (by omega)]
  have opn : ∀ b o, Open wr b o → Open ((((((((wr.setCell ⟨bN, k * 8, none⟩ (iv (x.c k).st)).setCell ⟨bN, k * 8 + 1, none⟩ (iv (x.c k).kind)).setCell ⟨bN, k * 8 + 2, none⟩ (iv (x.c k).weak)).setCell ⟨bN, k * 8 + 3, none⟩ (iv (x.c k).last)).setCell ⟨bN, k * 8 + 4, none⟩ (iv (x.c k).born)).setCell ⟨bN, k * 8 + 5, none⟩ (iv (x.c k).color)).setCell ⟨bN, k * 8 + 6, none⟩ (iv (x.c k).to)).setCell ⟨bN, k * 8 + 7, none⟩ (.slice (pa k) (x.c k).prs.length (pk k))).drew b o := fun b o hb => ((((((((hb.set _ _).set _ _).set _ _).set _ _).set _ _).set _ _).set _ _).set _ _).ext ((Ext.refl _).drew)
  refine ⟨h.bx.of fun o _ => oth t o (.inl (by omega)), fun q hq hqk => ?_, fun j hj => opn bN j (h.o j hj), ((((((((h.nf.set _ _).set _ _).set _ _).set _ _).set _ _).set _ _).set _ _).set _ _).ext ((Ext.refl _).drew), ?_, hl⟩
  · by_cases e : q = k
    · subst e
      refine ⟨⟨?_, ?_, ?_, ?_, ?_, ?_, ?_⟩, ?_⟩
      · rw [drew_cell, cell_other _ (by omega), cell_other _ (by omega), cell_other _ (by omega), cell_other _ (by omega), cell_other _ (by omega), cell_other _ (by omega), cell_other _ (by omega)]; exact o0.same _
      · rw [drew_cell, cell_other _ (by omega), cell_other _ (by omega), cell_other _ (by omega), cell_other _ (by omega), cell_other _ (by omega), cell_other _ (by omega)]; exact (o1.set _ _).same _
      · rw [drew_cell, cell_other _ (by omega), cell_other _ (by omega), cell_other _ (by omega), cell_other _ (by omega), cell_other _ (by omega)]; exact ((o2.set _ _).set _ _).same _
      · rw [drew_cell, cell_other _ (by omega), cell_other _ (by omega), cell_other _ (by omega), cell_other _ (by omega)]; exact (((o3.set _ _).set _ _).set _ _).same _
      · rw [drew_cell, cell_other _ (by omega), cell_other _ (by omega), cell_other _ (by omega)]; exact ((((o4.set _ _).set _ _).set _ _).set _ _).same _
      · rw [drew_cell, cell_other _ (by omega), cell_other _ (by omega)]; exact (((((o5.set _ _).set _ _).set _ _).set _ _).set _ _).same _
      · rw [drew_cell, cell_other _ (by omega)]; exact ((((((o6.set _ _).set _ _).set _ _).set _ _).set _ _).set _ _).same _
      · rw [drew_cell]; exact (((((((o7.set _ _).set _ _).set _ _).set _ _).set _ _).set _ _).set _ _).same _
    · have hx := h.s q hq (by omega)
      exact ⟨hx.1.of fun j hj => oth bN _ (.inr (by omega)), (oth bN _ (.inr (by omega))).trans hx.2⟩
  · exact ((((((((h.on.setNew (p := ⟨bN, k * 8, none⟩) hl.2 _).setNew (p := ⟨bN, k * 8 + 1, none⟩) hl.2 _).setNew (p := ⟨bN, k * 8 + 2, none⟩) hl.2 _).setNew (p := ⟨bN, k * 8 + 3, none⟩) hl.2 _).setNew (p := ⟨bN, k * 8 + 4, none⟩) hl.2 _).setNew (p := ⟨bN, k * 8 + 5, none⟩) hl.2 _).setNew (p := ⟨bN, k * 8 + 6, none⟩) hl.2 _).setNew (p := ⟨bN, k * 8 + 7, none⟩) hl.2 _).drew
end Go.Proofs.YtkabcfhemljnbaaGreat

namespace Go.Proofs.YtkabcfhemljnbaaGreat
open Go.RowKit
attribute [local go_sem ↓] Go.wp_at_zero Go.wp_at_succ

set_option maxRecDepth 100000 in
set_option maxHeartbeats 4000000 in
theorem told_any {B : Nat} {b : Nat} {x : Hp} {ar : Option Addr} {kr : Nat} {a4 : Option Addr} {n4 k4 : Nat} {a8 : Option Addr} {n8 k8 : Nat} {br bc bn : Nat} {pb : Nat → Nat} {pa : Nat → Option Addr} {pk : Nat → Nat} {kn hd : Nat} {vf : Value} {F : List Int} {vk : Value} {K : List Nat} {role : Nat → Nat} (w : World)
    (h : SAt B w b x ar kr (.slice a4 n4 k4) (.slice a8 n8 k8) br bc bn pb pa pk kn hd vf F vk K role) (hG : ∀ g, g ∈ x.gray → 0 ≤ g ∧ g < x.cells.length) (hr : 0 < x.regs.length) (l : x.regs.length ≤ 100 ∧ x.cells.length ≤ 8000 ∧ x.gray.length ≤ 8000 ∧ ∀ q, q < x.cells.length → (x.c q).prs.length ≤ 200) (hB : B ≤ w.heap.size) :
    Calls Tryz.prog 77 #[.pointer (some ⟨b, 0, none⟩)] w fun e w' => ∃ bcN bgN, e = .returned (x.v (.slice (some ⟨br, 0, none⟩) x.regs.length kr) (.slice (some ⟨bcN, 0, none⟩) x.cells.length x.cells.length) (.slice (some ⟨bgN, 0, none⟩) x.gray.length x.gray.length)) ∧ Hid (HRow B w'.heap.size w' x br kr bcN x.cells.length bgN x.gray.length pb pa pk) ∧ Ext w w' := by
  have H := hide h
  obtain ⟨c0, c1, c2, c3, c4, c5, c6, c7, c8, c9, c10, c11, c12⟩ := h.sb.bx
  rw [h.sb.ha hr] at c3
  have AR := hide (h.sb.ha hr)
  have hb := h.sb.nb.1
  have l2 := l.2.1
  have HG := hide hG
  have HL := hide l
  clear h hG l
  have xa := ((Ext.refl w).alloc (.cells #[iv 0, iv 0, iv 0, .slice none 0 0, .slice none 0 0, iv 0, iv 0, iv 0, .slice none 0 0, iv 0, iv 0, iv 0, iv 0] 33)).alloc (.cells #[iv x.room, iv x.used, iv x.born, .slice (some ⟨br, 0, none⟩) x.regs.length kr, .slice a4 n4 k4, iv x.phase, iv x.hand, iv x.sub, .slice a8 n8 k8, iv x.per, iv x.start, iv x.rounds, iv x.forced] 33)
  have B1 := HBox.new (w.alloc (.cells #[iv 0, iv 0, iv 0, .slice none 0 0, .slice none 0 0, iv 0, iv 0, iv 0, .slice none 0 0, iv 0, iv 0, iv 0, iv 0] 33)) x (.slice (some ⟨br, 0, none⟩) x.regs.length kr) (.slice a4 n4 k4) (.slice a8 n8 k8) 33
  have hs1 : (w.alloc (.cells #[iv 0, iv 0, iv 0, .slice none 0 0, .slice none 0 0, iv 0, iv 0, iv 0, .slice none 0 0, iv 0, iv 0, iv 0, iv 0] 33)).heap.size = w.heap.size + 1 := by simp
  rw [hs1] at B1
  have hs2 : ((w.alloc (.cells #[iv 0, iv 0, iv 0, .slice none 0 0, .slice none 0 0, iv 0, iv 0, iv 0, .slice none 0 0, iv 0, iv 0, iv 0, iv 0] 33)).alloc (.cells #[iv x.room, iv x.used, iv x.born, .slice (some ⟨br, 0, none⟩) x.regs.length kr, .slice a4 n4 k4, iv x.phase, iv x.hand, iv x.sub, .slice a8 n8 k8, iv x.per, iv x.start, iv x.rounds, iv x.forced] 33)).heap.size = w.heap.size + 2 := by simp
  go_enter Tryz.func77, Tryz.ntmps77
  go_wp2_with fail
  refine (places_any b bn hd x.cells.length x.gray _ ((unhide H).ext xa).sb.rg (fun i hi => (((unhide H).ext xa).sb.nd i hi).1) (unhide HG)).mono ?_
  rintro e w1 ⟨rfl, hgs, hgn, q1⟩
  rw [hs2] at hgs hgn ⊢
  have hz1 : w.heap.size + 2 < w1.heap.size := hgn.1
  have BX1 := hide (B1.ext q1)
  have X1 := xa.trans q1
  have GS := hide (And.intro hgs hgn)
  have d8 := (unhide BX1).2.2.2.2.2.2.2.2.1
  have d4 := (unhide BX1).2.2.2.2.1
  have fz : ∀ o, w1.frozen? ⟨w.heap.size + 1, o, none⟩ = false := fun o => ((bcell q1).2 (w.heap.size + 1) o (by rw [hs2]; omega)).trans (by simp [go_sem])
  have g8 := fz 8
  have g4 := fz 4
  have rc := hide (show ∀ o v, ((w.alloc (.cells #[iv 0, iv 0, iv 0, .slice none 0 0, .slice none 0 0, iv 0, iv 0, iv 0, .slice none 0 0, iv 0, iv 0, iv 0, iv 0] 33)).alloc (.cells #[iv x.room, iv x.used, iv x.born, .slice (some ⟨br, 0, none⟩) x.regs.length kr, .slice a4 n4 k4, iv x.phase, iv x.hand, iv x.sub, .slice a8 n8 k8, iv x.per, iv x.start, iv x.rounds, iv x.forced] 33)).cell? ⟨w.heap.size, o, none⟩ = some v → w1.cell? ⟨w.heap.size, o, none⟩ = some v from fun o v h => q1.keep h)
  have RF := hide (show ∀ o, w1.frozen? ⟨w.heap.size, o, none⟩ = false from fun o => ((bcell q1).2 w.heap.size o (by rw [hs2]; omega)).trans (by simp [go_sem]))
  have n13 := ((unhide H).ext X1).sb.n13
  have nb1 : ¬ b = w.heap.size + 1 := by omega
  have nb2 : ¬ w.heap.size + 1 = b := by omega
  obtain ⟨z, hmk⟩ := mkCells x.cells.length (by omega) (w1.setCell ⟨w.heap.size + 1, 8, none⟩ (.slice (some ⟨w.heap.size + 2, 0, none⟩) x.gray.length x.gray.length))
  have hsz : (w1.setCell ⟨w.heap.size + 1, 8, none⟩ (.slice (some ⟨w.heap.size + 2, 0, none⟩) x.gray.length x.gray.length)).heap.size = w1.heap.size := by simp [World.setCell]
  rw [hsz] at hmk
  have hbw : b < w1.heap.size := by omega
  have htw : w.heap.size + 1 < w1.heap.size := by omega
  clear hgs hgn B1 fz q1 c0 c1 c2 c3 c4 c5 c6 c7 c8 c9 c10 c11 c12
  go_wp2_with fail
  have ST := hide (show Tdl w1 (((w1.setCell ⟨w.heap.size + 1, 8, none⟩ (.slice (some ⟨w.heap.size + 2, 0, none⟩) x.gray.length x.gray.length)).setCell ⟨w.heap.size + 1, 4, none⟩ (.slice (some ⟨w1.heap.size, 0, none⟩) x.cells.length x.cells.length)).alloc (.cells (madeCells z (x.cells.length * 8)) 86)) x (w.heap.size + 1) w1.heap.size (.slice (some ⟨br, 0, none⟩) x.regs.length kr) (.slice (some ⟨w1.heap.size, 0, none⟩) x.cells.length x.cells.length) (.slice (some ⟨w.heap.size + 2, 0, none⟩) x.gray.length x.gray.length) pa pk 0 from by
    have hs : ((w1.setCell ⟨w.heap.size + 1, 8, none⟩ (.slice (some ⟨w.heap.size + 2, 0, none⟩) x.gray.length x.gray.length)).setCell ⟨w.heap.size + 1, 4, none⟩ (.slice (some ⟨w1.heap.size, 0, none⟩) x.cells.length x.cells.length)).heap.size = w1.heap.size := by simp [World.setCell]
    refine ⟨(((unhide BX1).set8 _).set4 _).ext ((Ext.refl _).alloc _), fun q _ h => by omega, fun j hj => ?_, ?_, ?_, ⟨htw, Nat.le_refl _⟩⟩
    · have := made_open ((w1.setCell ⟨w.heap.size + 1, 8, none⟩ (.slice (some ⟨w.heap.size + 2, 0, none⟩) x.gray.length x.gray.length)).setCell ⟨w.heap.size + 1, 4, none⟩ (.slice (some ⟨w1.heap.size, 0, none⟩) x.cells.length x.cells.length)) z (x.cells.length * 8) 86 j hj
      rw [hs] at this; exact this
    · have := Nf1.made ((w1.setCell ⟨w.heap.size + 1, 8, none⟩ (.slice (some ⟨w.heap.size + 2, 0, none⟩) x.gray.length x.gray.length)).setCell ⟨w.heap.size + 1, 4, none⟩ (.slice (some ⟨w1.heap.size, 0, none⟩) x.cells.length x.cells.length)) z (x.cells.length * 8) 86
      rw [hs] at this; exact this
    · exact (Only.setCell (S := fun q => q = w.heap.size + 1) (Only.setCell (S := fun q => q = w.heap.size + 1) (Only.refl _ w1) (p := ⟨w.heap.size + 1, 8, none⟩) rfl _) (p := ⟨w.heap.size + 1, 4, none⟩) rfl _).trans (Only.of_ext ((Ext.refl _).alloc _)))
  clear d8 d4 g8 g4 n13 hmk
  go_loopw [29] (fun i wr => ∃ (k : Nat), k ≤ x.cells.length ∧ i = .int .i64 k ∧ Hid (Tdl w1 wr x (w.heap.size + 1) w1.heap.size (.slice (some ⟨br, 0, none⟩) x.regs.length kr) (.slice (some ⟨w1.heap.size, 0, none⟩) x.cells.length x.cells.length) (.slice (some ⟨w.heap.size + 2, 0, none⟩) x.gray.length x.gray.length) pa pk k)) (fun i _ => x.cells.length - (intOf i).toNat)
  case atStart => exact ⟨0, Nat.zero_le _, rfl, unhide ST⟩
  case round =>
    clear ST
    obtain ⟨k, hk, rfl, hinv⟩ := hrel
    have XR : Ext w wr := (unhide hinv).on.ext X1 (fun q hq e => by omega)
    by_cases hlt : k < x.cells.length
    · have R := hide ((unhide hinv).step hlt)
      have c4 := (unhide hinv).bx.2.2.2.2.1
      have n13 := ((unhide H).ext XR).sb.n13
      obtain ⟨m0, m1⟩ := ((unhide H).ext XR).sb.nd k hlt
      obtain ⟨p0, p1, p2, p3, p4, p5, p6⟩ := ((unhide H).ext XR).rw.s k hlt
      have p7 := ((unhide H).ext XR).rw.p7 k hlt
      obtain ⟨⟨u0, o0⟩, f0⟩ : Open wr w1.heap.size (k * 8) := (unhide hinv).o (k * 8) (by omega)
      obtain ⟨⟨u1, o1⟩, f1⟩ := (unhide hinv).o (k * 8 + 1) (by omega)
      obtain ⟨⟨u2, o2⟩, f2⟩ := (unhide hinv).o (k * 8 + 2) (by omega)
      obtain ⟨⟨u3, o3⟩, f3⟩ := (unhide hinv).o (k * 8 + 3) (by omega)
      obtain ⟨⟨u4, o4⟩, f4⟩ := (unhide hinv).o (k * 8 + 4) (by omega)
      obtain ⟨⟨u5, o5⟩, f5⟩ := (unhide hinv).o (k * 8 + 5) (by omega)
      obtain ⟨⟨u6, o6⟩, f6⟩ := (unhide hinv).o (k * 8 + 6) (by omega)
      obtain ⟨⟨u7, o7⟩, f7⟩ := (unhide hinv).o (k * 8 + 7) (by omega)
      have k0 : (0:Int) ≤ (k:Int) := by omega
      have k1 : (k:Int) < (x.cells.length:Int) := by omega
      clear m0
      go_wp2_with fail
      go_region
      all_goals
        go_wp2_with fail
        go_roundw
        case rel => exact ⟨k + 1, by omega, by go_num, unhide R⟩
        case measure => simp [intOf]; omega
    · have hk2 : k = x.cells.length := by omega
      subst hk2
      have WB : ∀ q, q < w1.heap.size → q ≠ w.heap.size + 1 → wr.heap[q]? = w1.heap[q]? := fun q hq hne => (unhide hinv).on.block q hq hne
      have SR := hide ((unhide H).ext XR)
      have GR := hide (show SlI wr (.slice (some ⟨w.heap.size + 2, 0, none⟩) x.gray.length x.gray.length) x.gray ∧ Nf1 (w.heap.size + 2) wr from by
        have e := WB (w.heap.size + 2) (by omega) (by omega)
        refine ⟨SlOf.mono2 (unhide GS).1 fun b' o n c z o' y hy => ?_, nf1_block (unhide GS).2 e (unhide hinv).on.size⟩
        simp only [Value.slice.injEq, Option.some.injEq, Addr.mk.injEq] at z
        obtain ⟨⟨rfl, _, _⟩, _, _⟩ := z
        exact (World.cell?_of_block (a := ⟨w.heap.size + 2, o', none⟩) e).trans hy)
      have RW := hide (show ∀ W, Only (fun q => q = w.heap.size) wr W → HRow B W.heap.size W x br kr w1.heap.size x.cells.length (w.heap.size + 2) x.gray.length pb pa pk from fun W o => by
        have rw := (unhide SR).rw
        have hB2 := hB
        have lr := (unhide H).rw.nr hr
        have lp := fun q hq hl => (unhide H).rw.pl q hq hl
        have hsz := o.size
        have hws := (unhide hinv).nf.1
        have rw2 := rw.only o (fun hl e => by have := lr.1.1; omega) (fun hl e => by have := ((unhide H).rw.nc hl).1.1; omega) (fun q hq hl e => by have := (lp q hq hl).2.1.1; omega)
        refine ⟨rw2.slW kr (fun _ => rfl) (by have := (unhide HL).1; omega), fun q hq => ?_, fun q hq => ?_, ?_, fun q hq => ?_, fun q hq hl => ?_, (rw2.nr hr).1, ?_, ?_, ⟨by have := lr.1.1; omega, by have := lr.1.1; omega, by omega⟩, rw2.dp, ⟨⟨lr.2, by have := lr.1.1; have := XR.size; omega⟩, ⟨by omega, by omega⟩, ⟨by omega, by omega⟩⟩, unhide HL⟩
        · exact ((unhide hinv).s q hq hq).1.of fun j _ => World.cell?_of_block (a := ⟨w1.heap.size, _, none⟩) (o.block w1.heap.size hws (by omega))
        · refine ⟨_, _, rfl, by have := (unhide HL).2.2.2 q hq; omega, fun k hk => ⟨pb q, 0, (rw2.pl q hq (by omega)).1, ?_⟩⟩
          rw [Nat.zero_add, Cl.p_eq _ _ hk]
          exact rw2.p q hq k hk
        · refine SlOf.mono2 (unhide GR).1 fun b' o2 n c z o' y hy => ?_
          simp only [Value.slice.injEq, Option.some.injEq, Addr.mk.injEq] at z
          obtain ⟨⟨rfl, _, _⟩, _, _⟩ := z
          exact o.keep (by omega) hy
        · exact o.keep (by omega) ((unhide hinv).s q hq hq).2
        · obtain ⟨a1, a2, a3, a4⟩ := rw2.pl q hq hl
          have := (lp q hq hl).2.1.1
          exact ⟨a1, a2, ⟨a3.1, by omega, by omega⟩, a4, by have := XR.size; omega⟩
        · exact nf1_block (unhide hinv).nf (o.block w1.heap.size hws (by omega)) hsz
        · exact nf1_block (unhide GR).2 (o.block (w.heap.size + 2) (unhide GR).2.1 (by omega)) hsz)
      have rcell : ∀ o v, ((w.alloc (.cells #[iv 0, iv 0, iv 0, .slice none 0 0, .slice none 0 0, iv 0, iv 0, iv 0, .slice none 0 0, iv 0, iv 0, iv 0, iv 0] 33)).alloc (.cells #[iv x.room, iv x.used, iv x.born, .slice (some ⟨br, 0, none⟩) x.regs.length kr, .slice a4 n4 k4, iv x.phase, iv x.hand, iv x.sub, .slice a8 n8 k8, iv x.per, iv x.start, iv x.rounds, iv x.forced] 33)).cell? ⟨w.heap.size, o, none⟩ = some v → wr.cell? ⟨w.heap.size, o, none⟩ = some v := fun o v h => (World.cell?_of_block (a := ⟨w.heap.size, o, none⟩) (WB w.heap.size (by omega) (by omega))).trans (unhide rc o v h)
      have rfz : ∀ o, wr.frozen? ⟨w.heap.size, o, none⟩ = false := fun o => (World.frozen?_of_block (a := ⟨w.heap.size, o, none⟩) (WB w.heap.size (by omega) (by omega))).trans (unhide RF o)
      have r0 := rcell 0 (iv 0) (by simp [go_sem])
      have r1 := rcell 1 (iv 0) (by simp [go_sem])
      have r2 := rcell 2 (iv 0) (by simp [go_sem])
      have r3 := rcell 3 (.slice none 0 0) (by simp [go_sem])
      have r4 := rcell 4 (.slice none 0 0) (by simp [go_sem])
      have r5 := rcell 5 (iv 0) (by simp [go_sem])
      have r6 := rcell 6 (iv 0) (by simp [go_sem])
      have r7 := rcell 7 (iv 0) (by simp [go_sem])
      have r8 := rcell 8 (.slice none 0 0) (by simp [go_sem])
      have r9 := rcell 9 (iv 0) (by simp [go_sem])
      have r10 := rcell 10 (iv 0) (by simp [go_sem])
      have r11 := rcell 11 (iv 0) (by simp [go_sem])
      have r12 := rcell 12 (iv 0) (by simp [go_sem])
      have f0 := rfz 0
      have f1 := rfz 1
      have f2 := rfz 2
      have f3 := rfz 3
      have f4 := rfz 4
      have f5 := rfz 5
      have f6 := rfz 6
      have f7 := rfz 7
      have f8 := rfz 8
      have f9 := rfz 9
      have f10 := rfz 10
      have f11 := rfz 11
      have f12 := rfz 12
      obtain ⟨b0, b1, b2, b3, b4, b5, b6, b7, b8, b9, b10, b11, b12⟩ := (unhide hinv).bx
      have hb0 : w.heap.size + 1 < wr.heap.size := cell_lt b0
      have hr0 : w.heap.size < wr.heap.size := cell_lt r0
      clear hinv rcell rfz WB
      go_wp2_with fail
      refine bodyPost_ret (v := x.v (.slice (some ⟨br, 0, none⟩) x.regs.length kr) (.slice (some ⟨w1.heap.size, 0, none⟩) x.cells.length x.cells.length) (.slice (some ⟨w.heap.size + 2, 0, none⟩) x.gray.length x.gray.length)) (by simp [results, Tryz.results77, go_sem, r0, r1, r2, r3, r4, r5, r6, r7, r8, r9, r10, r11, r12]) rfl ⟨_, _, rfl, ?_⟩
      refine (fun (F : Only (fun q => q = w.heap.size) wr _) => ⟨unhide RW _ F, F.ext XR (fun q hq e => by omega)⟩) ?_
      repeat (first | refine Only.setCell ?_ (by simp) _ | exact Only.refl _ _)
end Go.Proofs.YtkabcfhemljnbaaGreat
