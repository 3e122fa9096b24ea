import Derived.Test.YtojdehkcggbdeabImpS
namespace Go.Proofs.Ytojdehkcggbdeab
open Go.RowKit
attribute [local go_sem ↓] Go.wp_at_zero Go.wp_at_succ

theorem view_box (x : Hp) (w : World) (ar : Option Addr) (kr : Nat) (ac : Option Addr) (kc : Nat) (ag : Option Addr) (kg : Nat) :
    ∀ o v, #[iv x.room, iv x.used, iv x.born, .slice ar x.regs.length kr, .slice ac x.cells.length kc, iv x.phase, iv x.hand, iv x.sub, .slice ag x.gray.length kg, iv x.per, iv x.start, iv x.rounds, iv x.forced][o]? = some v → ((w.alloc (.cells #[iv x.room, iv x.used, iv x.born, .slice ar x.regs.length kr, .slice ac x.cells.length kc, iv x.phase, iv x.hand, iv x.sub, .slice ag x.gray.length kg, iv x.per, iv x.start, iv x.rounds, iv x.forced] 32)).alloc (.cells #[iv x.room, iv x.used, iv x.born, .slice ar x.regs.length kr, .slice ac x.cells.length kc, iv x.phase, iv x.hand, iv x.sub, .slice ag x.gray.length kg, iv x.per, iv x.start, iv x.rounds, iv x.forced, .slice none 0 0, .slice none 0 0] 102)).cell? ⟨w.heap.size + 1, o, none⟩ = some v := fun o v hv => by
  have ho : o < 13 := by
    rcases Nat.lt_or_ge o 13 with h' | h'
    · exact h'
    · rw [Array.getElem?_eq_none (by simpa using h')] at hv; cases hv
  match o, ho with
  | 0, _ | 1, _ | 2, _ | 3, _ | 4, _ | 5, _ | 6, _ | 7, _ | 8, _ | 9, _ | 10, _ | 11, _ | 12, _ => simp [go_sem]; exact Option.some.inj hv

theorem SlC.nth {w : World} {x : Hp} {ac : Option Addr} {kc : Nat} (h : SlC w (.slice ac x.cells.length kc) x.cells) (k : Nat) (hk : k < x.cells.length) : ∃ bc oc, ac = some ⟨bc, oc, none⟩ ∧ bc < w.heap.size ∧ ClAt w bc (oc + k * 8) (x.c k) := by
  obtain ⟨_, _, v, _, C⟩ := h
  obtain ⟨b', o', a, p⟩ := C k hk
  rw [Hp.c_eq] at p
  simp only [Value.slice.injEq] at v
  exact ⟨b', o', v.1.trans a, let ⟨_, p0, _⟩ := p; cell_lt p0, p⟩

/-- the view with its nodes made, none laid -/
theorem Opn.start {w w1 : World} {x : Hp} {ar : Option Addr} {kr : Nat} {ac : Option Addr} {kc : Nat} {ag : Option Addr} {kg : Nat} (z : Array Value)
    (hq : Ext ((w.alloc (.cells #[iv x.room, iv x.used, iv x.born, .slice ar x.regs.length kr, .slice ac x.cells.length kc, iv x.phase, iv x.hand, iv x.sub, .slice ag x.gray.length kg, iv x.per, iv x.start, iv x.rounds, iv x.forced] 32)).alloc (.cells #[iv x.room, iv x.used, iv x.born, .slice ar x.regs.length kr, .slice ac x.cells.length kc, iv x.phase, iv x.hand, iv x.sub, .slice ag x.gray.length kg, iv x.per, iv x.start, iv x.rounds, iv x.forced, .slice none 0 0, .slice none 0 0] 102)) w1) :
    Opn w ((w1.alloc (.cells (madeCells z (x.cells.length * 2)) 84)).setCell ⟨w.heap.size + 1, 13, none⟩ (.slice (some ⟨w1.heap.size, 0, none⟩) x.cells.length x.cells.length)) x w.heap.size (w.heap.size + 1) w1.heap.size 0 0 ar kr ac kc ag kg (.slice none 0 0) [] := by
  have xe : Ext w ((w.alloc (.cells #[iv x.room, iv x.used, iv x.born, .slice ar x.regs.length kr, .slice ac x.cells.length kc, iv x.phase, iv x.hand, iv x.sub, .slice ag x.gray.length kg, iv x.per, iv x.start, iv x.rounds, iv x.forced] 32)).alloc (.cells #[iv x.room, iv x.used, iv x.born, .slice ar x.regs.length kr, .slice ac x.cells.length kc, iv x.phase, iv x.hand, iv x.sub, .slice ag x.gray.length kg, iv x.per, iv x.start, iv x.rounds, iv x.forced, .slice none 0 0, .slice none 0 0] 102)) := ((Ext.refl w).alloc _).alloc _
  have hsz : w.heap.size + 2 ≤ w1.heap.size := by have := hq.size; simp at this; omega
  have old : ∀ o v, w1.cell? ⟨w.heap.size + 1, o, none⟩ = some v → o ≠ 13 → ((w1.alloc (.cells (madeCells z (x.cells.length * 2)) 84)).setCell ⟨w.heap.size + 1, 13, none⟩ (.slice (some ⟨w1.heap.size, 0, none⟩) x.cells.length x.cells.length)).cell? ⟨w.heap.size + 1, o, none⟩ = some v := fun o v h ho => by
    rw [cell_other _ (.inr (fun e => ho e.symm))]; exact ((Ext.refl w1).alloc _).keep h
  have c13 : (w1.alloc (.cells (madeCells z (x.cells.length * 2)) 84)).cell? ⟨w.heap.size + 1, 13, none⟩ = some (.slice none 0 0) := ((Ext.refl w1).alloc _).keep (hq.keep (by simp [go_sem]))
  have c14 : w1.cell? ⟨w.heap.size + 1, 14, none⟩ = some (.slice none 0 0) := hq.keep (by simp [go_sem])
  have f14 : w1.frozen? ⟨w.heap.size + 1, 14, none⟩ = false := by
    rw [hq.frozen (p := ⟨w.heap.size + 1, 14, none⟩) (by simp)]; simp [go_sem]
  refine ⟨((xe.trans hq).alloc _).setCell (by show _ ≤ w.heap.size + 1; omega) _, ⟨Nat.le_refl _, by omega, by omega, by simp [World.setCell]⟩, ?_, fun o v hv => old o v (hq.keep (view_box x w ar kr ac kc ag kg o v hv)) ?_, World.cell?_setCell_same _ _ _ c13, fun i hi => by omega, fun j hj => (made_open _ _ _ _ _ hj).set _ _, LsAt.nil (old 14 _ c14 (by omega)) ?_, Ho.nil, List.Perm.refl _⟩
  · rw [cell_other _ (.inl (by omega))]
    exact ((Ext.refl w1).alloc _).keep (hq.keep (by simp [go_sem]))
  · intro e
    rw [e] at hv
    simp at hv
  · rw [World.frozen?_setCell, ((Ext.refl w1).alloc _).frozen (p := ⟨w.heap.size + 1, 14, none⟩) (by show w.heap.size + 1 < w1.heap.size; omega)]
    exact f14

set_option maxRecDepth 100000 in
set_option maxHeartbeats 4000000 in
theorem open_any (x : Hp) (w : World) {ar : Option Addr} {kr : Nat} {ac : Option Addr} {kc : Nat} {ag : Option Addr} {kg : Nat} (hR : SlW w (.slice ar x.regs.length kr) x.regs) (hC : SlC w (.slice ac x.cells.length kc) x.cells) (hG : SlI w (.slice ag x.gray.length kg) x.gray) :
    Calls Try.prog 42 #[x.v (.slice ar x.regs.length kr) (.slice ac x.cells.length kc) (.slice ag x.gray.length kg)] w fun e w' => ∃ b, Hid (e = .returned (.pointer (some ⟨b, 0, none⟩))) ∧ Ext w w' ∧ Hid ((¬ R1 x ∧ HAt w' b x ar kr ac kc ag kg) ∨ (R1 x ∧ ∃ an kn base vf F, VAt w' b x ar kr ac kc ag kg an kn ∧ FAt w' b x base vf F)) := by
  have HSL := hide (And.intro hR (And.intro hC hG))
  have lc : x.cells.length ≤ 35184372088832 := let ⟨_, _, _, l, _⟩ := hC; l
  clear hR hC hG
  go_enter Try.func42, Try.ntmps42
  go_wp2_with fail
  have xe : Ext w ((w.alloc (.cells #[iv x.room, iv x.used, iv x.born, .slice ar x.regs.length kr, .slice ac x.cells.length kc, iv x.phase, iv x.hand, iv x.sub, .slice ag x.gray.length kg, iv x.per, iv x.start, iv x.rounds, iv x.forced] 32)).alloc (.cells #[iv x.room, iv x.used, iv x.born, .slice ar x.regs.length kr, .slice ac x.cells.length kc, iv x.phase, iv x.hand, iv x.sub, .slice ag x.gray.length kg, iv x.per, iv x.start, iv x.rounds, iv x.forced, .slice none 0 0, .slice none 0 0] 102)) := ((Ext.refl w).alloc _).alloc _
  have hh := hat_of x _ (w.heap.size + 1) (view_box x w ar kr ac kc ag kg) (SlW.ext xe (unhide HSL).1) (SlC.ext xe (unhide HSL).2.1) (SlI.ext xe (unhide HSL).2.2)
  refine (limitsKept_any x (w.heap.size + 1) _ hh).mono ?_
  rintro e w1 ⟨r, rfl, hr, hq⟩
  have X1 := hide (xe.trans hq)
  cases r
  · have N := hide (show ¬ R1 x from fun r => by have := hr.2 r; simp at this)
    have H1 := hide (hh.ext hq)
    clear hr hq hh xe
    go_wp2_with fail
    go_ret
    exact ⟨w.heap.size + 1, rfl, unhide X1, .inl ⟨unhide N, unhide H1⟩⟩
  have Y := hide (hr.1 rfl)
  have hn8 : x.cells.length ≤ 8000 := by have := (unhide Y).room; have := (unhide Y).cells; omega
  have hsz : w.heap.size + 2 ≤ w1.heap.size := by have := hq.size; simp at this; omega
  have hs0 : w.heap.size < w1.heap.size := by omega
  have hs1 : w.heap.size + 1 < w1.heap.size := by omega
  obtain ⟨z, hmk⟩ := mkNodes x.cells.length (by omega) w1
  have s0 := Opn.start z hq
  rw [World.setCell_alloc_past _ _ _ _ hs1] at s0
  have S0 := hide s0
  clear s0
  have b4 : w1.cell? ⟨w.heap.size, 4, none⟩ = some (.slice ac x.cells.length kc) := hq.keep (by simp [go_sem])
  have b13 : w1.cell? ⟨w.heap.size + 1, 13, none⟩ = some (.slice none 0 0) := hq.keep (by simp [go_sem])
  have g13 : w1.frozen? ⟨w.heap.size + 1, 13, none⟩ = false := by
    rw [hq.frozen (p := ⟨w.heap.size + 1, 13, none⟩) (by simp)]; simp [go_sem]
  clear hr hh xe hq
  go_wp2_with fail
  go_loopw [22] (fun i wr => ∃ (k : Nat) (vf : Value) (F : List Int), k ≤ x.cells.length ∧ i = .int .i64 k ∧ Opn w wr x w.heap.size (w.heap.size + 1) w1.heap.size k k ar kr ac kc ag kg vf F) (fun i _ => x.cells.length - (intOf i).toNat)
  case atStart => exact ⟨0, _, _, Nat.zero_le _, rfl, unhide S0⟩
  case round =>
    clear S0 b4 b13 g13 hmk
    obtain ⟨k, vf, F, hk, rfl, hop⟩ := hrel
    have HO := hide hop
    by_cases hlt : k < x.cells.length
    · obtain ⟨bc, oc, hac, hbc, vp, p0', _⟩ := SlC.nth (unhide HSL).2.1 k hlt
      have P0 := hide p0'
      clear p0'
      have q4 := hop.x4
      have q13 := hop.n13
      rw [hac] at q4
      obtain ⟨⟨u1, v1⟩, f1⟩ := hop.o (k * 2) (by omega)
      obtain ⟨⟨u2, v2⟩, f2⟩ := hop.o (k * 2 + 1) (by omega)
      have hk0 : (0:Int) ≤ (k:Int) := by omega
      have hk1 : (k:Int) < (x.cells.length:Int) := by omega
      have hbw : w1.heap.size < wr.heap.size := hop.hb.2.2.2
      have L2 := hide (hop.lay hac hlt)
      have HAC := hide hac
      clear hop hac
      go_wp2_with fail
      go_region
      generalize hW : ((wr.setCell ⟨w1.heap.size, k * 2, none⟩ (.int .i64 k)).setCell ⟨w1.heap.size, k * 2 + 1, none⟩ (.pointer (some ⟨bc, oc + k * 8, none⟩))).drew = W2
      have L3 := hide ((unhide L2).same (w' := W2) (by rw [← hW]; rfl) (by rw [← hW]; rfl) (by rw [← hW]; rfl) (by rw [← hW]; rfl))
      have q4' := (unhide L3).x4
      rw [unhide HAC] at q4'
      have p0 := (unhide L3).e.keep (unhide P0)
      have hlen : F.length ≤ 100000 := by have := (unhide L3).len; omega
      have hbs : w1.heap.size + 1 ≤ W2.heap.size := (unhide L3).hb.2.2.2
      clear hW L2 q4 q13 v1 v2 f1 f2 hbw
      cases s0 : ((x.c k).st == 0)
      · have L4 := hide ((unhide L3).skip s0)
        go_wp2_with fail
        go_roundw
        case rel => exact ⟨k + 1, vf, F, by omega, by go_num, unhide L4⟩
        case measure => simp [intOf]; omega
      · go_wp2_with fail
        refine (put_ls _ (w1.heap.size + 1) (w.heap.size + 1) 14 vf F (k : Int) (unhide L3).f hbs (unhide L3).fo hlen).mono ?_
        rintro e w3 ⟨rfl, v3, F3, l3, o3, p3, q3⟩
        have L4 := hide ((unhide L3).put s0 l3 o3 p3 q3)
        clear l3 o3 p3 q3
        go_wp2_with fail
        go_roundw
        case rel => exact ⟨k + 1, v3, F3, by omega, by go_num, unhide L4⟩
        case measure => simp [intOf]; omega
    · have hk2 : k = x.cells.length := by omega
      subst hk2
      have D := hide (hop.done (unhide HSL).1 (unhide HSL).2.1 (unhide HSL).2.2)
      have E := hide hop.e
      clear hop hk hlt
      go_wp2_with fail
      go_ret
      exact ⟨w.heap.size + 1, rfl, unhide E, .inr ⟨unhide Y, _, _, _, _, _, unhide D⟩⟩
end Go.Proofs.Ytojdehkcggbdeab
