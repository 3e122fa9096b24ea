import Derived.Test.YtddkhnclmeikfacGreatDoorYn
import Derived.Test.YtddkhnclmeikfacGreatDoorYh
import Derived.Recover
import Derived.Defers
import Derived.Below
namespace Go.Proofs.YtddkhnclmeikfacGreatDoor
open Go.RowKit
attribute [local go_sem ↓] Go.wp_at_zero Go.wp_at_succ

/-! The program's reading, its panics caught. -/
theorem assert_yes (x : Value) (W : World) : (Instr.typeAssert (.iface 180 x) 20 180 true).run Tryz.prog W = .ok (.tuple #[x, .bool true]) W := by kernel_rfl
theorem assert_no (W : World) : (Instr.typeAssert .nilIface 20 180 true).run Tryz.prog W = .ok (.tuple #[.agg #[iv 0], .bool false]) W := by kernel_rfl
theorem catch_panicking (p : Nat) (ln : Nat) (older : List PanicEntry) (w : World) (h : ∀ j, j < 4 → Open w p j) :
    CallsD Tryz.prog 115 #[.pointer (some ⟨p, 0, none⟩)] (.panicking ({ v := .iface 180 (.agg #[iv ln]), recovered := false } :: older)) w fun e u' w' =>
      e = .returned (.tuple #[]) ∧ u' = .panicking ({ v := .iface 180 (.agg #[iv ln]), recovered := true } :: older) ∧ Only (fun q => q = p) w w' ∧ w'.cell? ⟨p, 0, none⟩ = some (.bool false) ∧ w'.cell? ⟨p, 1, none⟩ = some (iv ln) ∧ w'.cell? ⟨p, 2, none⟩ = some (iv 0) ∧ w'.cell? ⟨p, 3, none⟩ = some (.slice none 0 0) := by
  refine callsD_of_wpS Tryz.func115 rfl fun c₀ cs hu => ?_
  apply wpS_seq
  apply wpS_region
  have AS := assert_yes (.agg #[iv ln])
  simp [wpOpsS, go_sem, recoverD, hu, AS, Tryz.ntmps115, Exit.thenS]
  have hp : p < w.heap.size := by obtain ⟨⟨o0, r0⟩, _⟩ := h 0 (by omega); exact cell_lt r0
  obtain ⟨WB, hWB⟩ : ∃ V, V = w.alloc (.cells #[.int .i64 (ln : Int)] 180) := ⟨_, rfl⟩
  have xB : Ext w WB := hWB ▸ (Ext.refl w).alloc _
  have cl : WB.cell? ⟨w.heap.size, 0, none⟩ = some (iv ln) := by rw [hWB]; simp [go_sem]
  rw [← hWB]
  clear hWB
  obtain ⟨⟨o0, r0⟩, f0⟩ := (h 0 (by omega)).ext xB
  obtain ⟨⟨o1, r1⟩, f1⟩ := (h 1 (by omega)).ext xB
  obtain ⟨⟨o2, r2⟩, f2⟩ := (h 2 (by omega)).ext xB
  obtain ⟨⟨o3, r3⟩, f3⟩ := (h 3 (by omega)).ext xB
  apply wpS_seq
  apply wpS_region
  simp [wpOpsS, go_sem, Exit.thenS]
  refine wpS_cond (t := true) (by simp [Act.eval, Array.replicate]) ?_
  simp only [if_true]
  apply wpS_region
  simp [wpOpsS, go_sem, cl, r0, r1, r2, r3, f0, f1, f2, f3, bodyPostS, results, Tryz.results115]
  exact ((((Only.of_ext xB).setCell (S := fun q => q = p) (p := ⟨p, 0, none⟩) rfl _).setCell (p := ⟨p, 1, none⟩) rfl _).setCell (p := ⟨p, 2, none⟩) rfl _).setCell (p := ⟨p, 3, none⟩) rfl _
theorem catch_idle (p : Nat) (w : World) :
    CallsD Tryz.prog 115 #[.pointer (some ⟨p, 0, none⟩)] .returning w fun e u' w' => e = .returned (.tuple #[]) ∧ u' = .returning ∧ Ext w w' := by
  refine callsD_of_wpS Tryz.func115 rfl fun c₀ cs hu => ?_
  apply wpS_seq
  apply wpS_region
  have AS := assert_no
  simp [wpOpsS, go_sem, recoverD, hu, AS, Tryz.ntmps115, Exit.thenS]
  apply wpS_seq
  apply wpS_region
  simp [wpOpsS, go_sem, Exit.thenS]
  refine wpS_cond (t := false) (by simp [Act.eval, Array.replicate]) ?_
  simp only [Bool.false_eq_true, if_false]
  refine wpS_of_wp (wp_skip ?_)
  have xx : Ext w (w.alloc (.cells #[.int .i64 0] 180)) := (Ext.refl w).alloc _
  cases c₀
  simp_all [bodyPostS, results, Tryz.results115]
theorem only_out {b p : Nat} {W w2 w3 : World} (hp : W.heap.size ≤ p) (h1 : Only (fun q => q = b) W w2) (h2 : Only (fun q => q = p) w2 w3) : Only (fun q => q = b) W w3 := by
  have h3 := (h1.mono (T := fun q => q = b ∨ q = p) (fun k h => .inl h)).trans (h2.mono (fun k h => .inr h))
  exact ⟨h3.os, h3.tape, h3.output, h3.size, fun k hk hs => h3.block k hk (fun h => by
    rcases h with h | h
    · exact hs h
    · omega)⟩
theorem room_bad {tx : List UInt8} (hl : tx.length ≤ 20000) (h : ∀ line rest', cutN tx = some (line, rest') → roomO line = none) : rdText tx = .bad 1 := by
  unfold rdText
  rw [if_neg (by omega)]
  cases q : cutN tx with
  | none => rfl
  | some lr =>
    obtain ⟨line, rest'⟩ := lr
    simp only [h line rest' q]
theorem room_good {tx line rest' : List UInt8} {r : Int} (hl : tx.length ≤ 20000) (h : cutN tx = some (line, rest')) (hr : roomO line = some r) : rdText tx = rdActs r rest'.length 1 [] rest' := by
  unfold rdText
  rw [if_neg (by omega), h]
  simp only [hr]
set_option maxRecDepth 100000 in
set_option maxHeartbeats 1000000 in
theorem read_any (w0 W : World) (b : Nat) (tx : List UInt8) (hcx : Cx w0 W b) (h : RdAt W b tx 0) (hl : tx.length ≤ 20000) :
    Calls Tryz.prog 52 #[.pointer (some ⟨b, 0, none⟩)] W fun e w' => ∃ v, Hid (e = .returned ((rdText tx).v v)) ∧ Hid (w'.ownsRow W.heap.size 40 5 v (rdText tx).acts.length ((rdText tx).acts.flatMap fA)) ∧ Only (fun q => q = b) W w' := by
  have hmf : ∀ (fn : Fn) (first cap : Array Value) (w : World), (Instr.makeFunc fn first cap).run Tryz.prog w = .ok (.func fn first cap) w := fun _ _ _ _ => rfl
  obtain ⟨WR, hWR⟩ : ∃ V, V = W.alloc (.cells #[.bool false, .int .i64 0, .int .i64 0, .slice none 0 0] 49) := ⟨_, rfl⟩
  have xR : Ext W WR := hWR ▸ (Ext.refl W).alloc _
  have OP := hide (show ∀ j, j < 4 → Open WR W.heap.size j from fun j hj => by
    rw [hWR]
    match j, hj with
    | 0, _ => exact ⟨⟨.bool false, by simp [go_sem]⟩, by simp [go_sem]⟩
    | 1, _ => exact ⟨⟨.int .i64 0, by simp [go_sem]⟩, by simp [go_sem]⟩
    | 2, _ => exact ⟨⟨.int .i64 0, by simp [go_sem]⟩, by simp [go_sem]⟩
    | 3, _ => exact ⟨⟨.slice none 0 0, by simp [go_sem]⟩, by simp [go_sem]⟩)
  have hbW : b < W.heap.size := cell_lt h.1
  have CR := hide (hcx.ext xR)
  have QR := hide (room_any w0 WR b tx (unhide CR) (h.ext xR) hl)
  have sR : WR.heap.size = W.heap.size + 1 := by rw [hWR]; simp
  clear hcx h
  go_enter_defers Tryz.func52, Tryz.ntmps52
  go_wp2_with fail
  rw [← hWR]
  clear hWR
  refine (unhide QR).mono ?_
  rintro e w2 ⟨hre, o2⟩
  have OP2 := hide (fun j (hj : j < 4) => open_of_block (unhide OP j hj) (o2.block W.heap.size (by omega) (by omega)))
  have OW2 := hide (show Only (fun q => q = b) W w2 from (Only.of_ext xR).trans o2)
  rcases unhide hre with ⟨line, rest', r, hc, hro, he, hrd⟩ | ⟨hno, he⟩
  rotate_left
  · have E := hide (room_bad hl hno)
    unfold faultP at he
    subst he
    go_wp2_with fail
    refine leaves_cons (f := 115) (args := #[.pointer (some ⟨W.heap.size, 0, none⟩)]) (by simp) (by simp [go_sem]) ?_
    refine (catch_panicking W.heap.size 1 [] w2 (unhide OP2)).mono ?_
    rintro e u' w3 ⟨rfl, rfl, o3, c0, c1, c2, c3⟩
    have O3 := hide (only_out (Nat.le_refl _) (unhide OW2) o3)
    simp [Leaves, settle, results, Tryz.results52, go_sem, c0, c1, c2, c3]
    exact ⟨.slice none 0 0, hide (by rw [unhide E]; rfl), hide (by rw [unhide E]; exact World.ownsRow_nil _ _ _ _), unhide O3⟩
  · subst he
    have E := hide (room_good hl hc hro)
    have QA := hide (acts_any w0 w2 b r rest' ((unhide CR).on o2) hrd (by have := cutN_len hc; omega))
    obtain ⟨R, hR⟩ : ∃ R, R = rdActs r rest'.length 1 [] rest' := ⟨_, rfl⟩
    rw [← hR] at E QA
    clear hR hre
    go_wp2_with fail
    refine (unhide QA).mono ?_
    rintro e w3 ⟨hae, o3⟩
    have hs2 := o2.size
    have OP3 := hide (fun j (hj : j < 4) => open_of_block (unhide OP2 j hj) (o3.block W.heap.size (by omega) (by omega)))
    have OW3 := hide (show Only (fun q => q = b) W w3 from (unhide OW2).trans o3)
    rcases unhide hae with ⟨v, acc, hg, he, hown⟩ | ⟨n, hbad, he⟩
    · subst he
      subst hg
      have OWN := hide hown
      obtain ⟨ad, cap, hv⟩ : ∃ ad cap, v = .slice ad acc.length cap := by
        rcases hown.2 with ⟨h1, h2⟩ | ⟨g, cap, _, h1, _⟩
        · exact ⟨none, 0, by rw [h1, h2]⟩
        · exact ⟨_, _, h1⟩
      subst hv
      obtain ⟨⟨p0, r0⟩, f0⟩ := unhide OP3 0 (by omega)
      obtain ⟨⟨p1, r1⟩, f1⟩ := unhide OP3 1 (by omega)
      obtain ⟨⟨p2, r2⟩, f2⟩ := unhide OP3 2 (by omega)
      obtain ⟨⟨p3, r3⟩, f3⟩ := unhide OP3 3 (by omega)
      clear hown hae
      go_wp2_with fail
      have ON := hide (((((unhide OW3).mono (T := fun q => q = b ∨ q = W.heap.size) (fun k h => .inl h)).setCell (p := ⟨W.heap.size, 0, none⟩) (.inr rfl) (.bool true)).setCell (p := ⟨W.heap.size, 1, none⟩) (.inr rfl) (.int .i64 0)).setCell (p := ⟨W.heap.size, 2, none⟩) (.inr rfl) (.int .i64 r) |>.setCell (p := ⟨W.heap.size, 3, none⟩) (.inr rfl) (.slice ad acc.length cap))
      obtain ⟨w4, hw4⟩ : ∃ V, V = (((w3.setCell ⟨W.heap.size, 0, none⟩ (.bool true)).setCell ⟨W.heap.size, 1, none⟩ (.int .i64 0)).setCell ⟨W.heap.size, 2, none⟩ (.int .i64 r)).setCell ⟨W.heap.size, 3, none⟩ (.slice ad acc.length cap) := ⟨_, rfl⟩
      have c0 : w4.cell? ⟨W.heap.size, 0, none⟩ = some (.bool true) := by rw [hw4]; simp [go_sem, r0]
      have c1 : w4.cell? ⟨W.heap.size, 1, none⟩ = some (.int .i64 0) := by rw [hw4]; simp [go_sem, r1]
      have c2 : w4.cell? ⟨W.heap.size, 2, none⟩ = some (.int .i64 r) := by rw [hw4]; simp [go_sem, r2]
      have c3 : w4.cell? ⟨W.heap.size, 3, none⟩ = some (.slice ad acc.length cap) := by rw [hw4]; simp [go_sem, r3]
      have OW4 := hide (show w4.ownsRow W.heap.size 40 5 (.slice ad acc.length cap) acc.length (acc.flatMap fA) by
        have hlt : W.heap.size < w2.heap.size := by omega
        rw [hw4]
        exact own_mono (ownsRow_setCell_below (ownsRow_setCell_below (ownsRow_setCell_below (ownsRow_setCell_below (unhide OWN) hlt _) hlt _) hlt _) hlt _) (Nat.le_of_lt hlt))
      rw [← hw4] at ON ⊢
      clear hw4
      show Leaves _ _ _ _ _ _ _
      refine leaves_cons (f := 115) (args := #[.pointer (some ⟨W.heap.size, 0, none⟩)]) (by simp) (by simp [go_sem]) ?_
      refine (catch_idle W.heap.size w4).mono ?_
      rintro e u' w5 ⟨rfl, rfl, x5⟩
      have d0 := x5.keep c0
      have d1 := x5.keep c1
      have d2 := x5.keep c2
      have d3 := x5.keep c3
      have O5 := hide (show Only (fun q => q = b) W w5 from by
        have h3 := (unhide ON).trans (Only.of_ext x5)
        exact ⟨h3.os, h3.tape, h3.output, h3.size, fun k hk hs => h3.block k hk (fun h => by
          rcases h with h | h
          · exact hs h
          · omega)⟩)
      have OW5 := hide (ownsRow_of_block (unhide OW4) (fun q hq => x5.block q ((unhide OW4).lt q hq).2))
      simp [Leaves, settle, results, Tryz.results52, go_sem, d0, d1, d2, d3]
      exact ⟨_, hide (by rw [unhide E]; rfl), hide (by rw [unhide E]; exact unhide OW5), unhide O5⟩
    · unfold faultP at he
      subst he
      subst hbad
      go_wp2_with fail
      refine leaves_cons (f := 115) (args := #[.pointer (some ⟨W.heap.size, 0, none⟩)]) (by simp) (by simp [go_sem]) ?_
      refine (catch_panicking W.heap.size n [] w3 (unhide OP3)).mono ?_
      rintro e u' w4 ⟨rfl, rfl, o4, c0, c1, c2, c3⟩
      have O4 := hide (only_out (Nat.le_refl _) (unhide OW3) o4)
      simp [Leaves, settle, results, Tryz.results52, go_sem, c0, c1, c2, c3]
      exact ⟨.slice none 0 0, hide (by rw [unhide E]; rfl), hide (by rw [unhide E]; exact World.ownsRow_nil _ _ _ _), unhide O4⟩
end Go.Proofs.YtddkhnclmeikfacGreatDoor
