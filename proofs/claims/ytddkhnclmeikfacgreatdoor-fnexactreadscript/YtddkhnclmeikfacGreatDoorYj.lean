import Derived.Test.YtddkhnclmeikfacGreatDoorYi
import Derived.WalkLawsBesides
namespace Go.Proofs.YtddkhnclmeikfacGreatDoor
open Go.RowKit
attribute [local go_sem ↓] Go.wp_at_zero Go.wp_at_succ

/-! The program's reader. -/
/-- a reader in memory -/
def RdAt (W : World) (b : Nat) (rest : List UInt8) (ln : Nat) : Prop := W.cell? ⟨b, 0, none⟩ = some (.string (sB rest)) ∧ W.cell? ⟨b, 1, none⟩ = some (iv ln) ∧ W.frozen? ⟨b, 0, none⟩ = false ∧ W.frozen? ⟨b, 1, none⟩ = false
/-- the panic of a fault at a line -/
def faultP (ln : Nat) : Ending := .panicked [{ v := .iface 180 (.agg #[iv ln]), recovered := false }]
set_option maxRecDepth 100000 in
theorem must_yes (b : Nat) (w : World) : Calls Tryz.prog 175 #[.pointer (some ⟨b, 0, none⟩), .bool true] w fun e w' => e = .returned (.tuple #[]) ∧ w' = w := by
  go_enter Tryz.func175, Tryz.ntmps175
  go_wp2
  first | refine bodyPost_end (results_none rfl _ _ _) rfl ?_ | refine bodyPost_ret (results_none rfl _ _ _) rfl ?_
  exact ⟨rfl, rfl⟩
set_option maxRecDepth 100000 in
theorem must_no (b ln : Nat) (rest : List UInt8) (w : World) (h : RdAt w b rest ln) : Calls Tryz.prog 175 #[.pointer (some ⟨b, 0, none⟩), .bool false] w fun e w' => e = faultP ln ∧ w' = w := by
  obtain ⟨h0, h1, h2, h3⟩ := h
  go_enter Tryz.func175, Tryz.ntmps175
  go_wp2
  exact ⟨rfl, rfl, rfl⟩
theorem split_is (l : List UInt8) : Lib.splitB (sB [32]) 0 (Lib.countB (sB l) (sB [32])) (sB l) = (wordsL l).map sB := by
  have h := Lib.splitB_data (sB [32]) 0 (Lib.countB (sB l) (sB [32])) (sB l)
  have h2 : Lib.splitK (sB [32]).data.toList 0 (Lib.countB (sB l) (sB [32])) (sB l).data.toList = wordsL l := split_words l.length l (Nat.le_refl _)
  rw [h2] at h
  rw [← h, List.map_map]
  have : (sB ∘ fun x : ByteArray => x.data.toList) = id := by
    funext x
    cases x
    rfl
  rw [this, List.map_id]
theorem count_is (l : List UInt8) : Lib.countB (sB l) (sB [32]) + 1 = (wordsL l).length := by
  have h1 := congrArg List.length (split_is l)
  rw [List.length_map] at h1
  have h2 := Lib.splitB_all (sB [32]) (by simp [ByteArray.size]) 0 _ (sB l) rfl
  omega
theorem alloc_new (w : World) (o : Obj) : (w.alloc o).heap[w.heap.size]? = some o := by
  show (w.heap.push o)[w.heap.size]? = _
  simp
theorem ext_drewN {a w : World} (h : Ext a w) (n : Nat) : Ext a (w.drewN n) := ⟨h.os, h.tape, h.output, h.size, fun k hk => h.block k hk⟩
theorem own_split (w : World) (B : Nat) (l : List UInt8) (hB : B ≤ w.heap.size) (hl : l.length ≤ 20000) : (w.alloc (.cells (((wordsL l).map sB).map Value.string).toArray 9)).ownsRow B 9 1 (.slice (some ⟨w.heap.size, 0, none⟩) (wordsL l).length (wordsL l).length) (wordsL l).length ((wordsL l).flatMap sC) := by
  have e : (wordsL l).flatMap sC = ((wordsL l).map sB).map Value.string := by
    generalize wordsL l = L
    induction L with
    | nil => rfl
    | cons a r ih => rw [List.flatMap_cons, ih]; rfl
  have hw := words_len l
  refine ⟨by rw [e]; simp, .inr ⟨w.heap.size, _, _, rfl, hB, (alloc_new w _), Nat.le_refl _, by unfold maxLen; omega, by simp, ?_⟩⟩
  rw [e]
  exact List.take_of_length_le (by simp)
/-- the globals that the reader's library reads -/
def LibAt (W : World) : Prop := (∃ m, W.cell? ⟨3, 0, none⟩ = some (.int .i64 m)) ∧ (∃ t p, W.cell? ⟨4, 0, none⟩ = some (.iface t p)) ∧ (∃ t p, W.cell? ⟨5, 0, none⟩ = some (.iface t p))
/-- what holds of the world while a text is read: B is where the call's own memory begins, b the reader -/
def RdW (w0 W : World) (b : Nat) : Prop := w0.heap.size ≤ b ∧ b < W.heap.size ∧ Ext w0 W
theorem RdAt.of_block {W W' : World} {b : Nat} {rest : List UInt8} {ln : Nat} (h : RdAt W b rest ln) (e : W'.heap[b]? = W.heap[b]?) : RdAt W' b rest ln := by
  have c : ∀ o, W'.cell? ⟨b, o, none⟩ = W.cell? ⟨b, o, none⟩ := fun o => World.cell?_of_block (a := ⟨b, o, none⟩) e
  have f : ∀ o, W'.frozen? ⟨b, o, none⟩ = W.frozen? ⟨b, o, none⟩ := fun o => by unfold World.frozen?; rw [e]
  exact ⟨(c 0).trans h.1, (c 1).trans h.2.1, (f 0).trans h.2.2.1, (f 1).trans h.2.2.2⟩
theorem RdAt.ext {W W' : World} {b : Nat} {rest : List UInt8} {ln : Nat} (h : RdAt W b rest ln) (x : Ext W W') : RdAt W' b rest ln := h.of_block (x.block b (cell_lt h.1))
theorem RdAt.putLine {W : World} {b : Nat} {rest : List UInt8} {ln : Nat} (h : RdAt W b rest ln) (n : Nat) : RdAt (W.setCell ⟨b, 1, none⟩ (iv n)) b rest n := by
  have o0 : Open W b 0 := ⟨⟨_, h.1⟩, h.2.2.1⟩
  have o1 : Open W b 1 := ⟨⟨_, h.2.1⟩, h.2.2.2⟩
  exact ⟨by rw [cell_other _ (.inr (by omega))]; exact h.1, o1.same _, (o0.set _ _).2, (o1.set _ _).2⟩
theorem RdAt.putRest {W : World} {b : Nat} {rest : List UInt8} {ln : Nat} (h : RdAt W b rest ln) (r : List UInt8) : RdAt (W.setCell ⟨b, 0, none⟩ (.string (sB r))) b r ln := by
  have o0 : Open W b 0 := ⟨⟨_, h.1⟩, h.2.2.1⟩
  have o1 : Open W b 1 := ⟨⟨_, h.2.1⟩, h.2.2.2⟩
  exact ⟨o0.same _, by rw [cell_other _ (.inr (by omega))]; exact h.2.1, (o0.set _ _).2, (o1.set _ _).2⟩
set_option maxRecDepth 100000 in
set_option maxHeartbeats 600000 in
theorem words_none (b ln : Nat) (rest : List UInt8) (W : World) (h : RdAt W b rest ln) (hb : 3 < b) (hL : LibAt W) (hl : rest.length ≤ 20000) (hn : ln ≤ 20000) (hc : cutN rest = none) :
    Calls Tryz.prog 174 #[.pointer (some ⟨b, 0, none⟩)] W fun e w' => Hid (e = faultP (ln + 1)) ∧ Only (fun q => q = b) W w' := by
  obtain ⟨m, hm⟩ := hL.1
  have QC := hide (fun W' (hm' : W'.cell? ⟨3, 0, none⟩ = some (.int .i64 m)) => Tryz.strings_Cut (sB rest) (sB [10]) m W' (by simp [ByteArray.size]; omega) hm')
  have CN : Lib.cut (sB rest).data.toList (sB [10]).data.toList = (rest, [], false) := cut_none hc
  rw [CN] at QC
  clear CN
  have ec : ((ln + 1 : Nat) : Int) = (ln : Int) + 1 := by omega
  have R1 := hide (h.putLine (ln + 1))
  rw [ec] at R1
  have hm1 : (W.setCell ⟨b, 1, none⟩ (iv ((ln : Int) + 1))).cell? ⟨3, 0, none⟩ = some (.int .i64 m) := by rw [cell_other _ (.inl (by omega))]; exact hm
  have QC1 := hide (unhide QC _ hm1)
  obtain ⟨h0, h1, h2, h3⟩ := h
  clear ec QC hm1 hm hL
  go_enter Tryz.func174, Tryz.ntmps174
  go_wp2_with fail
  refine (unhide QC1).mono ?_
  rintro e w2 ⟨rfl, k, hw2⟩
  have X2 := hide (show Ext (W.setCell ⟨b, 1, none⟩ (iv ((ln : Int) + 1))) w2 by rw [hw2]; exact ext_drewN (Ext.refl _) k)
  have R2 := hide ((unhide R1).ext (unhide X2))
  have O2 := hide ((Only.setCell (S := fun q => q = b) (Only.refl _ W) (p := ⟨b, 1, none⟩) rfl (iv ((ln : Int) + 1))).trans (Only.of_ext (unhide X2)))
  clear hw2 h0 h1 h2 h3
  go_wp2_with fail
  refine (must_no b (ln + 1) rest w2 (unhide R2)).mono ?_
  rintro e w3 ⟨rfl, hw3⟩
  subst hw3
  exact ⟨rfl, hide rfl, unhide O2⟩
set_option maxRecDepth 100000 in
set_option maxHeartbeats 600000 in
theorem words_some (b ln : Nat) (rest line rest' : List UInt8) (W : World) (h : RdAt W b rest ln) (hb : 3 < b) (hL : LibAt W) (hl : rest.length ≤ 20000) (hn : ln ≤ 20000) (hc : cutN rest = some (line, rest')) :
    Calls Tryz.prog 174 #[.pointer (some ⟨b, 0, none⟩)] W fun e w' => ∃ v, Hid (e = .returned v) ∧ Hid (w'.ownsRow W.heap.size 9 1 v (wordsL line).length ((wordsL line).flatMap sC)) ∧ RdAt w' b rest' (ln + 1) ∧ Only (fun q => q = b) W w' := by
  obtain ⟨m, hm⟩ := hL.1
  have hlen := cutN_len hc
  have QC := hide (fun W' (hm' : W'.cell? ⟨3, 0, none⟩ = some (.int .i64 m)) => Tryz.strings_Cut (sB rest) (sB [10]) m W' (by simp [ByteArray.size]; omega) hm')
  have QS := hide (fun W' (hm' : W'.cell? ⟨3, 0, none⟩ = some (.int .i64 m)) => Tryz.strings_Split (sB line) (sB [32]) m W' (by simp [ByteArray.size]; omega) hm' (by simp [ByteArray.size]))
  have CN : Lib.cut (sB rest).data.toList (sB [10]).data.toList = (line, rest', true) := cut_some hc
  rw [CN] at QC
  rw [split_is, count_is] at QS
  clear CN
  have ec : ((ln + 1 : Nat) : Int) = (ln : Int) + 1 := by omega
  have R1 := hide (h.putLine (ln + 1))
  rw [ec] at R1
  have hm1 : (W.setCell ⟨b, 1, none⟩ (iv ((ln : Int) + 1))).cell? ⟨3, 0, none⟩ = some (.int .i64 m) := by rw [cell_other _ (.inl (by omega))]; exact hm
  have QC1 := hide (unhide QC _ hm1)
  obtain ⟨h0, h1, h2, h3⟩ := h
  have HM1 := hide hm1
  clear ec QC hm hL hm1
  go_enter Tryz.func174, Tryz.ntmps174
  go_wp2_with fail
  refine (unhide QC1).mono ?_
  rintro e w2 ⟨rfl, k, hw2⟩
  have X2 := hide (show Ext (W.setCell ⟨b, 1, none⟩ (iv ((ln : Int) + 1))) w2 by rw [hw2]; exact ext_drewN (Ext.refl _) k)
  have R2 := hide ((unhide R1).ext (unhide X2))
  have O2 := hide ((Only.setCell (S := fun q => q = b) (Only.refl _ W) (p := ⟨b, 1, none⟩) rfl (iv ((ln : Int) + 1))).trans (Only.of_ext (unhide X2)))
  have R3 := hide ((unhide R2).putRest rest')
  have HM2 := hide (show (w2.setCell ⟨b, 0, none⟩ (.string (sB rest'))).cell? ⟨3, 0, none⟩ = some (.int .i64 m) by rw [cell_other _ (.inl (by omega))]; exact (unhide X2).keep (unhide HM1))
  have QS1 := hide (unhide QS _ (unhide HM2))
  clear hw2 h0 h1 h2 h3
  obtain ⟨h0, h1, h2, h3⟩ := unhide R2
  go_wp2_with fail
  refine (must_yes b w2).mono ?_
  rintro e w3 ⟨rfl, hw3⟩
  subst hw3
  go_wp2_with fail
  refine (unhide QS1).mono ?_
  rintro e w4 ⟨rfl, hw4⟩
  have OS := hide (own_split (w3.setCell ⟨b, 0, none⟩ (.string (sB rest'))) W.heap.size line (by have := (unhide O2).size; simpa using this) (by omega))
  have R4 := hide ((unhide R3).ext (show Ext (w3.setCell ⟨b, 0, none⟩ (.string (sB rest'))) w4 by rw [hw4]; exact (Ext.refl _).alloc _))
  have O4 := hide (show Only (fun q => q = b) W w4 from ((unhide O2).setCell (p := ⟨b, 0, none⟩) rfl (.string (sB rest'))).trans (Only.of_ext (by rw [hw4]; exact (Ext.refl _).alloc _)))
  rw [← hw4] at OS
  clear hw4
  go_wp2_with fail
  go_ret
  exact ⟨_, rfl, hide (by simpa using unhide OS), unhide R4, unhide O4⟩
end Go.Proofs.YtddkhnclmeikfacGreatDoor
