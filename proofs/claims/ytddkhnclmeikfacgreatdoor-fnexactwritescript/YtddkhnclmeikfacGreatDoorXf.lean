import Derived.Test.YtddkhnclmeikfacGreatDoorXe
import Derived.Lib.OthersKept
namespace Go.Proofs.YtddkhnclmeikfacGreatDoor
open Go.RowKit
attribute [local go_sem ↓] Go.wp_at_zero Go.wp_at_succ

/-! The line of an act, as the program writes it. -/
def letN (x : Ak) : List Int := (letL x.op).map (fun c => x.byLet (c.toNat : Int))
theorem letL_len (op : Int) : (letL op).length ≤ 4 := getD_len letT 4 (by decide) _
theorem letL_ascii (op : Int) : ∀ c ∈ letL op, c.toNat < 128 := by
  have h : letT.all (fun l => l.all (fun c => decide (c.toNat < 128))) = true := by decide
  intro c hc
  unfold letL at hc
  rw [List.getD_eq_getElem?_getD] at hc
  cases q : letT[op.toNat]? with
  | none => rw [q] at hc; simp at hc
  | some l =>
    rw [q] at hc
    have := List.all_eq_true.1 h l (List.mem_of_getElem? q)
    exact of_decide_eq_true (List.all_eq_true.1 this c (by simpa using hc))
theorem letN_fit {x : Ak} (hf : x.Fit) : FitN (letN x) := by
  intro n hn
  unfold letN at hn
  obtain ⟨c, _, rfl⟩ := List.mem_map.1 hn
  unfold Ak.byLet
  split
  · exact hf 0
  · split
    · exact hf 1
    · split
      · exact hf 2
      · exact hf 3
theorem let_line (x : Ak) (h1 : 1 ≤ x.op) (h2 : x.op ≤ 24) : nameL x.op ++ numsT (letN x) = lineL x := by
  unfold lineL
  congr 1
  obtain ⟨op, a, b, c, n⟩ := x
  simp only at h1 h2
  have h := op_cases op h1 h2
  clear h1 h2
  rcases h with rfl | rfl | rfl | rfl | rfl | rfl | rfl | rfl | rfl | rfl | rfl | rfl | rfl | rfl | rfl | rfl | rfl | rfl | rfl | rfl | rfl | rfl | rfl | rfl
  all_goals (simp [numsT, letN, letL, letT, fldL, hasL, hasT, Ak.byLet, Ak.num, List.range_succ])
theorem infoI64 : (Tryz.prog.info? 2).map (fun i => (i.zero, i.size, i.bytes)) = some (some (.int .i64 0), 1, 8) := by kernel_rfl
def nC (n : Int) : List Value := [iv n]
theorem own_nums {w : World} {B : Nat} {v : Value} {L : List Int} (h : w.ownsRow B 2 1 v L.length (L.flatMap nC)) (hl : L.length ≤ 1048576) : SlI w v L := by
  obtain ⟨ad, cap, e, _, hx⟩ := own_cells (f := nC) (fun _ => rfl) h
  refine ⟨ad, cap, e, by omega, fun i hi => ?_⟩
  obtain ⟨g, ea, _, _, hc⟩ := hx i hi
  exact ⟨g, 0, ea, by have := hc 0 (by simp); simpa [nC, InAt] using this⟩
theorem lt_get (lt : List UInt8) (k : Nat) (_h : k < lt.length) (h' : k < (⟨lt.toArray⟩ : ByteArray).size) : (⟨lt.toArray⟩ : ByteArray)[k]'h' = lt[k] := rfl
theorem next_let {w : World} {b k : Nat} {lt : List UInt8} (hit : w.heap[b]? = some (.stringIter ⟨lt.toArray⟩ k)) (hk : k < lt.length) (ha : ∀ c ∈ lt, c.toNat < 128) (ty : TypeId) : (Instr.next (.pointer (some ⟨b, 0, none⟩)) true ty).run Tryz.prog w = .ok (.tuple #[.bool true, .int .i64 k, .int .i32 (lt[k].toNat : Int)]) (w.iterAt b ⟨lt.toArray⟩ (k + 1)) := by
  have h' : k < (⟨lt.toArray⟩ : ByteArray).size := by simpa [ByteArray.size] using hk
  exact Lib.run_next_ascii_at w b ⟨lt.toArray⟩ k ty hit h' (ha _ (by rw [lt_get lt k hk h']; exact List.getElem_mem hk))
theorem next_end {w : World} {b k : Nat} {lt : List UInt8} (hit : w.heap[b]? = some (.stringIter ⟨lt.toArray⟩ k)) (hk : ¬ k < lt.length) (ty : TypeId) : (Instr.next (.pointer (some ⟨b, 0, none⟩)) true ty).run Tryz.prog w = .ok (.tuple #[.bool false]) w :=
  Lib.run_next_end_at w b ⟨lt.toArray⟩ k ty hit (by simpa [ByteArray.size] using hk)
theorem let_take (x : Ak) (lt : List UInt8) (k : Nat) (hk : k < lt.length) : (lt.take (k + 1)).map (fun c => x.byLet (c.toNat : Int)) = (lt.take k).map (fun c => x.byLet (c.toNat : Int)) ++ [x.byLet (lt[k].toNat : Int)] := by
  rw [List.take_succ_eq_append_getElem hk, List.map_append]; rfl
set_option maxRecDepth 100000 in
set_option maxHeartbeats 600000 in
theorem actLine_any (x : Ak) (h1 : 1 ≤ x.op) (h2 : x.op ≤ 24) (hf : x.Fit) (w : World) (ht : Tab w) : Calls Tryz.prog 63 #[x.v] w fun e w' => e = .returned (.string ⟨(lineL x ++ [10]).toArray⟩) ∧ Ext w w' := by
  have f0 : w.cell? ⟨0, x.op.toNat * 2, none⟩ = some (.string ⟨(nameL x.op).toArray⟩) := by
    have := (ht.2 x.op.toNat (by omega)).1
    rwa [show ((x.op.toNat : Nat) : Int) = x.op by omega] at this
  have f1 : w.cell? ⟨0, x.op.toNat * 2 + 1, none⟩ = some (.string ⟨(letL x.op).toArray⟩) := by
    have := (ht.2 x.op.toNat (by omega)).2
    rwa [show ((x.op.toNat : Nat) : Int) = x.op by omega] at this
  have g0 : 0 < w.heap.size := cell_lt f0
  have hk0 : (0 : Int) ≤ x.op := by omega
  have hk1 : x.op < 25 := by omega
  have QF := hide (fun c W => field_any x c W)
  have LL := letL_len x.op
  have LA := hide (letL_ascii x.op)
  have LN := hide (let_line x h1 h2)
  have NF := hide (letN_fit hf)
  have NL := name_len x.op
  have HT := hide ht
  obtain ⟨i0, hi0, hz0, hz1, hz2⟩ := info_parts infoI64
  obtain ⟨nm, hnm⟩ : ∃ s, s = nameL x.op := ⟨_, rfl⟩
  obtain ⟨lt, hlt⟩ : ∃ s, s = letL x.op := ⟨_, rfl⟩
  have NN := hide (show letN x = lt.map (fun c => x.byLet (c.toNat : Int)) by rw [hlt]; rfl)
  rw [← hnm] at f0 LN NL
  rw [← hlt] at f1 LL LA
  clear hnm hlt ht
  go_enter Tryz.func63, Tryz.ntmps63
  go_wp2_with fail
  obtain ⟨WA, hWA⟩ : ∃ W, W = (w.alloc (.cells #[iv x.op, iv x.a, iv x.b, iv x.c, iv x.n] 40)).alloc (.cells #[.string ⟨nm.toArray⟩, .string ⟨lt.toArray⟩] 192) := ⟨_, rfl⟩
  rw [← hWA]
  have XA := hide (show Ext w WA from hWA ▸ ((Ext.refl w).alloc _).alloc _)
  have sA : WA.heap.size = w.heap.size + 1 + 1 := by rw [hWA]; simp
  have CA := hide (show AkAt WA w.heap.size 0 x ∧ WA.cell? ⟨w.heap.size + 1, 0, none⟩ = some (.string ⟨nm.toArray⟩) by
    rw [hWA]
    exact ⟨⟨by simp [go_sem], by simp [go_sem], by simp [go_sem], by simp [go_sem], by simp [go_sem]⟩, by simp [go_sem]⟩)
  have IT := hide (show (WA.iter ⟨lt.toArray⟩ 0).heap[w.heap.size + 1 + 1]? = some (.stringIter ⟨lt.toArray⟩ 0) by
    have := World.iter_heap WA ⟨lt.toArray⟩ 0
    rwa [sA] at this)
  clear hWA f0 f1 g0
  go_loopw [4] (fun v wr => ∃ k : Nat, k ≤ lt.length ∧ Hid (wr.heap[w.heap.size + 1 + 1]? = some (.stringIter ⟨lt.toArray⟩ k)) ∧ Hid (wr.ownsRow (w.heap.size + 1 + 1 + 1) 2 1 v ((lt.take k).map (fun c => x.byLet (c.toNat : Int))).length (((lt.take k).map (fun c => x.byLet (c.toNat : Int))).flatMap nC)) ∧ Ext WA wr) (fun _ wr => lt.length - wr.iterPos (w.heap.size + 1 + 1))
  case atStart => exact ⟨0, by omega, unhide IT, World.ownsRow_nil _ _ _ _, (Ext.refl WA).alloc _⟩
  case round =>
    obtain ⟨k, hk, hit, hown, hb⟩ := hrel
    by_cases hlt : k < lt.length
    · have hnx := fun ty => next_let (unhide hit) hlt (unhide LA) ty
      have TK := hide (let_take x lt k hlt)
      have IT2 := hide (Lib.iterAt_heap wr (w.heap.size + 1 + 1) ⟨lt.toArray⟩ k (k + 1) (unhide hit))
      have XB := hide (show Ext WA (wr.iterAt (w.heap.size + 1 + 1) ⟨lt.toArray⟩ (k + 1)) from Lib.below_iterAt hb (k := w.heap.size + 1 + 1) (by omega) ⟨lt.toArray⟩ (k + 1))
      have O1 := hide (ownsRow_of_block (w' := wr.iterAt (w.heap.size + 1 + 1) ⟨lt.toArray⟩ (k + 1)) (unhide hown) (fun q hq => Lib.iterAt_other wr _ q _ _ (by have := ((unhide hown).lt q hq).1; omega)))
      obtain ⟨W1, hW1⟩ : ∃ W, W = wr.iterAt (w.heap.size + 1 + 1) ⟨lt.toArray⟩ (k + 1) := ⟨_, rfl⟩
      rw [← hW1] at IT2 XB O1
      have hnx2 : ∀ ty, (Instr.next (.pointer (some ⟨w.heap.size + 1 + 1, 0, none⟩)) true ty).run Tryz.prog wr = .ok (.tuple #[.bool true, .int .i64 k, .int .i32 (lt[k].toNat : Int)]) W1 := fun ty => hW1 ▸ hnx ty
      clear hnx hW1
      have t0 := (unhide XB).keep (unhide CA).1.1
      have t1 := (unhide XB).keep (unhide CA).1.2.1
      have t2 := (unhide XB).keep (unhide CA).1.2.2.1
      have t3 := (unhide XB).keep (unhide CA).1.2.2.2.1
      have t4 := (unhide XB).keep (unhide CA).1.2.2.2.2
      simp only [Nat.zero_add] at t0 t1 t2 t3 t4
      clear hown
      go_wp2_with fail
      refine (unhide QF _ _).mono ?_
      rintro e w2 ⟨rfl, x2⟩
      have X2 := hide ((unhide XB).trans x2)
      have I2 := hide (show w2.heap[w.heap.size + 1 + 1]? = some (.stringIter ⟨lt.toArray⟩ (k + 1)) from (x2.block _ (by rcases Array.getElem?_eq_some_iff.1 (unhide IT2) with ⟨h, _⟩; exact h)).trans (unhide IT2))
      have O2 := hide (ownsRow_of_block (unhide O1) (fun q hq => x2.block q ((unhide O1).lt q hq).2))
      have sW : w.heap.size + 1 + 1 < w2.heap.size := by rcases Array.getElem?_eq_some_iff.1 (unhide I2) with ⟨h, _⟩; exact h
      obtain ⟨y, hy⟩ : ∃ y, y = x.byLet (lt[k].toNat : Int) := ⟨_, rfl⟩
      rw [← hy] at TK ⊢
      clear hy
      obtain ⟨L, hL⟩ : ∃ L, L = (lt.take k).map (fun c => x.byLet (c.toNat : Int)) := ⟨_, rfl⟩
      have LE := hide (show L.length ≤ 4 by rw [hL, List.length_map, List.length_take]; omega)
      rw [← hL] at TK O1 O2
      clear hL O1 IT2 XB t0 t1 t2 t3 t4 hnx2
      go_wp2_with (at_builtin; refine wpList_append_lies _ rfl _ _ 177 rfl (w.heap.size + 1 + 1 + 1) 2 i0 (.int .i64 0) 1 8 Tryz.underlying177 hi0 hz0 hz1 hz2 rfl (by decide) _ L.length (L.flatMap nC) rfl ((unhide O2).alloc _) _ 1 1 (nC y) rfl rfl ?c1 ?c2 (by decide) ?c3 ?c4 ?c5 _ rfl ?_)
      case c1 =>
        intro q u hk
        match q, hk with
        | 0, hk => simp [nC] at hk; subst hk; simp [Addr.add, go_sem]
        | q + 1, hk => simp [nC] at hk
      case c2 => intro u hu; simp [nC] at hu; subst hu; rfl
      case c3 => have := unhide LE; unfold maxLen; omega
      case c4 => have := unhide LE; omega
      case c5 => simp; omega
      intro g cap' w3 hown3 hgrow hat hglt
      have R := hide (show w3.ownsRow (w.heap.size + 1 + 1 + 1) 2 1 (.slice (some ⟨g, 0, none⟩) (L.length + 1) cap') ((lt.take (k + 1)).map (fun c => x.byLet (c.toNat : Int))).length (((lt.take (k + 1)).map (fun c => x.byLet (c.toNat : Int))).flatMap nC) by
        rw [unhide TK, List.flatMap_append]
        simpa using hown3)
      have X3 := hide (grown_ext ((unhide X2).alloc _) ((unhide O2).alloc _) (by omega) hgrow)
      have I3 := hide (show w3.heap[w.heap.size + 1 + 1]? = some (.stringIter ⟨lt.toArray⟩ (k + 1)) from (hgrow.block _ (by simp; omega) (fun e => by have := (((unhide O2).alloc (.cells #[iv y] 2)).lt _ e.symm).1; omega)).trans ((Lib.alloc_old _ _ _ sW).trans (unhide I2)))
      clear hown3 hgrow hat
      go_wp2_with fail
      go_roundw
      case rel => exact ⟨k + 1, by omega, unhide I3, unhide R, unhide X3⟩
      case measure => simp only [World.iterPos, unhide I3, unhide hit]; omega
    · have hnx := fun ty => next_end (unhide hit) hlt ty
      have e : k = lt.length := by omega
      subst e
      have R := unhide hown
      rw [List.take_length, ← unhide NN] at R
      have S := own_nums R (by rw [unhide NN, List.length_map]; omega)
      have QL := hide (lineOf_any nm (letN x) u4 wr S (unhide NF) (by omega) (by rw [unhide NN, List.length_map]; exact LL) ((unhide HT).1.ext ((unhide XA).trans hb)))
      obtain ⟨ad, cap, rfl⟩ : ∃ ad cap, u4 = .slice ad (letN x).length cap := let ⟨a, c, e, _⟩ := S; ⟨a, c, e⟩
      have t5 := hb.keep (unhide CA).2
      clear hown R S hit
      go_wp2_with fail
      refine (unhide QL).mono ?_
      rintro e w2 ⟨rfl, x2⟩
      go_wp2_with fail
      go_ret
      exact ⟨by rw [← unhide LN, List.append_assoc]; rfl, ((unhide XA).trans hb).trans x2⟩
end Go.Proofs.YtddkhnclmeikfacGreatDoor
