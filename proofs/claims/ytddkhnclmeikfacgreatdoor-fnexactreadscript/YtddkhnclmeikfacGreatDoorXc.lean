import Derived.Test.YtddkhnclmeikfacGreatDoorXb1
import Derived.Lib.ItoaLen
import Derived.Deep.RegionHeld3
import Derived.Deep.RegionWith
namespace Go.Proofs.YtddkhnclmeikfacGreatDoor
open Go.RowKit
attribute [local go_sem ↓] Go.wp_at_zero Go.wp_at_succ

/-- numbers that a Go int64 holds -/
def Ak.Fit (x : Ak) : Prop := ∀ j, -9223372036854775808 ≤ x.num j ∧ x.num j ≤ 9223372036854775807
theorem getD_len {α : Type} (T : List (List α)) (m : Nat) (h : T.all (fun l => decide (l.length ≤ m)) = true) (k : Nat) : (T.getD k []).length ≤ m := by
  rw [List.getD_eq_getElem?_getD]
  cases q : T[k]? with
  | none => simp
  | some l => simpa using of_decide_eq_true (List.all_eq_true.1 h l (List.mem_of_getElem? q))
theorem name_len (op : Int) : (nameL op).length ≤ 6 := getD_len nameT 6 (by decide) _
theorem Ak.Fit.len {x : Ak} (hf : x.Fit) (j : Nat) : (Lib.itoa (x.num j)).length ≤ 21 := Lib.itoa_length_le _ (hf j).1 (hf j).2
theorem fld_len {x : Ak} (hf : x.Fit) : ∀ k, (fldL x k).length ≤ 22 * k
  | 0 => by simp [fldL]
  | k + 1 => by
    have := fld_len hf k
    cases q : hasL x.op k
    · rw [fld_no x k q]; omega
    · rw [fld_yes x k q]; have := hf.len k; simp; omega
theorem line_len {x : Ak} (hf : x.Fit) : (lineL x).length ≤ 94 := by
  have := name_len x.op
  have := fld_len hf 4
  unfold lineL; simp; omega
set_option maxRecDepth 100000 in
set_option maxHeartbeats 600000 in
theorem l7line_any (x : Ak) (h1 : 1 ≤ x.op) (h2 : x.op ≤ 24) (hf : x.Fit) (w : World) : Calls Tryz.prog 58 #[x.v] w fun e w' => e = .returned (.string ⟨(lineL x).toArray⟩) ∧ Ext w w' := by
  have QN := hide (fun W => l7name_any x.op h1 h2 W)
  have QH := hide (fun W => l7has_any x.op h1 h2 W)
  have QD := hide (fun j W => l7decimal_any (x.num j) (hf j).1 (hf j).2 W)
  go_enter Tryz.func58, Tryz.ntmps58
  go_wp2_with fail
  refine (unhide QN _).mono ?_
  rintro e w2 ⟨rfl, x2⟩
  have t1 : w2.cell? ⟨w.heap.size, 0, none⟩ = some (iv x.op) := x2.keep (by simp [go_sem])
  have t2 : w2.cell? ⟨w.heap.size, 1, none⟩ = some (iv x.a) := x2.keep (by simp [go_sem])
  have t3 : w2.cell? ⟨w.heap.size, 2, none⟩ = some (iv x.b) := x2.keep (by simp [go_sem])
  have t4 : w2.cell? ⟨w.heap.size, 3, none⟩ = some (iv x.c) := x2.keep (by simp [go_sem])
  have t5 : w2.cell? ⟨w.heap.size, 4, none⟩ = some (iv x.n) := x2.keep (by simp [go_sem])
  have hlt : w.heap.size < w2.heap.size := cell_lt t1
  have X0 := hide (((Ext.refl w).alloc (.cells #[iv x.op, iv x.a, iv x.b, iv x.c, iv x.n] 40)).trans x2)
  clear x2
  go_wp2_with fail
  refine (unhide QH _).mono ?_
  rintro e w3 ⟨v, he, ⟨g, rfl, hc⟩, x3⟩
  have e2 := unhide he
  clear he
  subst e2
  have HC := hide hc
  have NC := hide (show ∀ j, j < 4 → w3.cell? ⟨w2.heap.size, j, none⟩ = some (iv (x.num j)) from fun j hj => x3.keep (by
    match j, hj with
    | 0, _ => simp [go_sem, Ak.num]
    | 1, _ => simp [go_sem, Ak.num]
    | 2, _ => simp [go_sem, Ak.num]
    | 3, _ => simp [go_sem, Ak.num]))
  have X3 := hide (((unhide X0).alloc _).trans x3)
  clear hc x3 t1 t2 t3 t4 t5 hlt X0
  go_wp2_with fail
  go_loopw [3, 23] (fun v i wr => ∃ k : Nat, k ≤ 4 ∧ i = .int .i64 k ∧ v = .string ⟨(nameL x.op ++ fldL x k).toArray⟩ ∧ Ext w3 wr) (fun _ i _ => 4 - (intOf i).toNat)
  case atStart => exact ⟨0, by omega, rfl, by simp [fldL], Ext.refl _⟩
  case round =>
    obtain ⟨k, hk, rfl, rfl, hb⟩ := hrel
    by_cases hlt : k < 4
    · have c0 := hb.keep (unhide HC k hlt)
      have c1 := hb.keep (unhide NC k hlt)
      have hk0 : (0 : Int) ≤ (k : Int) := by omega
      have hk1 : (k : Int) < 4 := by omega
      have QE := hide (unhide QD k)
      cases q : hasL x.op k
      · rw [q] at c0
        have FN := hide (fld_no x k q)
        go_wp2_with fail
        go_roundw
        case rel => exact ⟨k + 1, by omega, by go_num, by rw [unhide FN], hb⟩
        case measure => simp [intOf]; omega
      · rw [q] at c0
        have FN := hide (fld_yes x k q)
        have b1 := hf.len k
        have b2 := name_len x.op
        have b3 := fld_len hf k
        go_wp2_with fail
        refine (unhide QE _).mono ?_
        rintro e w4 ⟨rfl, x4⟩
        go_wp2_with fail
        go_roundw
        case rel => exact ⟨k + 1, by omega, by go_num, by rw [unhide FN]; exact congrArg Value.string ((congrArg _ (str_app [32] _)).trans ((str_app _ _).trans (by simp))), hb.trans x4⟩
        case measure => simp [intOf]; omega
    · have e : k = 4 := by omega
      subst e
      go_wp2_with fail
      go_ret
      exact ⟨rfl, (unhide X3).trans hb⟩
end Go.Proofs.YtddkhnclmeikfacGreatDoor
