import Derived.Test.YtddkhnclmeikfacGreatDoorXa
import Derived.Test.YtddkhnclmeikfacGreatDoorAc
import Derived.Test.YtddkhnclmeikfacGreatDoorKa0
namespace Go.Proofs.YtddkhnclmeikfacGreatDoor
open Go.RowKit
attribute [local go_sem ↓] Go.wp_at_zero Go.wp_at_succ

/-! Lines of a script, as the model writes them. -/
def nameT : List (List UInt8) := [[], [110, 101, 119], [110, 117, 109], [110, 105, 108], [99, 111, 112, 121], [107, 101, 121], [118, 97, 108], [115, 101, 116, 107, 101, 121], [115, 101, 116, 118, 97, 108], [103, 114, 111, 119], [99, 117, 116], [119, 101, 97, 107], [108, 97, 115, 116], [115, 97, 109, 101], [119, 111, 114, 100], [110, 117, 109, 98, 101, 114], [107, 105, 110, 100], [115, 105, 122, 101], [115, 101, 116, 116, 108, 101], [100, 117, 101], [99, 111, 117, 110, 116], [108, 105, 118, 101], [115, 116, 101, 112], [112, 97, 99, 101], [114, 111, 117, 110, 100]]
def hasT : List (List Bool) := [[false, false, false, false], [true, true, true, false], [true, false, false, true], [true, false, false, false], [true, true, false, false], [true, true, true, false], [true, true, true, false], [true, true, true, false], [true, true, true, false], [true, false, true, false], [true, false, true, false], [true, false, true, false], [true, false, true, false], [true, true, false, false], [true, false, false, false], [true, false, false, false], [true, false, false, false], [true, false, false, false], [false, false, false, false], [true, false, false, false], [false, false, false, false], [false, false, false, false], [false, false, true, false], [false, true, true, false], [false, false, false, false]]
def nameL (op : Int) : List UInt8 := nameT.getD op.toNat []
def hasL (op : Int) (j : Nat) : Bool := (hasT.getD op.toNat []).getD j false
def Ak.num (x : Ak) (j : Nat) : Int := [x.a, x.b, x.c, x.n].getD j 0
/-- the k first of the four fields, where they are told -/
def fldL (x : Ak) (k : Nat) : List UInt8 := (List.range k).flatMap (fun j => if hasL x.op j = true then 32 :: Lib.itoa (x.num j) else [])
def lineL (x : Ak) : List UInt8 := nameL x.op ++ fldL x 4
theorem fld_yes (x : Ak) (k : Nat) (h : hasL x.op k = true) : fldL x (k + 1) = fldL x k ++ 32 :: Lib.itoa (x.num k) := by
  unfold fldL
  rw [List.range_succ, List.flatMap_append]; simp [h]
theorem fld_no (x : Ak) (k : Nat) (h : hasL x.op k = false) : fldL x (k + 1) = fldL x k := by
  unfold fldL
  rw [List.range_succ, List.flatMap_append]; simp [h]
/-- the row of what is told -/
def HasAt (w : World) (v : Value) (op : Int) : Prop := ∃ g, v = .slice (some ⟨g, 0, none⟩) 4 4 ∧ ∀ j, j < 4 → w.cell? ⟨g, j, none⟩ = some (.bool (hasL op j))
theorem HasAt.of (w : World) (op : Int) (b0 b1 b2 b3 : Bool) (h0 : hasL op 0 = b0) (h1 : hasL op 1 = b1) (h2 : hasL op 2 = b2) (h3 : hasL op 3 = b3) : HasAt (w.alloc (.cells #[.bool b0, .bool b1, .bool b2, .bool b3] 4)) (.slice (some ⟨w.heap.size, 0, none⟩) 4 4) op := by
  refine ⟨_, rfl, fun j hj => ?_⟩
  match j, hj with
  | 0, _ => rw [h0]; simp [go_sem]
  | 1, _ => rw [h1]; simp [go_sem]
  | 2, _ => rw [h2]; simp [go_sem]
  | 3, _ => rw [h3]; simp [go_sem]
set_option maxRecDepth 100000 in
set_option maxHeartbeats 1000000 in
theorem l7has_any (op : Int) (h1 : 1 ≤ op) (h2 : op ≤ 24) (w : World) : Calls Tryz.prog 114 #[.int .i64 op] w fun e w' => ∃ v, Hid (e = .returned v) ∧ HasAt w' v op ∧ Ext w w' := by
  have QL := hide (fun W => l5reg_any op h1 h2 W)
  have h := op_cases op h1 h2
  clear h1 h2
  rcases h with rfl | rfl | rfl | rfl | rfl | rfl | rfl | rfl | rfl | rfl | rfl | rfl | rfl | rfl | rfl | rfl | rfl | rfl | rfl | rfl | rfl | rfl | rfl | rfl
  all_goals
    go_enter Tryz.func114, Tryz.ntmps114
    go_wp2_with (go_at_call 118; refine (unhide QL _).mono ?_; rintro e w2 ⟨rfl, rfl⟩)
    go_ret
    exact ⟨_, rfl, HasAt.of _ _ _ _ _ _ rfl rfl rfl rfl, (Ext.refl _).alloc _⟩
end Go.Proofs.YtddkhnclmeikfacGreatDoor
