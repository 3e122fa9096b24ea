import Derived.Test.YtbcmjcomdjdjaaaGreatAc
import Derived.Laws.EntriesVeiled
import Derived.Laws.CopyRow
import Derived.Laws.ResultCell
namespace Go.Proofs.YtbcmjcomdjdjaaaGreat
open Go.RowKit
attribute [local go_sem ↓] Go.wp_at_zero Go.wp_at_succ

theorem within_r (n lo hi : Int) (r : Bool) (h : withinB n lo hi = r) (w : World) : Calls Tryz.prog 83 #[.int .i64 n, .int .i64 lo, .int .i64 hi] w fun e w' => e = .returned (.bool r) ∧ w' = w := h ▸ within_any n lo hi w
/-- the table of ways -/
def wayL : List Value := [iv 0, iv 0, iv 0, .nilFunc, iv 15, iv 255, iv 200, .func (.func 61) #[] #[], iv 15, iv 0, iv 0, .func (.func 62) #[] #[], iv 15, iv 0, iv 0, .func (.func 63) #[] #[], iv 15, iv 15, iv 0, .func (.func 64) #[] #[], iv 15, iv 15, iv 199, .func (.func 65) #[] #[], iv 15, iv 15, iv 199, .func (.func 65) #[] #[], iv 15, iv 15, iv 199, .func (.func 66) #[] #[], iv 15, iv 15, iv 199, .func (.func 66) #[] #[], iv 15, iv 0, iv 200, .func (.func 67) #[] #[], iv 15, iv 0, iv 200, .func (.func 68) #[] #[], iv 15, iv 0, iv 3, .func (.func 69) #[] #[], iv 15, iv 0, iv 1, .func (.func 70) #[] #[], iv 15, iv 15, iv 0, .func (.func 71) #[] #[], iv 15, iv 0, iv 0, .func (.func 72) #[] #[], iv 15, iv 0, iv 0, .func (.func 73) #[] #[], iv 15, iv 0, iv 0, .func (.func 74) #[] #[], iv 15, iv 0, iv 0, .func (.func 75) #[] #[], iv 0, iv 0, iv 0, .func (.func 76) #[] #[], iv 15, iv 0, iv 0, .func (.func 77) #[] #[], iv 0, iv 0, iv 0, .func (.func 78) #[] #[], iv 0, iv 0, iv 0, .func (.func 79) #[] #[], iv 0, iv 0, iv 100000, .func (.func 80) #[] #[], iv 0, iv 64, iv 4000, .func (.func 81) #[] #[], iv 0, iv 0, iv 0, .func (.func 82) #[] #[]]
def wayF (op : Int) : Nat := if op = 1 then 61 else if op = 2 then 62 else if op = 3 then 63 else if op = 4 then 64 else if op = 5 then 65 else if op = 6 then 65 else if op = 7 then 66 else if op = 8 then 66 else if op = 9 then 67 else if op = 10 then 68 else if op = 11 then 69 else if op = 12 then 70 else if op = 13 then 71 else if op = 14 then 72 else if op = 15 then 73 else if op = 16 then 74 else if op = 17 then 75 else if op = 18 then 76 else if op = 19 then 77 else if op = 20 then 78 else if op = 21 then 79 else if op = 22 then 80 else if op = 23 then 81 else 82
theorem wayL_at (k : Nat) (h1 : 1 ≤ k) (h2 : k ≤ 24) : wayL[k * 4]? = some (iv (actA k)) ∧ wayL[k * 4 + 1]? = some (iv (actB k)) ∧ wayL[k * 4 + 2]? = some (iv (actC k)) ∧ wayL[k * 4 + 3]? = some (.func (.func (wayF k)) #[] #[]) := by
  have h : k = 1 ∨ k = 2 ∨ k = 3 ∨ k = 4 ∨ k = 5 ∨ k = 6 ∨ k = 7 ∨ k = 8 ∨ k = 9 ∨ k = 10 ∨ k = 11 ∨ k = 12 ∨ k = 13 ∨ k = 14 ∨ k = 15 ∨ k = 16 ∨ k = 17 ∨ k = 18 ∨ k = 19 ∨ k = 20 ∨ k = 21 ∨ k = 22 ∨ k = 23 ∨ k = 24 := by omega
  rcases h with rfl | rfl | rfl | rfl | rfl | rfl | rfl | rfl | rfl | rfl | rfl | rfl | rfl | rfl | rfl | rfl | rfl | rfl | rfl | rfl | rfl | rfl | rfl | rfl <;> exact ⟨rfl, rfl, rfl, rfl⟩
theorem store_row {P : Program} {o : Oper} {a : Act} {K : Act → World → Prop} {Q : Exit → Act → World → Prop} (W : World) (g : Nat) (cur : Array Value) (t : TypeId) (L L' : List Value) (hL : L = L') (hg : W.heap[g]? = some (.cells cur t (0, 0))) (hl : L'.length = cur.size) (h1 : L'.all (·.oneCell') = true) (hk : ∀ W', W' = W.setRow g L'.toArray → Oper.upon P o a K Q (.ok .skip W')) :
    Oper.upon P o a K Q (((storeCells ⟨g, 0, none⟩ L).run P W).andThen fun _ w' => .ok .skip w') := by
  subst hL
  have := run_storeCells_at (P := P) g 0 t L 0 cur W hg (by omega) (fun v hv => List.all_eq_true.1 h1 v hv)
  rw [this]
  refine hk _ ?_
  have e : List.drop (0 + 0 + L.length) cur.toList = [] := List.drop_eq_nil_of_le (by simp [hl])
  rw [e]
  simp
theorem heap_third (w : World) (o1 o2 o3 : Obj) : (((w.alloc o1).alloc o2).alloc o3).heap[w.heap.size + 1 + 1]? = some o3 := by
  have := heap_alloc_new ((w.alloc o1).alloc o2) o3
  simpa using this
/-- the world in which the table lies -/
structure TabAt (w W : World) (op a b c n : Int) : Prop where
  a0 : W.cell? ⟨w.heap.size, 0, none⟩ = some (iv op)
  a1 : W.cell? ⟨w.heap.size, 1, none⟩ = some (iv a)
  a2 : W.cell? ⟨w.heap.size, 2, none⟩ = some (iv b)
  a3 : W.cell? ⟨w.heap.size, 3, none⟩ = some (iv c)
  a4 : W.cell? ⟨w.heap.size, 4, none⟩ = some (iv n)
  v0 : W.cell? ⟨w.heap.size + 1, 0, none⟩ = some (iv 0)
  v1 : W.cell? ⟨w.heap.size + 1, 1, none⟩ = some (iv 0)
  v2 : W.cell? ⟨w.heap.size + 1, 2, none⟩ = some (iv 0)
  v3 : W.cell? ⟨w.heap.size + 1, 3, none⟩ = some .nilFunc
  fz : ∀ j, W.frozen? ⟨w.heap.size + 1, j, none⟩ = false
  t : ∀ j, W.cell? ⟨w.heap.size + 1 + 1, j, none⟩ = wayL[j]?
  ex : Ext w W
set_option maxRecDepth 20000 in
theorem TabAt.of (w W : World) (op a b c n : Int) (t1 t2 t3 : TypeId) (cur : Array Value) (hW : W = (((w.alloc (.cells #[iv op, iv a, iv b, iv c, iv n] t1)).alloc (.cells #[iv 0, iv 0, iv 0, .nilFunc] t2)).alloc (.cells cur t3)).setRow (w.heap.size + 1 + 1) wayL.toArray) : TabAt w W op a b c n := by
  have o0 : ∀ k, k ≠ w.heap.size + 1 + 1 → W.heap[k]? = (((w.alloc (.cells #[iv op, iv a, iv b, iv c, iv n] t1)).alloc (.cells #[iv 0, iv 0, iv 0, .nilFunc] t2)).alloc (.cells cur t3)).heap[k]? := fun k hk => by rw [hW]; exact setRow_other _ _ k _ hk
  have c0 : ∀ j, W.cell? ⟨w.heap.size, j, none⟩ = #[iv op, iv a, iv b, iv c, iv n][j]? := fun j => by
    rw [World.cell?_of_block (a := ⟨w.heap.size, j, none⟩) (o0 w.heap.size (by omega))]
    refine cell_of_row _ w.heap.size j _ t1 (0, 0) ?_
    rw [Below.heap_alloc _ _ _ (by simp; omega), Below.heap_alloc _ _ _ (by simp)]
    exact heap_alloc_new w _
  have e1 : W.heap[w.heap.size + 1]? = some (.cells #[iv 0, iv 0, iv 0, .nilFunc] t2) := by
    rw [o0 _ (by omega), Below.heap_alloc _ _ _ (by simp)]
    have := heap_alloc_new (w.alloc (.cells #[iv op, iv a, iv b, iv c, iv n] t1)) (.cells #[iv 0, iv 0, iv 0, .nilFunc] t2)
    have e : (w.alloc (.cells #[iv op, iv a, iv b, iv c, iv n] t1)).heap.size = w.heap.size + 1 := by simp
    rw [e] at this
    exact this
  have c1 : ∀ j, W.cell? ⟨w.heap.size + 1, j, none⟩ = #[iv 0, iv 0, iv 0, .nilFunc][j]? := fun j => cell_of_row _ _ j _ t2 (0, 0) e1
  have e2 : W.heap[w.heap.size + 1 + 1]? = some (.cells wayL.toArray t3) := by
    rw [hW]; exact setRow_heap _ _ cur _ t3 _ (heap_third _ _ _ _)
  refine ⟨c0 0, c0 1, c0 2, c0 3, c0 4, c1 0, c1 1, c1 2, c1 3, fun j => ?_, fun j => ?_, ?_⟩
  · unfold World.frozen?
    simp [e1]
  · rw [cell_of_row _ _ j _ t3 (0, 0) e2]; simp
  · rw [hW]
    exact Below.trans (((Ext.refl w).alloc _).alloc _ |>.alloc _) ⟨rfl, rfl, rfl, by simp [World.setRow], fun k hk => setRow_other _ _ k _ (by omega)⟩
set_option maxRecDepth 100000 in
set_option maxHeartbeats 600000 in
theorem wayOf_out (op a b c n : Int) (w : World) (h : withinB op 1 24 = false) : Calls Tryz.prog 35 #[actV op a b c n] w fun e w' => e = .returned (.tuple #[.agg #[iv 0, iv 0, iv 0, .nilFunc], .bool false]) ∧ Ext w w' := by
  have QO := hide (fun W => within_r op 1 24 false h W)
  go_enter Tryz.func35, Tryz.ntmps35
  go_wp2_with fail
  refine store_row _ _ _ _ _ wayL (by kernel_rfl) (heap_third _ _ _ _) (by kernel_rfl) (by kernel_rfl) ?_
  intro W4 hW4
  have T := TabAt.of _ _ _ _ _ _ _ _ _ _ _ hW4
  clear hW4
  obtain ⟨a0, a1, a2, a3, a4, v0, v1, v2, v3, fz, tt, ex⟩ := T
  have TT := hide tt
  have X := hide ex
  clear tt ex
  simp only [Oper.upon]
  go_wp2_with (go_at_call 83; refine (unhide QO _).mono ?_; rintro e w2 ⟨rfl, rfl⟩)
  refine bodyPost_ret (by rw [results_cell_tmp rfl]; simp [go_sem, loadVar, v0, v1, v2, v3]; rfl) rfl ?_
  exact ⟨rfl, ((((unhide X).setCell (p := ⟨w.heap.size + 1, 0, none⟩) (Nat.le_succ _) _).setCell (p := ⟨w.heap.size + 1, 1, none⟩) (Nat.le_succ _) _).setCell (p := ⟨w.heap.size + 1, 2, none⟩) (Nat.le_succ _) _).setCell (p := ⟨w.heap.size + 1, 3, none⟩) (Nat.le_succ _) _⟩
set_option maxRecDepth 100000 in
set_option maxHeartbeats 600000 in
theorem wayOf_num (k : Nat) (a b c n : Int) (w : World) (h1 : 1 ≤ k) (h2 : k ≤ 24) (q1 : ((k : Int) != 2) = true) (q2 : (n != 0) = true) : Calls Tryz.prog 35 #[actV k a b c n] w fun e w' => e = .returned (.tuple #[.agg #[iv 0, iv 0, iv 0, .nilFunc], .bool false]) ∧ Ext w w' := by
  have QO := hide (fun W => within_r k 1 24 true (by simp [withinB]; omega) W)
  clear h1 h2
  go_enter Tryz.func35, Tryz.ntmps35
  go_wp2_with fail
  refine store_row _ _ _ _ _ wayL (by kernel_rfl) (heap_third _ _ _ _) (by kernel_rfl) (by kernel_rfl) ?_
  intro W4 hW4
  have T := TabAt.of _ _ _ _ _ _ _ _ _ _ _ hW4
  clear hW4
  obtain ⟨a0, a1, a2, a3, a4, v0, v1, v2, v3, fz, tt, ex⟩ := T
  have TT := hide tt
  have X := hide ex
  clear tt ex
  simp only [Oper.upon]
  go_wp2_with (go_at_call 83; refine (unhide QO _).mono ?_; rintro e w2 ⟨rfl, rfl⟩)
  refine bodyPost_ret (by rw [results_cell_tmp rfl]; simp [go_sem, loadVar, v0, v1, v2, v3]; rfl) rfl ?_
  exact ⟨rfl, ((((unhide X).setCell (p := ⟨w.heap.size + 1, 0, none⟩) (Nat.le_succ _) _).setCell (p := ⟨w.heap.size + 1, 1, none⟩) (Nat.le_succ _) _).setCell (p := ⟨w.heap.size + 1, 2, none⟩) (Nat.le_succ _) _).setCell (p := ⟨w.heap.size + 1, 3, none⟩) (Nat.le_succ _) _⟩
end Go.Proofs.YtbcmjcomdjdjaaaGreat
