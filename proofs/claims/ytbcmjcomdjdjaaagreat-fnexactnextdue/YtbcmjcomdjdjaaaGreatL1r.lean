import Derived.Test.YtbcmjcomdjdjaaaGreatSpecA
import Derived.Test.YtbcmjcomdjdjaaaGreatSpecB
import Derived.BigRegion
namespace Go.Proofs.YtbcmjcomdjdjaaaGreat
open Go.RowKit
attribute [local go_sem ↓] Go.wp_at_zero Go.wp_at_succ

theorem l1resolve_num (y : Wd) (b : Nat) (w : World) (k2 : (y.k == 2) = false) :
    Calls Tryz.prog 126 #[.pointer (some ⟨b, 0, none⟩), y.v] w fun e w' => e = .returned y.v ∧ Ext w w' := by
  go_enter Tryz.func126, Tryz.ntmps126
  go_wp2_with fail
  go_quiet (fail)
  go_wp2_with fail
  refine bodyPost_ret (v := y.v) (by simp [results, Tryz.results126, go_sem]) rfl ⟨rfl, ?_⟩
  repeat (first | exact Ext.refl _ | refine Ext.drewN ?_ _ | refine Ext.alloc ?_ _ | refine Ext.setCell ?_ (by show w.heap.size ≤ w.heap.size + 1; omega) _)

theorem l1resolve_used (x : Hp) (b i : Nat) (w : World) {ar : Option Addr} {kr : Nat} {ac : Option Addr} {kc : Nat} {ag : Option Addr} {kg : Nat} (h : HAt w b x ar kr ac kc ag kg) (hi : i < x.cells.length) (s2 : ((x.c i).st == 2) = false) :
    Calls Tryz.prog 126 #[.pointer (some ⟨b, 0, none⟩), .agg #[iv 2, iv 0, iv i]] w fun e w' => e = .returned (.agg #[iv 2, iv 0, iv i]) ∧ Ext w w' := by
  obtain ⟨b', o, ap, kp, rfl, C⟩ := h.cell i hi
  have p0 := C.p0
  have c4 := h.c4
  have hb : b < w.heap.size := cell_lt c4
  have hb' : b' < w.heap.size := cell_lt p0
  have i0 : (0 : Int) ≤ (i : Int) := by omega
  have i1 : (i : Int) < (x.cells.length : Int) := by omega
  clear C h
  go_enter Tryz.func126, Tryz.ntmps126
  go_wp2_with fail
  go_quiet (fail)
  go_wp2_with fail
  refine bodyPost_ret (v := .agg #[iv 2, iv 0, iv i]) (by simp [results, Tryz.results126, go_sem]) rfl ⟨rfl, ?_⟩
  repeat (first | exact Ext.refl _ | refine Ext.drewN ?_ _ | refine Ext.alloc ?_ _ | refine Ext.setCell ?_ (by show w.heap.size ≤ w.heap.size + 1; omega) _)

set_option maxHeartbeats 1000000 in
theorem l1resolve_moved (x : Hp) (b i : Nat) (w : World) {ar : Option Addr} {kr : Nat} {ac : Option Addr} {kc : Nat} {ag : Option Addr} {kg : Nat} (h : HAt w b x ar kr ac kc ag kg) (hi : i < x.cells.length) (s2 : ((x.c i).st == 2) = true) :
    Calls Tryz.prog 126 #[.pointer (some ⟨b, 0, none⟩), .agg #[iv 2, iv 0, iv i]] w fun e w' => e = .returned (.agg #[iv 2, iv 0, iv (x.c i).to]) ∧ Ext w w' := by
  obtain ⟨b', o, ap, kp, rfl, C⟩ := h.cell i hi
  have p0 := C.p0
  have p6 := C.p6
  have c4 := h.c4
  have hb : b < w.heap.size := cell_lt c4
  have hb' : b' < w.heap.size := cell_lt p0
  have i0 : (0 : Int) ≤ (i : Int) := by omega
  have i1 : (i : Int) < (x.cells.length : Int) := by omega
  clear C h
  go_enter Tryz.func126, Tryz.ntmps126
  go_wp2_with fail
  go_quiet (fail)
  go_wp2_with fail
  go_region
  all_goals
    go_wp2_with fail
    refine bodyPost_ret (v := .agg #[iv 2, iv 0, iv (x.c i).to]) (by simp [results, Tryz.results126, go_sem]) rfl ⟨rfl, ?_⟩
    repeat (first | exact Ext.refl _ | refine Ext.drewN ?_ _ | refine Ext.drew ?_ | refine Ext.alloc ?_ _ | refine Ext.setCell ?_ (by show w.heap.size ≤ w.heap.size + 1; omega) _)

end Go.Proofs.YtbcmjcomdjdjaaaGreat
