import Derived.Test.YtkabcfhemljnbaaGreatPu
namespace Go.Proofs.YtkabcfhemljnbaaGreat
open Go.RowKit
attribute [local go_sem ↓] Go.wp_at_zero Go.wp_at_succ

/-- the Phase that is on ends, the next begins -/
def turnH (x : Hp) : Hp := if x.phase = 5 then toPh x 6 x.cells.length else if x.phase = 6 then { toPh x 0 0 with rounds := if x.rounds < 1000000000 then x.rounds + 1 else x.rounds } else toPh x (x.phase + 1) 0
theorem SAt.phased {B : Nat} {w : World} {b : Nat} {x : Hp} {ar : Option Addr} {kr : Nat} {v4 v8 : Value} {br bc bn : Nat} {pb : Nat → Nat} {pa : Nat → Option Addr} {pk : Nat → Nat} {kn hd : Nat} {vf : Value} {F : List Int} {vk : Value} {K : List Nat} {role : Nat → Nat} (h : SAt B w b x ar kr v4 v8 br bc bn pb pa pk kn hd vf F vk K role) (p hn : Int) :
    SAt B (((w.setCell ⟨b, 6, none⟩ (iv hn)).setCell ⟨b, 7, none⟩ (iv 0)).setCell ⟨b, 5, none⟩ (iv p)) b (toPh x p hn) ar kr v4 v8 br bc bn pb pa pk kn hd vf F vk K role := by
  refine h.boxed (x' := toPh x p hn) (Only.setCell (S := fun q => q = b) (Only.setCell (S := fun q => q = b) (Only.setCell (S := fun q => q = b) (Only.refl _ w) (p := ⟨b, 6, none⟩) rfl _) (p := ⟨b, 7, none⟩) rfl _) (p := ⟨b, 5, none⟩) rfl _) (((h.sb.nb.set _ _).set _ _).set _ _) rfl rfl rfl (((h.sb.bx.set6 hn).set7 0).set5 p) (fun k hk => ?_)
  rw [cell_other _ (.inr (by omega)), cell_other _ (.inr (by omega)), cell_other _ (.inr (by omega))]
set_option maxRecDepth 100000 in
set_option maxHeartbeats 600000 in
theorem turn_low {B : Nat} {w : World} {b : Nat} {x : Hp} {ar : Option Addr} {kr : Nat} {v4 v8 : Value} {br bc bn : Nat} {pb : Nat → Nat} {pa : Nat → Option Addr} {pk : Nat → Nat} {kn hd : Nat} {vf : Value} {F : List Int} {vk : Value} {K : List Nat} {role : Nat → Nat} (h : SAt B w b x ar kr v4 v8 br bc bn pb pa pk kn hd vf F vk K role) (p : Int) (hp : x.phase = p) (h5 : (p == 5) = false) (h6 : (p == 6) = false) (hr : 0 ≤ p ∧ p ≤ 6) (a : World) (ha : a.heap.size ≤ B) (hx : Ext a w) :
    Calls Tryz.prog 130 #[.pointer (some ⟨b, 0, none⟩)] w fun e w' => e = .returned (nowV (p + 1) b) ∧ Hid (SAt B w' b (toPh x (p + 1) 0) ar kr v4 v8 br bc bn pb pa pk kn hd vf F vk K role) ∧ Ext a w' := by
  have H := hide h
  have c5 := h.sb.bx.2.2.2.2.2.1
  have c6 := h.sb.bx.2.2.2.2.2.2.1
  have c7 := h.sb.bx.2.2.2.2.2.2.2.1
  rw [hp] at c5
  have f5 := h.sb.nb.2 5
  have f6 := h.sb.nb.2 6
  have f7 := h.sb.nb.2 7
  have lo := h.sb.lo.1
  have wp : wrap64 (p + 1) = p + 1 := by unfold wrap64; omega
  have FN := hide (h.phased (p + 1) 0)
  have XN := hide (((hx.setCell (p := ⟨b, 6, none⟩) (show a.heap.size ≤ b by omega) (iv 0)).setCell (p := ⟨b, 7, none⟩) (show a.heap.size ≤ b by omega) (iv 0)).setCell (p := ⟨b, 5, none⟩) (show a.heap.size ≤ b by omega) (iv (p + 1)))
  have hr2 : 0 ≤ p + 1 ∧ p + 1 ≤ 6 := ⟨by omega, by simp at h6; omega⟩
  clear h hp
  go_enter Tryz.func130, Tryz.ntmps130
  go_wp2_with fail
  refine (now_any (p + 1) b _ ((unhide FN).sb.bx.2.2.2.2.2.1) hr2).mono ?_
  rintro e w2 ⟨rfl, hw2⟩
  subst hw2
  go_wp2_with fail
  go_ret
  exact ⟨rfl, unhide FN, unhide XN⟩
set_option maxRecDepth 100000 in
set_option maxHeartbeats 600000 in
theorem turn_5 {B : Nat} {w : World} {b : Nat} {x : Hp} {ar : Option Addr} {kr : Nat} {v4 v8 : Value} {br bc bn : Nat} {pb : Nat → Nat} {pa : Nat → Option Addr} {pk : Nat → Nat} {kn hd : Nat} {vf : Value} {F : List Int} {vk : Value} {K : List Nat} {role : Nat → Nat} (h : SAt B w b x ar kr v4 v8 br bc bn pb pa pk kn hd vf F vk K role) (hp : x.phase = 5) (a : World) (ha : a.heap.size ≤ B) (hx : Ext a w) :
    Calls Tryz.prog 130 #[.pointer (some ⟨b, 0, none⟩)] w fun e w' => e = .returned (nowV 6 b) ∧ Hid (SAt B w' b (toPh x 6 x.cells.length) ar kr v4 v8 br bc bn pb pa pk kn hd vf F vk K role) ∧ Ext a w' := by
  have H := hide h
  have c5 := h.sb.bx.2.2.2.2.2.1
  have c6 := h.sb.bx.2.2.2.2.2.2.1
  have c7 := h.sb.bx.2.2.2.2.2.2.2.1
  have c13 := h.sb.n13
  rw [hp] at c5
  have f5 := h.sb.nb.2 5
  have f6 := h.sb.nb.2 6
  have f7 := h.sb.nb.2 7
  have lo := h.sb.lo.1
  have FN := hide (show SAt B ((((w.setCell ⟨b, 6, none⟩ (iv 0)).setCell ⟨b, 7, none⟩ (iv 0)).setCell ⟨b, 6, none⟩ (iv x.cells.length)).setCell ⟨b, 5, none⟩ (iv 6)) b (toPh x 6 x.cells.length) ar kr v4 v8 br bc bn pb pa pk kn hd vf F vk K role by
    refine h.boxed (x' := toPh x 6 x.cells.length) (Only.setCell (S := fun q => q = b) (Only.setCell (S := fun q => q = b) (Only.setCell (S := fun q => q = b) (Only.setCell (S := fun q => q = b) (Only.refl _ w) (p := ⟨b, 6, none⟩) rfl _) (p := ⟨b, 7, none⟩) rfl _) (p := ⟨b, 6, none⟩) rfl _) (p := ⟨b, 5, none⟩) rfl _) ((((h.sb.nb.set _ _).set _ _).set _ _).set _ _) rfl rfl rfl ((((h.sb.bx.set6 0).set7 0).set6 x.cells.length).set5 6) (fun k hk => ?_)
    rw [cell_other _ (.inr (by omega)), cell_other _ (.inr (by omega)), cell_other _ (.inr (by omega)), cell_other _ (.inr (by omega))])
  have XN := hide ((((hx.setCell (p := ⟨b, 6, none⟩) (show a.heap.size ≤ b by omega) (iv 0)).setCell (p := ⟨b, 7, none⟩) (show a.heap.size ≤ b by omega) (iv 0)).setCell (p := ⟨b, 6, none⟩) (show a.heap.size ≤ b by omega) (iv x.cells.length)).setCell (p := ⟨b, 5, none⟩) (show a.heap.size ≤ b by omega) (iv 6))
  clear h hp
  go_enter Tryz.func130, Tryz.ntmps130
  go_wp2_with fail
  refine (now_any 6 b _ ((unhide FN).sb.bx.2.2.2.2.2.1) (by omega)).mono ?_
  rintro e w2 ⟨rfl, hw2⟩
  subst hw2
  go_wp2_with fail
  go_ret
  exact ⟨rfl, unhide FN, unhide XN⟩
set_option maxRecDepth 100000 in
set_option maxHeartbeats 600000 in
theorem turn_6 {B : Nat} {w : World} {b : Nat} {x : Hp} {ar : Option Addr} {kr : Nat} {v4 v8 : Value} {br bc bn : Nat} {pb : Nat → Nat} {pa : Nat → Option Addr} {pk : Nat → Nat} {kn hd : Nat} {vf : Value} {F : List Int} {vk : Value} {K : List Nat} {role : Nat → Nat} (h : SAt B w b x ar kr v4 v8 br bc bn pb pa pk kn hd vf F vk K role) (hp : x.phase = 6) (hr : 0 ≤ x.rounds ∧ x.rounds ≤ 1000000000) (a : World) (ha : a.heap.size ≤ B) (hx : Ext a w) :
    Calls Tryz.prog 130 #[.pointer (some ⟨b, 0, none⟩)] w fun e w' => e = .returned (nowV 0 b) ∧ Hid (SAt B w' b { toPh x 0 0 with rounds := if x.rounds < 1000000000 then x.rounds + 1 else x.rounds } ar kr v4 v8 br bc bn pb pa pk kn hd vf F vk K role) ∧ Ext a w' := by
  have H := hide h
  have c5 := h.sb.bx.2.2.2.2.2.1
  have c6 := h.sb.bx.2.2.2.2.2.2.1
  have c7 := h.sb.bx.2.2.2.2.2.2.2.1
  have c11 := h.sb.bx.2.2.2.2.2.2.2.2.2.2.2.1
  rw [hp] at c5
  have f5 := h.sb.nb.2 5
  have f6 := h.sb.nb.2 6
  have f7 := h.sb.nb.2 7
  have f11 := h.sb.nb.2 11
  have lo := h.sb.lo.1
  obtain ⟨r, er⟩ : ∃ r, r = if x.rounds < 1000000000 then x.rounds + 1 else x.rounds := ⟨_, rfl⟩
  have wr : wrap64 (x.rounds + 1) = x.rounds + 1 := by unfold wrap64; omega
  have ER := hide (show ∀ v, (v = x.rounds + 1 ∧ x.rounds + 1 ≤ 1000000000) ∨ (v = 1000000000 ∧ 1000000000 ≤ x.rounds + 1) → v = r from fun v hv => by rw [er]; split <;> omega)
  rw [← er]
  have FN := hide (show SAt B ((((w.setCell ⟨b, 6, none⟩ (iv 0)).setCell ⟨b, 7, none⟩ (iv 0)).setCell ⟨b, 5, none⟩ (iv 0)).setCell ⟨b, 11, none⟩ (iv r)) b { toPh x 0 0 with rounds := r } ar kr v4 v8 br bc bn pb pa pk kn hd vf F vk K role by
    refine h.boxed (x' := { toPh x 0 0 with rounds := r }) (Only.setCell (S := fun q => q = b) (Only.setCell (S := fun q => q = b) (Only.setCell (S := fun q => q = b) (Only.setCell (S := fun q => q = b) (Only.refl _ w) (p := ⟨b, 6, none⟩) rfl _) (p := ⟨b, 7, none⟩) rfl _) (p := ⟨b, 5, none⟩) rfl _) (p := ⟨b, 11, none⟩) rfl _) ((((h.sb.nb.set _ _).set _ _).set _ _).set _ _) rfl rfl rfl ((((h.sb.bx.set6 0).set7 0).set5 0).set11 r) (fun k hk => ?_)
    rw [cell_other _ (.inr (by omega)), cell_other _ (.inr (by omega)), cell_other _ (.inr (by omega)), cell_other _ (.inr (by omega))])
  have XN := hide ((((hx.setCell (p := ⟨b, 6, none⟩) (show a.heap.size ≤ b by omega) (iv 0)).setCell (p := ⟨b, 7, none⟩) (show a.heap.size ≤ b by omega) (iv 0)).setCell (p := ⟨b, 5, none⟩) (show a.heap.size ≤ b by omega) (iv 0)).setCell (p := ⟨b, 11, none⟩) (show a.heap.size ≤ b by omega) (iv r))
  clear h hp er
  go_enter Tryz.func130, Tryz.ntmps130
  go_wp2_with fail
  all_goals
    first
    | (have e1 : (1000000000 : Int) = r := unhide ER _ (.inr ⟨rfl, by omega⟩); rw [e1])
    | (have e1 : x.rounds + 1 = r := unhide ER _ (.inl ⟨rfl, by omega⟩); rw [e1])
    | (have e1 : min (x.rounds + 1) 1000000000 = r := unhide ER _ (by omega); rw [e1])
    refine (now_any 0 b _ ((unhide FN).sb.bx.2.2.2.2.2.1) (by omega)).mono ?_
    rintro e w2 ⟨rfl, hw2⟩
    subst hw2
    go_wp2_with fail
    go_ret
    exact ⟨rfl, unhide FN, unhide XN⟩
end Go.Proofs.YtkabcfhemljnbaaGreat
