import Derived.Test.YtddkhnclmeikfacGreatDoorYk
namespace Go.Proofs.YtddkhnclmeikfacGreatDoor
open Go.RowKit
attribute [local go_sem ↓] Go.wp_at_zero Go.wp_at_succ

/-! The program's first line. -/
theorem LibAt.ext {W W' : World} (h : LibAt W) (x : Ext W W') : LibAt W' := by
  obtain ⟨⟨m, h1⟩, ⟨t, p, h2⟩, ⟨t', p', h3⟩⟩ := h
  exact ⟨⟨m, x.keep h1⟩, ⟨t, p, x.keep h2⟩, ⟨t', p', x.keep h3⟩⟩
/-- what holds while a text is read: w0 is the world ahead of it, b the reader's block -/
def Cx (w0 W : World) (b : Nat) : Prop := Tab w0 ∧ LibAt w0 ∧ w0.heap.size ≤ b ∧ Ext w0 W
theorem Cx.lib {w0 W : World} {b : Nat} (h : Cx w0 W b) : LibAt W := h.2.1.ext h.2.2.2
theorem Cx.tab {w0 W : World} {b : Nat} (h : Cx w0 W b) : Tab W := h.1.ext h.2.2.2
theorem Cx.far {w0 W : World} {b : Nat} (h : Cx w0 W b) : 3 < b := by
  obtain ⟨⟨m, h1⟩, _⟩ := h.2.1
  have k : 3 < w0.heap.size := cell_lt h1
  exact Nat.lt_of_lt_of_le k h.2.2.1
theorem Cx.on {w0 W W' : World} {b : Nat} (h : Cx w0 W b) (o : Only (fun q => q = b) W W') : Cx w0 W' b := ⟨h.1, h.2.1, h.2.2.1, o.ext h.2.2.2 (fun k hk e => by have := h.2.2.1; omega)⟩
theorem Cx.ext {w0 W W' : World} {b : Nat} (h : Cx w0 W b) (x : Ext W W') : Cx w0 W' b := ⟨h.1, h.2.1, h.2.2.1, h.2.2.2.trans x⟩
/-- how the reading of the first line ends -/
def RoomEnd (tx : List UInt8) (b : Nat) (e : Ending) (w' : World) : Prop := (∃ line rest' r, cutN tx = some (line, rest') ∧ roomO line = some r ∧ e = .returned (.int .i64 r) ∧ RdAt w' b rest' 1) ∨ ((∀ line rest', cutN tx = some (line, rest') → roomO line = none) ∧ e = faultP 1)
set_option maxRecDepth 100000 in
set_option maxHeartbeats 600000 in
theorem room_any (w0 W : World) (b : Nat) (tx : List UInt8) (hcx : Cx w0 W b) (h : RdAt W b tx 0) (hl : tx.length ≤ 20000) :
    Calls Tryz.prog 116 #[.pointer (some ⟨b, 0, none⟩)] W fun e w' => Hid (RoomEnd tx b e w') ∧ Only (fun q => q = b) W w' := by
  have HC := hide hcx
  cases qc : cutN tx with
  | none =>
    have QW := hide (words_none b 0 tx W h hcx.far hcx.lib hl (by omega) qc)
    have NO := hide (show ∀ line rest', cutN tx = some (line, rest') → roomO line = none from fun line rest' e => by rw [qc] at e; cases e)
    clear h hcx
    go_enter Tryz.func116, Tryz.ntmps116
    go_wp2_with fail
    refine (unhide QW).mono ?_
    rintro e w2 ⟨he, o2⟩
    have e2 := unhide he
    subst e2
    exact ⟨rfl, hide (.inr ⟨unhide NO, rfl⟩), o2⟩
  | some lr =>
    obtain ⟨line, rest'⟩ := lr
    have QW := hide (words_some b 0 tx line rest' W h hcx.far hcx.lib hl (by omega) qc)
    have hlen := cutN_len qc
    have QC := hide qc
    clear h hcx qc
    go_enter Tryz.func116, Tryz.ntmps116
    go_wp2_with fail
    refine (unhide QW).mono ?_
    rintro e w2 ⟨v, he, hown, hr2, o2⟩
    have e2 := unhide he
    clear he
    subst e2
    have C2 := hide ((unhide HC).on o2)
    have R2 := hide hr2
    have WL := hide (word_le (l := line))
    obtain ⟨ad, cap, hv, hx⟩ := own_strs (unhide hown)
    subst hv
    have HX := hide hx
    have NOf := hide (show roomO line = none → ∀ l r, cutN tx = some (l, r) → roomO l = none from fun hn l r e => by rw [unhide QC] at e; cases e; exact hn)
    clear hx hown hr2
    by_cases h2 : (wordsL line).length = 2
    rotate_left
    · have NO := hide (unhide NOf (roomO_len h2))
      have q1 : (((wordsL line).length : Int) == 2) = false := by simp; omega
      go_wp2_with fail
      refine (must_no b 1 rest' w2 (unhide R2)).mono ?_
      rintro e w3 ⟨rfl, hw3⟩
      subst hw3
      exact ⟨rfl, hide (.inr ⟨unhide NO, rfl⟩), o2⟩
    · obtain ⟨wd, r, hw⟩ : ∃ w0 r, wordsL line = [w0, r] := by
        match q : wordsL line, h2 with
        | [a, b], _ => exact ⟨a, b, rfl⟩
      have RL := unhide WL r (by rw [hw]; simp)
      have HW := hide hw
      obtain ⟨L, hL⟩ : ∃ L, L = wordsL line := ⟨_, rfl⟩
      rw [← hL] at HX
      have hL2 : L = [wd, r] := hL.trans hw
      subst hL2
      obtain ⟨g, hg, c0⟩ := unhide HX 0 (by simp)
      obtain ⟨g1, hg1, c1⟩ := unhide HX 1 (by simp)
      subst hg
      cases hg1
      simp only [List.getElem_cons_zero, List.getElem_cons_succ] at c0 c1
      have hlen2 : (wordsL line).length = 2 := h2
      rw [hlen2]
      clear HX hL hw h2 hlen2 QW WL
      cases q : (wd == [114, 111, 111, 109])
      · have NO := hide (unhide NOf (roomO_name (unhide HW) q))
        go_wp2_with fail
        refine (must_no b 1 rest' w2 (unhide R2)).mono ?_
        rintro e w3 ⟨rfl, hw3⟩
        subst hw3
        exact ⟨rfl, hide (.inr ⟨unhide NO, rfl⟩), o2⟩
      · have TW := hide (roomO_two (unhide HW) q)
        have QN := hide (number_any b 1 rest' r w2 (unhide R2) (unhide C2).lib (unhide C2).tab.1 (by omega))
        go_wp2_with fail
        refine (must_yes b w2).mono ?_
        rintro e w3 ⟨rfl, hw3⟩
        subst hw3
        go_wp2_with fail
        refine (unhide QN).mono ?_
        rintro e w4 ⟨hn, x4⟩
        rcases hn with ⟨qb, he⟩ | ⟨qb, he⟩
        rotate_left
        · have NO := hide (unhide NOf (show roomO line = none by rw [unhide TW, if_neg]; unfold roomGood; rw [qb]; simp))
          have e2 := unhide he
          subst e2
          exact ⟨rfl, hide (.inr ⟨unhide NO, rfl⟩), o2.trans (Only.of_ext x4)⟩
        · have e2 := unhide he
          clear he
          subst e2
          have R4 := hide ((unhide R2).ext x4)
          have RG := hide (show roomGood r = withinB (numV r) 1 4000 by
            unfold roomGood withinB
            rw [qb, Bool.true_and]
            by_cases h1 : 1 ≤ numV r <;> by_cases h2 : numV r ≤ 4000 <;> simp [h1, h2])
          obtain ⟨nv, hnv⟩ : ∃ x, x = numV r := ⟨_, rfl⟩
          rw [← hnv] at RG TW ⊢
          clear hnv
          cases q5 : withinB nv 1 4000
          · have QI := hide (fun V => q5 ▸ within_any nv 1 4000 V)
            have NO := hide (unhide NOf (show roomO line = none by rw [unhide TW, unhide RG, q5]; rfl))
            go_wp2_with (go_at_call 120; refine (unhide QI _).mono ?_; rintro e w5 ⟨rfl, rfl⟩)
            refine (must_no b 1 rest' w5 (unhide R4)).mono ?_
            rintro e w6 ⟨rfl, hw6⟩
            subst hw6
            exact ⟨rfl, hide (.inr ⟨unhide NO, rfl⟩), o2.trans (Only.of_ext x4)⟩
          · have QI := hide (fun V => q5 ▸ within_any nv 1 4000 V)
            have YS := hide (show roomO line = some nv by rw [unhide TW, unhide RG, q5]; rfl)
            go_wp2_with (go_at_call 120; refine (unhide QI _).mono ?_; rintro e w5 ⟨rfl, rfl⟩)
            refine (must_yes b w5).mono ?_
            rintro e w6 ⟨rfl, hw6⟩
            subst hw6
            go_wp2_with fail
            go_ret
            exact ⟨hide (.inl ⟨line, rest', nv, unhide QC, unhide YS, rfl, unhide R4⟩), o2.trans (Only.of_ext x4)⟩
end Go.Proofs.YtddkhnclmeikfacGreatDoor
