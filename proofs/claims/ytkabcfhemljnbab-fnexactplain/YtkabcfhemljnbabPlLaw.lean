import Derived.Test.YtkabcfhemljnbabKe
namespace Go.Proofs.Ytkabcfhemljnbab
open Go.RowKit
attribute [local go_sem ↓] Go.wp_at_zero Go.wp_at_succ

theorem ownsA_only {S : Nat → Prop} {w w' : World} {B : Nat} {v : Value} {n : Nat} {l : List Value} (h : w.ownsRow B 31 5 v n l) (e : Only S w w') (hs : ∀ q, v.ownBlock = some q → ¬ S q) : w'.ownsRow B 31 5 v n l := ownsRow_of_block h (fun q hq => e.block q (h.lt q hq).2 (hs q hq))
set_option maxRecDepth 100000 in
set_option maxHeartbeats 2000000 in
theorem plLaw_any (xs : List Ak) (v : Value) (w : World) (h : SlA w v xs) :
    Calls Try.prog 3 #[v] w fun e w' => e = .returned (.bool true) ∧ Ext w w' := by
  have S := hide h
  obtain ⟨ad, cap, hv, hl, _⟩ := h
  have QS := hide (szActS_any ad xs.length cap 1048576 w hl (by omega) (by omega))
  rw [← hv] at QS
  clear hv
  go_enter Try.func3, Try.ntmps3
  go_wp2_with fail
  refine (unhide QS).mono ?_
  rintro e w1 ⟨r, rfl, hr, hw1⟩
  subst hw1
  rcases hr with ⟨hr0, hr1⟩ | hr
  rotate_left
  · subst hr
    go_wp2_with fail
    go_ret
    exact ⟨rfl, Ext.refl _⟩
  have hr2 : ¬ r < 0 := by omega
  have n1 : xs.length ≤ 1048576 := by omega
  have p1 := plain_len xs
  have n2 : (plainL xs).length ≤ 1048576 := by omega
  clear hr1 QS hl
  go_wp2_with fail
  refine (toActS_any xs v _ (unhide S) n1).mono ?_
  rintro e w2 ⟨v2, rfl, s2, _, q2⟩
  have S2 := hide s2
  clear s2
  go_wp2_with fail
  refine (specPlain_any xs v2 _ (unhide S2) n1).mono ?_
  rintro e w3 ⟨v3, rfl, o3, q3⟩
  have O3 := hide (unhide o3)
  have x3 := q2.trans q3
  clear o3
  go_wp2_with fail
  refine (toActS_any xs v _ (SlA.ext x3 (unhide S)) n1).mono ?_
  rintro e w4 ⟨v4, rfl, s4, f4, q4⟩
  have S4 := hide (And.intro s4 f4)
  clear s4 f4
  go_wp2_with fail
  refine (implPlain_any xs v4 _ (unhide S4).1 n1).mono ?_
  rintro e w5 ⟨v5, rfl, o5, q5⟩
  have O5 := hide (unhide o5)
  have e35 := q4.trans q5
  have x5 := x3.trans e35
  have O35 := hide (ownsRow_of_block (unhide O3) (fun q hq => e35.block q ((unhide O3).lt q hq).2))
  clear o5
  go_wp2_with fail
  refine (eqActS_same (plainL xs) v5 v3 _ (ownA (unhide O5) n2) (ownA (unhide O35) n2)).mono ?_
  rintro e w6 ⟨rfl, q6⟩
  go_wp2_with fail
  refine (toActS_any xs v _ (SlA.ext (x5.trans q6) (unhide S)) n1).mono ?_
  rintro e w7 ⟨v7, rfl, s7, _, q7⟩
  have S7' := hide s7
  have e47 := (q5.trans q6).trans q7
  clear s7
  go_wp2_with fail
  refine (eqActS_same xs v4 v7 _ (SlA.ext e47 (unhide S4).1) (unhide S7')).mono ?_
  rintro e w8 ⟨rfl, q8⟩
  have e48 := e47.trans q8
  have e58 := (q6.trans q7).trans q8
  have M4 := hide (And.intro (SlA.ext e48 (unhide S4).1) ((unhide S4).2.ext e48))
  go_wp2_with fail
  refine (markCopy (unhide M4).1 (unhide M4).2 n1).mono ?_
  rintro e w9 ⟨k9, rfl, hk9, on9⟩
  have IN4 := hide (show ∀ q, InSl v4 q → w3.heap.size ≤ q ∧ q < w4.heap.size from fun q ⟨o, n, c, e⟩ => ⟨((unhide S4).2.1 q o n c e).1, ((unhide S4).2.2 q o n c e).1⟩)
  have hk9' : ¬ k9 < 0 := by omega
  have O59 := hide (ownsA_only (ownsRow_of_block (unhide O5) (fun q hq => e58.block q ((unhide O5).lt q hq).2)) on9 (fun q hq hi => by have := ((unhide O5).lt q hq).1; have := (unhide IN4 q hi).2; omega))
  have O39 := hide (ownsA_only (ownsRow_of_block (unhide O35) (fun q hq => e58.block q ((unhide O35).lt q hq).2)) on9 (fun q hq hi => by have := ((unhide O3).lt q hq).2; have := (unhide IN4 q hi).1; omega))
  have X9 := hide (show Ext w1 w9 from on9.ext (x5.trans e58) (fun q hq hi => by have := (unhide IN4 q hi).1; have := x3.size; omega))
  have SZ := hide (show w3.heap.size ≤ w4.heap.size ∧ w1.heap.size ≤ w3.heap.size ∧ w4.heap.size ≤ w9.heap.size from ⟨q4.size, x3.size, Nat.le_trans (Nat.le_trans q5.size e58.size) on9.size⟩)
  clear on9 hk9 M4
  go_wp2_with fail
  refine (eqActS_same (plainL xs) v5 v3 _ (ownA (unhide O59) n2) (ownA (unhide O39) n2)).mono ?_
  rintro e w10 ⟨rfl, q10⟩
  have O510 := hide (ownsRow_of_block (unhide O59) (fun q hq => q10.block q ((unhide O59).lt q hq).2))
  go_wp2_with fail
  refine (markOwnA (unhide O510) n2).mono ?_
  rintro e w11 ⟨rfl, hh11, on11⟩
  have H11 := hide hh11
  have O311 := hide (ownsA_only (ownsRow_of_block (unhide O39) (fun q hq => q10.block q ((unhide O39).lt q hq).2)) on11 (fun q hq hi => by have h1 := ((unhide O3).lt q hq).2; have h2 := ((unhide O5).lt q hi).1; have := (unhide SZ).1; omega))
  have X11 := hide (show Ext w1 w11 from on11.ext ((unhide X9).trans q10) (fun q hq hi => by have h2 := ((unhide O5).lt q hi).1; have := (unhide SZ).1; have := (unhide SZ).2.1; omega))
  have hm0 : ¬ (1 + 5 * ((plainL xs).length : Int)) < 0 := by omega
  have hmm : ((1 + 5 * ((plainL xs).length : Int)) != (1 + 5 * ((plainL xs).length : Int))) = false := by simp
  clear hh11 on11
  go_wp2_with fail
  refine (heldOwnA (unhide H11) n2).mono ?_
  rintro e w12 ⟨rfl, hw12⟩
  subst hw12
  go_wp2_with fail
  refine (toActS_any xs v _ (SlA.ext (unhide X11) (unhide S)) n1).mono ?_
  rintro e w13 ⟨v13, rfl, s13, _, q13⟩
  have S13 := hide s13
  clear s13
  go_wp2_with fail
  refine (implPlain_any xs v13 _ (unhide S13) n1).mono ?_
  rintro e w14 ⟨v14, rfl, o14, q14⟩
  have O14 := hide (unhide o14)
  have e14 := q13.trans q14
  clear o14
  go_wp2_with fail
  refine (eqActS_same (plainL xs) v14 v3 _ (ownA (unhide O14) n2) (ownA (ownsRow_of_block (unhide O311) (fun q hq => e14.block q ((unhide O311).lt q hq).2)) n2)).mono ?_
  rintro e w15 ⟨rfl, q15⟩
  have e15 := e14.trans q15
  go_wp2_with fail
  refine (heldOwnA ((unhide H11).ext e15) n2).mono ?_
  rintro e w16 ⟨rfl, hw16⟩
  subst hw16
  go_wp2_with fail
  go_ret
  exact ⟨rfl, (unhide X11).trans e15⟩
end Go.Proofs.Ytkabcfhemljnbab
