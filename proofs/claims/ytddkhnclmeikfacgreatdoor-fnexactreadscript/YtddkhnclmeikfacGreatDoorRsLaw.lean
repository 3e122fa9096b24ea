import Derived.Test.YtddkhnclmeikfacGreatDoorYp
import Derived.Test.YtddkhnclmeikfacGreatDoorKe0
namespace Go.Proofs.YtddkhnclmeikfacGreatDoor
open Go.RowKit
attribute [local go_sem ↓] Go.wp_at_zero Go.wp_at_succ

/-! FnExactReadScript. -/
theorem ownsA_but {S : Nat → Prop} {w w' : World} {B : Nat} {v : Value} {n : Nat} {l : List Value} (h : w.ownsRow B 40 5 v n l) (e : Only S w w') (hs : ∀ q, v.ownBlock = some q → ¬ S q) : w'.ownsRow B 40 5 v n l := ownsRow_of_block h (fun q hq => e.block q (h.lt q hq).2 (hs q hq))
theorem ownsA_on {w w' : World} {B : Nat} {v : Value} {n : Nat} {l : List Value} (h : w.ownsRow B 40 5 v n l) (e : Ext w w') : w'.ownsRow B 40 5 v n l := ownsRow_of_block h (fun q hq => e.block q (h.lt q hq).2)
theorem eqScript_same (R : Rd) (v v' : Value) (w : World) (h : SlA w v R.acts) (h' : SlA w v' R.acts) :
    Calls Tryz.prog 19 #[R.v v, R.v v'] w fun e w' => e = .returned (.bool true) ∧ Ext w w' := by
  obtain ⟨a1, c1, e1⟩ := slA_form h
  obtain ⟨a2, c2, e2⟩ := slA_form h'
  have H := hide (And.intro h h')
  subst e1 e2
  clear h h'
  unfold Rd.v
  go_enter Tryz.func19, Tryz.ntmps19
  go_wp2_with fail
  refine (eqActS_same R.acts _ _ _ (SlA.ext (((Ext.refl w).alloc _).alloc _) (unhide H).1) (SlA.ext (((Ext.refl w).alloc _).alloc _) (unhide H).2)).mono ?_
  rintro e w1 ⟨rfl, q1⟩
  go_wp2_with fail
  go_ret
  exact ⟨rfl, (((Ext.refl w).alloc _).alloc _).trans q1⟩
theorem markScript_own {B : Nat} {w : World} {v : Value} (R : Rd) (h : w.ownsRow B 40 5 v R.acts.length (R.acts.flatMap fA)) (hn : R.acts.length ≤ 1000) :
    Calls Tryz.prog 20 #[R.v v, .int .i64 1] w fun e w' => e = .returned (.int .i64 (1 + 5 * R.acts.length)) ∧ HeldA w' v R.acts.length ∧ Only (fun q => v.ownBlock = some q) w w' := by
  obtain ⟨ad, cap, hv⟩ : ∃ ad cap, v = .slice ad R.acts.length cap := by
    rcases h.2 with ⟨h1, h2⟩ | ⟨g, cap, _, h1, _⟩
    · exact ⟨none, 0, by rw [h1, h2]⟩
    · exact ⟨_, _, h1⟩
  subst hv
  have H := hide h
  clear h
  unfold Rd.v
  go_enter Tryz.func20, Tryz.ntmps20
  go_wp2_with fail
  refine (markOwnA (ownsA_on (unhide H) ((Ext.refl w).alloc _)) (by omega)).mono ?_
  rintro e w1 ⟨rfl, hh, on⟩
  go_wp2_with fail
  go_ret
  exact ⟨rfl, hh, (Only.of_ext ((Ext.refl w).alloc _)).trans on⟩
theorem heldScript_own {w : World} {v : Value} (R : Rd) (h : HeldA w v R.acts.length) (hn : R.acts.length ≤ 1000) :
    Calls Tryz.prog 21 #[R.v v, .int .i64 1] w fun e w' => e = .returned (.int .i64 (1 + 5 * R.acts.length)) ∧ Ext w w' := by
  obtain ⟨ad, cap, hv⟩ : ∃ ad cap, v = .slice ad R.acts.length cap := by
    rcases h with ⟨h1, h2⟩ | ⟨g, cap, h1, _⟩
    · exact ⟨none, 0, by rw [h1, h2]⟩
    · exact ⟨_, _, h1⟩
  subst hv
  have H := hide h
  clear h
  unfold Rd.v
  have hm0 : ¬ (1 + 5 * (R.acts.length : Int)) < 0 := by omega
  go_enter Tryz.func21, Tryz.ntmps21
  go_wp2_with fail
  refine (heldOwnA ((unhide H).ext ((Ext.refl w).alloc _)) (by omega)).mono ?_
  rintro e w1 ⟨rfl, hw1⟩
  subst hw1
  go_wp2_with fail
  go_ret
  exact ⟨rfl, (Ext.refl w).alloc _⟩
/-- a script in a variable -/
def VarS (w : World) (b : Nat) (R : Rd) (v : Value) : Prop := w.cell? ⟨b, 0, none⟩ = some (.bool R.ok) ∧ w.cell? ⟨b, 1, none⟩ = some (.int .i64 R.ln) ∧ w.cell? ⟨b, 2, none⟩ = some (.int .i64 R.rm) ∧ w.cell? ⟨b, 3, none⟩ = some v
theorem VarS.ext {w w' : World} {b : Nat} {R : Rd} {v : Value} (h : VarS w b R v) (e : Ext w w') : VarS w' b R v := ⟨e.keep h.1, e.keep h.2.1, e.keep h.2.2.1, e.keep h.2.2.2⟩
theorem VarS.only {S : Nat → Prop} {w w' : World} {b : Nat} {R : Rd} {v : Value} (h : VarS w b R v) (e : Only S w w') (hs : ¬ S b) : VarS w' b R v := ⟨e.keep hs h.1, e.keep hs h.2.1, e.keep hs h.2.2.1, e.keep hs h.2.2.2⟩
def put4 (w : World) (R : Rd) (v : Value) : World := w.alloc (.cells #[.bool R.ok, .int .i64 R.ln, .int .i64 R.rm, v] 49)
theorem put4_var (w : World) (R : Rd) (v : Value) : VarS (put4 w R v) w.heap.size R v := by
  unfold put4 VarS
  exact ⟨by simp [go_sem], by simp [go_sem], by simp [go_sem], by simp [go_sem]⟩
theorem put4_ext (w : World) (R : Rd) (v : Value) : Ext w (put4 w R v) := (Ext.refl w).alloc _
theorem own_form {B : Nat} {w : World} {v : Value} {n : Nat} {l : List Value} (h : w.ownsRow B 40 5 v n l) : ∃ ad cap, v = .slice ad n cap := by
  rcases h.2 with ⟨h1, h2⟩ | ⟨g, cap, _, h1, _⟩
  · exact ⟨none, 0, by rw [h1, h2]⟩
  · exact ⟨_, _, h1⟩
set_option maxRecDepth 100000 in
set_option maxHeartbeats 1000000 in
theorem rsLaw_any (tx : List UInt8) (w : World) (hlen : tx.length ≤ 9223372036854775807) (ht : Tab w) (hL : LibAt w) :
    Calls Tryz.prog 4 #[.string (sB tx)] w fun e w' => e = .returned (.bool true) ∧ Ext w w' := by
  have HT := hide ht
  have HL := hide hL
  clear ht hL
  by_cases hl : 1048576 < tx.length
  · have hI : (1048576 : Int) < (tx.length : Int) := by omega
    go_enter Tryz.func4, Tryz.ntmps4
    go_wp2_with fail
    go_ret
    exact ⟨rfl, Ext.refl _⟩
  have hI : ¬ (1048576 : Int) < (tx.length : Int) := by omega
  have hl1 : tx.length ≤ 1048576 := by omega
  have n1 := rdText_len tx
  have n2 : (rdText tx).acts.length ≤ 1048576 := by omega
  have hm0 : ¬ (1 + 5 * ((rdText tx).acts.length : Int)) < 0 := by omega
  have hmm : ((1 + 5 * ((rdText tx).acts.length : Int)) != (1 + 5 * ((rdText tx).acts.length : Int))) = false := by simp
  have QS := hide (specRead_any tx hl1)
  have QI := hide (fun W a b => implRead_any W tx hl1 a b)
  obtain ⟨R, hR⟩ : ∃ R, R = rdText tx := ⟨_, rfl⟩
  rw [← hR] at n1 n2 hm0 hmm QS QI
  clear hR
  go_enter Tryz.func4, Tryz.ntmps4
  go_wp2_with fail
  refine (unhide QS _).mono ?_
  rintro e w1 ⟨v1, he1, o1, q1⟩
  have e1 := unhide he1
  subst e1
  have O1 := hide (unhide o1)
  obtain ⟨a1, c1, hv1⟩ := own_form (unhide o1)
  subst hv1
  clear o1 he1
  unfold Rd.v
  go_wp2_with fail
  obtain ⟨wA, hA⟩ : ∃ V, V = put4 w1 R (.slice a1 R.acts.length c1) := ⟨_, rfl⟩
  have VA := hide (hA ▸ put4_var w1 R (.slice a1 R.acts.length c1) : VarS wA w1.heap.size R (.slice a1 R.acts.length c1))
  have xA : Ext w1 wA := hA ▸ put4_ext _ _ _
  have sA : wA.heap.size = w1.heap.size + 1 := by rw [hA]; simp [put4]
  have OA := hide (ownsA_on (unhide O1) xA)
  unfold put4 at hA
  rw [← hA]
  clear hA
  have XA := q1.trans xA
  refine (unhide QI wA ((unhide HT).ext XA) ((unhide HL).ext XA)).mono ?_
  rintro e w2 ⟨v2, he2, o2, q2⟩
  have e2 := unhide he2
  subst e2
  have O2 := hide (unhide o2)
  obtain ⟨a2, c2, hv2⟩ := own_form (unhide o2)
  subst hv2
  have V12 := hide ((unhide VA).ext q2)
  have O12 := hide (ownsA_on (unhide OA) q2)
  clear o2 he2
  obtain ⟨wB, hB⟩ : ∃ V, V = put4 w2 R (.slice a2 R.acts.length c2) := ⟨_, rfl⟩
  have xB : Ext w2 wB := hB ▸ put4_ext _ _ _
  have V1 := hide ((unhide V12).ext xB)
  have V2 := hide (hB ▸ put4_var w2 R (.slice a2 R.acts.length c2) : VarS wB w2.heap.size R (.slice a2 R.acts.length c2))
  have sz2 := q2.size
  have sB0 : wB.heap.size = w2.heap.size + 1 := by rw [hB]; simp [put4]
  have O2B := hide (ownsA_on (unhide O2) xB)
  have O1B := hide (ownsA_on (unhide O12) xB)
  unfold put4 at hB
  have v10 := (unhide V12).1
  have v11 := (unhide V12).2.1
  have v12 := (unhide V12).2.2.1
  have v13 := (unhide V12).2.2.2
  have hlt : w1.heap.size < w2.heap.size := by omega
  unfold Rd.v
  go_wp2_with fail
  rw [← hB]
  clear hB v10 v11 v12 v13
  refine (eqScript_same R (.slice a2 R.acts.length c2) (.slice a1 R.acts.length c1) wB (ownA (unhide O2B) n2) (ownA (unhide O1B) n2)).mono ?_
  rintro e w3 ⟨rfl, q3⟩
  have O23 := hide (ownsA_on (unhide O2B) q3)
  have O13 := hide (ownsA_on (unhide O1B) q3)
  have x3 := (XA.trans q2).trans (xB.trans q3)
  have V13 := hide ((unhide V1).ext q3)
  have V23 := hide ((unhide V2).ext q3)
  obtain ⟨u0, u1, u2, u3⟩ := unhide V23
  go_wp2_with fail
  clear u0 u1 u2 u3
  refine (markScript_own R (unhide O23) n1).mono ?_
  rintro e w4 ⟨rfl, hh4, on4⟩
  have H4 := hide hh4
  have O14 := hide (ownsA_but (unhide O13) on4 (fun q hq hi => by have h1 := ((unhide O1).lt q hq).2; have h2 := ((unhide O2).lt q hi).1; omega))
  have X4 := hide (show Ext w w4 from on4.ext x3 (fun q hq hi => by have h2 := ((unhide O2).lt q hi).1; have := XA.size; omega))
  have V14 := hide ((unhide V13).only on4 (fun hi => by have h2 := ((unhide O2).lt _ hi).1; omega))
  have V24 := hide ((unhide V23).only on4 (fun hi => by have h2 := ((unhide O2).lt _ hi).2; omega))
  clear hh4
  obtain ⟨u0, u1, u2, u3⟩ := unhide V24
  go_wp2_with fail
  clear u0 u1 u2 u3
  refine (heldScript_own R (unhide H4) n1).mono ?_
  rintro e w5 ⟨rfl, q5⟩
  have X5 := hide ((unhide X4).trans q5)
  go_wp2_with fail
  refine (unhide QI w5 ((unhide HT).ext (unhide X5)) ((unhide HL).ext (unhide X5))).mono ?_
  rintro e w6 ⟨v6, he6, o6, q6⟩
  have e6 := unhide he6
  subst e6
  have O6 := hide (unhide o6)
  obtain ⟨a6, c6, hv6⟩ := own_form (unhide o6)
  subst hv6
  have q46 := q5.trans q6
  clear o6 he6
  obtain ⟨wC, hC⟩ : ∃ V, V = put4 w6 R (.slice a6 R.acts.length c6) := ⟨_, rfl⟩
  have xC : Ext w6 wC := hC ▸ put4_ext _ _ _
  have q4C := q46.trans xC
  have V16 := hide ((unhide V14).ext q46)
  have O6C := hide (ownsA_on (unhide O6) xC)
  have O1C := hide (ownsA_on (unhide O14) q4C)
  have hlt6 : w1.heap.size < w6.heap.size := by have := q46.size; have := on4.size; have := q3.size; omega
  unfold put4 at hC
  obtain ⟨u0, u1, u2, u3⟩ := unhide V16
  unfold Rd.v
  go_wp2_with fail
  rw [← hC]
  clear hC u0 u1 u2 u3
  refine (eqScript_same R (.slice a6 R.acts.length c6) (.slice a1 R.acts.length c1) wC (ownA (unhide O6C) n2) (ownA (unhide O1C) n2)).mono ?_
  rintro e w7 ⟨rfl, q7⟩
  have q47 := q4C.trans q7
  have V27 := hide ((unhide V24).ext q47)
  obtain ⟨u0, u1, u2, u3⟩ := unhide V27
  go_wp2_with fail
  clear u0 u1 u2 u3
  refine (heldScript_own R ((unhide H4).ext q47) n1).mono ?_
  rintro e w8 ⟨rfl, q8⟩
  go_wp2_with fail
  go_ret
  exact ⟨rfl, ((unhide X4).trans q47).trans q8⟩
end Go.Proofs.YtddkhnclmeikfacGreatDoor
