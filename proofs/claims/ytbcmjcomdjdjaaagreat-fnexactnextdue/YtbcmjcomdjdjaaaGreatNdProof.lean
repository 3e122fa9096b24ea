import Derived.Test.YtbcmjcomdjdjaaaGreatRows
import Derived.Test.YtbcmjcomdjdjaaaGreatNdLaw
import Derived.Test.YtbcmjcomdjdjaaaGreatRd
import Derived.WalkKit
import Derived.ProofKit
import Derived.OpenShut
import Derived.Carry
namespace Go.Proofs.YtbcmjcomdjdjaaaGreat.fnExactNextDue
open Go.ChangeShapes Go.WideShapes Go.ChangeAt Go.RowKit

theorem own : ownKnob Tryz.prog.godebug = none := by kernel_rfl
theorem laidOut : laidOutB Tryz.prog = true := by kernel_rfl

theorem agg_of {P : Program} {W : World} {r : Reach} {base : Nat} {t : TypeId} {v : Value} {fs : Array Field} (ht : P.underlying t = some (.struct fs)) (h : Value.okWide P W r base t v) : ∃ cs, v = .agg cs := by
  unfold Value.okWide at h
  rw [ht] at h
  obtain ⟨cs, e, _⟩ := h
  exact ⟨cs, e⟩

set_option maxRecDepth 100000 in
/-- the argument as a value -/
theorem open_heap {H : Type} {enc : TypeId × Value → H} {W : World} {base : Nat} {v : Value} {d : DataW H} {p : List MemPlace} (hok : Value.okWide Tryz.prog W .any base 26 v) (h : DataW.Trod enc Tryz.prog W 0 (fun _ => true) true 26 v d p) (hw : ∀ n ∈ d.weights Tryz.prog 26, n ≤ reachBytes) :
    ∃ (y : Hp) (vr vc vg : Value), v = y.v vr vc vg ∧ SlW W vr y.regs ∧ SlC W vc y.cells ∧ SlI W vg y.gray := by
  obtain ⟨cs, rfl⟩ := agg_of Tryz.underlying26 hok
  obtain ⟨fuel, ht⟩ := h
  obtain ⟨y, vr, vc, vg, e, hr, hc, hg⟩ := rd_heap (x := (d, p)) ht (fun n hn => hw n hn)
  refine ⟨y, vr, vc, vg, ?_, hr, hc, hg⟩
  have e2 : cs.toList = [iv y.room, iv y.used, iv y.born, vr, vc, iv y.phase, iv y.hand, iv y.sub, vg, iv y.per, iv y.start, iv y.rounds, iv y.forced] := e
  have e3 : cs = #[iv y.room, iv y.used, iv y.born, vr, vc, iv y.phase, iv y.hand, iv y.sub, vg, iv y.per, iv y.start, iv y.rounds, iv y.forced] := by
    rw [← Array.toArray_toList (xs := cs), e2]
  rw [e3]

set_option maxRecDepth 100000 in
theorem lifted (os : Os) (started : os.Started) (H : Type) (enc : TypeId × Value → H) :
    ReturnsInHanded {} Tryz.checked os 4 .any (Rows.fnExactNextDueSpec.pre6 enc Tryz.prog Tryz.f4 Rows.fnExactNextDueRow.domain false) (Rows.fnExactNextDueSpec.post enc Tryz.prog Tryz.f4 false true false false) := by
  refine returnsInHanded_of_change_sized (C := Tryz.checked) own started (by kernel_rfl) Tryz.func4
    (ChangeSpec.witness6 (enc := enc) (C := Tryz.checked) false ⟨#[], #[.agg #[.int .i64 0, .int .i64 0, .int .i64 0, .slice none 0 0, .slice none 0 0, .int .i64 0, .int .i64 0, .int .i64 0, .slice none 0 0, .int .i64 0, .int .i64 0, .int .i64 0, .int .i64 0]], []⟩ 8 (by kernel_rfl) (by kernel_rfl) (by kernel_rfl) (by kernel_rfl)) ?_
  intro W base args ds gs before hval0 hW hcnd hsz0 _
  have hval : ∀ (j : Nat) t v, Tryz.f4.params[j]? = some t → args[j]? = some v → Value.okWide Tryz.prog W .any base t v := hval0
  have hsz : (DataW.weightsEach Tryz.prog (Tryz.f4.params.toList ++ Rows.fnExactNextDueSpec.plain.varTypes Tryz.prog) (ds ++ gs)).all (· ≤ reachBytes) = true := hsz0
  have hW' := hW
  obtain ⟨p, q, hA0, hV, rfl, hfz, hnd⟩ := hW
  have hA : DataW.TrodAll enc Tryz.prog W 0 (fun _ => true) true Tryz.f4.params.toList args.toList ds p := hA0
  have hlt := hA.lt
  rw [Tryz.params4] at hA hval hsz
  obtain ⟨v0, vs0, d0, ds0, p0, q0, hargs, rfl, rfl, h0, r0⟩ := trodAll_cons hA
  obtain ⟨rfl, rfl, rfl⟩ := trodAll_nil r0
  obtain rfl : args = #[v0] := by cases args; simp_all
  obtain ⟨rfl, rfl⟩ := trodVars_none hV
  obtain ⟨y, vr, vc, vg, rfl, hr, hc, hg⟩ := open_heap (hval 0 26 v0 rfl rfl) h0 (fun n hn => by
    have := List.all_eq_true.1 hsz n (DataW.weights_mem_each (j := 0) (t := 26) (d := d0) (by simp) (by simp) n hn)
    simpa using this)
  clear hA0 hval0
  refine (ndLaw_any y vr vc vg W hr hc hg).mono fun e W' ⟨he, hx⟩ => ?_
  subst he
  exact ⟨_, rfl, _, _, _, [], p0 ++ [], [], hW', trodAll_cons_mk (shut_bool Tryz.underlying4 _) trodAll_mk0, trodAll_cons_mk (Below.trod laidOut (by kernel_rfl) (of_decide_eq_true (by kernel_rfl)) h0 hx (fun z hz => hlt z (by simpa using hz))) trodAll_mk0, rfl, Below.frame hx _, fun h => by cases h⟩

theorem over : Rows.fnExactNextDueRow.holds Tryz.pinned (OpenSpec.ofChange Rows.fnExactNextDueSpec) :=
  OpenClaim.holds_of_wide 4 Tryz.f4 rfl rfl rfl rfl rfl rfl rfl ⟨rfl, rfl, rfl, rfl, rfl⟩ rfl rfl rfl rfl rfl (by kernel_rfl) Tryz.func4 (by kernel_rfl)
    (of_decide_eq_true (by kernel_rfl)) (by unfold Func.isWrapper; first | (rw [if_pos (by decide +kernel)]; kernel_rfl) | (rw [if_neg (by decide +kernel)]; exact ⟨rfl, rfl⟩))
    (fun os started H enc _ => lifted os started H enc)

end Go.Proofs.YtbcmjcomdjdjaaaGreat.fnExactNextDue
namespace Go.Proofs.YtbcmjcomdjdjaaaGreat
theorem fnExactNextDue_holds : Rows.FnExactNextDueSaid := fnExactNextDue.over
#print axioms fnExactNextDue_holds
end Go.Proofs.YtbcmjcomdjdjaaaGreat
