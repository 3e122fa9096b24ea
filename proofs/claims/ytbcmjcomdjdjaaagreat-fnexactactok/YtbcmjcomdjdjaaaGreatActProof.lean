import Derived.Test.YtbcmjcomdjdjaaaGreatRows
import Derived.Test.YtbcmjcomdjdjaaaGreatAf
import Derived.Test.YtbcmjcomdjdjaaaGreatRd
import Derived.WalkKit
import Derived.ProofKit
import Derived.OpenShut
import Derived.Carry
namespace Go.Proofs.YtbcmjcomdjdjaaaGreat.fnExactActOk
open Go.ChangeShapes Go.WideShapes Go.ChangeAt Go.RowKit

theorem own : ownKnob Tryz.prog.godebug = none := by kernel_rfl
theorem laidOut : laidOutB Tryz.prog = true := by kernel_rfl
theorem cellsA : Tryz.prog.cellsOf 37 = 5 := by kernel_rfl

theorem agg_of {P : Program} {W : World} {r : Reach} {base : Nat} {t : TypeId} {v : Value} {fs : Array Field} (ht : P.underlying t = some (.struct fs)) (h : Value.okWide P W r base t v) : ∃ cs, v = .agg cs := by
  unfold Value.okWide at h
  rw [ht] at h
  obtain ⟨cs, e, _⟩ := h
  exact ⟨cs, e⟩

theorem rd_act {H : Type} {enc : TypeId × Value → H} {w : World} {base : Nat} {spare : Nat → Bool} {held : Bool} {fuel : Nat} {cs : List Value} {x : DataW H × List MemPlace} (h : DataW.trod enc Tryz.prog w base spare held fuel 37 cs = some x) : ∃ op a b c n : Int, cs = [iv op, iv a, iv b, iv c, iv n] := by
  obtain ⟨xs, n, _, _, hl, hs, hf⟩ := DataW.trod_struct Tryz.underlying37 h
  rw [cellsA] at hl
  obtain ⟨a, b, c, d, e, rfl⟩ := len5 hl
  obtain ⟨_, f0, _⟩ := rd_field hs hf 0 3 0 1 rfl cells3
  obtain ⟨_, f1, _⟩ := rd_field hs hf 1 3 1 1 rfl cells3
  obtain ⟨_, f2, _⟩ := rd_field hs hf 2 3 2 1 rfl cells3
  obtain ⟨_, f3, _⟩ := rd_field hs hf 3 3 3 1 rfl cells3
  obtain ⟨_, f4, _⟩ := rd_field hs hf 4 2 4 1 rfl cells2
  obtain ⟨k0, e0⟩ := rd_int f0
  obtain ⟨k1, e1⟩ := rd_int f1
  obtain ⟨k2, e2⟩ := rd_int f2
  obtain ⟨k3, e3⟩ := rd_int f3
  obtain ⟨k4, e4⟩ := rd_int64 f4
  simp at e0 e1 e2 e3 e4
  exact ⟨k0, k1, k2, k3, k4, by rw [e0, e1, e2, e3, e4]⟩
set_option maxRecDepth 100000 in
/-- the argument as a value -/
theorem open_act {H : Type} {enc : TypeId × Value → H} {W : World} {base : Nat} {v : Value} {d : DataW H} {p : List MemPlace} (hok : Value.okWide Tryz.prog W .any base 37 v) (h : DataW.Trod enc Tryz.prog W 0 (fun _ => true) true 37 v d p) :
    ∃ op a b c n : Int, v = actV op a b c n := by
  obtain ⟨cs, rfl⟩ := agg_of Tryz.underlying37 hok
  obtain ⟨fuel, ht⟩ := h
  obtain ⟨op, a, b, c, n, e⟩ := rd_act (x := (d, p)) ht
  refine ⟨op, a, b, c, n, ?_⟩
  have e2 : cs.toList = [iv op, iv a, iv b, iv c, iv n] := e
  have e3 : cs = #[iv op, iv a, iv b, iv c, iv n] := by
    rw [← Array.toArray_toList (xs := cs), e2]
  rw [e3]

set_option maxRecDepth 100000 in
theorem lifted (os : Os) (started : os.Started) (H : Type) (enc : TypeId × Value → H) :
    ReturnsInHanded {} Tryz.checked os 5 .any (Rows.fnExactActOkSpec.pre6 enc Tryz.prog Tryz.f5 Rows.fnExactActOkRow.domain false) (Rows.fnExactActOkSpec.post enc Tryz.prog Tryz.f5 false true false false) := by
  refine returnsInHanded_of_change (C := Tryz.checked) own started (by kernel_rfl) Tryz.func5
    (ChangeSpec.witness6 (enc := enc) (C := Tryz.checked) false ⟨#[], #[.agg #[.int .i64 0, .int .i64 0, .int .i64 0, .int .i64 0, .int .i64 0]], []⟩ 8 (by kernel_rfl) (by kernel_rfl) (by kernel_rfl) (by kernel_rfl)) ?_
  intro W base args ds gs before hval0 hW hcnd _
  have hval : ∀ (j : Nat) t v, Tryz.f5.params[j]? = some t → args[j]? = some v → Value.okWide Tryz.prog W .any base t v := hval0
  have hW' := hW
  obtain ⟨p, q, hA0, hV, rfl, hfz, hnd⟩ := hW
  have hA : DataW.TrodAll enc Tryz.prog W 0 (fun _ => true) true Tryz.f5.params.toList args.toList ds p := hA0
  have hlt := hA.lt
  rw [Tryz.params5] at hA hval
  obtain ⟨v0, vs0, d0, ds0, p0, q0, hargs, rfl, rfl, h0, r0⟩ := trodAll_cons hA
  obtain ⟨rfl, rfl, rfl⟩ := trodAll_nil r0
  obtain rfl : args = #[v0] := by cases args; simp_all
  obtain ⟨rfl, rfl⟩ := trodVars_none hV
  obtain ⟨op, a, b, c, n, rfl⟩ := open_act (hval 0 37 v0 rfl rfl) h0
  clear hA0 hval0
  refine (actLaw_any op a b c n W).mono fun e W' ⟨he, hx⟩ => ?_
  subst he
  exact ⟨_, rfl, _, _, _, [], p0 ++ [], [], hW', trodAll_cons_mk (shut_bool Tryz.underlying4 _) trodAll_mk0, trodAll_cons_mk (Below.trod laidOut (by kernel_rfl) (of_decide_eq_true (by kernel_rfl)) h0 hx (fun z hz => hlt z (by simpa using hz))) trodAll_mk0, rfl, Below.frame hx _, fun h => by cases h⟩

theorem over : Rows.fnExactActOkRow.holds Tryz.pinned (OpenSpec.ofChange Rows.fnExactActOkSpec) :=
  OpenClaim.holds_of_wide 5 Tryz.f5 rfl rfl rfl rfl rfl rfl rfl ⟨rfl, rfl, rfl, rfl, rfl⟩ rfl rfl rfl rfl rfl (by kernel_rfl) Tryz.func5 (by kernel_rfl)
    (of_decide_eq_true (by kernel_rfl)) (by unfold Func.isWrapper; first | (rw [if_pos (by decide +kernel)]; kernel_rfl) | (rw [if_neg (by decide +kernel)]; exact ⟨rfl, rfl⟩))
    (fun os started H enc _ => lifted os started H enc)

end Go.Proofs.YtbcmjcomdjdjaaaGreat.fnExactActOk
namespace Go.Proofs.YtbcmjcomdjdjaaaGreat
theorem fnExactActOk_holds : Rows.FnExactActOkSaid := fnExactActOk.over
#print axioms fnExactActOk_holds
end Go.Proofs.YtbcmjcomdjdjaaaGreat
