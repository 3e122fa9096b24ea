import Derived.Test.YtddkhnclmeikfacGreatDoorWrJ
import Derived.Test.YtddkhnclmeikfacGreatDoorWrLaw
import Derived.Test.YtddkhnclmeikfacGreatDoorRdw
import Derived.WalkKit
import Derived.ProofKit
import Derived.OpenShut
import Derived.Carry
import Derived.OpenVars
import Derived.LaidMore
import Derived.Stop.Joined
namespace Go.Proofs.YtddkhnclmeikfacGreatDoor.fnExactWriteScript
open Go.ChangeShapes Go.WideShapes Go.ChangeAt Go.WideMaps Go.WideElems Go.RowKit

theorem own : ownKnob Tryz.prog.godebug = none := by kernel_rfl
theorem laidOut : laidOutB Tryz.prog = true := by kernel_rfl

set_option maxRecDepth 100000 in
theorem open_acts {H : Type} {enc : TypeId × Value → H} {W : World} {base : Nat} {v : Value} {d : DataW H} {p : List MemPlace} (hok : Value.okWide Tryz.prog W .any base 54 v) (h : DataW.Trod enc Tryz.prog W 0 (fun _ => true) true 54 v d p) (hw : ∀ n ∈ d.weights Tryz.prog 54, n ≤ reachBytes) :
    ∃ xs : List Ak, SlA W v xs ∧ ∀ y ∈ xs, y.Fit := by
  obtain ⟨a, l, c, rfl⟩ := okWide_slice Tryz.underlying54 hok
  obtain ⟨fuel, ht⟩ := h
  obtain ⟨v', xs, e, hs, hf⟩ := rd_actsF (x := (d, p)) ht (fun n hn => hw n hn)
  have hv : [Value.slice a l c] = [v'] := e
  injection hv with hv
  exact ⟨xs, by rw [hv]; exact hs, hf⟩
set_option maxRecDepth 100000 in
theorem open_room {H : Type} {enc : TypeId × Value → H} {W : World} {base : Nat} {v : Value} {d : DataW H} {p : List MemPlace} (hok : Value.okWide Tryz.prog W .any base 3 v) (h : DataW.Trod enc Tryz.prog W 0 (fun _ => true) true 3 v d p) :
    ∃ n : Int, v = .int .i64 n ∧ -9223372036854775808 ≤ n ∧ n ≤ 9223372036854775807 := by
  obtain ⟨k, rfl⟩ := okWide_int Tryz.underlying3 hok
  obtain ⟨fuel, ht⟩ := h
  obtain ⟨n, e, hb⟩ := rd_intF Tryz.underlying3 ht
  have hv : [Value.int .i64 k] = [iv n] := e
  injection hv with hv
  exact ⟨n, hv, hb⟩

/-- The door's own heap meets the condition. -/
theorem door_met (os : Os) (args : Array Value) : laidMetH Tryz.prog Rows.fnExactWriteScriptRow.laid ((World.doorLaid Tryz.prog 400 os).forCall (fun _ _ => 0) ⟨#[], args, []⟩).memory :=
  laidMetH_of_parts3 (fuel := 8) (laidMet_of_run' 8 (by kernel_rfl) (by kernel_rfl)) (by kernel_rfl) (by kernel_rfl)
theorem of_laid {W : World} (h : laidMetH Tryz.prog Rows.fnExactWriteScriptRow.laid W) : Tab W := by
  rw [MakeChecks.laidMetH_plain _ _ _ (by kernel_rfl)] at h
  have h2 := (laidMet.tail (laidMet.tail h))
  have h3 := laidMet.tail h2
  exact ⟨pow_of (by kernel_rfl) (by kernel_rfl) (by kernel_rfl) (by kernel_rfl) h2, forms_of (by kernel_rfl) (by kernel_rfl) (by kernel_rfl) h3⟩

set_option maxRecDepth 100000 in
theorem lifted (os : Os) (started : os.Started) (H : Type) (enc : TypeId × Value → H) :
    ReturnsInHanded {} Tryz.checked os 5 .any (fun w args => (Rows.fnExactWriteScriptSpec.pre enc Tryz.prog Tryz.f5 [] false w args ∧ laidMetH Tryz.prog Rows.fnExactWriteScriptRow.laid w) ∧ sizedMet enc Tryz.prog Tryz.f5 (OpenSpec.ofChange Rows.fnExactWriteScriptSpec) false w args)
      (Rows.fnExactWriteScriptSpec.post enc Tryz.prog Tryz.f5 false true false false) := by
  refine returnsInHanded_of_change_and (C := Tryz.checked) (X := fun w _ => laidMetH Tryz.prog Rows.fnExactWriteScriptRow.laid w) (fun _ _ _ hh h => h.of_heap hh) own started (by kernel_rfl) Tryz.func5
    (ChangeSpec.witness_shaped (enc := enc) (C := Tryz.checked) (os := os) (X := fun w _ => laidMetH Tryz.prog Rows.fnExactWriteScriptRow.laid w) false (World.doorLaid Tryz.prog 400 os) #[.int .i64 0, .slice none 0 0] 8 rfl (World.shaped_of_RefB (by kernel_rfl) (by kernel_rfl)) (by kernel_rfl) (by kernel_rfl) (by kernel_rfl) (door_met os _)) ?_
  intro W base args ds gs before hval0 hW hcnd hsz0 hL _
  have hval : ∀ (j : Nat) t v, Tryz.f5.params[j]? = some t → args[j]? = some v → Value.okWide Tryz.prog W .any base t v := hval0
  have hsz : (DataW.weightsEach Tryz.prog (Tryz.f5.params.toList ++ Rows.fnExactWriteScriptSpec.plain.varTypes Tryz.prog) (ds ++ gs)).all (· ≤ reachBytes) = true := hsz0
  have hW' := hW
  obtain ⟨p, q, hA0, hV, rfl, hfz, hnd⟩ := hW
  have hA : DataW.TrodAll enc Tryz.prog W 0 (fun _ => true) true Tryz.f5.params.toList args.toList ds p := hA0
  have hlt := hA.lt
  rw [Tryz.params5] at hA hval hsz
  obtain ⟨v0, vs0, d0, ds0, p0, q0, hargs, rfl, rfl, h0, r0⟩ := trodAll_cons hA
  obtain ⟨v1, vs1, d1, ds1, p1, q1, hargs1, rfl, rfl, h1, r1⟩ := trodAll_cons r0
  obtain ⟨rfl, rfl, rfl⟩ := trodAll_nil r1
  obtain rfl : args = #[v0, v1] := by cases args; simp_all
  obtain ⟨room, rfl, hr0, hr1⟩ := open_room (hval 0 3 v0 rfl rfl) h0
  obtain ⟨xs, hxs, hf⟩ := open_acts (hval 1 54 v1 rfl rfl) h1 (fun n hn => by
    have := List.all_eq_true.1 hsz n (DataW.weights_mem_each (j := 1) (t := 54) (d := d1) (by simp) (by simp) n hn)
    simpa using this)
  clear hA0 hval0
  refine (wrLaw_any room xs v1 W hr0 hr1 hxs hf (of_laid hL)).mono fun e W' ⟨he, hx⟩ => ?_
  subst he
  obtain ⟨_, _, _, _, d, _, rfl, _, _, _, _, _⟩ := trodVars_one hV
  exact ⟨_, rfl, _, _, _, [], p0 ++ (p1 ++ []), q, hW', trodAll_cons_mk (shut_bool Tryz.underlying4 _) trodAll_mk0,
    trodAll_cons_mk (Below.trod laidOut (by kernel_rfl) (of_decide_eq_true (by kernel_rfl)) h0 hx (fun z hz => hlt z (by simp [hz]))) (trodAll_cons_mk (Below.trod laidOut (by kernel_rfl) (of_decide_eq_true (by kernel_rfl)) h1 hx (fun z hz => hlt z (by simp [hz]))) trodAll_mk0),
    Below.trodVars laidOut hx (by kernel_rfl) hV, Below.frame hx _, fun h => by cases h⟩

theorem over : Rows.fnExactWriteScriptRow.holds Tryz.pinned (OpenSpec.ofChange Rows.fnExactWriteScriptSpec) :=
  OpenClaim.holds_of_wide 5 Tryz.f5 rfl rfl rfl rfl rfl rfl rfl ⟨rfl, rfl, rfl, rfl, rfl⟩ rfl rfl rfl rfl rfl (by kernel_rfl) Tryz.func5 jf
    (of_decide_eq_true (by kernel_rfl)) (by unfold Func.isWrapper; first | (rw [if_pos (by decide +kernel)]; kernel_rfl) | (rw [if_neg (by decide +kernel)]; exact ⟨rfl, rfl⟩))
    (fun os started H enc _ => lifted os started H enc)

end Go.Proofs.YtddkhnclmeikfacGreatDoor.fnExactWriteScript
namespace Go.Proofs.YtddkhnclmeikfacGreatDoor
theorem fnExactWriteScript_row : Rows.FnExactWriteScriptSaid := fnExactWriteScript.over
#print axioms fnExactWriteScript_row
end Go.Proofs.YtddkhnclmeikfacGreatDoor
