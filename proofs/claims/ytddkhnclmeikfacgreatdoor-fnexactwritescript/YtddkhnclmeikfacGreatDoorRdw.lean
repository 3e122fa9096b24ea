import Derived.Test.YtddkhnclmeikfacGreatDoorRda
import Derived.Test.YtddkhnclmeikfacGreatDoorXe
import Derived.Stop.LaidErr
import Derived.Lib.LaidTab
namespace Go.Proofs.YtddkhnclmeikfacGreatDoor
open Go.RowKit Go.Deep

/-! A row of acts that is read, its numbers bounded; the tables that are laid. -/
section
variable {H : Type} {enc : TypeId × Value → H} {w : World} {base : Nat} {spare : Nat → Bool} {held : Bool}

theorem wf_i64 {n : Int} (h : (Lit.int .i64 n).wf = true) : -9223372036854775808 ≤ n ∧ n ≤ 9223372036854775807 := by
  unfold Lit.wf at h
  rw [Bool.and_eq_true] at h
  exact ⟨of_decide_eq_true h.1, of_decide_eq_true h.2⟩
theorem rd_intF {t fuel : Nat} {cs : List Value} {x : DataW H × List MemPlace} (ht : Tryz.prog.underlying t = some (.int .i64)) (h : DataW.trod enc Tryz.prog w base spare held fuel t cs = some x) : ∃ n : Int, cs = [iv n] ∧ -9223372036854775808 ≤ n ∧ n ≤ 9223372036854775807 := by
  obtain ⟨n, e, _, hw⟩ := DataW.trod_int ht h
  exact ⟨n, e, wf_i64 hw⟩
theorem fit_of {a b c n o : Int} (ha : -9223372036854775808 ≤ a ∧ a ≤ 9223372036854775807) (hb : -9223372036854775808 ≤ b ∧ b ≤ 9223372036854775807) (hc : -9223372036854775808 ≤ c ∧ c ≤ 9223372036854775807) (hn : -9223372036854775808 ≤ n ∧ n ≤ 9223372036854775807) : (⟨o, a, b, c, n⟩ : Ak).Fit := by
  intro j
  unfold Ak.num
  match j with
  | 0 => exact ha
  | 1 => exact hb
  | 2 => exact hc
  | 3 => exact hn
  | j + 4 => simp
theorem rd_actF {fuel : Nat} {cs : List Value} {x : DataW H × List MemPlace} (h : DataW.trod enc Tryz.prog w base spare held fuel 28 cs = some x) : ∃ y : Ak, cs = [iv y.op, iv y.a, iv y.b, iv y.c, iv y.n] ∧ y.Fit := by
  obtain ⟨xs, n, _, _, hl, hs, hf⟩ := DataW.trod_struct Tryz.underlying28 h
  rw [cellsA] at hl
  obtain ⟨a, b, c, d, e, rfl⟩ := len5 hl
  obtain ⟨_, f0, _⟩ := rd_field hs hf 0 3 0 1 rfl cells3
  obtain ⟨_, f1, _⟩ := rd_field hs hf 1 3 1 1 rfl cells3
  obtain ⟨_, f2, _⟩ := rd_field hs hf 2 3 2 1 rfl cells3
  obtain ⟨_, f3, _⟩ := rd_field hs hf 3 3 3 1 rfl cells3
  obtain ⟨_, f4, _⟩ := rd_field hs hf 4 2 4 1 rfl cells2
  obtain ⟨k0, e0, _⟩ := rd_intF Tryz.underlying3 f0
  obtain ⟨k1, e1, b1⟩ := rd_intF Tryz.underlying3 f1
  obtain ⟨k2, e2, b2⟩ := rd_intF Tryz.underlying3 f2
  obtain ⟨k3, e3, b3⟩ := rd_intF Tryz.underlying3 f3
  obtain ⟨k4, e4, b4⟩ := rd_intF Tryz.underlying2 f4
  simp at e0 e1 e2 e3 e4
  exact ⟨⟨k0, k1, k2, k3, k4⟩, by rw [e0, e1, e2, e3, e4], fit_of b1 b2 b3 b4⟩
theorem rd_actsF {fuel : Nat} {cs : List Value} {x : DataW H × List MemPlace} (h : DataW.trod enc Tryz.prog w base (fun _ => true) held fuel 54 cs = some x) (hw : ∀ n ∈ x.1.weights Tryz.prog 54, n ≤ reachBytes) : ∃ (v : Value) (xs : List Ak), cs = [v] ∧ SlA w v xs ∧ ∀ y ∈ xs, y.Fit := by
  obtain ⟨v, xs, hv, hs⟩ := rd_slice (at_ := fun b o (z : Ak) => AkAt w b o z ∧ z.Fit) (⟨0, 0, 0, 0, 0⟩ : Ak) Tryz.underlying54 cellsA (by omega) bytesA (by omega) h hw (fun fuel cs y hy _ b o hc => by
    obtain ⟨z, rfl, hz⟩ := rd_actF hy
    exact ⟨z, ⟨hc 0 (by omega), hc 1 (by omega), hc 2 (by omega), hc 3 (by omega), hc 4 (by omega)⟩, hz⟩)
  refine ⟨v, xs, hv, hs.mono fun _ _ _ k => k.1, fun y hy => ?_⟩
  obtain ⟨i, hi, rfl⟩ := List.getElem_of_mem hy
  obtain ⟨_, _, _, _, hx⟩ := hs
  obtain ⟨_, _, _, k⟩ := hx i hi
  exact k.2
end
theorem cellsU64 : Tryz.prog.cellsOf 298 = 1 := by kernel_rfl
theorem cellsPow : Tryz.prog.cellsOf 332 = 20 := by kernel_rfl
theorem pow_of {W : World} {name : String} {d : DataW Unit} {rest : List (String × DataW Unit)} (hn : name = powName) (hd : d = Lib.tabData .u64 Lib.pow10Tab) (hg : Tryz.prog.globalNamed name = some 2) (ht : (Tryz.prog.globals[2]?).map (·.type) = some 332) (h : laidMet Tryz.prog ((name, d) :: rest) W) : PowAt W := by
  subst hd
  have := Lib.tabIs_of_head hg ht Tryz.underlying332 Tryz.underlying298 cellsU64 cellsPow h
  unfold PowAt
  rw [← hn]; exact this
def formsD : DataW Unit := .agg ((List.range 25).map fun k => .agg [.lit (.string (nameL (k : Nat))), .lit (.string (letL (k : Nat)))])
theorem cellsStr : Tryz.prog.cellsOf 9 = 1 := by kernel_rfl
theorem cellsForm : Tryz.prog.cellsOf 192 = 2 := by kernel_rfl
theorem form_two {enc : TypeId × Value → Unit} {W : World} {base m : Nat} {sp : Nat → Bool} {held : Bool} {cs : List Value} {p : List MemPlace} {a b : List UInt8} (h : DataW.trod enc Tryz.prog W base sp held m 192 cs = some (.agg [.lit (.string a), .lit (.string b)], p)) : cs = [.string ⟨a.toArray⟩, .string ⟨b.toArray⟩] := by
  obtain ⟨ys, n, _, he, hl, hs, hf⟩ := DataW.trod_struct Tryz.underlying192 h
  rw [cellsForm] at hl
  obtain ⟨c0, r1, rfl, h1⟩ := len1 hl
  obtain ⟨c1, r2, rfl, h2⟩ := len1 h1
  have h3 := List.length_eq_zero_iff.1 h2
  subst h3
  obtain ⟨z0, f0, g0⟩ := rd_field hs hf 0 9 0 1 rfl cellsStr
  obtain ⟨z1, f1, g1⟩ := rd_field hs hf 1 9 1 1 rfl cellsStr
  obtain ⟨s0, e0, x0, _⟩ := DataW.trod_string Tryz.underlying9 f0
  obtain ⟨s1, e1, x1, _⟩ := DataW.trod_string Tryz.underlying9 f1
  have hs2 : ys.length = 2 := hs
  obtain ⟨y0, t1, rfl, k1⟩ := len1 hs2
  obtain ⟨y1, t2, rfl, k2⟩ := len1 k1
  have k3 := List.length_eq_zero_iff.1 k2
  subst k3
  simp at g0 g1 e0 e1 he
  subst g0 g1
  rw [x0, x1] at he
  simp at he
  obtain ⟨⟨q0, q1⟩, _⟩ := he
  have w0 : s0 = ⟨a.toArray⟩ := by rw [q0]
  have w1 : s1 = ⟨b.toArray⟩ := by rw [q1]
  rw [e0, e1, w0, w1]
theorem forms_of {W : World} {name : String} {d : DataW Unit} {rest : List (String × DataW Unit)} (hd : d = formsD) (hg : Tryz.prog.globalNamed name = some 0) (ht : (Tryz.prog.globals[0]?).map (·.type) = some 193) (h : laidMet Tryz.prog ((name, d) :: rest) W) : FormsAt W := by
  subst hd
  obtain ⟨ps, ⟨g', t', cs, fuel, p, q, hg', ht', hvar, hd, _, _⟩, _⟩ := h
  obtain rfl := Option.some.inj (hg.symm.trans hg')
  obtain rfl := Option.some.inj (ht.symm.trans ht')
  obtain ⟨xs, m, _, he, hl, hn, hel⟩ := DataW.trod_array Tryz.underlying193 hd
  intro k hk
  have h1 := hel k hk
  rw [cellsForm, List.getElem?_eq_getElem (by omega)] at h1
  have h2 : xs.map (·.1) = (List.range 25).map fun k => DataW.agg [.lit (.string (nameL (k : Nat))), .lit (.string (letL (k : Nat)))] := by
    unfold formsD at he
    simp only [Prod.mk.injEq, DataW.agg.injEq] at he
    exact he.1.symm
  have h3 : (xs[k]'(by omega)).1 = DataW.agg [.lit (.string (nameL (k : Nat))), .lit (.string (letL (k : Nat)))] := by
    have h4 : (xs.map (·.1))[k]? = some (DataW.agg [.lit (.string (nameL (k : Nat))), .lit (.string (letL (k : Nat)))]) := by
      rw [h2, List.getElem?_map, List.getElem?_range hk]; rfl
    rw [List.getElem?_map, List.getElem?_eq_getElem (by omega)] at h4
    simpa using h4
  have h5 : xs[k]'(by omega) = (DataW.agg [.lit (.string (nameL (k : Nat))), .lit (.string (letL (k : Nat)))], (xs[k]'(by omega)).2) := by
    rw [← h3]
  rw [h5] at h1
  have h6 := form_two h1
  have c0 : cs.toList[k * 2]? = some (.string ⟨(nameL (k : Nat)).toArray⟩) := by
    have := congrArg (fun l => l[0]?) h6
    simpa [List.getElem?_take, List.getElem?_drop] using this
  have c1 : cs.toList[k * 2 + 1]? = some (.string ⟨(letL (k : Nat)).toArray⟩) := by
    have := congrArg (fun l => l[1]?) h6
    simpa [List.getElem?_take, List.getElem?_drop] using this
  refine ⟨?_, ?_⟩
  · have := World.var?_cell hg hvar (k * 2)
    rw [this]; simpa using c0
  · have := World.var?_cell hg hvar (k * 2 + 1)
    rw [this]; simpa using c1
end Go.Proofs.YtddkhnclmeikfacGreatDoor
