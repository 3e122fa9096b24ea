import Derived.Test.YtkabcfhemljnbabBase
import Derived.SizedLaws
import Derived.OpenShut
import Derived.Deep.Slices
namespace Go.Proofs.Ytkabcfhemljnbab
open Go.RowKit Go.Deep

/-! An argument that is read: numbers, fields, slices. -/
section
variable {H : Type} {enc : TypeId × Value → H} {w : World} {base : Nat} {spare : Nat → Bool} {held : Bool}

theorem cells3 : Try.prog.cellsOf 3 = 1 := by kernel_rfl
theorem cells2 : Try.prog.cellsOf 2 = 1 := by kernel_rfl
theorem rd_int {fuel : Nat} {cs : List Value} {x : DataW H × List MemPlace} (h : DataW.trod enc Try.prog w base spare held fuel 3 cs = some x) : ∃ n : Int, cs = [iv n] := by
  obtain ⟨n, e, _⟩ := DataW.trod_int Try.underlying3 h
  exact ⟨n, e⟩
theorem rd_int64 {fuel : Nat} {cs : List Value} {x : DataW H × List MemPlace} (h : DataW.trod enc Try.prog w base spare held fuel 2 cs = some x) : ∃ n : Int, cs = [iv n] := by
  obtain ⟨n, e, _⟩ := DataW.trod_int Try.underlying2 h
  exact ⟨n, e⟩
/-- a field of a struct that is read -/
theorem rd_field {n : Nat} {fs : Array Field} {cs : List Value} {xs : List (DataW H × List MemPlace)} (hl : xs.length = fs.size) (hf : ∀ (i : Nat) (f : Field), fs[i]? = some f → DataW.trod enc Try.prog w base spare held n f.type ((cs.drop f.offset).take (Try.prog.cellsOf f.type)) = xs[i]?)
    (i ty off sz : Nat) (h : (fs[i]?).map (fun f => (f.type, f.offset)) = some (ty, off)) (hc : Try.prog.cellsOf ty = sz) : ∃ y, DataW.trod enc Try.prog w base spare held n ty ((cs.drop off).take sz) = some y ∧ xs[i]? = some y := by
  obtain ⟨f, h1, h2⟩ := Option.map_eq_some_iff.1 h
  cases h2
  have := hf i f h1
  rw [hc] at this
  have hi : i < fs.size := (Array.getElem?_eq_some_iff.1 h1).1
  exact ⟨xs[i], by rw [this]; simp, by simp⟩

theorem len1 {α : Type} {l : List α} {n : Nat} (h : l.length = n + 1) : ∃ a r, l = a :: r ∧ r.length = n := by
  cases l with
  | nil => simp at h
  | cons a r => exact ⟨a, r, rfl, by simpa using h⟩
theorem len3 {α : Type} {l : List α} (h : l.length = 3) : ∃ a b c, l = [a, b, c] := by
  obtain ⟨a, r1, rfl, h1⟩ := len1 h
  obtain ⟨b, r2, rfl, h2⟩ := len1 h1
  obtain ⟨c, r3, rfl, h3⟩ := len1 h2
  exact ⟨a, b, c, by rw [List.length_eq_zero_iff.1 h3]⟩
theorem len5 {α : Type} {l : List α} (h : l.length = 5) : ∃ a b c d e, l = [a, b, c, d, e] := by
  obtain ⟨a, r1, rfl, h1⟩ := len1 h
  obtain ⟨b, r2, rfl, h2⟩ := len1 h1
  obtain ⟨c, d, e, rfl⟩ := len3 h2
  exact ⟨a, b, c, d, e, rfl⟩
theorem weightsAll_mem {P : Program} {e : TypeId} : ∀ {l : List (DataW H)} {d : DataW H} {k : Nat}, d ∈ l → k ∈ d.weights P e → k ∈ DataW.weightsAll P e l
  | a :: r, d, k, hd, hk => by
    simp only [DataW.weightsAll, List.mem_append]
    rcases List.mem_cons.1 hd with rfl | h
    · exact .inl hk
    · exact .inr (weightsAll_mem h hk)
theorem choose_list {α : Type} (z0 : α) {n : Nat} {q : Nat → α → Prop} (h : ∀ i, i < n → ∃ z, q i z) : ∃ f : Nat → α, ∀ i, i < n → q i (f i) :=
  ⟨fun i => if hi : i < n then Classical.choose (h i hi) else z0, fun i hi => by simp only [dif_pos hi]; exact Classical.choose_spec (h i hi)⟩

/-- a slice whose elements are read -/
theorem rd_slice {α : Type} (z0 : α) {t e sz by_ : Nat} {at_ : Nat → Nat → α → Prop} {fuel : Nat} {cs : List Value} {x : DataW H × List MemPlace} (ht : Try.prog.underlying t = some (.slice e)) (hsz : Try.prog.cellsOf e = sz) (hs0 : 0 < sz) (hby : Try.prog.bytesOf e = by_) (hb8 : 8 ≤ by_)
    (h : DataW.trod enc Try.prog w base (fun _ => true) held fuel t cs = some x) (hw : ∀ n ∈ x.1.weights Try.prog t, n ≤ reachBytes)
    (rd : ∀ fuel cs y, DataW.trod enc Try.prog w base (fun _ => true) held fuel e cs = some y → (∀ n ∈ y.1.weights Try.prog e, n ≤ reachBytes) → ∀ b o, (∀ i, i < sz → w.cell? ⟨b, o + i, none⟩ = cs[i]?) → ∃ z : α, at_ b o z) :
    ∃ (v : Value) (xs : List α), cs = [v] ∧ SlOf at_ sz v xs := by
  rcases open_slice ht h with ⟨rfl, _⟩ | ⟨a, len, cap, m, n, D, Pl, rfl, _, hlc, _, hm, rfl, hx⟩
  · exact ⟨_, [], rfl, SlOf.nil⟩
  simp only [if_true] at hm
  subst hm
  have hlen : len ≤ 35184372088832 := by
    have := hw ((((List.range len).map D).length + ((List.range (m - len)).map fun j => D (len + j)).length) * Try.prog.bytesOf e) (by simp [DataW.weights, ht])
    rw [hby] at this
    simp at this
    unfold reachBytes at this
    have h2 : len * 8 ≤ (len + (m - len)) * by_ := Nat.mul_le_mul (by omega) hb8
    omega
  have wel : ∀ i, i < len → ∀ n ∈ (D i).weights Try.prog e, n ≤ reachBytes := fun i hi k hk => by
    refine hw k ?_
    simp only [DataW.weights, ht]
    refine List.mem_cons_of_mem _ (List.mem_append_left _ ?_)
    exact weightsAll_mem (List.mem_map.2 ⟨i, by simpa using hi, rfl⟩) hk
  have hel : ∀ i, i < len → ∃ (z : α), ∃ b o, a = ⟨b, o, none⟩ ∧ at_ b (o + i * sz) z := fun i hi => by
    obtain ⟨cs', h1, h2⟩ := hx i (by omega)
    obtain ⟨_, hl', hc'⟩ := World.cells?_some h1
    rw [hsz] at hc' hl'
    obtain ⟨b, o, spot⟩ := a
    have c0 := hc' 0 hs0
    have hspot : spot = none := by
      obtain ⟨v0, hv0⟩ : ∃ v0, cs'[0]? = some v0 := ⟨_, List.getElem?_eq_getElem (by omega)⟩
      obtain ⟨cs0, g1, _⟩ := hx 0 (by omega)
      obtain ⟨_, gl, gc⟩ := World.cells?_some g1
      rw [hsz] at gl gc
      obtain ⟨u0, hu0⟩ : ∃ u0, cs0[0]? = some u0 := ⟨_, List.getElem?_eq_getElem (by omega)⟩
      have := gc 0 hs0
      rw [hu0] at this
      simpa [Addr.add] using World.cell?_spot this
    subst hspot
    obtain ⟨z, hz⟩ := rd n cs' (D i, Pl i) h2 (wel i hi) b (o + i * sz) (fun j hj => by
      have := hc' j hj
      rw [Go.WideShapes.add_plain, Go.WideShapes.add_plain] at this
      rw [← this])
    exact ⟨z, b, o, rfl, hz⟩
  obtain ⟨f, hf⟩ := choose_list z0 hel
  refine ⟨_, (List.range len).map f, rfl, some a, m, by simp, by simpa using hlen, fun i hi => ?_⟩
  simp at hi
  obtain ⟨b, o, e1, e2⟩ := hf i hi
  exact ⟨b, o, by rw [e1], by simpa using e2⟩
end
end Go.Proofs.Ytkabcfhemljnbab
