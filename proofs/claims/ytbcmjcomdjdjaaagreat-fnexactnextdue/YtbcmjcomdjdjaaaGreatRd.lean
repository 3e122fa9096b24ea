import Derived.Test.YtbcmjcomdjdjaaaGreatRule
import Derived.SizedLaws
import Derived.OpenShut
import Derived.Deep.Slices
namespace Go.Proofs.YtbcmjcomdjdjaaaGreat
open Go.RowKit Go.Deep

/-! An argument that is read: the heap that it holds. -/
section
variable {H : Type} {enc : TypeId × Value → H} {w : World} {base : Nat} {spare : Nat → Bool} {held : Bool}

theorem cells3 : Tryz.prog.cellsOf 3 = 1 := by kernel_rfl
theorem cells2 : Tryz.prog.cellsOf 2 = 1 := by kernel_rfl
theorem cellsW : Tryz.prog.cellsOf 87 = 3 := by kernel_rfl
theorem cellsP : Tryz.prog.cellsOf 163 = 6 := by kernel_rfl
theorem cellsC : Tryz.prog.cellsOf 78 = 8 := by kernel_rfl
theorem cellsH : Tryz.prog.cellsOf 26 = 13 := by kernel_rfl
theorem cellsSW : Tryz.prog.cellsOf 22 = 1 := by kernel_rfl
theorem cellsSP : Tryz.prog.cellsOf 76 = 1 := by kernel_rfl
theorem cellsSC : Tryz.prog.cellsOf 23 = 1 := by kernel_rfl
theorem cellsSI : Tryz.prog.cellsOf 24 = 1 := by kernel_rfl
theorem bytesW : Tryz.prog.bytesOf 87 = 24 := by kernel_rfl
theorem bytesP : Tryz.prog.bytesOf 163 = 48 := by kernel_rfl
theorem bytesC : Tryz.prog.bytesOf 78 = 80 := by kernel_rfl
theorem bytesI : Tryz.prog.bytesOf 3 = 8 := by kernel_rfl

theorem rd_int {fuel : Nat} {cs : List Value} {x : DataW H × List MemPlace} (h : DataW.trod enc Tryz.prog w base spare held fuel 3 cs = some x) : ∃ n : Int, cs = [iv n] := by
  obtain ⟨n, e, _⟩ := DataW.trod_int Tryz.underlying3 h
  exact ⟨n, e⟩
theorem rd_int64 {fuel : Nat} {cs : List Value} {x : DataW H × List MemPlace} (h : DataW.trod enc Tryz.prog w base spare held fuel 2 cs = some x) : ∃ n : Int, cs = [iv n] := by
  obtain ⟨n, e, _⟩ := DataW.trod_int Tryz.underlying2 h
  exact ⟨n, e⟩
/-- a field of a struct that is read -/
theorem rd_field {n : Nat} {fs : Array Field} {cs : List Value} {xs : List (DataW H × List MemPlace)} (hl : xs.length = fs.size) (hf : ∀ (i : Nat) (f : Field), fs[i]? = some f → DataW.trod enc Tryz.prog w base spare held n f.type ((cs.drop f.offset).take (Tryz.prog.cellsOf f.type)) = xs[i]?)
    (i ty off sz : Nat) (h : (fs[i]?).map (fun f => (f.type, f.offset)) = some (ty, off)) (hc : Tryz.prog.cellsOf ty = sz) : ∃ y, DataW.trod enc Tryz.prog w base spare held n ty ((cs.drop off).take sz) = some y ∧ xs[i]? = some y := by
  obtain ⟨f, h1, h2⟩ := Option.map_eq_some_iff.1 h
  cases h2
  have := hf i f h1
  rw [hc] at this
  have hi : i < fs.size := (Array.getElem?_eq_some_iff.1 h1).1
  exact ⟨xs[i], by rw [this]; simp, by simp⟩

theorem len1 {α : Type} {l : List α} {n : Nat} (h : l.length = n + 1) : ∃ a r, l = a :: r ∧ r.length = n := by
  cases l with
  | nil => simp at h
  | cons a r => exact ⟨a, r, rfl, by simpa using h⟩
theorem len3 {α : Type} {l : List α} (h : l.length = 3) : ∃ a b c, l = [a, b, c] := by
  obtain ⟨a, r1, rfl, h1⟩ := len1 h
  obtain ⟨b, r2, rfl, h2⟩ := len1 h1
  obtain ⟨c, r3, rfl, h3⟩ := len1 h2
  exact ⟨a, b, c, by rw [List.length_eq_zero_iff.1 h3]⟩
theorem len5 {α : Type} {l : List α} (h : l.length = 5) : ∃ a b c d e, l = [a, b, c, d, e] := by
  obtain ⟨a, r1, rfl, h1⟩ := len1 h
  obtain ⟨b, r2, rfl, h2⟩ := len1 h1
  obtain ⟨c, d, e, rfl⟩ := len3 h2
  exact ⟨a, b, c, d, e, rfl⟩
theorem len6 {α : Type} {l : List α} (h : l.length = 6) : ∃ a b c d e f, l = [a, b, c, d, e, f] := by
  obtain ⟨a, r1, rfl, h1⟩ := len1 h
  obtain ⟨b, c, d, e, f, rfl⟩ := len5 h1
  exact ⟨a, b, c, d, e, f, rfl⟩
theorem len8 {α : Type} {l : List α} (h : l.length = 8) : ∃ a b c d e f g i, l = [a, b, c, d, e, f, g, i] := by
  obtain ⟨a, r1, rfl, h1⟩ := len1 h
  obtain ⟨b, r2, rfl, h2⟩ := len1 h1
  obtain ⟨c, d, e, f, g, i, rfl⟩ := len6 h2
  exact ⟨a, b, c, d, e, f, g, i, rfl⟩
theorem len13 {α : Type} {l : List α} (h : l.length = 13) : ∃ a b c d e f g i j k m n o, l = [a, b, c, d, e, f, g, i, j, k, m, n, o] := by
  obtain ⟨a, r1, rfl, h1⟩ := len1 h
  obtain ⟨b, r2, rfl, h2⟩ := len1 h1
  obtain ⟨c, r3, rfl, h3⟩ := len1 h2
  obtain ⟨d, r4, rfl, h4⟩ := len1 h3
  obtain ⟨e, r5, rfl, h5⟩ := len1 h4
  obtain ⟨f, g, i, j, k, m, n, o, rfl⟩ := len8 h5
  exact ⟨a, b, c, d, e, f, g, i, j, k, m, n, o, rfl⟩

theorem rd_word {fuel : Nat} {cs : List Value} {x : DataW H × List MemPlace} (h : DataW.trod enc Tryz.prog w base spare held fuel 87 cs = some x) : ∃ y : Wd, cs = [iv y.k, iv y.n, iv y.a] := by
  obtain ⟨xs, n, _, _, hl, hs, hf⟩ := DataW.trod_struct Tryz.underlying87 h
  rw [cellsW] at hl
  obtain ⟨a, b, c, rfl⟩ := len3 hl
  obtain ⟨_, f0, _⟩ := rd_field hs hf 0 3 0 1 rfl cells3
  obtain ⟨_, f1, _⟩ := rd_field hs hf 1 2 1 1 rfl cells2
  obtain ⟨_, f2, _⟩ := rd_field hs hf 2 3 2 1 rfl cells3
  obtain ⟨k, e0⟩ := rd_int f0
  obtain ⟨m, e1⟩ := rd_int64 f1
  obtain ⟨p, e2⟩ := rd_int f2
  simp at e0 e1 e2
  exact ⟨⟨k, m, p⟩, by rw [e0, e1, e2]⟩

theorem rd_pair {fuel : Nat} {cs : List Value} {x : DataW H × List MemPlace} (h : DataW.trod enc Tryz.prog w base spare held fuel 163 cs = some x) : ∃ y : Pr, cs = [iv y.key.k, iv y.key.n, iv y.key.a, iv y.val.k, iv y.val.n, iv y.val.a] := by
  obtain ⟨xs, n, _, _, hl, hs, hf⟩ := DataW.trod_struct Tryz.underlying163 h
  rw [cellsP] at hl
  obtain ⟨a, b, c, d, e, f, rfl⟩ := len6 hl
  obtain ⟨_, f0, _⟩ := rd_field hs hf 0 87 0 3 rfl cellsW
  obtain ⟨_, f1, _⟩ := rd_field hs hf 1 87 3 3 rfl cellsW
  obtain ⟨k, e0⟩ := rd_word f0
  obtain ⟨v, e1⟩ := rd_word f1
  simp at e0 e1
  obtain ⟨rfl, rfl, rfl⟩ := e0
  obtain ⟨rfl, rfl, rfl⟩ := e1
  exact ⟨⟨k, v⟩, rfl⟩

theorem weightsAll_mem {P : Program} {e : TypeId} : ∀ {l : List (DataW H)} {d : DataW H} {k : Nat}, d ∈ l → k ∈ d.weights P e → k ∈ DataW.weightsAll P e l
  | a :: r, d, k, hd, hk => by
    simp only [DataW.weightsAll, List.mem_append]
    rcases List.mem_cons.1 hd with rfl | h
    · exact .inl hk
    · exact .inr (weightsAll_mem h hk)
theorem choose_list {α : Type} (z0 : α) {n : Nat} {q : Nat → α → Prop} (h : ∀ i, i < n → ∃ z, q i z) : ∃ f : Nat → α, ∀ i, i < n → q i (f i) :=
  ⟨fun i => if hi : i < n then Classical.choose (h i hi) else z0, fun i hi => by simp only [dif_pos hi]; exact Classical.choose_spec (h i hi)⟩

/-- a slice whose elements are read -/
theorem rd_slice {α : Type} (z0 : α) {t e sz by_ : Nat} {at_ : Nat → Nat → α → Prop} {fuel : Nat} {cs : List Value} {x : DataW H × List MemPlace} (ht : Tryz.prog.underlying t = some (.slice e)) (hsz : Tryz.prog.cellsOf e = sz) (hs0 : 0 < sz) (hby : Tryz.prog.bytesOf e = by_) (hb8 : 8 ≤ by_)
    (h : DataW.trod enc Tryz.prog w base (fun _ => true) held fuel t cs = some x) (hw : ∀ n ∈ x.1.weights Tryz.prog t, n ≤ reachBytes)
    (rd : ∀ fuel cs y, DataW.trod enc Tryz.prog w base (fun _ => true) held fuel e cs = some y → (∀ n ∈ y.1.weights Tryz.prog e, n ≤ reachBytes) → ∀ b o, (∀ i, i < sz → w.cell? ⟨b, o + i, none⟩ = cs[i]?) → ∃ z : α, at_ b o z) :
    ∃ (v : Value) (xs : List α), cs = [v] ∧ SlOf at_ sz v xs := by
  rcases open_slice ht h with ⟨rfl, _⟩ | ⟨a, len, cap, m, n, D, Pl, rfl, _, hlc, _, hm, rfl, hx⟩
  · exact ⟨_, [], rfl, SlOf.nil⟩
  simp only [if_true] at hm
  subst hm
  have hlen : len ≤ 35184372088832 := by
    have := hw ((((List.range len).map D).length + ((List.range (m - len)).map fun j => D (len + j)).length) * Tryz.prog.bytesOf e) (by simp [DataW.weights, ht])
    rw [hby] at this
    simp at this
    unfold reachBytes at this
    have h2 : len * 8 ≤ (len + (m - len)) * by_ := Nat.mul_le_mul (by omega) hb8
    omega
  have wel : ∀ i, i < len → ∀ n ∈ (D i).weights Tryz.prog e, n ≤ reachBytes := fun i hi k hk => by
    refine hw k ?_
    simp only [DataW.weights, ht]
    refine List.mem_cons_of_mem _ (List.mem_append_left _ ?_)
    exact weightsAll_mem (List.mem_map.2 ⟨i, by simpa using hi, rfl⟩) hk
  have hel : ∀ i, i < len → ∃ (z : α), ∃ b o, a = ⟨b, o, none⟩ ∧ at_ b (o + i * sz) z := fun i hi => by
    obtain ⟨cs', h1, h2⟩ := hx i (by omega)
    obtain ⟨_, hl', hc'⟩ := World.cells?_some h1
    rw [hsz] at hc' hl'
    obtain ⟨b, o, spot⟩ := a
    have c0 := hc' 0 hs0
    have hspot : spot = none := by
      obtain ⟨v0, hv0⟩ : ∃ v0, cs'[0]? = some v0 := ⟨_, List.getElem?_eq_getElem (by omega)⟩
      obtain ⟨cs0, g1, _⟩ := hx 0 (by omega)
      obtain ⟨_, gl, gc⟩ := World.cells?_some g1
      rw [hsz] at gl gc
      obtain ⟨u0, hu0⟩ : ∃ u0, cs0[0]? = some u0 := ⟨_, List.getElem?_eq_getElem (by omega)⟩
      have := gc 0 hs0
      rw [hu0] at this
      simpa [Addr.add] using World.cell?_spot this
    subst hspot
    obtain ⟨z, hz⟩ := rd n cs' (D i, Pl i) h2 (wel i hi) b (o + i * sz) (fun j hj => by
      have := hc' j hj
      rw [Go.WideShapes.add_plain, Go.WideShapes.add_plain] at this
      rw [← this])
    exact ⟨z, b, o, rfl, hz⟩
  obtain ⟨f, hf⟩ := choose_list z0 hel
  refine ⟨_, (List.range len).map f, rfl, some a, m, by simp, by simpa using hlen, fun i hi => ?_⟩
  simp at hi
  obtain ⟨b, o, e1, e2⟩ := hf i hi
  exact ⟨b, o, by rw [e1], by simpa using e2⟩

theorem rd_words {fuel : Nat} {cs : List Value} {x : DataW H × List MemPlace} (h : DataW.trod enc Tryz.prog w base (fun _ => true) held fuel 22 cs = some x) (hw : ∀ n ∈ x.1.weights Tryz.prog 22, n ≤ reachBytes) : ∃ (v : Value) (xs : List Wd), cs = [v] ∧ SlW w v xs :=
  rd_slice (at_ := WdAt w) ⟨0, 0, 0⟩ Tryz.underlying22 cellsW (by omega) bytesW (by omega) h hw fun _ _ _ h _ b o hc => by
    obtain ⟨y, rfl⟩ := rd_word h
    exact ⟨y, hc 0 (by omega), hc 1 (by omega), hc 2 (by omega)⟩
theorem rd_pairs {fuel : Nat} {cs : List Value} {x : DataW H × List MemPlace} (h : DataW.trod enc Tryz.prog w base (fun _ => true) held fuel 76 cs = some x) (hw : ∀ n ∈ x.1.weights Tryz.prog 76, n ≤ reachBytes) : ∃ (v : Value) (xs : List Pr), cs = [v] ∧ SlP w v xs :=
  rd_slice (at_ := PrAt w) ⟨⟨0, 0, 0⟩, ⟨0, 0, 0⟩⟩ Tryz.underlying76 cellsP (by omega) bytesP (by omega) h hw fun _ _ _ h _ b o hc => by
    obtain ⟨y, rfl⟩ := rd_pair h
    exact ⟨y, hc 0 (by omega), hc 1 (by omega), hc 2 (by omega), hc 3 (by omega), hc 4 (by omega), hc 5 (by omega)⟩
theorem rd_ints {fuel : Nat} {cs : List Value} {x : DataW H × List MemPlace} (h : DataW.trod enc Tryz.prog w base (fun _ => true) held fuel 24 cs = some x) (hw : ∀ n ∈ x.1.weights Tryz.prog 24, n ≤ reachBytes) : ∃ (v : Value) (xs : List Int), cs = [v] ∧ SlI w v xs :=
  rd_slice (at_ := InAt w) 0 Tryz.underlying24 cells3 (by omega) bytesI (by omega) h hw fun _ _ _ h _ b o hc => by
    obtain ⟨y, rfl⟩ := rd_int h
    exact ⟨y, hc 0 (by omega)⟩

theorem weights_field {fs : Array Field} {t : TypeId} {xs : List (DataW H × List MemPlace)} (ht : Tryz.prog.underlying t = some (.struct fs)) (i ty off : Nat) (h : (fs[i]?).map (fun f => (f.type, f.offset)) = some (ty, off)) {y : DataW H × List MemPlace} (hy : xs[i]? = some y)
    (hw : ∀ n ∈ (DataW.agg (xs.map (·.1))).weights Tryz.prog t, n ≤ reachBytes) : ∀ n ∈ y.1.weights Tryz.prog ty, n ≤ reachBytes := fun n hn => by
  refine hw n ?_
  simp only [DataW.weights, ht]
  obtain ⟨f, h1, h2⟩ := Option.map_eq_some_iff.1 h
  cases h2
  exact DataW.weights_mem_each (j := i) (by simp [h1]) (by simp [hy]) n hn

theorem rd_cell {fuel : Nat} {cs : List Value} {x : DataW H × List MemPlace} (h : DataW.trod enc Tryz.prog w base (fun _ => true) held fuel 78 cs = some x) (hw : ∀ n ∈ x.1.weights Tryz.prog 78, n ≤ reachBytes) :
    ∃ (y : Cl) (vp : Value), cs = [iv y.st, iv y.kind, iv y.weak, iv y.last, iv y.born, iv y.color, iv y.to, vp] ∧ SlP w vp y.prs := by
  obtain ⟨xs, n, _, rfl, hl, hs, hf⟩ := DataW.trod_struct Tryz.underlying78 h
  rw [cellsC] at hl
  obtain ⟨a, b, c, d, e, f, g, i, rfl⟩ := len8 hl
  obtain ⟨_, f0, _⟩ := rd_field hs hf 0 3 0 1 rfl cells3
  obtain ⟨_, f1, _⟩ := rd_field hs hf 1 3 1 1 rfl cells3
  obtain ⟨_, f2, _⟩ := rd_field hs hf 2 3 2 1 rfl cells3
  obtain ⟨_, f3, _⟩ := rd_field hs hf 3 3 3 1 rfl cells3
  obtain ⟨_, f4, _⟩ := rd_field hs hf 4 3 4 1 rfl cells3
  obtain ⟨_, f5, _⟩ := rd_field hs hf 5 3 5 1 rfl cells3
  obtain ⟨_, f6, _⟩ := rd_field hs hf 6 3 6 1 rfl cells3
  obtain ⟨_, f7, g7⟩ := rd_field hs hf 7 76 7 1 rfl cellsSP
  obtain ⟨n0, e0⟩ := rd_int f0
  obtain ⟨n1, e1⟩ := rd_int f1
  obtain ⟨n2, e2⟩ := rd_int f2
  obtain ⟨n3, e3⟩ := rd_int f3
  obtain ⟨n4, e4⟩ := rd_int f4
  obtain ⟨n5, e5⟩ := rd_int f5
  obtain ⟨n6, e6⟩ := rd_int f6
  obtain ⟨vp, ps, e7, hp⟩ := rd_pairs f7 (weights_field Tryz.underlying78 7 76 7 rfl g7 hw)
  simp at e0 e1 e2 e3 e4 e5 e6 e7
  exact ⟨⟨n0, n1, n2, n3, n4, n5, n6, ps⟩, vp, by rw [e0, e1, e2, e3, e4, e5, e6, e7], hp⟩
theorem rd_cells {fuel : Nat} {cs : List Value} {x : DataW H × List MemPlace} (h : DataW.trod enc Tryz.prog w base (fun _ => true) held fuel 23 cs = some x) (hw : ∀ n ∈ x.1.weights Tryz.prog 23, n ≤ reachBytes) : ∃ (v : Value) (xs : List Cl), cs = [v] ∧ SlC w v xs :=
  rd_slice (at_ := ClAt w) Cl0 Tryz.underlying23 cellsC (by omega) bytesC (by omega) h hw fun _ _ _ h hw b o hc => by
    obtain ⟨y, vp, rfl, hp⟩ := rd_cell h hw
    exact ⟨y, vp, hc 0 (by omega), hc 1 (by omega), hc 2 (by omega), hc 3 (by omega), hc 4 (by omega), hc 5 (by omega), hc 6 (by omega), hc 7 (by omega), hp⟩

theorem rd_heap {fuel : Nat} {cs : List Value} {x : DataW H × List MemPlace} (h : DataW.trod enc Tryz.prog w base (fun _ => true) held fuel 26 cs = some x) (hw : ∀ n ∈ x.1.weights Tryz.prog 26, n ≤ reachBytes) :
    ∃ (y : Hp) (vr vc vg : Value), cs = [iv y.room, iv y.used, iv y.born, vr, vc, iv y.phase, iv y.hand, iv y.sub, vg, iv y.per, iv y.start, iv y.rounds, iv y.forced] ∧ SlW w vr y.regs ∧ SlC w vc y.cells ∧ SlI w vg y.gray := by
  obtain ⟨xs, n, _, rfl, hl, hs, hf⟩ := DataW.trod_struct Tryz.underlying26 h
  rw [cellsH] at hl
  obtain ⟨a0, a1, a2, a3, a4, a5, a6, a7, a8, a9, a10, a11, a12, rfl⟩ := len13 hl
  obtain ⟨_, f0, _⟩ := rd_field hs hf 0 3 0 1 rfl cells3
  obtain ⟨_, f1, _⟩ := rd_field hs hf 1 3 1 1 rfl cells3
  obtain ⟨_, f2, _⟩ := rd_field hs hf 2 3 2 1 rfl cells3
  obtain ⟨_, f3, g3⟩ := rd_field hs hf 3 22 3 1 rfl cellsSW
  obtain ⟨_, f4, g4⟩ := rd_field hs hf 4 23 4 1 rfl cellsSC
  obtain ⟨_, f5, _⟩ := rd_field hs hf 5 3 5 1 rfl cells3
  obtain ⟨_, f6, _⟩ := rd_field hs hf 6 3 6 1 rfl cells3
  obtain ⟨_, f7, _⟩ := rd_field hs hf 7 3 7 1 rfl cells3
  obtain ⟨_, f8, g8⟩ := rd_field hs hf 8 24 8 1 rfl cellsSI
  obtain ⟨_, f9, _⟩ := rd_field hs hf 9 3 9 1 rfl cells3
  obtain ⟨_, f10, _⟩ := rd_field hs hf 10 3 10 1 rfl cells3
  obtain ⟨_, f11, _⟩ := rd_field hs hf 11 3 11 1 rfl cells3
  obtain ⟨_, f12, _⟩ := rd_field hs hf 12 3 12 1 rfl cells3
  obtain ⟨n0, e0⟩ := rd_int f0
  obtain ⟨n1, e1⟩ := rd_int f1
  obtain ⟨n2, e2⟩ := rd_int f2
  obtain ⟨n5, e5⟩ := rd_int f5
  obtain ⟨n6, e6⟩ := rd_int f6
  obtain ⟨n7, e7⟩ := rd_int f7
  obtain ⟨n9, e9⟩ := rd_int f9
  obtain ⟨n10, e10⟩ := rd_int f10
  obtain ⟨n11, e11⟩ := rd_int f11
  obtain ⟨n12, e12⟩ := rd_int f12
  obtain ⟨vr, rs, e3, hr⟩ := rd_words f3 (weights_field Tryz.underlying26 3 22 3 rfl g3 hw)
  obtain ⟨vc, ks, e4, hc⟩ := rd_cells f4 (weights_field Tryz.underlying26 4 23 4 rfl g4 hw)
  obtain ⟨vg, gs, e8, hg⟩ := rd_ints f8 (weights_field Tryz.underlying26 8 24 8 rfl g8 hw)
  simp at e0 e1 e2 e3 e4 e5 e6 e7 e8 e9 e10 e11 e12
  exact ⟨⟨n0, n1, n2, rs, ks, n5, n6, n7, gs, n9, n10, n11, n12⟩, vr, vc, vg, by rw [e0, e1, e2, e3, e4, e5, e6, e7, e8, e9, e10, e11, e12], hr, hc, hg⟩
end
end Go.Proofs.YtbcmjcomdjdjaaaGreat
