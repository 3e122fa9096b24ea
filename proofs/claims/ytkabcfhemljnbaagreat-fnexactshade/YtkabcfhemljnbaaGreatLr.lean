import Derived.Test.YtkabcfhemljnbaaGreatLm
import Derived.Test.YtkabcfhemljnbaaGreatRule
namespace Go.Proofs.YtkabcfhemljnbaaGreat

/-! What the rules 2 and 5 say, by lists of places and of values. -/
def valsTo (p : Nat → Bool) (f : Nat → Int) (k : Nat) : List Int := ((List.range k).filter p).map f
theorem valsTo_zero (p : Nat → Bool) (f : Nat → Int) : valsTo p f 0 = [] := rfl
theorem valsTo_yes (p : Nat → Bool) (f : Nat → Int) (k : Nat) (h : p k = true) : valsTo p f (k + 1) = valsTo p f k ++ [f k] := by
  simp [valsTo, List.range_succ, List.filter_append, h]
theorem valsTo_no (p : Nat → Bool) (f : Nat → Int) (k : Nat) (h : p k = false) : valsTo p f (k + 1) = valsTo p f k := by
  simp [valsTo, List.range_succ, List.filter_append, h]
theorem valsTo_mem (p : Nat → Bool) (f : Nat → Int) (k : Nat) (z : Int) : z ∈ valsTo p f k ↔ ∃ i, i < k ∧ p i = true ∧ f i = z := by
  simp [valsTo, and_assoc]
theorem valsTo_len (p : Nat → Bool) (f : Nat → Int) (k : Nat) : (valsTo p f k).length ≤ k := by
  unfold valsTo
  have := List.length_filter_le p (List.range k)
  simpa using this
theorem valsTo_nodup (p : Nat → Bool) (f : Nat → Int) (k : Nat) : (valsTo p f k).Nodup ↔ ∀ i j, i < j → j < k → p i = true → p j = true → f i ≠ f j := by
  unfold valsTo List.Nodup
  rw [List.pairwise_map, List.pairwise_filter, List.pairwise_iff_getElem]
  constructor
  · intro h i j hij hj pi pj
    have := h i j (by simp; omega) (by simpa using hj) hij
    simp at this
    exact this pi pj
  · intro h i j hi hj hij
    simp
    intro pi pj
    exact h i j hij (by simpa using hj) pi pj
def castI (i : Nat) : Int := (i : Int)
theorem places_nodup (p : Nat → Bool) (k : Nat) : (valsTo p castI k).Nodup := by
  rw [valsTo_nodup]; intro i j h _ _ _ e; unfold castI at e; omega

def isSt (x : Hp) (s : Int) (i : Nat) : Bool := (x.c i).st == s
def bornOf (x : Hp) (i : Nat) : Int := (x.c i).born
def toOf (x : Hp) (i : Nat) : Int := (x.c i).to
def births (x : Hp) (k : Nat) : List Int := valsTo (isSt x 1) (bornOf x) k
def targets (x : Hp) (k : Nat) : List Int := valsTo (isSt x 2) (toOf x) k
def frees (x : Hp) (k : Nat) : List Int := valsTo (isSt x 0) castI k

theorem apart_iff (x : Hp) (h : ∀ i, i < x.cells.length → CellOk x i) : Apart x ↔ (births x x.cells.length).Nodup ∧ (targets x x.cells.length).Nodup := by
  unfold births targets
  rw [valsTo_nodup, valsTo_nodup]
  constructor
  · intro a
    refine ⟨fun i j hij hj pi pj e => ?_, fun i j hij hj pi pj e => ?_⟩
    · simp [isSt] at pi pj
      unfold bornOf at e
      refine a j hj (by omega) i hij ⟨by omega, e, ?_⟩
      have h1 := h i (by omega)
      have h2 := h j hj
      unfold CellOk UsedOk at h1 h2
      omega
    · simp [isSt] at pi pj
      unfold toOf at e
      refine a j hj (by omega) i hij ⟨by omega, ?_, e⟩
      have h1 := h i (by omega)
      have h2 := h j hj
      unfold CellOk MovedOk Bare at h1 h2
      omega
  · intro ⟨hb, ht⟩ i hi hs k hk ⟨e1, e2, e3⟩
    have h1 := h i hi
    unfold CellOk at h1
    rcases h1 with h1 | h1 | h1
    · exact hs h1.1
    · exact ht k i hk hi (by simp [isSt]; omega) (by simp [isSt]; omega) e3
    · exact hb k i hk hi (by simp [isSt]; omega) (by simp [isSt]; omega) e2

theorem perm_of_sub {A B : List Int} (ha : A.Nodup) (hs : ∀ z, z ∈ A → z ∈ B) (hl : B.length ≤ A.length) : A.Perm B := by
  induction A generalizing B with
  | nil => cases B with
    | nil => exact List.Perm.refl _
    | cons _ _ => simp at hl
  | cons a A ih =>
    rw [List.nodup_cons] at ha
    have hm : a ∈ B := hs a List.mem_cons_self
    have hB := List.perm_cons_erase hm
    have hlen : (B.erase a).length = B.length - 1 := List.length_erase_of_mem hm
    have h2 := ih (B := B.erase a) ha.2 (fun z hz => by
      have : z ≠ a := fun e => ha.1 (e ▸ hz)
      exact (List.mem_erase_of_ne this).2 (hs z (List.mem_cons_of_mem _ hz))) (by rw [hlen]; simp at hl; omega)
    exact (h2.cons a).trans hB.symm

def isGray (x : Hp) (i : Nat) : Bool := (x.c i).color == 1
def grays (x : Hp) (k : Nat) : List Int := valsTo (isGray x) castI k
def MayBlack (x : Hp) (i : Nat) : Prop := Marking x ∨ (x.phase = 3 ∧ x.hand ≤ i)
/-- rule 5 as the program asks it -/
def R5b (x : Hp) : Prop :=
  (∀ i, i < x.cells.length → (x.c i).color = 2 → MayBlack x i) ∧ (¬ Marking x → (grays x x.cells.length).length = 0) ∧ x.gray.length = (grays x x.cells.length).length ∧
  (∀ g, g ∈ x.gray → (0 ≤ g ∧ g < x.cells.length) ∧ (x.c g.toNat).color = 1) ∧ x.gray.Nodup

theorem R5_iff (x : Hp) : R5 x ↔ R5b x := by
  constructor
  · intro ⟨h1, h2, h3⟩
    have hc : ∀ g, g ∈ x.gray → (0 ≤ g ∧ g < x.cells.length) ∧ (x.c g.toNat).color = 1 := fun g hg => by
      have hr := h3 g hg
      refine ⟨hr, ?_⟩
      have ho := h2 g.toNat (by omega)
      by_cases e : (x.c g.toNat).color = 1
      · exact e
      · have := ho.2.1 e
        unfold cnt at this
        rw [Int.toNat_of_nonneg hr.1] at this
        have := List.count_pos_iff.2 hg
        omega
    have hp : x.gray.Perm (grays x x.cells.length) := by
      rw [List.perm_iff_count]
      intro z
      by_cases hz : z ∈ x.gray
      · have hr := hc z hz
        have e1 := (h2 z.toNat (by omega)).1 hr.2
        unfold cnt at e1
        rw [Int.toNat_of_nonneg hr.1.1] at e1
        rw [e1]
        have hm : z ∈ grays x x.cells.length := (valsTo_mem _ _ _ _).2 ⟨z.toNat, by omega, by simp [isGray, hr.2], by unfold castI; omega⟩
        have := (places_nodup (isGray x) x.cells.length)
        rw [List.nodup_iff_count] at this
        have h4 := this z
        have h5 := List.count_pos_iff.2 hm
        unfold grays at h5 ⊢
        omega
      · rw [List.count_eq_zero.2 hz]
        symm
        rw [List.count_eq_zero]
        intro hm
        obtain ⟨i, hi, pi, e⟩ := (valsTo_mem _ _ _ _).1 hm
        have := (h2 i hi).1 (by simpa [isGray] using pi)
        have := List.count_pos_iff.1 (show 0 < List.count (i : Int) x.gray by unfold cnt at this; omega)
        unfold castI at e
        rw [e] at this
        exact hz this
    refine ⟨fun i hi hb => (h2 i hi).2.2 hb, fun hn => by rw [← hp.length_eq]; exact h1 hn, hp.length_eq, hc, ?_⟩
    rw [hp.nodup_iff]; exact places_nodup _ _
  · intro ⟨h1, h2, h3, h4, h5⟩
    have hp : x.gray.Perm (grays x x.cells.length) := perm_of_sub h5 (fun z hz => by
      have hr := h4 z hz
      exact (valsTo_mem _ _ _ _).2 ⟨z.toNat, by omega, by simp [isGray, hr.2], by unfold castI; omega⟩) (by omega)
    refine ⟨fun hn => by rw [h3]; exact h2 hn, fun i hi => ⟨fun e => ?_, fun e => ?_, fun e => h1 i hi e⟩, fun g hg => (h4 g hg).1⟩
    · have hm : (i : Int) ∈ x.gray := hp.mem_iff.2 ((valsTo_mem _ _ _ _).2 ⟨i, hi, by simp [isGray, e], rfl⟩)
      have h6 := List.count_pos_iff.2 hm
      rw [List.nodup_iff_count] at h5
      have := h5 (i : Int)
      unfold cnt; omega
    · unfold cnt
      rw [List.count_eq_zero]
      intro hm
      have := (h4 _ hm).2
      simp at this
      exact e this
end Go.Proofs.YtkabcfhemljnbaaGreat
