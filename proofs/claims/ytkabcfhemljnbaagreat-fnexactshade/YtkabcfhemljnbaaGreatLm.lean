import Derived.Test.YtkabcfhemljnbaaGreatBase
namespace Go.Proofs.YtkabcfhemljnbaaGreat

/-! The heap of least items, as a list of numbers. -/
/-- the item at i -/
def it (L : List Int) (i : Nat) : Int := L.getD i 0
theorem it_eq (L : List Int) (i : Nat) (h : i < L.length) : L[i] = it L i := by simp [it, h]
def swp (L : List Int) (i j : Nat) : List Int := (L.set i (it L j)).set j (it L i)
theorem swp_len (L : List Int) (i j : Nat) : (swp L i j).length = L.length := by simp [swp]
theorem swp_it (L : List Int) (i j k : Nat) (hi : i < L.length) (hj : j < L.length) : it (swp L i j) k = if k = j then it L i else if k = i then it L j else it L k := by
  simp only [it, swp, List.getD_eq_getElem?_getD, List.getElem?_set]
  by_cases h1 : j = k
  · subst h1; simp [hj]
  · have h1' : ¬ k = j := fun e => h1 e.symm
    by_cases h2 : i = k
    · subst h2; simp [h1, h1', hi]
    · have h2' : ¬ k = i := fun e => h2 e.symm
      simp [h1, h2, h1', h2']
theorem swp_perm (L : List Int) (i j : Nat) (hi : i < L.length) (hj : j < L.length) : (swp L i j).Perm L := by
  have := List.set_set_perm hi hj
  rw [it_eq L i hi, it_eq L j hj] at this
  exact this

/-- no item is less than the one above it -/
def Ho (L : List Int) : Prop := ∀ i, 0 < i → i < L.length → it L ((i - 1) / 2) ≤ it L i
theorem Ho.root {L : List Int} (h : Ho L) : ∀ i, i < L.length → it L 0 ≤ it L i := by
  intro i
  induction i using Nat.strongRecOn with
  | ind i ih =>
    intro hi
    by_cases h0 : i = 0
    · subst h0; exact Int.le_refl _
    · have h1 := h i (by omega) hi
      have h2 := ih ((i - 1) / 2) (by omega) (by omega)
      omega
theorem it_mem (L : List Int) (i : Nat) (h : i < L.length) : it L i ∈ L := by rw [← it_eq L i h]; exact List.getElem_mem h
theorem Ho.least {L : List Int} (h : Ho L) {x : Int} (hx : x ∈ L) : it L 0 ≤ x := by
  obtain ⟨i, hi, e⟩ := List.getElem_of_mem hx
  rw [← e, it_eq L i hi]; exact h.root i hi
theorem Ho.nil : Ho [] := fun i _ h => by simp at h

/-- all in order but for the item at a, which may be less than the one above it -/
def Rise (L : List Int) (a : Nat) : Prop :=
  (∀ i, 0 < i → i < L.length → i ≠ a → it L ((i - 1) / 2) ≤ it L i) ∧ (∀ i, 0 < i → i < L.length → (i - 1) / 2 = a → 0 < a → it L ((a - 1) / 2) ≤ it L i)
theorem it_append (L : List Int) (x : Int) (i : Nat) : it (L ++ [x]) i = if i < L.length then it L i else if i = L.length then x else 0 := by
  simp only [it, List.getD_eq_getElem?_getD]
  by_cases h : i < L.length
  · simp [h, List.getElem?_append_left]
  · by_cases h2 : i = L.length
    · subst h2; simp
    · rw [List.getElem?_eq_none (by simp; omega)]; simp [h, h2]
theorem Rise.start {L : List Int} (h : Ho L) (x : Int) : Rise (L ++ [x]) L.length := by
  refine ⟨fun i h0 hi hne => ?_, fun i h0 hi he => ?_⟩
  · simp at hi
    rw [it_append, it_append, if_pos (by omega), if_pos (by omega)]
    exact h i h0 (by omega)
  · simp at hi; omega
theorem Rise.top {L : List Int} (h : Rise L 0) : Ho L := fun i h0 hi => h.1 i h0 hi (by omega)
theorem Rise.done {L : List Int} {a : Nat} (h : Rise L a) (hc : it L ((a - 1) / 2) ≤ it L a) : Ho L := fun i h0 hi => by
  by_cases e : i = a
  · subst e; exact hc
  · exact h.1 i h0 hi e
theorem Rise.up {L : List Int} {a u : Nat} (h : Rise L a) (ha : 0 < a) (hl : a < L.length) (hu : u = (a - 1) / 2) (hc : it L a < it L u) : Rise (swp L u a) u := by
  have hul : u < L.length := by omega
  refine ⟨fun i h0 hi hne => ?_, fun i h0 hi he hp => ?_⟩
  · rw [swp_len] at hi
    rw [swp_it L u a _ hul hl, swp_it L u a _ hul hl]
    by_cases e1 : i = a
    · subst e1
      rw [if_pos rfl, if_neg (by omega), if_pos hu.symm]; omega
    · rw [if_neg e1, if_neg hne]
      by_cases e2 : (i - 1) / 2 = a
      · rw [if_pos e2]
        have := h.2 i h0 hi e2 ha
        rw [hu]; exact this
      · rw [if_neg e2]
        by_cases e3 : (i - 1) / 2 = u
        · rw [if_pos e3]
          have := h.1 i h0 hi e1
          rw [e3] at this; omega
        · rw [if_neg e3]; exact h.1 i h0 hi e1
  · rw [swp_len] at hi
    rw [swp_it L u a _ hul hl, swp_it L u a _ hul hl]
    rw [if_neg (by omega), if_neg (by omega)]
    have hup := h.1 u hp hul (by omega)
    by_cases e1 : i = a
    · rw [if_pos e1]; exact hup
    · rw [if_neg e1, if_neg (by omega)]
      have := h.1 i h0 hi e1
      rw [he] at this; omega

/-- all in order but for the item at a, which may be greater than those below it -/
def Fall (L : List Int) (a : Nat) : Prop :=
  (∀ i, 0 < i → i < L.length → (i - 1) / 2 ≠ a → it L ((i - 1) / 2) ≤ it L i) ∧ (∀ i, 0 < i → i < L.length → (i - 1) / 2 = a → 0 < a → it L ((a - 1) / 2) ≤ it L i)
theorem Fall.bottom {L : List Int} {a : Nat} (h : Fall L a) (hb : L.length ≤ 2 * a + 1) : Ho L := fun i h0 hi => h.1 i h0 hi (by omega)
/-- s is the lesser of the two below a -/
def Lesser (L : List Int) (a s : Nat) : Prop := (s = 2 * a + 1 ∨ s = 2 * a + 2) ∧ s < L.length ∧ (∀ i, 0 < i → i < L.length → (i - 1) / 2 = a → it L s ≤ it L i)
theorem Lesser.right {L : List Int} {a : Nat} (h : 2 * a + 2 < L.length) (hc : it L (2 * a + 2) < it L (2 * a + 1)) : Lesser L a (2 * a + 2) :=
  ⟨.inr rfl, h, fun i h0 hi e => by
    by_cases q : i = 2 * a + 2
    · rw [q]; exact Int.le_refl _
    · have : i = 2 * a + 1 := by omega
      rw [this]; omega⟩
theorem Lesser.left {L : List Int} {a : Nat} (h : 2 * a + 1 < L.length) (hc : 2 * a + 2 < L.length → it L (2 * a + 1) ≤ it L (2 * a + 2)) : Lesser L a (2 * a + 1) :=
  ⟨.inl rfl, h, fun i h0 hi e => by
    by_cases q : i = 2 * a + 1
    · rw [q]; exact Int.le_refl _
    · have : i = 2 * a + 2 := by omega
      rw [this]; exact hc (by omega)⟩
theorem Fall.done {L : List Int} {a s : Nat} (h : Fall L a) (hs : Lesser L a s) (hc : it L a ≤ it L s) : Ho L := fun i h0 hi => by
  by_cases e : (i - 1) / 2 = a
  · have := hs.2.2 i h0 hi e
    rw [e]; omega
  · exact h.1 i h0 hi e
theorem Fall.down {L : List Int} {a s : Nat} (h : Fall L a) (hs : Lesser L a s) (hc : it L s < it L a) : Fall (swp L a s) s := by
  obtain ⟨hs1, hsl, hs2⟩ := hs
  have hal : a < L.length := by omega
  refine ⟨fun i h0 hi hne => ?_, fun i h0 hi he hp => ?_⟩
  · rw [swp_len] at hi
    rw [swp_it L a s _ hal hsl, swp_it L a s _ hal hsl]
    rw [if_neg hne]
    by_cases e1 : i = s
    · subst e1
      rw [if_pos (by omega), if_pos rfl]; omega
    · rw [if_neg e1]
      by_cases e2 : (i - 1) / 2 = a
      · rw [if_pos e2, if_neg (by omega)]; exact hs2 i h0 hi e2
      · rw [if_neg e2]
        by_cases e3 : i = a
        · subst e3
          rw [if_pos rfl]
          exact h.2 s (by omega) hsl (by omega) h0
        · rw [if_neg e3]; exact h.1 i h0 hi e2
  · rw [swp_len] at hi
    rw [swp_it L a s _ hal hsl, swp_it L a s _ hal hsl]
    have e0 : (s - 1) / 2 = a := by omega
    rw [e0, if_neg (by omega), if_pos rfl, if_neg (by omega), if_neg (by omega)]
    have := h.1 i h0 hi (by omega)
    rw [he] at this; exact this

/-- behind a taking: the last item stands first, the last place is cut off -/
def cutl (L : List Int) : List Int := (swp L 0 (L.length - 1)).take (L.length - 1)
theorem cutl_len (L : List Int) : (cutl L).length = L.length - 1 := by simp [cutl, swp_len]
theorem it_take (L : List Int) (n i : Nat) (h : i < n) : it (L.take n) i = it L i := by simp [it, h]
theorem cutl_perm (L : List Int) (h : 0 < L.length) : (it L 0 :: cutl L).Perm L := by
  have h1 := swp_perm L 0 (L.length - 1) h (by omega)
  have hs : swp L 0 (L.length - 1) = cutl L ++ [it L 0] := by
    have h2 := List.take_append_getElem (l := swp L 0 (L.length - 1)) (i := L.length - 1) (by rw [swp_len]; omega)
    rw [it_eq, swp_it L 0 _ _ h (by omega), if_pos rfl] at h2
    have : L.length - 1 + 1 = (swp L 0 (L.length - 1)).length := by rw [swp_len]; omega
    rw [this, List.take_length] at h2
    exact h2.symm
  rw [hs] at h1
  exact (List.perm_append_singleton _ _).symm.trans h1
theorem Fall.start {L : List Int} (h : Ho L) : Fall (cutl L) 0 := by
  refine ⟨fun i h0 hi hne => ?_, fun i h0 hi he hp => by omega⟩
  rw [cutl_len] at hi
  unfold cutl
  rw [it_take _ _ _ (by omega), it_take _ _ _ (by omega), swp_it L 0 _ _ (by omega) (by omega), swp_it L 0 _ _ (by omega) (by omega), if_neg (by omega), if_neg hne, if_neg (by omega), if_neg (by omega)]
  exact h i h0 (by omega)

theorem drain_same {L M : List Int} {x : Int} (hp : (x :: M).Perm L) (hL : Ho L) (hx : x = it L 0) (hM : Ho M) (hm : M = [] ∨ it M 0 ≠ x) : L.Nodup ↔ M.Nodup := by
  rw [← hp.nodup_iff, List.nodup_cons]
  refine ⟨fun h => h.2, fun h => ⟨fun hmem => ?_, h⟩⟩
  rcases hm with e | e
  · rw [e] at hmem; cases hmem
  · have h1 := hM.least hmem
    have hne : M ≠ [] := List.ne_nil_of_mem hmem
    have h2 : it M 0 ∈ M := it_mem M 0 (by cases M with | nil => exact (hne rfl).elim | cons _ _ => simp)
    have h3 := hL.least (hp.mem_iff.1 (List.mem_cons_of_mem _ h2))
    omega
theorem drain_twice {L M : List Int} {x : Int} (hp : (x :: M).Perm L) (hm : 0 < M.length) (e : it M 0 = x) : ¬ L.Nodup := by
  rw [← hp.nodup_iff, List.nodup_cons]
  exact fun h => h.1 (by rw [← e]; exact it_mem M 0 hm)
end Go.Proofs.YtkabcfhemljnbaaGreat
