import Derived.Test.YtbcmjcomdjdjaaaGreatBase
import Derived.Test.YtbcmjcomdjdjaaaGreatRule
import Derived.BigRegion
import Derived.BigQuiet
import Derived.Deep.QuietTactic
namespace Go.Proofs.YtbcmjcomdjdjaaaGreat

/-! The heap of least items, as a list of numbers. -/
/-- the item at i -/
def it (L : List Int) (i : Nat) : Int := L.getD i 0
theorem it_eq (L : List Int) (i : Nat) (h : i < L.length) : L[i] = it L i := by simp [it, h]
def swp (L : List Int) (i j : Nat) : List Int := (L.set i (it L j)).set j (it L i)
theorem swp_len (L : List Int) (i j : Nat) : (swp L i j).length = L.length := by simp [swp]
theorem swp_it (L : List Int) (i j k : Nat) (hi : i < L.length) (hj : j < L.length) : it (swp L i j) k = if k = j then it L i else if k = i then it L j else it L k := by
  simp only [it, swp, List.getD_eq_getElem?_getD, List.getElem?_set]
  by_cases h1 : j = k
  · subst h1; simp [hj]
  · have h1' : ¬ k = j := fun e => h1 e.symm
    by_cases h2 : i = k
    · subst h2; simp [h1, h1', hi]
    · have h2' : ¬ k = i := fun e => h2 e.symm
      simp [h1, h2, h1', h2']
theorem swp_perm (L : List Int) (i j : Nat) (hi : i < L.length) (hj : j < L.length) : (swp L i j).Perm L := by
  have := List.set_set_perm hi hj
  rw [it_eq L i hi, it_eq L j hj] at this
  exact this

/-- no item is less than the one above it -/
def Ho (L : List Int) : Prop := ∀ i, 0 < i → i < L.length → it L ((i - 1) / 2) ≤ it L i
theorem Ho.root {L : List Int} (h : Ho L) : ∀ i, i < L.length → it L 0 ≤ it L i := by
  intro i
  induction i using Nat.strongRecOn with
  | ind i ih =>
    intro hi
    by_cases h0 : i = 0
    · subst h0; exact Int.le_refl _
    · have h1 := h i (by omega) hi
      have h2 := ih ((i - 1) / 2) (by omega) (by omega)
      omega
theorem it_mem (L : List Int) (i : Nat) (h : i < L.length) : it L i ∈ L := by rw [← it_eq L i h]; exact List.getElem_mem h
theorem Ho.least {L : List Int} (h : Ho L) {x : Int} (hx : x ∈ L) : it L 0 ≤ x := by
  obtain ⟨i, hi, e⟩ := List.getElem_of_mem hx
  rw [← e, it_eq L i hi]; exact h.root i hi
theorem Ho.nil : Ho [] := fun i _ h => by simp at h

/-- all in order but for the item at a, which may be less than the one above it -/
def Rise (L : List Int) (a : Nat) : Prop :=
  (∀ i, 0 < i → i < L.length → i ≠ a → it L ((i - 1) / 2) ≤ it L i) ∧ (∀ i, 0 < i → i < L.length → (i - 1) / 2 = a → 0 < a → it L ((a - 1) / 2) ≤ it L i)
theorem it_append (L : List Int) (x : Int) (i : Nat) : it (L ++ [x]) i = if i < L.length then it L i else if i = L.length then x else 0 := by
  simp only [it, List.getD_eq_getElem?_getD]
  by_cases h : i < L.length
  · simp [h, List.getElem?_append_left]
  · by_cases h2 : i = L.length
    · subst h2; simp
    · rw [List.getElem?_eq_none (by simp; omega)]; simp [h, h2]
theorem Rise.start {L : List Int} (h : Ho L) (x : Int) : Rise (L ++ [x]) L.length := by
  refine ⟨fun i h0 hi hne => ?_, fun i h0 hi he => ?_⟩
  · simp at hi
    rw [it_append, it_append, if_pos (by omega), if_pos (by omega)]
    exact h i h0 (by omega)
  · simp at hi; omega
theorem Rise.top {L : List Int} (h : Rise L 0) : Ho L := fun i h0 hi => h.1 i h0 hi (by omega)
theorem Rise.done {L : List Int} {a : Nat} (h : Rise L a) (hc : it L ((a - 1) / 2) ≤ it L a) : Ho L := fun i h0 hi => by
  by_cases e : i = a
  · subst e; exact hc
  · exact h.1 i h0 hi e
theorem Rise.up {L : List Int} {a u : Nat} (h : Rise L a) (ha : 0 < a) (hl : a < L.length) (hu : u = (a - 1) / 2) (hc : it L a < it L u) : Rise (swp L u a) u := by
  have hul : u < L.length := by omega
  refine ⟨fun i h0 hi hne => ?_, fun i h0 hi he hp => ?_⟩
  · rw [swp_len] at hi
    rw [swp_it L u a _ hul hl, swp_it L u a _ hul hl]
    by_cases e1 : i = a
    · subst e1
      rw [if_pos rfl, if_neg (by omega), if_pos hu.symm]; omega
    · rw [if_neg e1, if_neg hne]
      by_cases e2 : (i - 1) / 2 = a
      · rw [if_pos e2]
        have := h.2 i h0 hi e2 ha
        rw [hu]; exact this
      · rw [if_neg e2]
        by_cases e3 : (i - 1) / 2 = u
        · rw [if_pos e3]
          have := h.1 i h0 hi e1
          rw [e3] at this; omega
        · rw [if_neg e3]; exact h.1 i h0 hi e1
  · rw [swp_len] at hi
    rw [swp_it L u a _ hul hl, swp_it L u a _ hul hl]
    rw [if_neg (by omega), if_neg (by omega)]
    have hup := h.1 u hp hul (by omega)
    by_cases e1 : i = a
    · rw [if_pos e1]; exact hup
    · rw [if_neg e1, if_neg (by omega)]
      have := h.1 i h0 hi e1
      rw [he] at this; omega

/-- all in order but for the item at a, which may be greater than those below it -/
def Fall (L : List Int) (a : Nat) : Prop :=
  (∀ i, 0 < i → i < L.length → (i - 1) / 2 ≠ a → it L ((i - 1) / 2) ≤ it L i) ∧ (∀ i, 0 < i → i < L.length → (i - 1) / 2 = a → 0 < a → it L ((a - 1) / 2) ≤ it L i)
theorem Fall.bottom {L : List Int} {a : Nat} (h : Fall L a) (hb : L.length ≤ 2 * a + 1) : Ho L := fun i h0 hi => h.1 i h0 hi (by omega)
/-- s is the lesser of the two below a -/
def Lesser (L : List Int) (a s : Nat) : Prop := (s = 2 * a + 1 ∨ s = 2 * a + 2) ∧ s < L.length ∧ (∀ i, 0 < i → i < L.length → (i - 1) / 2 = a → it L s ≤ it L i)
theorem Lesser.right {L : List Int} {a : Nat} (h : 2 * a + 2 < L.length) (hc : it L (2 * a + 2) < it L (2 * a + 1)) : Lesser L a (2 * a + 2) :=
  ⟨.inr rfl, h, fun i h0 hi e => by
    by_cases q : i = 2 * a + 2
    · rw [q]; exact Int.le_refl _
    · have : i = 2 * a + 1 := by omega
      rw [this]; omega⟩
theorem Lesser.left {L : List Int} {a : Nat} (h : 2 * a + 1 < L.length) (hc : 2 * a + 2 < L.length → it L (2 * a + 1) ≤ it L (2 * a + 2)) : Lesser L a (2 * a + 1) :=
  ⟨.inl rfl, h, fun i h0 hi e => by
    by_cases q : i = 2 * a + 1
    · rw [q]; exact Int.le_refl _
    · have : i = 2 * a + 2 := by omega
      rw [this]; exact hc (by omega)⟩
theorem Fall.done {L : List Int} {a s : Nat} (h : Fall L a) (hs : Lesser L a s) (hc : it L a ≤ it L s) : Ho L := fun i h0 hi => by
  by_cases e : (i - 1) / 2 = a
  · have := hs.2.2 i h0 hi e
    rw [e]; omega
  · exact h.1 i h0 hi e
theorem Fall.down {L : List Int} {a s : Nat} (h : Fall L a) (hs : Lesser L a s) (hc : it L s < it L a) : Fall (swp L a s) s := by
  obtain ⟨hs1, hsl, hs2⟩ := hs
  have hal : a < L.length := by omega
  refine ⟨fun i h0 hi hne => ?_, fun i h0 hi he hp => ?_⟩
  · rw [swp_len] at hi
    rw [swp_it L a s _ hal hsl, swp_it L a s _ hal hsl]
    rw [if_neg hne]
    by_cases e1 : i = s
    · subst e1
      rw [if_pos (by omega), if_pos rfl]; omega
    · rw [if_neg e1]
      by_cases e2 : (i - 1) / 2 = a
      · rw [if_pos e2, if_neg (by omega)]; exact hs2 i h0 hi e2
      · rw [if_neg e2]
        by_cases e3 : i = a
        · subst e3
          rw [if_pos rfl]
          exact h.2 s (by omega) hsl (by omega) h0
        · rw [if_neg e3]; exact h.1 i h0 hi e2
  · rw [swp_len] at hi
    rw [swp_it L a s _ hal hsl, swp_it L a s _ hal hsl]
    have e0 : (s - 1) / 2 = a := by omega
    rw [e0, if_neg (by omega), if_pos rfl, if_neg (by omega), if_neg (by omega)]
    have := h.1 i h0 hi (by omega)
    rw [he] at this; exact this

/-- behind a taking: the last item stands first, the last place is cut off -/
def cutl (L : List Int) : List Int := (swp L 0 (L.length - 1)).take (L.length - 1)
theorem cutl_len (L : List Int) : (cutl L).length = L.length - 1 := by simp [cutl, swp_len]
theorem it_take (L : List Int) (n i : Nat) (h : i < n) : it (L.take n) i = it L i := by simp [it, h]
theorem cutl_perm (L : List Int) (h : 0 < L.length) : (it L 0 :: cutl L).Perm L := by
  have h1 := swp_perm L 0 (L.length - 1) h (by omega)
  have hs : swp L 0 (L.length - 1) = cutl L ++ [it L 0] := by
    have h2 := List.take_append_getElem (l := swp L 0 (L.length - 1)) (i := L.length - 1) (by rw [swp_len]; omega)
    rw [it_eq, swp_it L 0 _ _ h (by omega), if_pos rfl] at h2
    have : L.length - 1 + 1 = (swp L 0 (L.length - 1)).length := by rw [swp_len]; omega
    rw [this, List.take_length] at h2
    exact h2.symm
  rw [hs] at h1
  exact (List.perm_append_singleton _ _).symm.trans h1
theorem Fall.start {L : List Int} (h : Ho L) : Fall (cutl L) 0 := by
  refine ⟨fun i h0 hi hne => ?_, fun i h0 hi he hp => by omega⟩
  rw [cutl_len] at hi
  unfold cutl
  rw [it_take _ _ _ (by omega), it_take _ _ _ (by omega), swp_it L 0 _ _ (by omega) (by omega), swp_it L 0 _ _ (by omega) (by omega), if_neg (by omega), if_neg hne, if_neg (by omega), if_neg (by omega)]
  exact h i h0 (by omega)

theorem drain_same {L M : List Int} {x : Int} (hp : (x :: M).Perm L) (hL : Ho L) (hx : x = it L 0) (hM : Ho M) (hm : M = [] ∨ it M 0 ≠ x) : L.Nodup ↔ M.Nodup := by
  rw [← hp.nodup_iff, List.nodup_cons]
  refine ⟨fun h => h.2, fun h => ⟨fun hmem => ?_, h⟩⟩
  rcases hm with e | e
  · rw [e] at hmem; cases hmem
  · have h1 := hM.least hmem
    have hne : M ≠ [] := List.ne_nil_of_mem hmem
    have h2 : it M 0 ∈ M := it_mem M 0 (by cases M with | nil => exact (hne rfl).elim | cons _ _ => simp)
    have h3 := hL.least (hp.mem_iff.1 (List.mem_cons_of_mem _ h2))
    omega
theorem drain_twice {L M : List Int} {x : Int} (hp : (x :: M).Perm L) (hm : 0 < M.length) (e : it M 0 = x) : ¬ L.Nodup := by
  rw [← hp.nodup_iff, List.nodup_cons]
  exact fun h => h.1 (by rw [← e]; exact it_mem M 0 hm)
end Go.Proofs.YtbcmjcomdjdjaaaGreat

namespace Go.Proofs.YtbcmjcomdjdjaaaGreat

/-! What the rules 2 and 5 say, by lists of places and of values. -/
def valsTo (p : Nat → Bool) (f : Nat → Int) (k : Nat) : List Int := ((List.range k).filter p).map f
theorem valsTo_zero (p : Nat → Bool) (f : Nat → Int) : valsTo p f 0 = [] := rfl
theorem valsTo_yes (p : Nat → Bool) (f : Nat → Int) (k : Nat) (h : p k = true) : valsTo p f (k + 1) = valsTo p f k ++ [f k] := by
  simp [valsTo, List.range_succ, List.filter_append, h]
theorem valsTo_no (p : Nat → Bool) (f : Nat → Int) (k : Nat) (h : p k = false) : valsTo p f (k + 1) = valsTo p f k := by
  simp [valsTo, List.range_succ, List.filter_append, h]
theorem valsTo_mem (p : Nat → Bool) (f : Nat → Int) (k : Nat) (z : Int) : z ∈ valsTo p f k ↔ ∃ i, i < k ∧ p i = true ∧ f i = z := by
  simp [valsTo, and_assoc]
theorem valsTo_len (p : Nat → Bool) (f : Nat → Int) (k : Nat) : (valsTo p f k).length ≤ k := by
  unfold valsTo
  have := List.length_filter_le p (List.range k)
  simpa using this
theorem valsTo_nodup (p : Nat → Bool) (f : Nat → Int) (k : Nat) : (valsTo p f k).Nodup ↔ ∀ i j, i < j → j < k → p i = true → p j = true → f i ≠ f j := by
  unfold valsTo List.Nodup
  rw [List.pairwise_map, List.pairwise_filter, List.pairwise_iff_getElem]
  constructor
  · intro h i j hij hj pi pj
    have := h i j (by simp; omega) (by simpa using hj) hij
    simp at this
    exact this pi pj
  · intro h i j hi hj hij
    simp
    intro pi pj
    exact h i j hij (by simpa using hj) pi pj
def castI (i : Nat) : Int := (i : Int)
theorem places_nodup (p : Nat → Bool) (k : Nat) : (valsTo p castI k).Nodup := by
  rw [valsTo_nodup]; intro i j h _ _ _ e; unfold castI at e; omega

def isSt (x : Hp) (s : Int) (i : Nat) : Bool := (x.c i).st == s
def bornOf (x : Hp) (i : Nat) : Int := (x.c i).born
def toOf (x : Hp) (i : Nat) : Int := (x.c i).to
def births (x : Hp) (k : Nat) : List Int := valsTo (isSt x 1) (bornOf x) k
def targets (x : Hp) (k : Nat) : List Int := valsTo (isSt x 2) (toOf x) k
def frees (x : Hp) (k : Nat) : List Int := valsTo (isSt x 0) castI k

theorem apart_iff (x : Hp) (h : ∀ i, i < x.cells.length → CellOk x i) : Apart x ↔ (births x x.cells.length).Nodup ∧ (targets x x.cells.length).Nodup := by
  unfold births targets
  rw [valsTo_nodup, valsTo_nodup]
  constructor
  · intro a
    refine ⟨fun i j hij hj pi pj e => ?_, fun i j hij hj pi pj e => ?_⟩
    · simp [isSt] at pi pj
      unfold bornOf at e
      refine a j hj (by omega) i hij ⟨by omega, e, ?_⟩
      have h1 := h i (by omega)
      have h2 := h j hj
      unfold CellOk UsedOk at h1 h2
      omega
    · simp [isSt] at pi pj
      unfold toOf at e
      refine a j hj (by omega) i hij ⟨by omega, ?_, e⟩
      have h1 := h i (by omega)
      have h2 := h j hj
      unfold CellOk MovedOk Bare at h1 h2
      omega
  · intro ⟨hb, ht⟩ i hi hs k hk ⟨e1, e2, e3⟩
    have h1 := h i hi
    unfold CellOk at h1
    rcases h1 with h1 | h1 | h1
    · exact hs h1.1
    · exact ht k i hk hi (by simp [isSt]; omega) (by simp [isSt]; omega) e3
    · exact hb k i hk hi (by simp [isSt]; omega) (by simp [isSt]; omega) e2

theorem perm_of_sub {A B : List Int} (ha : A.Nodup) (hs : ∀ z, z ∈ A → z ∈ B) (hl : B.length ≤ A.length) : A.Perm B := by
  induction A generalizing B with
  | nil => cases B with
    | nil => exact List.Perm.refl _
    | cons _ _ => simp at hl
  | cons a A ih =>
    rw [List.nodup_cons] at ha
    have hm : a ∈ B := hs a List.mem_cons_self
    have hB := List.perm_cons_erase hm
    have hlen : (B.erase a).length = B.length - 1 := List.length_erase_of_mem hm
    have h2 := ih (B := B.erase a) ha.2 (fun z hz => by
      have : z ≠ a := fun e => ha.1 (e ▸ hz)
      exact (List.mem_erase_of_ne this).2 (hs z (List.mem_cons_of_mem _ hz))) (by rw [hlen]; simp at hl; omega)
    exact (h2.cons a).trans hB.symm

def isGray (x : Hp) (i : Nat) : Bool := (x.c i).color == 1
def grays (x : Hp) (k : Nat) : List Int := valsTo (isGray x) castI k
def MayBlack (x : Hp) (i : Nat) : Prop := Marking x ∨ (x.phase = 3 ∧ x.hand ≤ i)
/-- rule 5 as the program asks it -/
def R5b (x : Hp) : Prop :=
  (∀ i, i < x.cells.length → (x.c i).color = 2 → MayBlack x i) ∧ (¬ Marking x → (grays x x.cells.length).length = 0) ∧ x.gray.length = (grays x x.cells.length).length ∧
  (∀ g, g ∈ x.gray → (0 ≤ g ∧ g < x.cells.length) ∧ (x.c g.toNat).color = 1) ∧ x.gray.Nodup

theorem R5_iff (x : Hp) : R5 x ↔ R5b x := by
  constructor
  · intro ⟨h1, h2, h3⟩
    have hc : ∀ g, g ∈ x.gray → (0 ≤ g ∧ g < x.cells.length) ∧ (x.c g.toNat).color = 1 := fun g hg => by
      have hr := h3 g hg
      refine ⟨hr, ?_⟩
      have ho := h2 g.toNat (by omega)
      by_cases e : (x.c g.toNat).color = 1
      · exact e
      · have := ho.2.1 e
        unfold cnt at this
        rw [Int.toNat_of_nonneg hr.1] at this
        have := List.count_pos_iff.2 hg
        omega
    have hp : x.gray.Perm (grays x x.cells.length) := by
      rw [List.perm_iff_count]
      intro z
      by_cases hz : z ∈ x.gray
      · have hr := hc z hz
        have e1 := (h2 z.toNat (by omega)).1 hr.2
        unfold cnt at e1
        rw [Int.toNat_of_nonneg hr.1.1] at e1
        rw [e1]
        have hm : z ∈ grays x x.cells.length := (valsTo_mem _ _ _ _).2 ⟨z.toNat, by omega, by simp [isGray, hr.2], by unfold castI; omega⟩
        have := (places_nodup (isGray x) x.cells.length)
        rw [List.nodup_iff_count] at this
        have h4 := this z
        have h5 := List.count_pos_iff.2 hm
        unfold grays at h5 ⊢
        omega
      · rw [List.count_eq_zero.2 hz]
        symm
        rw [List.count_eq_zero]
        intro hm
        obtain ⟨i, hi, pi, e⟩ := (valsTo_mem _ _ _ _).1 hm
        have := (h2 i hi).1 (by simpa [isGray] using pi)
        have := List.count_pos_iff.1 (show 0 < List.count (i : Int) x.gray by unfold cnt at this; omega)
        unfold castI at e
        rw [e] at this
        exact hz this
    refine ⟨fun i hi hb => (h2 i hi).2.2 hb, fun hn => by rw [← hp.length_eq]; exact h1 hn, hp.length_eq, hc, ?_⟩
    rw [hp.nodup_iff]; exact places_nodup _ _
  · intro ⟨h1, h2, h3, h4, h5⟩
    have hp : x.gray.Perm (grays x x.cells.length) := perm_of_sub h5 (fun z hz => by
      have hr := h4 z hz
      exact (valsTo_mem _ _ _ _).2 ⟨z.toNat, by omega, by simp [isGray, hr.2], by unfold castI; omega⟩) (by omega)
    refine ⟨fun hn => by rw [h3]; exact h2 hn, fun i hi => ⟨fun e => ?_, fun e => ?_, fun e => h1 i hi e⟩, fun g hg => (h4 g hg).1⟩
    · have hm : (i : Int) ∈ x.gray := hp.mem_iff.2 ((valsTo_mem _ _ _ _).2 ⟨i, hi, by simp [isGray, e], rfl⟩)
      have h6 := List.count_pos_iff.2 hm
      rw [List.nodup_iff_count] at h5
      have := h5 (i : Int)
      unfold cnt; omega
    · unfold cnt
      rw [List.count_eq_zero]
      intro hm
      have := (h4 _ hm).2
      simp at this
      exact e this
end Go.Proofs.YtbcmjcomdjdjaaaGreat

namespace Go.Proofs.YtbcmjcomdjdjaaaGreat
open Go.RowKit
attribute [local go_sem ↓] Go.wp_at_zero Go.wp_at_succ

set_option maxRecDepth 100000 in
set_option maxHeartbeats 1000000 in
theorem swap_ne (w : World) (bq oq g og n cap i j : Nat) (xi xj : Int) (hf : w.cell? ⟨bq, oq, none⟩ = some (.slice (some ⟨g, og, none⟩) n cap)) (ci : w.cell? ⟨g, og + i, none⟩ = some (iv xi)) (cj : w.cell? ⟨g, og + j, none⟩ = some (iv xj)) (fi : w.frozen? ⟨g, og + i, none⟩ = false) (fj : w.frozen? ⟨g, og + j, none⟩ = false) (hi : i < n) (hj : j < n) (hij : i ≠ j) :
    Calls Tryz.prog 128 #[.pointer (some ⟨bq, oq, none⟩), .int .i64 i, .int .i64 j] w fun e w' => e = .returned (.tuple #[]) ∧ w'.heap = ((w.setCell ⟨g, og + i, none⟩ (iv xj)).setCell ⟨g, og + j, none⟩ (iv xi)).heap ∧ w'.os = w.os ∧ w'.tape = w.tape ∧ w'.output = w.output := by
  have hi0 : (0 : Int) ≤ (i : Int) := by omega
  have hi1 : (i : Int) < (n : Int) := by omega
  have hj0 : (0 : Int) ≤ (j : Int) := by omega
  have hj1 : (j : Int) < (n : Int) := by omega
  go_enter Tryz.func128, Tryz.ntmps128
  go_wp2
  go_region
  all_goals go_end0
  all_goals exact ⟨rfl, rfl, rfl, rfl, rfl⟩

set_option maxRecDepth 100000 in
set_option maxHeartbeats 1000000 in
theorem swap_eq (w : World) (bq oq g og n cap i : Nat) (xi : Int) (hf : w.cell? ⟨bq, oq, none⟩ = some (.slice (some ⟨g, og, none⟩) n cap)) (ci : w.cell? ⟨g, og + i, none⟩ = some (iv xi)) (fi : w.frozen? ⟨g, og + i, none⟩ = false) (hi : i < n) :
    Calls Tryz.prog 128 #[.pointer (some ⟨bq, oq, none⟩), .int .i64 i, .int .i64 i] w fun e w' => e = .returned (.tuple #[]) ∧ w'.heap = ((w.setCell ⟨g, og + i, none⟩ (iv xi)).setCell ⟨g, og + i, none⟩ (iv xi)).heap ∧ w'.os = w.os ∧ w'.tape = w.tape ∧ w'.output = w.output := by
  have hi0 : (0 : Int) ≤ (i : Int) := by omega
  have hi1 : (i : Int) < (n : Int) := by omega
  go_enter Tryz.func128, Tryz.ntmps128
  go_wp2
  go_region
  all_goals go_end0
  all_goals exact ⟨rfl, rfl, rfl, rfl, rfl⟩

theorem first_none (w : World) (bq oq : Nat) (ad : Option Addr) (cap : Nat) (hf : w.cell? ⟨bq, oq, none⟩ = some (.slice ad 0 cap)) :
    Calls Tryz.prog 159 #[.pointer (some ⟨bq, oq, none⟩)] w fun e w' => e = .returned (.tuple #[.int .i64 0, .bool false]) ∧ w' = w := by
  go_enter Tryz.func159, Tryz.ntmps159
  go_wp2
  go_ret2
  exact ⟨rfl, rfl⟩

theorem first_some (w : World) (bq oq g og n cap : Nat) (x0 : Int) (hn : 0 < n) (hf : w.cell? ⟨bq, oq, none⟩ = some (.slice (some ⟨g, og, none⟩) n cap)) (c0 : w.cell? ⟨g, og, none⟩ = some (iv x0)) :
    Calls Tryz.prog 159 #[.pointer (some ⟨bq, oq, none⟩)] w fun e w' => e = .returned (.tuple #[.int .i64 x0, .bool true]) ∧ w' = w := by
  have h0 : ((n : Int) == 0) = false := beq_eq_false_iff_ne.2 (by omega)
  have h1 : (0 : Int) < (n : Int) := by omega
  go_enter Tryz.func159, Tryz.ntmps159
  go_wp2
  go_ret2
  exact ⟨rfl, rfl⟩
end Go.Proofs.YtbcmjcomdjdjaaaGreat
