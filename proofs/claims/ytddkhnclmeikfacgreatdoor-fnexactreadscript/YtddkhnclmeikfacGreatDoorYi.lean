import Derived.Test.YtddkhnclmeikfacGreatDoorYh
import Derived.Lib.Split
import Derived.Lib.ParseIntB
namespace Go.Proofs.YtddkhnclmeikfacGreatDoor

/-! What the library's Cut, Split and ParseInt say of a text (mathematics alone). -/
theorem index_one_none (c : UInt8) (l : List UInt8) (h : ∀ x ∈ l, x ≠ c) : Lib.index l [c] = -1 := by
  induction l with
  | nil => rfl
  | cons b r ih =>
    have h1 := ih (fun x hx => h x (List.mem_cons_of_mem _ hx))
    have h2 := h b (List.mem_cons_self ..)
    unfold Lib.index
    rw [h1]
    have : ([c] : List UInt8).isPrefixOf (b :: r) = false := by simp [List.isPrefixOf, Ne.symm h2]
    simp [this]
theorem index_one_some (c : UInt8) (a b : List UInt8) (h : ∀ x ∈ a, x ≠ c) : Lib.index (a ++ c :: b) [c] = (a.length : Int) := by
  induction a with
  | nil => unfold Lib.index; simp [List.isPrefixOf]
  | cons d r ih =>
    have h1 := ih (fun x hx => h x (List.mem_cons_of_mem _ hx))
    have h2 := h d (List.mem_cons_self ..)
    rw [List.cons_append]
    unfold Lib.index
    rw [h1]
    have : ([c] : List UInt8).isPrefixOf (d :: (r ++ c :: b)) = false := by simp [List.isPrefixOf, Ne.symm h2]
    rw [this]
    have h3 : ((r.length : Int) == -1) = false := by rw [beq_eq_false_iff_ne]; omega
    simp [h3]
theorem first_of (c : UInt8) (l : List UInt8) : (∀ x ∈ l, x ≠ c) ∨ ∃ a b, l = a ++ c :: b ∧ ∀ x ∈ a, x ≠ c := by
  induction l with
  | nil => exact .inl (by simp)
  | cons d r ih =>
    by_cases e : d = c
    · exact .inr ⟨[], r, by rw [e]; rfl, by simp⟩
    · rcases ih with ih | ⟨a, b, h1, h2⟩
      · refine .inl (fun x hx => ?_)
        rcases List.mem_cons.1 hx with rfl | hx
        · exact e
        · exact ih x hx
      · refine .inr ⟨d :: a, b, by rw [h1]; rfl, fun x hx => ?_⟩
        rcases List.mem_cons.1 hx with rfl | hx
        · exact e
        · exact h2 x hx
theorem cut_some {l a b : List UInt8} (h : cutN l = some (a, b)) : Lib.cut l [10] = (a, b, true) := by
  rcases first_of 10 l with h1 | ⟨a', b', h1, h2⟩
  · rw [cutN_none l h1] at h; cases h
  · rw [h1, cutN_seg a' b' h2] at h
    cases h
    unfold Lib.cut
    rw [h1, index_one_some 10 a b h2, if_pos (by omega)]
    simp
theorem cut_none {l : List UInt8} (h : cutN l = none) : Lib.cut l [10] = (l, [], false) := by
  rcases first_of 10 l with h1 | ⟨a', b', h1, h2⟩
  · unfold Lib.cut
    rw [index_one_none 10 l h1, if_neg (by omega)]
  · rw [h1, cutN_seg a' b' h2] at h; cases h
theorem split_words (n : Nat) : ∀ l : List UInt8, l.length ≤ n → Lib.splitK [32] 0 (Lib.count l [32]) l = wordsL l := by
  induction n with
  | zero =>
    intro l hl
    have : l = [] := List.length_eq_zero_iff.1 (by omega)
    subst this
    rfl
  | succ n ih =>
    intro l hl
    rcases first_of 32 l with h1 | ⟨a, b, h1, h2⟩
    · have hi := index_one_none 32 l h1
      rw [Lib.count_miss hi, words_one l h1]; rfl
    · have hi := index_one_some 32 a b h2
      rw [← h1] at hi
      have hlen : l.length = a.length + 1 + b.length := by rw [h1]; simp; omega
      have hd : l.drop (a.length + 1) = b := by rw [h1]; simp
      have ht : l.take (a.length + 0) = a := by rw [h1]; simp
      have hc : Lib.count l [32] = Lib.count b [32] + 1 := by
        rw [Lib.count_hit (sub := [32]) (by simp) hi, List.length_singleton, hd]; omega
      rw [hc]
      unfold Lib.splitK
      rw [hi]
      have h3 : ((a.length : Int) == -1) = false := by rw [beq_eq_false_iff_ne]; omega
      rw [if_neg (by simp [h3])]
      simp only [Int.toNat_natCast, List.length_singleton]
      rw [hd, ht, ih b (by omega), h1, words_seg a b h2]
theorem parse_val {M : Nat} (hM : M ≤ 18446744073709551615) : ∀ (l : List UInt8) (acc : Nat), (∀ c ∈ l, Dig c) → valF acc l ≤ M → Lib.parseUintM M acc l = .ok (valF acc l)
  | [], acc, _, _ => rfl
  | c :: r, acc, hd, hv => by
    have h1 := hd c (List.mem_cons_self ..)
    have h2 : ∀ (l : List UInt8) (x : Nat), x ≤ valF x l := by
      intro l
      induction l with
      | nil => intro x; exact Nat.le_refl _
      | cons d s ih =>
        intro x
        have := ih (x * 10 + (d.toNat - 48))
        show x ≤ valF (x * 10 + (d.toNat - 48)) s
        omega
    have h3 : valF acc (c :: r) = valF (acc * 10 + (c.toNat - 48)) r := rfl
    rw [h3] at hv ⊢
    have h4 := h2 r (acc * 10 + (c.toNat - 48))
    unfold Lib.parseUintM
    unfold Dig at h1
    rw [if_pos h1, if_neg (by omega), if_neg (by omega)]
    exact parse_val hM r _ (fun x hx => hd x (List.mem_cons_of_mem _ hx)) hv
theorem parse_itoa {n : Int} (h : InI n) : Lib.parseIntB 64 (Lib.itoa n) = .ok n := by
  unfold InI at h
  unfold Lib.itoa
  by_cases hn : n < 0
  · rw [if_pos hn]
    have hd := dec_val n.natAbs
    have hp := parse_val (M := 2 ^ 64 - 1) (by decide) (Lib.decDigits n.natAbs) 0 hd.2.1 (by rw [hd.1]; omega)
    have p : (2 : Nat) ^ (64 - 1) = 9223372036854775808 := by decide
    have hk : (if UInt8.toNat 45 = 43 ∨ UInt8.toNat 45 = 45 then Lib.decDigits n.natAbs else 45 :: Lib.decDigits n.natAbs) = Lib.decDigits n.natAbs := if_pos (Or.inr (by decide))
    unfold Lib.parseIntB Lib.parseUintB
    simp only
    rw [hk, if_neg hd.2.2, hp, hd.1]
    simp only
    rw [p, if_neg (fun h2 => h2.1 (by decide)), if_neg (by intro h2; omega), if_pos (by decide)]
    congr 1; omega
  · rw [if_neg hn]
    have hd := dec_val n.toNat
    have hp := parse_val (M := 2 ^ 64 - 1) (by decide) (Lib.decDigits n.toNat) 0 hd.2.1 (by rw [hd.1]; omega)
    cases q : Lib.decDigits n.toNat with
    | nil => exact absurd q hd.2.2
    | cons c r =>
      have h1 := hd.2.1 c (by rw [q]; exact List.mem_cons_self ..)
      unfold Dig at h1
      have p : (2 : Nat) ^ (64 - 1) = 9223372036854775808 := by decide
      have h2 : ¬ c.toNat = 45 := by omega
      unfold Lib.parseIntB Lib.parseUintB
      simp only
      rw [if_neg (show ¬ (c.toNat = 43 ∨ c.toNat = 45) by omega), if_neg (by simp), ← q, hp, hd.1]
      simp only
      rw [p, if_neg (by intro h3; omega), if_neg (fun h3 => h2 h3.1), if_neg h2]
      congr 1; omega
theorem parse_in {l : List UInt8} {n : Int} (h : Lib.parseIntB 64 l = .ok n) : InI n := by
  unfold Lib.parseIntB at h
  cases l with
  | nil => cases h
  | cons c r =>
    simp only at h
    split at h
    · cases h
    · cases h
    · rename_i u _
      split at h
      · cases h
      · split at h
        · cases h
        · rename_i h1 h2
          have e := Lib.NumEnd.ok.inj h
          unfold InI
          rw [← e]
          simp only [not_and] at h1 h2
          split
          · rename_i h3; have := h2 h3; omega
          · rename_i h3; have := h1 h3; omega
end Go.Proofs.YtddkhnclmeikfacGreatDoor
