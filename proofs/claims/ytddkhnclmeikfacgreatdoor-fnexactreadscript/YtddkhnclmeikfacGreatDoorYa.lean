import Derived.Test.YtddkhnclmeikfacGreatDoorXd
namespace Go.Proofs.YtddkhnclmeikfacGreatDoor

/-! What a text of a script is: lines, words, numbers (mathematics alone). -/
/-- a text cut at its first newline -/
def cutN : List UInt8 → Option (List UInt8 × List UInt8)
  | [] => none
  | c :: r => if c = 10 then some ([], r) else (cutN r).map (fun x => (c :: x.1, x.2))
/-- a line cut at its blanks -/
def wordsL : List UInt8 → List (List UInt8)
  | [] => [[]]
  | c :: r => if c = 32 then [] :: wordsL r else match wordsL r with
    | [] => [[c]]
    | h :: t => (c :: h) :: t
theorem words_ne (l : List UInt8) : wordsL l ≠ [] := by
  cases l with
  | nil => simp [wordsL]
  | cons c r =>
    unfold wordsL
    split
    · simp
    · split <;> simp
theorem cutN_len {l a b : List UInt8} (h : cutN l = some (a, b)) : l.length = a.length + 1 + b.length := by
  induction l generalizing a b with
  | nil => simp [cutN] at h
  | cons c r ih =>
    unfold cutN at h
    split at h
    · cases h; simp; omega
    · cases q : cutN r with
      | none => rw [q] at h; simp at h
      | some x =>
        rw [q] at h
        simp at h
        obtain ⟨rfl, rfl⟩ := h
        have := ih q
        simp; omega
theorem cutN_eq {l a b : List UInt8} (h : cutN l = some (a, b)) : l = a ++ 10 :: b := by
  induction l generalizing a b with
  | nil => simp [cutN] at h
  | cons c r ih =>
    unfold cutN at h
    split at h
    · rename_i hc; cases h; rw [hc]; rfl
    · cases q : cutN r with
      | none => rw [q] at h; simp at h
      | some x =>
        rw [q] at h
        simp at h
        obtain ⟨rfl, rfl⟩ := h
        rw [ih q]; rfl
/-- what digits come to -/
def valF (acc : Nat) (l : List UInt8) : Nat := l.foldl (fun a c => a * 10 + (c.toNat - 48)) acc
def Dig (c : UInt8) : Prop := 48 ≤ c.toNat ∧ c.toNat ≤ 57
theorem valF_app (acc : Nat) (l : List UInt8) (c : UInt8) : valF acc (l ++ [c]) = valF acc l * 10 + (c.toNat - 48) := by unfold valF; rw [List.foldl_append]; rfl
theorem dig_ofNat (u : Nat) (h : u < 10) : (UInt8.ofNat (48 + u)).toNat = 48 + u := by simp [UInt8.toNat_ofNat']; omega
theorem dec_val (u : Nat) : valF 0 (Lib.decDigits u) = u ∧ (∀ c ∈ Lib.decDigits u, Dig c) ∧ Lib.decDigits u ≠ [] := by
  induction u using Nat.strongRecOn with
  | _ u ih =>
    rw [Lib.decDigits]
    by_cases h : u < 10
    · rw [dif_pos h]
      refine ⟨?_, ?_, by simp⟩
      · simp [valF]; omega
      · intro c hc
        rw [List.mem_singleton.1 hc]
        unfold Dig
        rw [dig_ofNat u h]; omega
    · rw [dif_neg h]
      have hi := ih (u / 10) (by omega)
      have hd := dig_ofNat (u % 10) (by omega)
      refine ⟨?_, ?_, by simp⟩
      · rw [valF_app, hi.1, hd]; omega
      · intro c hc
        rcases List.mem_append.1 hc with hc | hc
        · exact hi.2.1 c hc
        · rw [List.mem_singleton.1 hc]
          unfold Dig
          rw [hd]; omega
/-- the number that a word spells, if it spells one -/
def numV (l : List UInt8) : Int := if l.head? = some 45 then -(valF 0 l.tail : Int) else (valF 0 l : Int)
def InI (n : Int) : Prop := -9223372036854775808 ≤ n ∧ n ≤ 9223372036854775807
theorem numV_itoa (n : Int) : numV (Lib.itoa n) = n := by
  unfold numV Lib.itoa
  by_cases h : n < 0
  · rw [if_pos h]
    simp only [List.head?_cons, if_true, List.tail_cons]
    rw [(dec_val n.natAbs).1]; omega
  · rw [if_neg h]
    have hd := dec_val n.toNat
    rw [if_neg, hd.1]
    · omega
    · intro e
      cases q : Lib.decDigits n.toNat with
      | nil => exact hd.2.2 q
      | cons c r =>
        rw [q] at e hd
        simp at e
        have := hd.2.1 c (List.mem_cons_self ..)
        unfold Dig at this
        rw [e] at this
        exact absurd this.1 (by decide)
/-- a word of a number: told in its one form -/
def NumIs (l : List UInt8) (n : Int) : Prop := InI n ∧ l = Lib.itoa n
theorem NumIs.val {l : List UInt8} {n : Int} (h : NumIs l n) : numV l = n := by rw [h.2]; exact numV_itoa n
def numB (l : List UInt8) : Bool := decide (-9223372036854775808 ≤ numV l) && (decide (numV l ≤ 9223372036854775807) && (l == Lib.itoa (numV l)))
theorem numB_iff (l : List UInt8) : numB l = true ↔ NumIs l (numV l) := by
  unfold numB NumIs InI
  simp [and_assoc]
theorem numB_of {l : List UInt8} {n : Int} (h : NumIs l n) : numB l = true ∧ numV l = n := ⟨(numB_iff l).2 (by rw [h.val]; exact h), h.val⟩
/-- the sign of a byte in a number's word -/
theorem itoa_bytes (n : Int) (i : Nat) (c : UInt8) (h : (Lib.itoa n)[i]? = some c) : Dig c ∨ (i = 0 ∧ c = 45) := by
  unfold Lib.itoa at h
  by_cases hn : n < 0
  · rw [if_pos hn] at h
    cases i with
    | zero => simp at h; exact .inr ⟨rfl, h.symm⟩
    | succ i =>
      rw [List.getElem?_cons_succ] at h
      exact .inl ((dec_val n.natAbs).2.1 c (List.mem_of_getElem? h))
  · rw [if_neg hn] at h
    exact .inl ((dec_val n.toNat).2.1 c (List.mem_of_getElem? h))
end Go.Proofs.YtddkhnclmeikfacGreatDoor
