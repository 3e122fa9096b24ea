import Derived.Test.YtddkhnclmeikfacGreatDoorYc
namespace Go.Proofs.YtddkhnclmeikfacGreatDoor
open Go.RowKit
attribute [local go_sem ↓] Go.wp_at_zero Go.wp_at_succ

/-! The model's numbers. -/
def nP (l : List UInt8) (i : Nat) : Int := if l.head? = some 45 then -(valF 0 ((l.take i).drop 1) : Int) else (valF 0 (l.take i) : Int)
theorem nP_end (l : List UInt8) : nP l l.length = numV l := by
  unfold nP numV
  rw [List.take_length]
  split
  · rw [List.drop_one]
  · rfl
theorem nP_zero (l : List UInt8) : nP l 0 = 0 := by unfold nP valF; split <;> simp
theorem nP_sign (l : List UInt8) (h : l.head? = some 45) : nP l 1 = 0 := by
  unfold nP valF
  rw [if_pos h]
  have : (l.take 1).drop 1 = [] := List.drop_eq_nil_of_le (by simp; omega)
  rw [this]; rfl
theorem nP_neg (l : List UInt8) (i : Nat) (hi : i < l.length) (h0 : 1 ≤ i) (h : l.head? = some 45) (hd : Dig l[i]) : nP l (i + 1) = nP l i * 10 - ((l[i].toNat : Int) - 48) := by
  unfold nP
  rw [if_pos h, if_pos h, take_drop_succ l i 1 hi h0, valF_app]
  unfold Dig at hd
  omega
theorem nP_pos (l : List UInt8) (i : Nat) (hi : i < l.length) (h : ¬ l.head? = some 45) (hd : Dig l[i]) : nP l (i + 1) = nP l i * 10 + ((l[i].toNat : Int) - 48) := by
  unfold nP
  have := take_drop_succ l i 0 hi (Nat.zero_le _)
  simp only [List.drop_zero] at this
  rw [if_neg h, if_neg h, this, valF_app]
  unfold Dig at hd
  omega
abbrev wr64 (n : Int) : Int := wrap64 n
theorem wr64_in (n : Int) : InI (wr64 n) := by unfold InI wr64 wrap64; omega
theorem wr64_id {n : Int} (h : InI n) : wr64 n = n := by unfold InI at h; unfold wr64 wrap64; omega
theorem wr64_sub (n d : Int) : wr64 (wr64 (wr64 n * 10) - d) = wr64 (n * 10 - d) := by unfold wr64 wrap64; omega
theorem wr64_add (n d : Int) : wr64 (wr64 (wr64 n * 10) + d) = wr64 (n * 10 + d) := by unfold wr64 wrap64; omega
/-- what the model's reading of a number comes to -/
theorem num_yes (l : List UInt8) (n : Int) (hn : n = wr64 (numV l)) : (l == Lib.itoa n) = numB l ∧ (numB l = true → n = numV l) := by
  have hi : InI n := hn ▸ wr64_in _
  have key : numB l = true → n = numV l := fun h => by
    have := ((numB_iff l).1 h).1
    rw [hn, wr64_id this]
  refine ⟨?_, key⟩
  cases q : numB l with
  | true =>
    have h1 := (numB_iff l).1 q
    rw [key q, ← h1.2]; simp
  | false =>
    cases q2 : (l == Lib.itoa n) with
    | false => rfl
    | true =>
      have e : l = Lib.itoa n := by simpa using q2
      have := (numB_of (l := l) (n := n) ⟨hi, e⟩).1
      rw [q] at this; cases this
theorem num_no (l : List UInt8) (i : Nat) (hi : i < l.length) (hd : ¬ Dig l[i]) (h : i ≠ 0 ∨ l[i] ≠ 45) : numB l = false := by
  cases q : numB l with
  | false => rfl
  | true =>
    have h1 := (numB_iff l).1 q
    have h2 : (Lib.itoa (numV l))[i]? = some l[i] := by rw [← h1.2]; exact List.getElem?_eq_getElem hi
    rcases itoa_bytes _ _ _ h2 with h3 | ⟨h3, h4⟩
    · exact absurd h3 hd
    · rcases h with h | h
      · exact absurd h3 h
      · exact absurd h4 h
set_option maxRecDepth 100000 in
set_option maxHeartbeats 600000 in
theorem l7number_any (l : List UInt8) (hl : l.length ≤ 20000) (w : World) : Calls Tryz.prog 112 #[.string (sB l)] w fun e w' => ∃ n : Int, Hid (e = .returned (.tuple #[.int .i64 n, .bool (numB l)])) ∧ Hid (numB l = true → n = numV l) ∧ Hid (InI n) ∧ Ext w w' := by
  go_enter Tryz.func112, Tryz.ntmps112
  go_wp2_with fail
  go_loopw [4, 5] (fun n i wr => ∃ (k : Nat) (m : Int), i = .int .i64 k ∧ n = .int .i64 m ∧ k ≤ l.length ∧ Hid (m = wr64 (nP l k)) ∧ wr = w) (fun _ i _ => l.length - (intOf i).toNat)
  case atStart => exact ⟨0, 0, rfl, rfl, Nat.zero_le _, hide (by rw [nP_zero]; exact (wr64_id (n := 0) ⟨by omega, by omega⟩).symm), rfl⟩
  case round =>
    obtain ⟨k, m, rfl, rfl, hk, hm, rfl⟩ := hrel
    by_cases hlt : k < l.length
    · have hs : k < (sB l).size := by simpa [ByteArray.size] using hlt
      have h0s : 0 < (sB l).size := by omega
      have gk : ((sB l)[k]'hs) = l[k] := rfl
      have HD := hide (show l.head? = some (l[0]'(by omega)) by cases l with | nil => simp at hlt | cons a r => rfl)
      have g0 : ((sB l)[0]'h0s) = l[0]'(by omega) := rfl
      by_cases d1 : 48 ≤ (((sB l)[k]'hs).toNat : Int)
      · by_cases d2 : (((sB l)[k]'hs).toNat : Int) ≤ 57
        · have DG := hide (show Dig l[k] by rw [gk] at d1 d2; unfold Dig; omega)
          cases q : ((((sB l)[0]'h0s).toNat : Int) == 45)
          · have NH := hide (show ¬ l.head? = some 45 by
              rw [unhide HD]
              intro e
              have e2 : l[0]'(by omega) = 45 := by simpa using e
              rw [g0, e2] at q; simp at q)
            have NX := hide (nP_pos l k hlt (unhide NH) (unhide DG))
            clear gk g0
            go_wp2_with fail
            refine ⟨⟨k + 1, _, rfl, rfl, by omega, hide ?_, trivial⟩, by simp [intOf]; omega⟩
            rw [unhide NX, unhide hm, show ((sB l)[k]'hs) = l[k] from rfl]
            exact wr64_add (nP l k) ((l[k].toNat : Int) - 48)
          · have NH := hide (show l.head? = some 45 by
              rw [unhide HD]
              have e2 : ((sB l)[0]'h0s).toNat = 45 := by simp at q; omega
              rw [g0] at e2
              rw [UInt8.toNat_inj.1 (show (l[0]'(by omega)).toNat = (45 : UInt8).toNat from e2)])
            have K0 := hide (show 1 ≤ k from Nat.pos_of_ne_zero (fun e => by
              subst e
              have e2 : ((sB l)[0]'h0s).toNat = 45 := by simp at q; omega
              omega))
            have NX := hide (nP_neg l k hlt (unhide K0) (unhide NH) (unhide DG))
            clear gk g0
            go_wp2_with fail
            refine ⟨⟨k + 1, _, rfl, rfl, by omega, hide ?_, trivial⟩, by simp [intOf]; omega⟩
            rw [unhide NX, unhide hm, show ((sB l)[k]'hs) = l[k] from rfl]
            exact wr64_sub (nP l k) ((l[k].toNat : Int) - 48)
        · have ND := hide (show ¬ Dig l[k] by rw [gk] at d2; unfold Dig; omega)
          have NB := hide (num_no l k hlt (unhide ND) (.inr (fun e => by rw [gk, e] at d2; exact d2 (by decide))))
          by_cases k0 : k = 0
          · subst k0
            have ne45 : ((((sB l)[0]'hs).toNat : Int) != 45) = true := by simp; omega
            clear gk g0
            go_wp2_with fail
            go_ret2
            exact ⟨0, hide (by rw [unhide NB]; rfl), hide (fun h => by rw [unhide NB] at h; cases h), hide ⟨by decide, by decide⟩, Ext.refl _⟩
          · have hk0 : (0 : Int) < (k : Int) := by omega
            clear gk g0
            go_wp2_with fail
            go_ret2
            exact ⟨0, hide (by rw [unhide NB]; rfl), hide (fun h => by rw [unhide NB] at h; cases h), hide ⟨by decide, by decide⟩, Ext.refl _⟩
      · have ND := hide (show ¬ Dig l[k] by rw [gk] at d1; unfold Dig; omega)
        by_cases k0 : k = 0
        · subst k0
          cases q : ((((sB l)[0]'hs).toNat : Int) != 45)
          · have NH := hide (show l.head? = some 45 by
              rw [unhide HD]
              have e2 : ((sB l)[0]'hs).toNat = 45 := by simp at q; omega
              rw [gk] at e2
              rw [UInt8.toNat_inj.1 (show (l[0]'(by omega)).toNat = (45 : UInt8).toNat from e2)])
            clear gk g0
            go_wp2_with fail
            refine ⟨⟨1, _, rfl, rfl, by omega, hide ?_, trivial⟩, by simp [intOf]; omega⟩
            rw [nP_sign l (unhide NH), unhide hm, nP_zero]
          · have NB := hide (num_no l 0 hlt (unhide ND) (.inr (fun e => by rw [gk, e] at q; simp at q)))
            clear gk g0
            go_wp2_with fail
            go_ret2
            exact ⟨0, hide (by rw [unhide NB]; rfl), hide (fun h => by rw [unhide NB] at h; cases h), hide ⟨by decide, by decide⟩, Ext.refl _⟩
        · have NB := hide (num_no l k hlt (unhide ND) (.inl k0))
          have hk0 : (0 : Int) < (k : Int) := by omega
          clear gk g0
          go_wp2_with fail
          go_ret2
          exact ⟨0, hide (by rw [unhide NB]; rfl), hide (fun h => by rw [unhide NB] at h; cases h), hide ⟨by decide, by decide⟩, Ext.refl _⟩
    · have e : k = l.length := by omega
      have HM := hide (show m = wr64 (numV l) by rw [← nP_end, ← e]; exact unhide hm)
      have IM := hide (show InI m by rw [unhide HM]; exact wr64_in _)
      have QD := hide (fun W => l7decimal_any m (unhide IM).1 (unhide IM).2 W)
      have NY := hide (num_yes l m (unhide HM))
      clear e
      go_wp2_with (go_at_call 56; refine (unhide QD _).mono ?_; rintro e w2 ⟨rfl, x2⟩)
      go_ret2
      exact ⟨m, hide (by rw [← (unhide NY).1]; rfl), hide (unhide NY).2, unhide IM, x2⟩
end Go.Proofs.YtddkhnclmeikfacGreatDoor
