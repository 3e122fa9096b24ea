import Derived.Test.YtbcmjcomdjdjaaaGreatBase
namespace Go.Proofs.YtbcmjcomdjdjaaaGreat

/-! The lexical order of a great region's operations, asked by rows: what each writes, what it looks at, what it waits for. -/
abbrev Rw := Option Tmp × List Tmp × List Nat
def rowOf (md : Region.Mode) (ops : Array Oper) (o : Oper) : Rw := (o.dst, o.looksAt ops, (o.after.toList.filter (fun e => Region.binds md e)).map (·.on))
def apartR (x y : Rw) : Bool :=
  (match x.1 with
   | some d => !y.2.1.contains d && y.1 != some d
   | none => true) &&
  (match y.1 with
   | some d => !x.2.1.contains d
   | none => true)
theorem apartR_eq (md : Region.Mode) (ops : Array Oper) (x y : Oper) : apartR (rowOf md ops x) (rowOf md ops y) = x.apart ops y := rfl
def lexR : Nat → List Rw → Bool
  | _, [] => true
  | k, r :: rs => r.2.2.all (fun i => Nat.blt i k) && rs.all (fun s => s.2.2.contains k || apartR r s) && lexR (k + 1) rs

theorem lexFrom_rows (md : Region.Mode) (ops : Array Oper) : ∀ (l : List Oper) (k : Nat) (listed : Array Bool), k + l.length = ops.size → (∀ j, l[j]? = ops[k + j]?) → listed.size = ops.size → (∀ j, j < ops.size → listed[j]? = some (decide (j < k))) →
    lexR k (l.map (rowOf md ops)) = true → Region.lexFrom md ops l.length k listed = true
  | [], k, listed, hk, _, hs, hl, _ => by
    simp at hk
    simp only [List.length_nil, Region.lexFrom, List.isEmpty_iff, Region.ready, List.filter_eq_nil_iff, List.mem_range]
    intro i hi
    have := hl i hi
    simp [this, hk, hi]
  | o :: l, k, listed, hk, ho, hs, hl, h => by
    simp at hk
    have h0 : ops[k]? = some o := by simpa using (ho 0).symm
    have hkn : k < ops.size := by omega
    simp only [List.map_cons, lexR, Bool.and_eq_true, List.all_eq_true] at h
    obtain ⟨⟨ha, hb⟩, hc⟩ := h
    simp only [List.length_cons, Region.lexFrom, Bool.and_eq_true]
    refine ⟨⟨?_, ?_⟩, ?_⟩
    · simp only [List.contains_eq_mem, decide_eq_true_eq, Region.ready, List.mem_filter, List.mem_range]
      refine ⟨hkn, ?_⟩
      have h1 := hl k hkn
      simp only [Array.getD_eq_getD_getElem?, h1, h0]
      simp only [Nat.lt_irrefl, decide_false, Option.getD_some, Bool.not_false, Option.map_some, Bool.true_and, Array.all_eq_true_iff_forall_mem]
      intro e he
      by_cases hbd : Region.binds md e = true
      · have := ha e.on (by simp only [rowOf, List.mem_map, List.mem_filter]; exact ⟨e, ⟨by simpa using he, hbd⟩, rfl⟩)
        have hlt : e.on < k := Nat.le_of_ble_eq_true this
        have h2 := hl e.on (by omega)
        simp [h2, hlt]
      · simp [hbd]
    · simp only [Region.free, h0, List.all_eq_true, List.mem_range]
      intro j hj
      by_cases e1 : j = k
      · simp [e1]
      · by_cases e2 : j < k
        · have := hl j hj
          simp [this, e2]
        · obtain ⟨oj, hoj⟩ : ∃ oj, ops[j]? = some oj := ⟨_, Array.getElem?_eq_getElem hj⟩
          have hm : oj ∈ l := by
            have := ho (j - k)
            rw [show k + (j - k) = j by omega, hoj, show j - k = (j - k - 1) + 1 by omega, List.getElem?_cons_succ] at this
            exact List.mem_of_getElem? this
          have := hb (rowOf md ops oj) (List.mem_map_of_mem hm)
          rw [apartR_eq, Bool.or_eq_true] at this
          simp only [hoj, Bool.or_eq_true]
          rcases this with h3 | h3
          · refine .inr (.inl ?_)
            simp only [rowOf, List.contains_eq_mem, decide_eq_true_eq, List.mem_map, List.mem_filter] at h3
            obtain ⟨e, ⟨he, hbd⟩, hon⟩ := h3
            rw [Array.any_eq_true']
            exact ⟨e, by simpa using he, by simp [hbd, hon]⟩
          · exact .inr (.inr h3)
    · refine lexFrom_rows md ops l (k + 1) _ (by omega) (fun j => ?_) (by simpa using hs) (fun j hj => ?_) hc
      · have := ho (j + 1)
        rw [List.getElem?_cons_succ] at this
        rw [this, show k + (j + 1) = k + 1 + j by omega]
      · rw [Array.getElem?_setIfInBounds]
        by_cases e : k = j
        · subst e
          rw [if_pos rfl, if_pos (by omega)]
          simp
        · rw [if_neg e, hl j hj]
          congr 1
          exact decide_eq_decide.2 (by omega)

theorem lexB_rows (md : Region.Mode) (ops : Array Oper) (hs : Region.noSelect ops = true) (h : lexR 0 (ops.toList.map (rowOf md ops)) = true) : Region.lexB md ops = true := by
  simp only [Region.lexB, hs, Bool.true_and]
  have := lexFrom_rows md ops ops.toList 0 (Array.replicate ops.size false) (by simp) (by simp) (by simp) (fun j hj => by simp [hj]) h
  simpa using this
end Go.Proofs.YtbcmjcomdjdjaaaGreat
