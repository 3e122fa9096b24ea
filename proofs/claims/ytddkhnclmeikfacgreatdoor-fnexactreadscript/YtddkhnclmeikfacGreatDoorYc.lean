import Derived.Test.YtddkhnclmeikfacGreatDoorYb
namespace Go.Proofs.YtddkhnclmeikfacGreatDoor
open Go.RowKit
attribute [local go_sem ↓] Go.wp_at_zero Go.wp_at_succ

/-! The model's words. -/
abbrev sB (l : List UInt8) : ByteArray := ⟨l.toArray⟩
def sC (l : List UInt8) : List Value := [.string (sB l)]
theorem infoStr : (Tryz.prog.info? 9).map (fun i => (i.zero, i.size, i.bytes)) = some (some (.string ByteArray.empty), 1, 16) := by kernel_rfl
theorem words_cons {c : UInt8} {r h : List UInt8} {t : List (List UInt8)} (hc : c ≠ 32) (hw : wordsL r = h :: t) : wordsL (c :: r) = (c :: h) :: t := by simp [wordsL, hc, hw]
theorem words_seg (a b : List UInt8) (h : ∀ c ∈ a, c ≠ 32) : wordsL (a ++ 32 :: b) = a :: wordsL b := by
  induction a with
  | nil => simp [wordsL]
  | cons c r ih =>
    have h1 := ih (fun x hx => h x (List.mem_cons_of_mem _ hx))
    have h2 := h c (List.mem_cons_self ..)
    rw [List.cons_append]
    exact words_cons h2 h1
theorem words_one (a : List UInt8) (h : ∀ c ∈ a, c ≠ 32) : wordsL a = [a] := by
  induction a with
  | nil => rfl
  | cons c r ih =>
    have h1 := ih (fun x hx => h x (List.mem_cons_of_mem _ hx))
    have h2 := h c (List.mem_cons_self ..)
    exact words_cons h2 h1
/-- where the cutting of a line stands -/
def WdI (l : List UInt8) (k at_ : Nat) (out : List (List UInt8)) : Prop := at_ ≤ k ∧ (∀ c ∈ (l.take k).drop at_, c ≠ 32) ∧ out ++ wordsL (l.drop at_) = wordsL l
theorem WdI.start (l : List UInt8) : WdI l 0 0 [] := ⟨Nat.le_refl _, by simp, by simp⟩
theorem take_drop_succ (l : List UInt8) (k a : Nat) (hk : k < l.length) (ha : a ≤ k) : (l.take (k + 1)).drop a = (l.take k).drop a ++ [l[k]] := by
  rw [List.take_succ_eq_append_getElem hk, List.drop_append_of_le_length (by simp; omega)]
theorem WdI.on {l : List UInt8} {k a : Nat} {out : List (List UInt8)} (h : WdI l k a out) (hk : k < l.length) (hc : l[k] ≠ 32) : WdI l (k + 1) a out := by
  refine ⟨by have := h.1; omega, fun c hx => ?_, h.2.2⟩
  rw [take_drop_succ l k a hk h.1] at hx
  rcases List.mem_append.1 hx with hx | hx
  · exact h.2.1 c hx
  · rw [List.mem_singleton.1 hx]; exact hc
theorem seg_split (l : List UInt8) (k a : Nat) (hk : k < l.length) (ha : a ≤ k) : l.drop a = (l.take k).drop a ++ l[k] :: l.drop (k + 1) := by
  have h1 : l = l.take k ++ l.drop k := (List.take_append_drop k l).symm
  have h2 : l.drop k = l[k] :: l.drop (k + 1) := List.drop_eq_getElem_cons hk
  have h3 : (l.take k ++ l.drop k).drop a = (l.take k).drop a ++ l.drop k := List.drop_append_of_le_length (by simp; omega)
  rw [← h1] at h3
  rw [h3, h2]
theorem WdI.cut {l : List UInt8} {k a : Nat} {out : List (List UInt8)} (h : WdI l k a out) (hk : k < l.length) (hc : l[k] = 32) : WdI l (k + 1) (k + 1) (out ++ [(l.take k).drop a]) := by
  refine ⟨Nat.le_refl _, fun c hx => ?_, ?_⟩
  · have : (l.take (k + 1)).drop (k + 1) = [] := List.drop_eq_nil_of_le (by simp; omega)
    rw [this] at hx; simp at hx
  · have h1 := h.2.2
    rw [seg_split l k a hk h.1, hc, words_seg _ _ h.2.1] at h1
    rw [← h1]; simp
theorem WdI.done {l : List UInt8} {a : Nat} {out : List (List UInt8)} (h : WdI l l.length a out) : out ++ [(l.take l.length).drop a] = wordsL l := by
  have h1 := h.2.1
  rw [List.take_length] at h1 ⊢
  rw [← h.2.2, words_one _ h1]
theorem WdI.len {l : List UInt8} {k a : Nat} {out : List (List UInt8)} (h : WdI l k a out) : out.length ≤ l.length + 1 := by
  have hw : ∀ m : List UInt8, (wordsL m).length ≤ m.length + 1 := by
    intro m
    induction m with
    | nil => simp [wordsL]
    | cons c r ih =>
      unfold wordsL
      split
      · simp; omega
      · split
        · simp
        · rename_i q; rw [q] at ih; simp at ih ⊢; omega
  have h1 := congrArg List.length h.2.2
  rw [List.length_append] at h1
  have := hw l
  omega
theorem sub_str (l : List UInt8) (a b : Nat) : (sB l).extract a b = sB ((l.take b).drop a) := by
  apply ByteArray.ext
  simp [sB, List.drop_take]
theorem own_strs {w : World} {B : Nat} {v : Value} {L : List (List UInt8)} (h : w.ownsRow B 9 1 v L.length (L.flatMap sC)) : ∃ ad cap, v = .slice ad L.length cap ∧ ∀ i (hi : i < L.length), ∃ g, ad = some ⟨g, 0, none⟩ ∧ w.cell? ⟨g, i, none⟩ = some (.string (sB L[i])) := by
  obtain ⟨ad, cap, e, _, hx⟩ := own_cells (f := sC) (fun _ => rfl) h
  refine ⟨ad, cap, e, fun i hi => ?_⟩
  obtain ⟨g, ea, _, hg, hc⟩ := hx i hi
  have := hc 0 (by simp)
  simp [sC] at this
  exact ⟨g, ea, this⟩
set_option maxRecDepth 100000 in
set_option maxHeartbeats 600000 in
theorem l7words_any (l : List UInt8) (hl : l.length ≤ 20000) (w : World) : Calls Tryz.prog 111 #[.string (sB l)] w fun e w' => ∃ v, Hid (e = .returned v) ∧ Hid (w'.ownsRow w.heap.size 9 1 v (wordsL l).length ((wordsL l).flatMap sC)) ∧ Ext w w' := by
  obtain ⟨i0, hi0, hz0, hz1, hz2⟩ := info_parts infoStr
  go_enter Tryz.func111, Tryz.ntmps111
  go_wp2_with fail
  go_loopw [3, 4, 5] (fun v a i wr => ∃ (k at_ : Nat) (out : List (List UInt8)), i = .int .i64 k ∧ a = .int .i64 at_ ∧ Hid ((k ≤ l.length ∧ WdI l k at_ out) ∨ (k = l.length + 1 ∧ out = wordsL l)) ∧ Hid (wr.ownsRow w.heap.size 9 1 v out.length (out.flatMap sC)) ∧ Ext w wr) (fun _ _ i _ => l.length + 1 - (intOf i).toNat)
  case atStart => exact ⟨0, 0, [], rfl, rfl, hide (.inl ⟨Nat.zero_le _, WdI.start l⟩), World.ownsRow_nil _ _ _ _, Ext.refl _⟩
  case round =>
    obtain ⟨k, at_, out, rfl, rfl, hI, hown, hbl⟩ := hrel
    by_cases hk : k ≤ l.length
    · have hw : WdI l k at_ out := by
        rcases unhide hI with h | h
        · exact h.2
        · have := h.1; omega
      have ha := hw.1
      have hol := hw.len
      by_cases hlt : k < l.length
      · have hs : k < (sB l).size := by simpa [ByteArray.size] using hlt
        have qa : ((k : Int) == (l.length : Int)) = false := by simp; omega
        cases q : ((((sB l)[k]'hs).toNat : Int) == 32)
        · have NX := hide (hw.on hlt (by
            intro e
            have e2 : ((sB l)[k]'hs).toNat = 32 := by rw [lt_get l k hlt hs, e]; rfl
            rw [e2] at q; simp at q))
          go_wp2_with fail
          go_roundw
          case rel => exact ⟨k + 1, at_, out, by go_num, rfl, hide (.inl ⟨by omega, unhide NX⟩), unhide hown, hbl⟩
          case measure => simp [intOf]; omega
        · have NX := hide (hw.cut hlt (by
            have e2 : ((sB l)[k]'hs).toNat = 32 := by simp at q; omega
            rw [lt_get l k hlt hs] at e2
            exact UInt8.toNat_inj.1 e2))
          go_wp2_with (at_builtin; refine wpList_append_lies _ rfl _ _ 172 rfl w.heap.size 9 i0 (.string ByteArray.empty) 1 16 Tryz.underlying172 hi0 hz0 hz1 hz2 rfl (by decide) _ out.length (out.flatMap sC) rfl ((unhide hown).alloc _) _ 1 1 (sC ((l.take k).drop at_)) rfl rfl ?c1 ?c2 (by decide) ?c3 ?c4 ?c5 _ rfl ?_)
          case c1 =>
            intro q u hk
            match q, hk with
            | 0, hk => simp [sC] at hk; subst hk; rw [← sub_str]; simp [Addr.add, go_sem]
            | q + 1, hk => simp [sC] at hk
          case c2 => intro u hu; simp [sC] at hu; subst hu; rfl
          case c3 => unfold maxLen; omega
          case c4 => omega
          case c5 => have := hbl.size; simp; omega
          intro g cap' w2 hown2 hgrow hat hglt
          have R := hide (show w2.ownsRow w.heap.size 9 1 (.slice (some ⟨g, 0, none⟩) (out.length + 1) cap') (out ++ [(l.take k).drop at_]).length ((out ++ [(l.take k).drop at_]).flatMap sC) by
            rw [List.flatMap_append]
            simpa using hown2)
          have X2 := hide (grown_ext (hbl.alloc _) ((unhide hown).alloc _) (Nat.le_refl _) hgrow)
          clear hown2 hgrow hat hown
          go_wp2_with fail
          go_roundw
          case rel => exact ⟨k + 1, k + 1, _, by go_num, by go_num, hide (.inl ⟨by omega, unhide NX⟩), unhide R, unhide X2⟩
          case measure => simp [intOf]; omega
      · have e : k = l.length := by omega
        have NX := hide (show out ++ [(l.take k).drop at_] = wordsL l by subst e; exact hw.done)
        have qa : ((k : Int) == (l.length : Int)) = true := by simp; omega
        clear hw hI e
        go_wp2_with (at_builtin; refine wpList_append_lies _ rfl _ _ 172 rfl w.heap.size 9 i0 (.string ByteArray.empty) 1 16 Tryz.underlying172 hi0 hz0 hz1 hz2 rfl (by decide) _ out.length (out.flatMap sC) rfl ((unhide hown).alloc _) _ 1 1 (sC ((l.take k).drop at_)) rfl rfl ?c1 ?c2 (by decide) ?c3 ?c4 ?c5 _ rfl ?_)
        case c1 =>
          intro q u hk
          match q, hk with
          | 0, hk => simp [sC] at hk; subst hk; rw [← sub_str]; simp [Addr.add, go_sem]
          | q + 1, hk => simp [sC] at hk
        case c2 => intro u hu; simp [sC] at hu; subst hu; rfl
        case c3 => unfold maxLen; omega
        case c4 => omega
        case c5 => have := hbl.size; simp; omega
        intro g cap' w2 hown2 hgrow hat hglt
        have R := hide (show w2.ownsRow w.heap.size 9 1 (.slice (some ⟨g, 0, none⟩) (out.length + 1) cap') (out ++ [(l.take k).drop at_]).length ((out ++ [(l.take k).drop at_]).flatMap sC) by
          rw [List.flatMap_append]
          simpa using hown2)
        have X2 := hide (grown_ext (hbl.alloc _) ((unhide hown).alloc _) (Nat.le_refl _) hgrow)
        clear hown2 hgrow hat hown
        go_wp2_with fail
        go_roundw
        case rel => exact ⟨k + 1, k + 1, _, by go_num, by go_num, hide (.inr ⟨by omega, unhide NX⟩), unhide R, unhide X2⟩
        case measure => simp [intOf]; omega
    · have e : out = wordsL l := by
        rcases unhide hI with h | h
        · omega
        · exact h.2
      subst e
      have FIN := hown
      clear hI
      go_wp2_with fail
      go_ret
      exact ⟨_, rfl, unhide FIN, hbl⟩
end Go.Proofs.YtddkhnclmeikfacGreatDoor
