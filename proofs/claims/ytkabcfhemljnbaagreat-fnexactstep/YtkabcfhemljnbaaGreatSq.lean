import Derived.Test.YtkabcfhemljnbaaGreatUn9
import Derived.Test.YtkabcfhemljnbaaGreatLx
import Derived.Test.YtkabcfhemljnbaaGreatLv
import Derived.Test.YtkabcfhemljnbaaGreatLi
import Derived.Test.YtkabcfhemljnbaaGreatSh2
namespace Go.Proofs.YtkabcfhemljnbaaGreat
open Go.RowKit

/-! A round comes to its end: every unit makes 'mu' less. -/
def sm (F : Cl → Nat) (cs : List Cl) : Nat := (cs.map F).sum
theorem sm_set (F : Cl → Nat) (cs : List Cl) (i : Nat) (c : Cl) (hi : i < cs.length) : sm F (cs.set i c) + F cs[i] = sm F cs + F c := by
  induction cs generalizing i with
  | nil => simp at hi
  | cons a cs ih =>
    cases i with
    | zero => simp [sm]; omega
    | succ i =>
      have := ih i (by simpa using hi)
      simp [sm] at this ⊢
      omega
theorem sm_le (F : Cl → Nat) (b : Nat) : ∀ (cs : List Cl), (∀ c, c ∈ cs → F c ≤ b) → sm F cs ≤ b * cs.length
  | [], _ => by simp [sm]
  | c :: cs, h => by
    have h1 := sm_le F b cs (fun d hd => h d (by simp [hd]))
    have h2 := h c (by simp)
    simp only [sm, List.map_cons, List.sum_cons, List.length_cons, Nat.mul_add] at h1 ⊢
    omega
theorem sm_drop (F : Cl → Nat) (cs : List Cl) (i : Nat) (hi : i < cs.length) : sm F (cs.drop i) = F cs[i] + sm F (cs.drop (i + 1)) := by
  rw [List.drop_eq_getElem_cons hi]; simp only [sm, List.map_cons, List.sum_cons]
theorem sm_drop_set (F : Cl → Nat) (cs : List Cl) (i k : Nat) (c : Cl) (hi : i < cs.length) (h : F c = F cs[i]) : sm F ((cs.set i c).drop k) = sm F (cs.drop k) := by
  have e : (cs.set i c).map F = cs.map F := by
    refine List.ext_getElem (by simp) (fun j h1 h2 => ?_)
    simp only [List.getElem_map, List.getElem_set]
    split
    · rename_i q; subst q; exact h
    · rfl
  simp only [sm, List.map_drop, e]
def D2 (c : Cl) : Nat := if c.st = 1 ∧ c.color ≠ 2 then c.prs.length + 2 + (if c.color = 0 then 1 else 0) else 0
def D4 (c : Cl) : Nat := if c.st = 0 then 1 else 0
def D5 (c : Cl) : Nat := c.prs.length + 1
def part (x : Hp) : Nat :=
  if x.phase = 2 then sm D2 x.cells - x.sub.toNat else if x.phase = 4 then sm D4 x.cells else if x.phase = 5 then sm D5 (x.cells.drop x.hand.toNat) - x.sub.toNat else if x.phase = 6 then x.hand.toNat else ((x.cells.length : Int) - x.hand).toNat
def mu (x : Hp) : Nat := if x.phase = 0 then 0 else (6 - x.phase).toNat * 2000000 + part x + 1
theorem Snd.pbound {x : Hp} (h : Snd x) : part x < 2000000 := by
  have n8 := h.ok.n8
  have p2 : ∀ c, c ∈ x.cells → c.prs.length ≤ 200 := fun c hc => by
    obtain ⟨i, hi, e⟩ := List.getElem_of_mem hc
    have := h.ok.p200 i hi
    rw [← e, Hp.c_eq x i hi]; exact this
  have hh := h.r1.hand
  unfold part
  split
  · have := sm_le D2 203 x.cells (fun c hc => by have := p2 c hc; unfold D2; split <;> (try split) <;> omega)
    omega
  split
  · have := sm_le D4 1 x.cells (fun c hc => by unfold D4; split <;> omega)
    omega
  split
  · have := sm_le D5 201 (x.cells.drop x.hand.toNat) (fun c hc => by have := p2 c (List.mem_of_mem_drop hc); unfold D5; omega)
    simp only [List.length_drop] at this
    omega
  split <;> omega
theorem Snd.mu_le {x : Hp} (h : Snd x) : mu x ≤ 14000000 := by
  have hp := h.pbound
  have := h.r1.phase
  unfold mu; split <;> omega
theorem mu_same {x y : Hp} (hp : y.phase = x.phase) (h0 : x.phase ≠ 0) (hl : part y < part x) : mu y < mu x := by
  unfold mu; rw [hp, if_neg h0, if_neg h0]; omega
theorem mu_next {x y : Hp} (s : Snd y) (hp : y.phase = x.phase + 1) (h1 : 1 ≤ x.phase ∧ x.phase ≤ 5) : mu y < mu x := by
  have := s.pbound
  unfold mu; rw [if_neg (by omega), if_neg (by omega), hp]
  omega
/-- what shading takes from the sum it lays upon the gray ones -/
theorem shade_sum (x : Hp) (i : Nat) (hi : i < x.cells.length) : sm D2 (shadeH x i).cells + (shadeH x i).gray.length = sm D2 x.cells + x.gray.length := by
  unfold shadeH
  by_cases hb : shadeB x i = true
  · rw [if_pos hb]
    have hp := (shadeB_parts hb).2
    have := sm_set D2 x.cells i (grayC (x.c i)) hi
    have e1 : D2 (grayC (x.c i)) = (x.c i).prs.length + 2 := by simp [D2, grayC, hp.1]
    have e2 : D2 (x.c i) = (x.c i).prs.length + 3 := by simp [D2, hp.1, hp.2]
    rw [Hp.c_eq x i hi, e1, e2] at this
    simp only [List.length_append, List.length_singleton]
    omega
  · rw [if_neg hb]
theorem shadeW_sum (x : Hp) (y : Wd) (hy : Good1 x y) : sm D2 (shadeW x y).cells + (shadeW x y).gray.length = sm D2 x.cells + x.gray.length := by
  unfold shadeW
  split
  · rename_i e
    exact shade_sum x _ (hy (by simpa using e)).1
  · rfl
theorem fold_sum : ∀ (ys : List Wd) (z : Hp), (∀ y, y ∈ ys → Good1 z y) → sm D2 (ys.foldl shadeW z).cells + (ys.foldl shadeW z).gray.length = sm D2 z.cells + z.gray.length
  | [], _, _ => rfl
  | y :: ys, z, h => by
    have h1 := h y (by simp)
    rw [List.foldl_cons, fold_sum ys (shadeW z y) (fun u hu => (h u (by simp [hu])).keep (shadeW_same z y).2.1 (shadeW_un z y h1)), shadeW_sum z y h1]
theorem shadeW_gle (x : Hp) (y : Wd) : x.gray.length ≤ (shadeW x y).gray.length := by
  obtain ⟨L, e⟩ := shadeW_gray x y
  rw [e]; simp
theorem Snd.less {x : Hp} (h : Snd x) (h0 : x.phase ≠ 0) : mu (unitH x) < mu x := by
  have hr := h.r1.phase
  have hh := h.r1.hand
  have hs := h.r1.sub
  by_cases p1 : x.phase = 1
  · have s := h.u1 p1
    rw [show unitH x = unit1 x by unfold unitH; rw [if_pos p1]]
    unfold unit1 at s ⊢
    split
    · rename_i e
      rw [if_pos e] at s
      exact mu_next s (by show (2:Int) = x.phase + 1; omega) ⟨by omega, by omega⟩
    · rename_i e
      have hin : x.hand.toNat < x.cells.length := by omega
      have q := shade_same x x.hand.toNat
      refine mu_same ?_ h0 ?_
      · show (if spkB (x.c x.hand.toNat) = true then shadeH x x.hand.toNat else x).phase = x.phase
        split
        · exact q.2.2.2.2.2.1
        · rfl
      · have e1 : ∀ z : Hp, z.phase = 1 → part z = ((z.cells.length : Int) - z.hand).toNat := fun z hz => by
          unfold part; rw [if_neg (by omega), if_neg (by omega), if_neg (by omega), if_neg (by omega)]
        by_cases hk : spkB (x.c x.hand.toNat) = true
        · rw [if_pos hk, e1 x p1, e1 _ (by show (shadeH x x.hand.toNat).phase = 1; rw [q.2.2.2.2.2.1]; exact p1)]
          show (((shadeH x x.hand.toNat).cells.length : Int) - (x.hand + 1)).toNat < _
          rw [q.2.2.2.2.1]; omega
        · rw [if_neg hk, e1 x p1]
          refine Nat.lt_of_le_of_lt (Nat.le_of_eq (e1 _ ?_)) ?_
          · exact p1
          show ((x.cells.length : Int) - (x.hand + 1)).toNat < _
          omega
  by_cases p2 : x.phase = 2
  · have s := h.u2 p2
    have h6 := h.r6.2.1 p2
    have e2 : ∀ z : Hp, z.phase = 2 → part z = sm D2 z.cells - z.sub.toNat := fun z hz => by
      unfold part; rw [if_pos hz]
    rw [show unitH x = unit2 x by unfold unitH; rw [if_neg p1, if_pos p2]]
    cases hg : x.gray with
    | cons g G =>
      have hl := h6.2.2 (by rw [hg]; simp)
      have eg : x.g0 = g.toNat := by simp [Hp.g0, hg]
      rw [eg] at hl
      have hgin : ∃ i : Nat, g = (i : Int) ∧ i < x.cells.length ∧ (x.c i).st = 1 ∧ (x.c i).color = 1 := by
        have hgm : g ∈ x.gray := by rw [hg]; exact List.mem_cons_self ..
        have hu := gray_used h.r2 h.r5 g hgm
        have hgr := h.r5.2.2 g hgm
        refine ⟨g.toNat, by omega, by omega, hu.2, hu.1⟩
      obtain ⟨i, rfl, hi, hst, hco⟩ := hgin
      have et : ((i : Int)).toNat = i := by omega
      rw [et] at hl
      have d2 : D2 (x.c i) = (x.c i).prs.length + 2 := by simp [D2, hst, hco]
      have big : D2 (x.c i) ≤ sm D2 x.cells := by
        have := sm_set D2 x.cells i Cl0 hi
        have z0 : D2 Cl0 = 0 := by simp [D2, Cl0]
        rw [Hp.c_eq x i hi, z0] at this
        omega
      unfold unit2
      rw [hg]
      simp only [et]
      by_cases hlt : x.sub < (x.c i).prs.length
      · rw [if_pos hlt]
        have gp := h.good_pair (.inr p2) i x.sub.toNat hi (by omega)
        have w1 := shadeW_same x ((x.c i).p x.sub.toNat).key
        have gk := gp.2.keep w1.2.1 (shadeW_un x _ gp.1)
        have w2 := shadeW_same (shadeW x ((x.c i).p x.sub.toNat).key) ((x.c i).p x.sub.toNat).val
        have s1 := shadeW_sum x _ gp.1
        have s2 := shadeW_sum _ _ gk
        have g1 := shadeW_gle x ((x.c i).p x.sub.toNat).key
        have g2 := shadeW_gle (shadeW x ((x.c i).p x.sub.toNat).key) ((x.c i).p x.sub.toNat).val
        have ph : (shadeW (shadeW x ((x.c i).p x.sub.toNat).key) ((x.c i).p x.sub.toNat).val).phase = x.phase := by rw [w2.2.2.1, w1.2.2.1]
        refine mu_same ph h0 ?_
        rw [e2 x p2, e2 _ (by show (shadeW (shadeW x ((x.c i).p x.sub.toNat).key) ((x.c i).p x.sub.toNat).val).phase = 2; rw [ph]; exact p2)]
        show sm D2 (shadeW (shadeW x ((x.c i).p x.sub.toNat).key) ((x.c i).p x.sub.toNat).val).cells - (x.sub + 1).toNat < _
        omega
      · rw [if_neg hlt]
        refine mu_same rfl h0 ?_
        rw [e2 x p2]
        refine Nat.lt_of_le_of_lt (Nat.le_of_eq (e2 _ ?_)) ?_
        · exact p2
        show sm D2 (x.cells.set i (blackC (x.c i))) - (0 : Int).toNat < _
        have := sm_set D2 x.cells i (blackC (x.c i)) hi
        have z0 : D2 (blackC (x.c i)) = 0 := by simp [D2, blackC]
        rw [Hp.c_eq x i hi, z0] at this
        omega
    | nil =>
      have lk := (h.look p2).1
      have h60 := h6.2.1 (by rw [hg]; rfl)
      unfold unit2 at s ⊢
      rw [hg] at s ⊢
      simp only at s ⊢
      by_cases hq : (lookH x).gray = []
      · rw [if_pos hq] at s ⊢
        exact mu_next s (by show (3:Int) = x.phase + 1; omega) ⟨by omega, by omega⟩
      · rw [if_neg hq]
        refine mu_same lk.phase h0 ?_
        rw [e2 x p2, e2 _ (by rw [lk.phase]; exact p2), lk.sub, h60]
        have fs := fold_sum x.regs x (fun y hy => by
          obtain ⟨i, hi, e⟩ := List.getElem_of_mem hy
          rw [← e]; exact h.good_reg i hi)
        have fs2 : sm D2 (lookH x).cells + (lookH x).gray.length = sm D2 x.cells + x.gray.length := fs
        have : (lookH x).gray.length ≠ 0 := fun e => hq (List.eq_nil_of_length_eq_zero e)
        rw [hg] at fs2
        simp only [List.length_nil] at fs2
        simp only [Int.toNat_zero]
        omega
  by_cases p3 : x.phase = 3
  · have s := h.u3 p3
    have e3 : ∀ z : Hp, z.phase = 3 → part z = ((z.cells.length : Int) - z.hand).toNat := fun z hz => by
      unfold part; rw [if_neg (by omega), if_neg (by omega), if_neg (by omega), if_neg (by omega)]
    rw [show unitH x = unit3 x by unfold unitH; rw [if_neg p1, if_neg p2, if_pos p3]]
    unfold unit3 at s ⊢
    split
    · rename_i e
      rw [if_pos e] at s
      exact mu_next s (by show (4:Int) = x.phase + 1; omega) ⟨by omega, by omega⟩
    · split
      all_goals
        refine mu_same (by rfl) h0 ?_
        rw [e3 x p3]
        refine Nat.lt_of_le_of_lt (Nat.le_of_eq (e3 _ ?_)) ?_
        · exact p3
        simp only [List.length_set]
        omega
  by_cases p4 : x.phase = 4
  · have s := h.u4 p4
    have e4 : ∀ z : Hp, z.phase = 4 → part z = sm D4 z.cells := fun z hz => by
      unfold part; rw [if_neg (by omega), if_pos hz]
    rw [show unitH x = unit4 x by unfold unitH; rw [if_neg p1, if_neg p2, if_neg p3, if_pos p4]]
    unfold unit4 at s ⊢
    split
    · rename_i e
      rw [if_pos e] at s
      exact mu_next s (by show (5:Int) = x.phase + 1; omega) ⟨by omega, by omega⟩
    · rename_i e
      have ff := fstFree_is x
      rcases lstUsed_is x x.cells.length with ⟨q, _⟩ | ⟨f, q, hf, hst, _⟩
      · omega
      · rw [q] at e ⊢
        have ef : ((f : Int)).toNat = f := by omega
        rw [ef]
        obtain ⟨t, ht⟩ : ∃ t, t = fstFree x := ⟨_, rfl⟩
        rw [← ht] at ff e ⊢
        have htf : t < f := by omega
        have ht0 := ff.2.2 (by omega)
        refine mu_same rfl h0 ?_
        rw [e4 x p4]
        refine Nat.lt_of_le_of_lt (Nat.le_of_eq (e4 _ ?_)) ?_
        · exact p4
        show sm D4 ((x.cells.set t (x.c f)).set f (mvC t)) < _
        have a1 := sm_set D4 x.cells t (x.c f) (by omega)
        have a2 := sm_set D4 (x.cells.set t (x.c f)) f (mvC t) (by rw [List.length_set]; exact hf)
        have a3 : (x.cells.set t (x.c f))[f]'(by rw [List.length_set]; exact hf) = x.c f := by
          rw [List.getElem_set, if_neg (by omega), Hp.c_eq]
        rw [a3] at a2
        rw [Hp.c_eq x t (by omega)] at a1
        have b1 : D4 (x.c f) = 0 := by simp [D4, hst]
        have b2 : D4 (mvC t) = 0 := by simp [D4, mvC]
        have b3 : D4 (x.c t) = 1 := by simp [D4, ht0]
        omega
  by_cases p5 : x.phase = 5
  · have s := h.u5 p5
    have h6 := h.r6.2.2.1 p5
    have e5 : ∀ z : Hp, z.phase = 5 → part z = sm D5 (z.cells.drop z.hand.toNat) - z.sub.toNat := fun z hz => by
      unfold part; rw [if_neg (by omega), if_neg (by omega), if_pos hz]
    rw [show unitH x = unit5 x by unfold unitH; rw [if_neg p1, if_neg p2, if_neg p3, if_neg p4, if_pos p5]]
    unfold unit5 at s ⊢
    split
    · rename_i e
      rw [if_pos e] at s
      exact mu_next s (by show (6:Int) = x.phase + 1; omega) ⟨by omega, by omega⟩
    · rename_i e
      obtain ⟨i, hi⟩ : ∃ i : Nat, x.hand = (i : Int) := ⟨x.hand.toNat, by omega⟩
      have hin : i < x.cells.length := by omega
      have ei : x.hand.toNat = i := by omega
      rw [ei] at h6 ⊢
      have hsub : x.sub ≤ (x.c i).prs.length := by
        by_cases hst : (x.c i).st = 1
        · exact h6.2 ⟨e, hst⟩
        · have := h6.1 (.inr hst); omega
      have dr := sm_drop D5 x.cells i hin
      have d5 : D5 x.cells[i] = (x.c i).prs.length + 1 := by rw [Hp.c_eq x i hin]; rfl
      split
      · refine mu_same rfl h0 ?_
        rw [e5 x p5]
        refine Nat.lt_of_le_of_lt (Nat.le_of_eq (e5 _ ?_)) ?_
        · exact p5
        show sm D5 ((x.cells.set i (mendC x (x.c i) x.sub.toNat)).drop x.hand.toNat) - (x.sub + 1).toNat < _
        rw [sm_drop_set D5 x.cells i _ _ hin (by rw [Hp.c_eq x i hin]; simp [D5, mendC]), ei]
        omega
      · refine mu_same rfl h0 ?_
        rw [e5 x p5]
        refine Nat.lt_of_le_of_lt (Nat.le_of_eq (e5 _ ?_)) ?_
        · exact p5
        show sm D5 (x.cells.drop (x.hand + 1).toNat) - (0 : Int).toNat < _
        rw [show (x.hand + 1).toNat = i + 1 by omega, ei]
        omega
  · have p6 : x.phase = 6 := by omega
    have e6 : ∀ z : Hp, z.phase = 6 → part z = z.hand.toNat := fun z hz => by
      unfold part; rw [if_neg (by omega), if_neg (by omega), if_neg (by omega), if_pos hz]
    rw [show unitH x = unit6 x by unfold unitH; rw [if_neg p1, if_neg p2, if_neg p3, if_neg p4, if_neg p5, if_pos p6]]
    unfold unit6
    split
    · show (if (0:Int) = 0 then 0 else _) < mu x
      rw [if_pos rfl]
      unfold mu; rw [if_neg h0]; omega
    · rename_i e
      obtain ⟨i, hi⟩ : ∃ i : Nat, i = (x.hand - 1).toNat := ⟨_, rfl⟩
      rw [← hi]
      have k : (dropH (shutH x i) i).phase = x.phase ∧ (dropH (shutH x i) i).hand = (i : Int) := by
        unfold dropH; split <;> exact ⟨rfl, rfl⟩
      refine mu_same k.1 h0 ?_
      rw [e6 x p6, e6 _ (by rw [k.1]; exact p6), k.2]
      omega
end Go.Proofs.YtkabcfhemljnbaaGreat

namespace Go.Proofs.YtkabcfhemljnbaaGreat
open Go.RowKit

/-! How many units a round still takes. -/
def itU : Nat → Hp → Hp
  | 0, x => x
  | k + 1, x => unitH (itU k x)
theorem Snd.itU {x : Hp} (h : Snd x) : ∀ k, Snd (itU k x)
  | 0 => h
  | k + 1 => (Snd.itU h k).unit
/-- k units are taken, and none behind the round's end -/
def Runs (x : Hp) (k : Nat) : Prop := ∀ j, j < k → (itU j x).phase ≠ 0
def EndIs (x : Hp) (k : Nat) : Prop := (itU k x).phase = 0 ∧ Runs x k
theorem Runs.zero (x : Hp) : Runs x 0 := fun j h => by omega
theorem Runs.succ {x : Hp} {k : Nat} (h : Runs x k) (h0 : (itU k x).phase ≠ 0) : Runs x (k + 1) := fun j hj => by
  by_cases e : j = k
  · rw [e]; exact h0
  · exact h j (by omega)
theorem EndIs.uniq {x : Hp} {j k : Nat} (a : EndIs x j) (b : EndIs x k) : j = k := by
  rcases Nat.lt_trichotomy j k with h | h | h
  · exact (b.2 j h a.1).elim
  · exact h
  · exact (a.2 k h b.1).elim
theorem Runs.mu {x : Hp} (s : Snd x) : ∀ k, Runs x k → mu (itU k x) + k ≤ mu x
  | 0, _ => by simp [Go.Proofs.YtkabcfhemljnbaaGreat.itU]
  | k + 1, h => by
    have h1 := Runs.mu s k (fun j hj => h j (by omega))
    have h2 := (s.itU k).less (h k (by omega))
    simp only [Go.Proofs.YtkabcfhemljnbaaGreat.itU]
    omega
theorem Runs.le {x : Hp} (s : Snd x) {k : Nat} (h : Runs x k) : k ≤ 14000000 := by
  have := Runs.mu s k h
  have := s.mu_le
  omega
/-- what Step with n units comes to: k units taken -/
def StepIs (x : Hp) (n k : Nat) : Prop := Runs x k ∧ k ≤ n ∧ (k = n ∨ (itU k x).phase = 0)
theorem StepIs.uniq {x : Hp} {n j k : Nat} (a : StepIs x n j) (b : StepIs x n k) : j = k := by
  rcases Nat.lt_trichotomy j k with h | h | h
  · rcases a.2.2 with e | e
    · have := b.2.1; omega
    · exact (b.1 j h e).elim
  · exact h
  · rcases b.2.2 with e | e
    · have := a.2.1; omega
    · exact (a.1 k h e).elim
end Go.Proofs.YtkabcfhemljnbaaGreat

namespace Go.Proofs.YtkabcfhemljnbaaGreat
open Go.RowKit
attribute [local go_sem ↓] Go.wp_at_zero Go.wp_at_succ

/-! The model's rounds. -/
set_option maxRecDepth 100000 in
set_option maxHeartbeats 600000 in
theorem l3unit_any (B g : Nat) (x : Hp) (w : World) (h : GOk B w g x) (s : Snd x) (h0 : x.phase ≠ 0) (a : World) (ha : a.heap.size ≤ B) (hx : Ext a w) :
    Calls Tryz.prog 129 #[.pointer (some ⟨g, 0, none⟩)] w fun e w' => e = .returned (.tuple #[]) ∧ GOk B w' g (unitH x) ∧ Ext a w' := by
  have HO := hide h
  obtain ⟨_, _, c5, _, lo, hgw⟩ := h.box
  have hB : B ≤ w.heap.size := by omega
  have S := hide s
  have hc : x.phase = 1 ∨ x.phase = 2 ∨ x.phase = 3 ∨ x.phase = 4 ∨ x.phase = 5 ∨ x.phase = 6 := by have := s.r1.phase; omega
  have Q1 := hide (show x.phase = 1 → Calls Tryz.prog 165 #[.pointer (some ⟨g, 0, none⟩)] w fun e w' => e = .returned (.tuple #[]) ∧ GOk B w' g (unitH x) ∧ Ext a w' from fun e => by
    have : unitH x = unit1 x := by unfold unitH; rw [if_pos e]
    rw [this]; exact l3roots_any B g x w h s a ha hx hB)
  have Q2 := hide (show x.phase = 2 → Calls Tryz.prog 166 #[.pointer (some ⟨g, 0, none⟩)] w fun e w' => e = .returned (.tuple #[]) ∧ GOk B w' g (unitH x) ∧ Ext a w' from fun e => by
    have : unitH x = unit2 x := by unfold unitH; rw [if_neg (by omega), if_pos e]
    rw [this]; exact l3mark_any B g x w h s e a ha hx)
  have Q3 := hide (show x.phase = 3 → Calls Tryz.prog 167 #[.pointer (some ⟨g, 0, none⟩)] w fun e w' => e = .returned (.tuple #[]) ∧ GOk B w' g (unitH x) ∧ Ext a w' from fun e => by
    have : unitH x = unit3 x := by unfold unitH; rw [if_neg (by omega), if_neg (by omega), if_pos e]
    rw [this]; exact l3sweep_any B g x w h s a ha hx)
  have Q4 := hide (show x.phase = 4 → Calls Tryz.prog 168 #[.pointer (some ⟨g, 0, none⟩)] w fun e w' => e = .returned (.tuple #[]) ∧ GOk B w' g (unitH x) ∧ Ext a w' from fun e => by
    have : unitH x = unit4 x := by unfold unitH; rw [if_neg (by omega), if_neg (by omega), if_neg (by omega), if_pos e]
    rw [this]; exact l3move_any B g x w h s a ha hx)
  have Q5 := hide (show x.phase = 5 → Calls Tryz.prog 169 #[.pointer (some ⟨g, 0, none⟩)] w fun e w' => e = .returned (.tuple #[]) ∧ GOk B w' g (unitH x) ∧ Ext a w' from fun e => by
    have : unitH x = unit5 x := by unfold unitH; rw [if_neg (by omega), if_neg (by omega), if_neg (by omega), if_neg (by omega), if_pos e]
    rw [this]; exact l3mend_any B g x w h s e a ha hx)
  have Q6 := hide (show x.phase = 6 → Calls Tryz.prog 170 #[.pointer (some ⟨g, 0, none⟩)] w fun e w' => e = .returned (.tuple #[]) ∧ GOk B w' g (unitH x) ∧ Ext a w' from fun e => by
    have : unitH x = unit6 x := by unfold unitH; rw [if_neg (by omega), if_neg (by omega), if_neg (by omega), if_neg (by omega), if_neg (by omega), if_pos e]
    rw [this]; exact l3close_any B g x w h s a ha hx)
  obtain ⟨y, hy⟩ : ∃ y, y = unitH x := ⟨_, rfl⟩
  rw [← hy] at Q1 Q2 Q3 Q4 Q5 Q6 ⊢
  clear hy h s h0
  rcases hc with e | e | e | e | e | e
  · rw [e] at c5
    have Q := hide (unhide Q1 e)
    clear Q1 Q2 Q3 Q4 Q5 Q6 e
    go_enter Tryz.func129, Tryz.ntmps129
    go_wp2_with fail
    refine (unhide Q).mono ?_
    rintro e w2 ⟨rfl, h2, x2⟩
    have H2 := hide h2
    clear h2
    go_wp2_with fail
    go_end0
    exact ⟨rfl, unhide H2, x2⟩
  · rw [e] at c5
    have Q := hide (unhide Q2 e)
    clear Q1 Q2 Q3 Q4 Q5 Q6 e
    go_enter Tryz.func129, Tryz.ntmps129
    go_wp2_with fail
    refine (unhide Q).mono ?_
    rintro e w2 ⟨rfl, h2, x2⟩
    have H2 := hide h2
    clear h2
    go_wp2_with fail
    go_end0
    exact ⟨rfl, unhide H2, x2⟩
  · rw [e] at c5
    have Q := hide (unhide Q3 e)
    clear Q1 Q2 Q3 Q4 Q5 Q6 e
    go_enter Tryz.func129, Tryz.ntmps129
    go_wp2_with fail
    refine (unhide Q).mono ?_
    rintro e w2 ⟨rfl, h2, x2⟩
    have H2 := hide h2
    clear h2
    go_wp2_with fail
    go_end0
    exact ⟨rfl, unhide H2, x2⟩
  · rw [e] at c5
    have Q := hide (unhide Q4 e)
    clear Q1 Q2 Q3 Q4 Q5 Q6 e
    go_enter Tryz.func129, Tryz.ntmps129
    go_wp2_with fail
    refine (unhide Q).mono ?_
    rintro e w2 ⟨rfl, h2, x2⟩
    have H2 := hide h2
    clear h2
    go_wp2_with fail
    go_end0
    exact ⟨rfl, unhide H2, x2⟩
  · rw [e] at c5
    have Q := hide (unhide Q5 e)
    clear Q1 Q2 Q3 Q4 Q5 Q6 e
    go_enter Tryz.func129, Tryz.ntmps129
    go_wp2_with fail
    refine (unhide Q).mono ?_
    rintro e w2 ⟨rfl, h2, x2⟩
    have H2 := hide h2
    clear h2
    go_wp2_with fail
    go_end0
    exact ⟨rfl, unhide H2, x2⟩
  · rw [e] at c5
    have Q := hide (unhide Q6 e)
    clear Q1 Q2 Q3 Q4 Q5 Q6 e
    go_enter Tryz.func129, Tryz.ntmps129
    go_wp2_with fail
    refine (unhide Q).mono ?_
    rintro e w2 ⟨rfl, h2, x2⟩
    have H2 := hide h2
    clear h2
    go_wp2_with fail
    go_end0
    exact ⟨rfl, unhide H2, x2⟩
theorem toPh_run (x : Hp) : (toPh x 1 0).phase = 1 := rfl
set_option maxRecDepth 100000 in
set_option maxHeartbeats 600000 in
theorem l3begin_any (B g : Nat) (x : Hp) (w : World) (h : GOk B w g x) (a : World) (ha : a.heap.size ≤ B) (hx : Ext a w) :
    Calls Tryz.prog 128 #[.pointer (some ⟨g, 0, none⟩)] w fun e w' => e = .returned (.tuple #[]) ∧ GOk B w' g (toPh x 1 0) ∧ Ext a w' := by
  have HO := hide h
  clear h
  go_enter Tryz.func128, Tryz.ntmps128
  go_wp2_with fail
  refine (l3phase_any B g x 1 0 _ (unhide HO) a ha hx).mono ?_
  rintro e w2 ⟨rfl, h2, x2⟩
  have H2 := hide h2
  clear h2
  go_wp2_with fail
  go_end0
  exact ⟨rfl, unhide H2, x2⟩
/-- what a step works on: a round is begun when none is on, but not for nothing -/
def stepH (x : Hp) (n : Nat) : Hp := if x.phase = 0 ∧ n ≠ 0 then toPh x 1 0 else x
theorem Snd.stepH {x : Hp} (s : Snd x) (n : Nat) : Snd (stepH x n) := by
  unfold Go.Proofs.YtkabcfhemljnbaaGreat.stepH
  split
  · rename_i h; exact s.begin h.1
  · exact s
end Go.Proofs.YtkabcfhemljnbaaGreat

namespace Go.Proofs.YtkabcfhemljnbaaGreat
open Go.RowKit
attribute [local go_sem ↓] Go.wp_at_zero Go.wp_at_succ

set_option maxRecDepth 100000 in
set_option maxHeartbeats 600000 in
theorem l3step_loop (B g : Nat) (x : Hp) (n : Nat) (w : World) (h : GOk B w g x) (s : Snd x) (n0 : n ≠ 0) (n1 : n ≤ 100000) (hp : x.phase ≠ 0) (a : World) (ha : a.heap.size ≤ B) (hx : Ext a w) :
    Calls Tryz.prog 80 #[.pointer (some ⟨g, 0, none⟩), .int .i64 n] w fun e w' => ∃ k : Nat, e = .returned (.int .i64 k) ∧ Hid (StepIs x n k) ∧ GOk B w' g (itU k x) ∧ Ext a w' := by
  have HS := hide h
  obtain ⟨_, _, c5, _, lo, hgw⟩ := h.box
  have S := hide s
  have nb : ((n : Int) == 0) = false := by simpa using n0
  have pb : (x.phase == 0) = false := by simpa using hp
  have XS := hx
  clear h s hp n0
  go_enter Tryz.func80, Tryz.ntmps80
  go_wp2_with fail
  go_loopw [5] (fun d wr => ∃ k : Nat, k ≤ n ∧ d = .int .i64 k ∧ Hid (Runs x k) ∧ Hid (GOk B wr g (itU k x)) ∧ Ext a wr) (fun d _ => n - (intOf d).toNat)
  case atStart => exact ⟨0, Nat.zero_le _, rfl, Runs.zero _, unhide HS, XS⟩
  case round =>
    clear HS XS c5 hgw
    obtain ⟨k, hk, rfl, hr, hG, hxr⟩ := hrel
    obtain ⟨_, _, c5, _, _, hgw⟩ := (unhide hG).box
    cases q : ((itU k x).phase == 0)
    · have qb : ((itU k x).phase != 0) = true := by simpa using q
      have QP := hide (show (itU k x).phase ≠ 0 by simpa using q)
      by_cases hlt : k < n
      · have h1 : (k : Int) < (n : Int) := by omega
        go_wp2_with fail
        refine (l3unit_any B g _ _ (unhide hG) ((unhide S).itU k) (unhide QP) a ha hxr).mono ?_
        rintro e w3 ⟨rfl, h3, x3⟩
        have H3 := hide h3
        have R3 := hide ((unhide hr).succ (unhide QP))
        clear h3 c5 hgw
        go_wp2_with fail
        go_roundw
        case rel => exact ⟨k + 1, by omega, by go_num, unhide R3, unhide H3, x3⟩
        case measure => simp [intOf]; omega
      · have h1 : ¬ (k : Int) < (n : Int) := by omega
        have hkn := hide (show k = n by omega)
        go_wp2_with fail
        go_ret
        exact ⟨k, rfl, ⟨unhide hr, hk, .inl (unhide hkn)⟩, unhide hG, hxr⟩
    · have qb : ((itU k x).phase != 0) = false := by simpa using q
      have QP := hide (show (itU k x).phase = 0 by simpa using q)
      by_cases hlt : k < n
      · have h1 : (k : Int) < (n : Int) := by omega
        go_wp2_with fail
        go_ret
        exact ⟨k, rfl, ⟨unhide hr, hk, .inr (unhide QP)⟩, unhide hG, hxr⟩
      · have h1 : ¬ (k : Int) < (n : Int) := by omega
        have hkn := hide (show k = n by omega)
        go_wp2_with fail
        go_ret
        exact ⟨k, rfl, ⟨unhide hr, hk, .inl (unhide hkn)⟩, unhide hG, hxr⟩
set_option maxRecDepth 100000 in
set_option maxHeartbeats 600000 in
theorem l3step_begin (B g : Nat) (x : Hp) (n : Nat) (w : World) (h : GOk B w g x) (s : Snd x) (n0 : n ≠ 0) (n1 : n ≤ 100000) (hp : x.phase = 0) (a : World) (ha : a.heap.size ≤ B) (hx : Ext a w) :
    Calls Tryz.prog 80 #[.pointer (some ⟨g, 0, none⟩), .int .i64 n] w fun e w' => ∃ k : Nat, e = .returned (.int .i64 k) ∧ Hid (StepIs (toPh x 1 0) n k) ∧ GOk B w' g (itU k (toPh x 1 0)) ∧ Ext a w' := by
  have HO := hide h
  obtain ⟨_, _, c5, _, lo, hgw⟩ := h.box
  have S := hide (s.begin hp)
  have nb : ((n : Int) == 0) = false := by simpa using n0
  rw [hp] at c5
  obtain ⟨y, hy⟩ : ∃ y, y = toPh x 1 0 := ⟨_, rfl⟩
  have QB := hide (l3begin_any B g x w h a ha hx)
  rw [← hy] at S QB ⊢
  clear h s hp n0 hy
  go_enter Tryz.func80, Tryz.ntmps80
  go_wp2_with fail
  refine (unhide QB).mono ?_
  rintro e w1 ⟨rfl, h1, XS⟩
  have HS := hide h1
  obtain ⟨_, _, c5, _, _, hgw⟩ := h1.box
  clear h1
  go_wp2_with fail
  go_loopw [5] (fun d wr => ∃ k : Nat, k ≤ n ∧ d = .int .i64 k ∧ Hid (Runs y k) ∧ Hid (GOk B wr g (itU k y)) ∧ Ext a wr) (fun d _ => n - (intOf d).toNat)
  case atStart => exact ⟨0, Nat.zero_le _, rfl, Runs.zero _, unhide HS, XS⟩
  case round =>
    clear HS XS c5 hgw
    obtain ⟨k, hk, rfl, hr, hG, hxr⟩ := hrel
    obtain ⟨_, _, c5, _, _, hgw⟩ := (unhide hG).box
    cases q : ((itU k y).phase == 0)
    · have qb : ((itU k y).phase != 0) = true := by simpa using q
      have QP := hide (show (itU k y).phase ≠ 0 by simpa using q)
      by_cases hlt : k < n
      · have h1 : (k : Int) < (n : Int) := by omega
        go_wp2_with fail
        refine (l3unit_any B g _ _ (unhide hG) ((unhide S).itU k) (unhide QP) a ha hxr).mono ?_
        rintro e w3 ⟨rfl, h3, x3⟩
        have H3 := hide h3
        have R3 := hide ((unhide hr).succ (unhide QP))
        clear h3 c5 hgw
        go_wp2_with fail
        go_roundw
        case rel => exact ⟨k + 1, by omega, by go_num, unhide R3, unhide H3, x3⟩
        case measure => simp [intOf]; omega
      · have h1 : ¬ (k : Int) < (n : Int) := by omega
        have hkn := hide (show k = n by omega)
        go_wp2_with fail
        go_ret
        exact ⟨k, rfl, ⟨unhide hr, hk, .inl (unhide hkn)⟩, unhide hG, hxr⟩
    · have qb : ((itU k y).phase != 0) = false := by simpa using q
      have QP := hide (show (itU k y).phase = 0 by simpa using q)
      by_cases hlt : k < n
      · have h1 : (k : Int) < (n : Int) := by omega
        go_wp2_with fail
        go_ret
        exact ⟨k, rfl, ⟨unhide hr, hk, .inr (unhide QP)⟩, unhide hG, hxr⟩
      · have h1 : ¬ (k : Int) < (n : Int) := by omega
        have hkn := hide (show k = n by omega)
        go_wp2_with fail
        go_ret
        exact ⟨k, rfl, ⟨unhide hr, hk, .inl (unhide hkn)⟩, unhide hG, hxr⟩
theorem l3step_zero (g : Nat) (w : World) : Calls Tryz.prog 80 #[.pointer (some ⟨g, 0, none⟩), .int .i64 0] w fun e w' => e = .returned (.int .i64 0) ∧ w' = w := by
  go_enter Tryz.func80, Tryz.ntmps80
  go_wp2_with fail
  go_ret
  exact ⟨rfl, rfl⟩
/-- the model's step -/
theorem l3step_any (B g : Nat) (x : Hp) (n : Nat) (w : World) (h : GOk B w g x) (s : Snd x) (n1 : n ≤ 100000) (a : World) (ha : a.heap.size ≤ B) (hx : Ext a w) :
    Calls Tryz.prog 80 #[.pointer (some ⟨g, 0, none⟩), .int .i64 n] w fun e w' => ∃ k : Nat, e = .returned (.int .i64 k) ∧ Hid (StepIs (stepH x n) n k) ∧ GOk B w' g (itU k (stepH x n)) ∧ Ext a w' := by
  by_cases n0 : n = 0
  · subst n0
    have e : stepH x 0 = x := by unfold stepH; rw [if_neg (fun h => h.2 rfl)]
    rw [e]
    refine (l3step_zero g w).mono ?_
    rintro e w' ⟨rfl, rfl⟩
    exact ⟨0, rfl, ⟨Runs.zero _, Nat.le_refl _, .inl rfl⟩, h, hx⟩
  · by_cases hp : x.phase = 0
    · have e : stepH x n = toPh x 1 0 := by unfold stepH; rw [if_pos ⟨hp, n0⟩]
      rw [e]
      exact l3step_begin B g x n w h s n0 n1 hp a ha hx
    · have e : stepH x n = x := by unfold stepH; rw [if_neg (fun h => hp h.1)]
      rw [e]
      exact l3step_loop B g x n w h s n0 n1 hp a ha hx
end Go.Proofs.YtkabcfhemljnbaaGreat

namespace Go.Proofs.YtkabcfhemljnbaaGreat
open Go.RowKit
attribute [local go_sem ↓] Go.wp_at_zero Go.wp_at_succ

/-! What Step answers. -/
abbrev stpV (x : Hp) (k : Nat) (vr vc vg : Value) : Value := .agg #[iv x.room, iv x.used, iv x.born, vr, vc, iv x.phase, iv x.hand, iv x.sub, vg, iv x.per, iv x.start, iv x.rounds, iv x.forced, iv k]
def StOk (x : Hp) (n : Int) : Prop := OkIs x 0 ∧ 0 ≤ n ∧ n ≤ 100000
def StIs (x : Hp) (n : Int) (y : Hp) (k : Nat) : Prop := (StOk x n ∧ StepIs (stepH x n.toNat) n.toNat k ∧ y = itU k (stepH x n.toNat)) ∨ (¬ StOk x n ∧ y = Hp0 ∧ k = 0)
theorem StIs.uniq {x : Hp} {n : Int} {y z : Hp} {j k : Nat} (h : StIs x n y j) (g : StIs x n z k) : y = z ∧ j = k := by
  rcases h with ⟨h1, h2, h3⟩ | ⟨h1, h2, h3⟩ <;> rcases g with ⟨k1, k2, k3⟩ | ⟨k1, k2, k3⟩
  · have e := h2.uniq k2
    exact ⟨by rw [h3, k3, e], e⟩
  · exact (k1 h1).elim
  · exact (h1 k1).elim
  · exact ⟨by rw [h2, k2], by rw [h3, k3]⟩
set_option maxRecDepth 100000 in
set_option maxHeartbeats 4000000 in
theorem specStep_any (x : Hp) (at_ : Int) (w : World) {ar : Option Addr} {kr : Nat} {ac : Option Addr} {kc : Nat} {ag : Option Addr} {kg : Nat} (hR : SlW w (.slice ar x.regs.length kr) x.regs) (hC : SlC w (.slice ac x.cells.length kc) x.cells) (hG : SlI w (.slice ag x.gray.length kg) x.gray) :
    Calls Tryz.prog 35 #[x.v (.slice ar x.regs.length kr) (.slice ac x.cells.length kc) (.slice ag x.gray.length kg), .int .i64 at_] w fun e w' => ∃ (y : Hp) (k : Nat) (ar : Option Addr) (kr : Nat) (ac : Option Addr) (kc : Nat) (ag : Option Addr) (kg : Nat), Hid (e = .returned (stpV y k (.slice ar y.regs.length kr) (.slice ac y.cells.length kc) (.slice ag y.gray.length kg))) ∧ Hid (StIs x at_ y k) ∧ Hid (HRd w' y ar kr ac kc ag kg) ∧ Ext w w' := by
  have x1 : Ext w ((w.alloc (.cells #[iv x.room, iv x.used, iv x.born, .slice ar x.regs.length kr, .slice ac x.cells.length kc, iv x.phase, iv x.hand, iv x.sub, .slice ag x.gray.length kg, iv x.per, iv x.start, iv x.rounds, iv x.forced] 33)).alloc (.cells #[iv 0, iv 0, iv 0, .slice none 0 0, .slice none 0 0, iv 0, iv 0, iv 0, .slice none 0 0, iv 0, iv 0, iv 0, iv 0, iv 0] 50)) := ((Ext.refl w).alloc _).alloc _
  have S1 := hide (SlW.ext x1 hR)
  have S2 := hide (SlC.ext x1 hC)
  have S3 := hide (SlI.ext x1 hG)
  have HB := hide ((HBox.new w x (.slice ar x.regs.length kr) (.slice ac x.cells.length kc) (.slice ag x.gray.length kg) 33).ext ((Ext.refl _).alloc (.cells #[iv 0, iv 0, iv 0, .slice none 0 0, .slice none 0 0, iv 0, iv 0, iv 0, .slice none 0 0, iv 0, iv 0, iv 0, iv 0, iv 0] 50)))
  have hs2 : ((w.alloc (.cells #[iv x.room, iv x.used, iv x.born, .slice ar x.regs.length kr, .slice ac x.cells.length kc, iv x.phase, iv x.hand, iv x.sub, .slice ag x.gray.length kg, iv x.per, iv x.start, iv x.rounds, iv x.forced] 33)).alloc (.cells #[iv 0, iv 0, iv 0, .slice none 0 0, .slice none 0 0, iv 0, iv 0, iv 0, .slice none 0 0, iv 0, iv 0, iv 0, iv 0, iv 0] 50)).heap.size = w.heap.size + 2 := by simp
  clear hR hC hG
  go_enter Tryz.func35, Tryz.ntmps35
  go_wp2_with fail
  refine (specHeapOk_any x _ (unhide S1) (unhide S2) (unhide S3)).mono ?_
  rintro e w2 ⟨n, rfl, hok2, hq⟩
  have x2 := x1.trans hq
  have OK2 := hide hok2
  have B2 := hide ((unhide HB).ext hq)
  have RC := hide (show ∀ o v, ((w.alloc (.cells #[iv x.room, iv x.used, iv x.born, .slice ar x.regs.length kr, .slice ac x.cells.length kc, iv x.phase, iv x.hand, iv x.sub, .slice ag x.gray.length kg, iv x.per, iv x.start, iv x.rounds, iv x.forced] 33)).alloc (.cells #[iv 0, iv 0, iv 0, .slice none 0 0, .slice none 0 0, iv 0, iv 0, iv 0, .slice none 0 0, iv 0, iv 0, iv 0, iv 0, iv 0] 50)).cell? ⟨w.heap.size + 1, o, none⟩ = some v → w2.cell? ⟨w.heap.size + 1, o, none⟩ = some v from fun o v h => hq.keep h)
  have RCF := hide (show ∀ o, w2.frozen? ⟨w.heap.size + 1, o, none⟩ = false from fun o => ((bcell hq).2 (w.heap.size + 1) o (by rw [hs2]; omega)).trans (by simp [go_sem]))
  have hz2 : w.heap.size + 2 ≤ w2.heap.size := by have := hq.size; omega
  have Q1 := hide (show SlW w2 (.slice ar x.regs.length kr) x.regs ∧ SlC w2 (.slice ac x.cells.length kc) x.cells ∧ SlI w2 (.slice ag x.gray.length kg) x.gray from ⟨SlW.ext hq (unhide S1), SlC.ext hq (unhide S2), SlI.ext hq (unhide S3)⟩)
  have rc := unhide RC
  have rcF := unhide RCF
  have r0 := rc 0 (iv 0) (by simp [go_sem])
  have r1 := rc 1 (iv 0) (by simp [go_sem])
  have r2 := rc 2 (iv 0) (by simp [go_sem])
  have r3 := rc 3 (.slice none 0 0) (by simp [go_sem])
  have r4 := rc 4 (.slice none 0 0) (by simp [go_sem])
  have r5 := rc 5 (iv 0) (by simp [go_sem])
  have r6 := rc 6 (iv 0) (by simp [go_sem])
  have r7 := rc 7 (iv 0) (by simp [go_sem])
  have r8 := rc 8 (.slice none 0 0) (by simp [go_sem])
  have r9 := rc 9 (iv 0) (by simp [go_sem])
  have r10 := rc 10 (iv 0) (by simp [go_sem])
  have r11 := rc 11 (iv 0) (by simp [go_sem])
  have r12 := rc 12 (iv 0) (by simp [go_sem])
  have r13 := rc 13 (iv 0) (by simp [go_sem])
  have f0 := rcF 0
  have f1 := rcF 1
  have f2 := rcF 2
  have f3 := rcF 3
  have f4 := rcF 4
  have f5 := rcF 5
  have f6 := rcF 6
  have f7 := rcF 7
  have f8 := rcF 8
  have f9 := rcF 9
  have f10 := rcF 10
  have f11 := rcF 11
  have f12 := rcF 12
  have f13 := rcF 13
  have hr0 : w.heap.size + 1 < w2.heap.size := cell_lt r0
  clear hok2 hq rc rcF
  cases t : (n == 0)
  · have t2 : (n != 0) = true := by simpa using t
    have N := hide (show StIs x at_ Hp0 0 from .inr ⟨fun h => by have := OkIs.uniq h.1 (unhide OK2); simp at t; omega, rfl, rfl⟩)
    go_wp2_with fail
    refine bodyPost_ret (v := stpV Hp0 0 (.slice none 0 0) (.slice none 0 0) (.slice none 0 0)) (by simp [results, Tryz.results35, go_sem, Hp0, r0, r1, r2, r3, r4, r5, r6, r7, r8, r9, r10, r11, r12, r13]) rfl ⟨Hp0, 0, none, 0, none, 0, none, 0, rfl, unhide N, HRd.zero _, ?_⟩
    refine (fun (F : Only (fun q => q = w.heap.size + 1) w2 _) => F.ext x2 (fun q hq e => by omega)) ?_
    repeat (first | refine Only.setCell ?_ (by simp) _ | exact Only.refl _ _)
  · have t2 : (n != 0) = false := by simpa using t
    have Y := hide (show OkIs x 0 by have := unhide OK2; simp at t; rw [t] at this; exact this)
    have b4 := (unhide B2).2.2.2.2.1
    have hb0 : w.heap.size < w2.heap.size := cell_lt b4
    by_cases ha0 : at_ < 0
    · have N := hide (show StIs x at_ Hp0 0 from .inr ⟨fun h => by have := h.2.1; omega, rfl, rfl⟩)
      go_wp2_with fail
      refine bodyPost_ret (v := stpV Hp0 0 (.slice none 0 0) (.slice none 0 0) (.slice none 0 0)) (by simp [results, Tryz.results35, go_sem, Hp0, r0, r1, r2, r3, r4, r5, r6, r7, r8, r9, r10, r11, r12, r13]) rfl ⟨Hp0, 0, none, 0, none, 0, none, 0, rfl, unhide N, HRd.zero _, ?_⟩
      refine (fun (F : Only (fun q => q = w.heap.size + 1) w2 _) => F.ext x2 (fun q hq e => by omega)) ?_
      repeat (first | refine Only.setCell ?_ (by simp) _ | exact Only.refl _ _)
    · by_cases ha1 : at_ ≤ 100000
      · obtain ⟨i, hi⟩ : ∃ i : Nat, at_ = (i : Int) := ⟨at_.toNat, by omega⟩
        subst hi
        have i0 : (0:Int) ≤ (i:Int) := by omega
        have ngt : ¬ ((i : Int) > 100000) := by omega
        obtain ⟨b0, b1, b2, b3, b4', b5, b6, b7, b8, b9, b10, b11, b12⟩ := unhide B2
        obtain ⟨R1x, R2x, _, _⟩ := (unhide Y).all
        have hg4 := (gray_fit (unhide Y)).1
        have n8 := (unhide Y).n8
        have hrg : 0 < x.regs.length ∧ x.regs.length ≤ 100 := by rw [R1x.regs]; omega
        have P2 := hide (unhide Y).p200
        clear b4' R1x R2x
        go_wp2_with fail
        refine (l1copy_any x _ (unhide Q1).1 (unhide Q1).2.1 (unhide Q1).2.2 hrg.1 hrg.2 n8 (unhide P2) (by omega)).mono ?_
        rintro e w3 ⟨g, rfl, hg, q3⟩
        obtain ⟨ar3, kr3, ac3, kc3, vg3, br, bc, pb, pa, pk, role, hG3⟩ := unhide hg
        obtain ⟨ag3, kg3, hvg⟩ : ∃ a k, vg3 = .slice a x.gray.length k := hG3.gr.form
        subst hvg
        have G3 := hide hG3
        clear hg hG3 b0 b1 b2 b3 b5 b6 b7 b8 b9 b10 b11 b12 b4
        go_wp2_with fail
        refine (l3step_any w2.heap.size g x i _ ⟨_, _, _, _, _, _, _, _, _, _, _, unhide G3⟩ (OkIs.snd (unhide Y)) (by omega) w2 (Nat.le_refl _) q3).mono ?_
        rintro e w4 ⟨k, rfl, st4, h4, x4⟩
        obtain ⟨y, hy⟩ : ∃ y, y = itU k (stepH x i) := ⟨_, rfl⟩
        have IS := hide (show StIs x (i : Int) y k from .inl ⟨⟨unhide Y, by omega, by omega⟩, unhide st4, hy⟩)
        have SY := hide (show Snd y by rw [hy]; exact ((OkIs.snd (unhide Y)).stepH i).itU k)
        rw [← hy] at h4
        obtain ⟨ar3, kr3, ac3, kc3, vg4, br, bc, pb, pa, pk, role4, hG4⟩ := h4
        obtain ⟨ag4, kg4, hvg⟩ : ∃ a k, vg4 = .slice a y.gray.length k := hG4.gr.form
        subst hvg
        have RD := hide (show ∀ W, Only (fun q => q = w.heap.size + 1) w4 W → HRd W y ar3 kr3 ac3 kc3 ag4 kg4 from fun W o => (hG4.low o (fun q e => by omega)).rd (by rw [(unhide SY).r1.regs]; omega) (by have := (unhide SY).ok.n8; omega) (fun q hq => (unhide SY).ok.p200 q hq) (by have := (unhide SY).r1.gray; have := (unhide SY).ok.n8; omega))
        obtain ⟨d0, d1, d2, d3, d4, d5, d6, d7, d8, d9, d10, d11, d12⟩ := hG4.bx
        have X4 := x2.trans x4
        have hgw : w2.heap.size ≤ g := hG4.lo
        have hg4s : g < w4.heap.size := cell_lt d0
        have ng : ¬ g = w.heap.size + 1 := by omega
        have ng2 : ¬ w.heap.size + 1 = g := by omega
        have e0 := x4.keep r0
        have e1 := x4.keep r1
        have e2 := x4.keep r2
        have e3 := x4.keep r3
        have e4 := x4.keep r4
        have e5 := x4.keep r5
        have e6 := x4.keep r6
        have e7 := x4.keep r7
        have e8 := x4.keep r8
        have e9 := x4.keep r9
        have e10 := x4.keep r10
        have e11 := x4.keep r11
        have e12 := x4.keep r12
        have e13 := x4.keep r13
        have g0 := ((bcell x4).2 (w.heap.size + 1) 0 hr0).trans f0
        have g1 := ((bcell x4).2 (w.heap.size + 1) 1 hr0).trans f1
        have g2 := ((bcell x4).2 (w.heap.size + 1) 2 hr0).trans f2
        have g3 := ((bcell x4).2 (w.heap.size + 1) 3 hr0).trans f3
        have g4 := ((bcell x4).2 (w.heap.size + 1) 4 hr0).trans f4
        have g5 := ((bcell x4).2 (w.heap.size + 1) 5 hr0).trans f5
        have g6 := ((bcell x4).2 (w.heap.size + 1) 6 hr0).trans f6
        have g7 := ((bcell x4).2 (w.heap.size + 1) 7 hr0).trans f7
        have g8 := ((bcell x4).2 (w.heap.size + 1) 8 hr0).trans f8
        have g9 := ((bcell x4).2 (w.heap.size + 1) 9 hr0).trans f9
        have g10 := ((bcell x4).2 (w.heap.size + 1) 10 hr0).trans f10
        have g11 := ((bcell x4).2 (w.heap.size + 1) 11 hr0).trans f11
        have g12 := ((bcell x4).2 (w.heap.size + 1) 12 hr0).trans f12
        have g13 := ((bcell x4).2 (w.heap.size + 1) 13 hr0).trans f13
        have hr4 : w.heap.size + 1 < w4.heap.size := cell_lt e0
        clear hG4 hy r0 r1 r2 r3 r4 r5 r6 r7 r8 r9 r10 r11 r12 r13 f0 f1 f2 f3 f4 f5 f6 f7 f8 f9 f10 f11 f12 f13
        go_wp2_with fail
        refine bodyPost_ret (v := stpV y k (.slice ar3 y.regs.length kr3) (.slice ac3 y.cells.length kc3) (.slice ag4 y.gray.length kg4)) (by simp [results, Tryz.results35, go_sem, e0, e1, e2, e3, e4, e5, e6, e7, e8, e9, e10, e11, e12, e13]) rfl ⟨y, k, ar3, kr3, ac3, kc3, ag4, kg4, rfl, unhide IS, ?_⟩
        refine (fun (F : Only (fun q => q = w.heap.size + 1) w4 _) => ⟨unhide RD _ F, F.ext X4 (fun q hq e => by omega)⟩) ?_
        repeat (first | refine Only.setCell ?_ (by simp) _ | exact Only.refl _ _)
      · have ha2 : at_ > 100000 := by omega
        have N := hide (show StIs x at_ Hp0 0 from .inr ⟨fun h => by have := h.2.2; omega, rfl, rfl⟩)
        go_wp2_with fail
        refine bodyPost_ret (v := stpV Hp0 0 (.slice none 0 0) (.slice none 0 0) (.slice none 0 0)) (by simp [results, Tryz.results35, go_sem, Hp0, r0, r1, r2, r3, r4, r5, r6, r7, r8, r9, r10, r11, r12, r13]) rfl ⟨Hp0, 0, none, 0, none, 0, none, 0, rfl, unhide N, HRd.zero _, ?_⟩
        refine (fun (F : Only (fun q => q = w.heap.size + 1) w2 _) => F.ext x2 (fun q hq e => by omega)) ?_
        repeat (first | refine Only.setCell ?_ (by simp) _ | exact Only.refl _ _)
end Go.Proofs.YtkabcfhemljnbaaGreat
