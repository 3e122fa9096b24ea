import Derived.Test.YtkabcfhemljnbaaGreatUn2
namespace Go.Proofs.YtkabcfhemljnbaaGreat
open Go.RowKit

/-! The units of PRoots and PMark. -/
def toPh (x : Hp) (p h : Int) : Hp := { x with phase := p, hand := h, sub := 0 }
def spkB (c : Cl) : Bool := c.last == 1 || c.last == 2
theorem spkB_iff (c : Cl) : spkB c = true ↔ Speaks c := by simp [spkB, Speaks]
/-- a word's cell is shaded -/
def shadeW (x : Hp) (y : Wd) : Hp := if (y.k == 2) = true then shadeH x y.a.toNat else x
def unit1 (x : Hp) : Hp := if x.hand = x.cells.length then toPh x 2 0 else
  let z := if spkB (x.c x.hand.toNat) = true then shadeH x x.hand.toNat else x
  { z with hand := x.hand + 1 }
def lookH (x : Hp) : Hp := x.regs.foldl shadeW x
def blackC (c : Cl) : Cl := { c with color := 2 }
def unit2 (x : Hp) : Hp :=
  match x.gray with
  | g :: G =>
    if x.sub < (x.c g.toNat).prs.length then
      let p := (x.c g.toNat).p x.sub.toNat
      { shadeW (shadeW x p.key) p.val with sub := x.sub + 1 }
    else { x with cells := x.cells.set g.toNat (blackC (x.c g.toNat)), gray := G, sub := 0 }
  | [] => if (lookH x).gray = [] then toPh (lookH x) 3 0 else lookH x

/-- a word that leads to a used cell, or to none -/
def Good1 (x : Hp) (y : Wd) : Prop := y.k = 2 → y.a.toNat < x.cells.length ∧ (x.c y.a.toNat).st = 1
theorem Snd.shdW {x : Hp} (h : Snd x) (y : Wd) (hy : Good1 x y) : Snd (shadeW x y) := by
  unfold Go.Proofs.YtkabcfhemljnbaaGreat.shadeW
  split
  · rename_i e; exact h.shade _ (hy (by simpa using e)).1
  · exact h
theorem shadeW_same (x : Hp) (y : Wd) : (shadeW x y).regs = x.regs ∧ (shadeW x y).cells.length = x.cells.length ∧ (shadeW x y).phase = x.phase ∧ (shadeW x y).hand = x.hand ∧ (shadeW x y).sub = x.sub := by
  unfold shadeW
  split
  · obtain ⟨_, _, _, s4, s5, s6, s7, s8, _⟩ := shade_same x y.a.toNat
    exact ⟨s4, s5, s6, s7, s8⟩
  · exact ⟨rfl, rfl, rfl, rfl, rfl⟩
theorem shadeW_un (x : Hp) (y : Wd) (hy : Good1 x y) (q : Nat) : ((shadeW x y).c q).un = (x.c q).un := by
  unfold shadeW
  split
  · rename_i e; exact shade_un x _ (hy (by simpa using e)).1 q
  · rfl
theorem Good1.keep {x z : Hp} {y : Wd} (h : Good1 x y) (hl : z.cells.length = x.cells.length) (hu : ∀ q, (z.c q).un = (x.c q).un) : Good1 z y := fun hk => ⟨by rw [hl]; exact (h hk).1, by rw [(un_parts (hu _)).1]; exact (h hk).2⟩
theorem not_white_shade (x : Hp) (i : Nat) (hi : i < x.cells.length) (hm : Marking x) (hs : (x.c i).st = 1) : ((shadeH x i).c i).color ≠ 0 := by
  rw [shade_c x i hi i]
  by_cases hb : shadeB x i = true
  · rw [if_pos ⟨hb, rfl⟩]; simp [grayC]
  · rw [if_neg (fun e => hb e.1)]
    intro e
    refine hb ?_
    have : mkB x = true := by unfold mkB; rcases hm with h | h <;> simp [h]
    simp [shadeB, whB, this, hs, e]
theorem shade_mono (x : Hp) (i : Nat) (hi : i < x.cells.length) (q : Nat) (h : (x.c q).color ≠ 0) : ((shadeH x i).c q).color ≠ 0 := by
  rw [shade_c x i hi q]
  split
  · simp [grayC]
  · exact h
theorem not_white_shadeW (x : Hp) (y : Wd) (hy : Good1 x y) (hm : Marking x) : ¬ White (shadeW x y) y := fun h => by
  have e : (y.k == 2) = true := by simpa using h.1
  have := hy h.1
  unfold shadeW at h
  rw [if_pos e] at h
  exact not_white_shade x _ this.1 hm this.2 h.2
theorem shadeW_mono (x : Hp) (y : Wd) (hy : Good1 x y) (q : Nat) (h : (x.c q).color ≠ 0) : ((shadeW x y).c q).color ≠ 0 := by
  unfold shadeW
  split
  · rename_i e; exact shade_mono x _ (hy (by simpa using e)).1 q h
  · exact h
/-- words of a heap in which marking is on lead to used cells -/
theorem Snd.good_pair {x : Hp} (h : Snd x) (hm : Marking x) (i k : Nat) (hi : i < x.cells.length) (hk : k < (x.c i).prs.length) : Good1 x ((x.c i).p k).key ∧ Good1 x ((x.c i).p k).val := by
  have nd : ¬ Doomed x i := fun d => by have := d.1; rcases hm with h' | h' <;> omega
  have r := ((h.r4.2 i hi).2 k hk).2 nd
  have hmen : Mended x i k := ⟨by rcases hm with h' | h' <;> omega, fun h5 => by rcases hm with h' | h' <;> omega⟩
  have go : ∀ y, Leads x y (¬ Mended x i k) → Good1 x y := fun y hy hk2 => by
    have hf : Formed y x.cells.length := hy.1
    rcases hy.2 hk2 with ⟨_, h2⟩ | ⟨h1, _⟩
    · exact (h2 hmen).elim
    · refine ⟨?_, h1⟩
      rcases hf with f | f | f
      · omega
      · omega
      · omega
  exact ⟨go _ r.1, go _ r.2⟩
theorem Snd.good_reg {x : Hp} (h : Snd x) (i : Nat) (hi : i < x.regs.length) : Good1 x x.regs[i] := fun hk => by
  have r := h.r4.1 i hi
  rcases r.2 hk with ⟨_, h2⟩ | ⟨h1, _⟩
  · exact h2.elim
  · refine ⟨?_, h1⟩
    rcases r.1 with f | f | f <;> omega

/-- all that lies behind a change of hand and sub alone, marking being on -/
theorem Snd.hand {x : Hp} (h : Snd x) (hm : Marking x) (p hd sb : Int) (hp : p = 1 ∨ p = 2) (h1 : 0 ≤ hd ∧ hd ≤ x.cells.length) (h2 : 0 ≤ sb ∧ sb ≤ 200) (h6 : R6 { x with phase := p, hand := hd, sub := sb }) (h7 : R7 { x with phase := p, hand := hd, sub := sb }) : Snd { x with phase := p, hand := hd, sub := sb } := by
  have r := h.r1
  have np : p ≠ 3 ∧ p ≠ 4 ∧ p ≠ 5 ∧ p ≠ 6 := by omega
  have nx : x.phase ≠ 3 ∧ x.phase ≠ 4 ∧ x.phase ≠ 5 ∧ x.phase ≠ 6 := by rcases hm with h' | h' <;> omega
  have lead : ∀ (w : Wd) (m m' : Prop), (m → m') → Leads x w m → Leads { x with phase := p, hand := hd, sub := sb } w m' := fun w m m' hmm hl => by
    refine ⟨hl.1, fun hk => ?_⟩
    rcases hl.2 hk with ⟨a, b⟩ | ⟨a, _⟩
    · exact .inl ⟨a, hmm b⟩
    · exact .inr ⟨a, fun d => np.1 d.1⟩
  have men : ∀ i k, Mended { x with phase := p, hand := hd, sub := sb } i k := fun i k => ⟨np.2.1, fun e => (np.2.2.1 e).elim⟩
  have men' : ∀ i k, Mended x i k := fun i k => ⟨nx.2.1, fun e => (nx.2.2.1 e).elim⟩
  have nd : ∀ i, ¬ Doomed x i := fun i d => nx.1 d.1
  refine ⟨⟨r.room, r.regs, r.cells, r.gray, r.born, r.rounds, r.forced, r.per, r.start, by show 0 ≤ p ∧ p ≤ 6; omega, h1, h2⟩, ⟨fun i hi => ?_, h.r2.2⟩, h.r3, ⟨fun i hi => lead _ _ _ id (h.r4.1 i hi), fun i hi => ⟨fun d => np.1 d.1.1, fun k hk => ⟨fun d => (np.1 d.1).elim, fun _ => ?_⟩⟩⟩, ⟨fun n => (n hp).elim, fun i hi => ?_, h.r5.2.2⟩, h6, h7, fun i hi e => np.2.2.2 e.1⟩
  · rcases h.r2.1 i hi with a | ⟨_, b⟩ | a
    · exact .inl a
    · have := b.2.1; rcases hm with h' | h' <;> omega
    · exact .inr (.inr a)
  · have := ((h.r4.2 i hi).2 k hk).2 (nd i)
    exact ⟨lead _ _ _ (fun e => (e (men' i k)).elim) this.1, lead _ _ _ (fun e => (e (men' i k)).elim) this.2⟩
  · have c := h.r5.2.1 i hi
    exact ⟨c.1, c.2.1, fun _ => .inl hp⟩
theorem Snd.u1 {x : Hp} (h : Snd x) (hp : x.phase = 1) : Snd (unit1 x) := by
  unfold Go.Proofs.YtkabcfhemljnbaaGreat.unit1
  have hm : Marking x := .inl hp
  have hsub : x.sub = 0 := h.r6.2.2.2 (.inl hp)
  split
  · rename_i he
    refine h.hand hm 2 0 0 (.inr rfl) ⟨by omega, by omega⟩ ⟨by omega, by omega⟩ ?_ ?_
    · refine ⟨fun e => ?_, fun _ => ⟨rfl, fun _ => rfl, fun _ => ?_⟩, fun e => ?_, fun e => ?_⟩
      · have e' : (2:Int) = 0 ∨ (2:Int) = 4 := e; omega
      · show (0:Int) ≤ _; omega
      · have e' : (2:Int) = 5 := e; omega
      · have e' : (2:Int) = 1 ∨ (2:Int) = 3 ∨ (2:Int) = 6 := e; omega
    · intro _ i hi
      have r := h.r7 hm i hi
      refine ⟨fun e => r.1 ⟨e.1, e.2.1, .inr ?_⟩, fun k hk => r.2 k ?_⟩
      · have : i < x.cells.length := hi
        omega
      · unfold looked at hk ⊢
        by_cases h2 : (x.c i).color = 2
        · rw [if_pos (show (({ x with phase := 2, hand := 0, sub := 0 } : Hp).c i).color = 2 from h2)] at hk
          rw [if_pos h2]; exact hk
        · rw [if_neg (show ¬ (({ x with phase := 2, hand := 0, sub := 0 } : Hp).c i).color = 2 from h2)] at hk
          split at hk
          · simp at hk
          · omega
  · rename_i hne
    have hh := h.r1.hand
    obtain ⟨i, hi⟩ : ∃ i : Nat, x.hand = (i : Int) := ⟨x.hand.toNat, by omega⟩
    have hin : i < x.cells.length := by omega
    have ei : x.hand.toNat = i := by omega
    rw [ei]
    obtain ⟨z, hz⟩ : ∃ z, z = (if spkB (x.c i) = true then shadeH x i else x) := ⟨_, rfl⟩
    have hS : Snd z := by rw [hz]; split; exact h.shade i hin; exact h
    have hz1 : z.phase = x.phase ∧ z.hand = x.hand ∧ z.sub = x.sub ∧ z.cells.length = x.cells.length := by
      rw [hz]; split
      · obtain ⟨_, _, _, _, s5, s6, s7, s8, _⟩ := shade_same x i
        exact ⟨s6, s7, s8, s5⟩
      · exact ⟨rfl, rfl, rfl, rfl⟩
    have hw : Speaks (z.c i) → (z.c i).color ≠ 0 := by
      rw [hz]
      split
      · rename_i e
        have hs : (x.c i).st = 1 := by
          have hsp := (spkB_iff _).1 e
          rcases h.r2.1 i hin with ⟨_, b, _⟩ | ⟨_, b⟩ | ⟨a, _⟩
          · have := b.2.2.1; rcases hsp with q | q <;> omega
          · have := b.1.2.2.1; rcases hsp with q | q <;> omega
          · exact a
        exact fun _ => not_white_shade x i hin hm hs
      · rename_i e
        exact fun q => (e ((spkB_iff _).2 q)).elim
    suffices hgoal : Snd { z with hand := x.hand + 1 } by rw [hz] at hgoal; exact hgoal
    have hmz : Marking z := by unfold Marking; rw [hz1.1]; exact hm
    have e0 : ({ z with hand := x.hand + 1 } : Hp) = { z with phase := z.phase, hand := x.hand + 1, sub := z.sub } := rfl
    rw [e0]
    have r6 := hS.r6
    refine hS.hand hmz z.phase (x.hand + 1) z.sub hmz ⟨by omega, by rw [hz1.2.2.2]; omega⟩ ⟨by have := hS.r1.sub; omega, by have := hS.r1.sub; omega⟩ ?_ ?_
    · refine ⟨fun e => ?_, fun e => ?_, fun e => ?_, fun _ => ?_⟩
      · have e' : z.phase = 0 ∨ z.phase = 4 := e; rw [hz1.1] at e'; omega
      · have e' : z.phase = 2 := e; rw [hz1.1] at e'; omega
      · have e' : z.phase = 5 := e; rw [hz1.1] at e'; omega
      · show z.sub = 0; rw [hz1.2.2.1]; exact hsub
    · intro _ j hj
      have r := hS.r7 hmz j hj
      refine ⟨fun e => ?_, fun k hk => r.2 k hk⟩
      have e3 : z.phase = 2 ∨ (j : Int) < x.hand + 1 := e.2.2
      by_cases ej : j = i
      · subst ej; exact hw e.1 e.2.1
      · refine r.1 ⟨e.1, e.2.1, ?_⟩
        rcases e3 with q | q
        · exact .inl q
        · right; rw [hz1.2.1]; omega
end Go.Proofs.YtkabcfhemljnbaaGreat

namespace Go.Proofs.YtkabcfhemljnbaaGreat
open Go.RowKit

/-- z is x with some cells shaded -/
structure Shd (x z : Hp) : Prop where
  s : Snd z
  regs : z.regs = x.regs
  len : z.cells.length = x.cells.length
  phase : z.phase = x.phase
  hand : z.hand = x.hand
  sub : z.sub = x.sub
  un : ∀ q, (z.c q).un = (x.c q).un
  mono : ∀ q, (x.c q).color ≠ 0 → (z.c q).color ≠ 0
  gray : ∃ L, z.gray = x.gray ++ L
theorem Shd.refl {x : Hp} (h : Snd x) : Shd x x := ⟨h, rfl, rfl, rfl, rfl, rfl, fun _ => rfl, fun _ h => h, [], by simp⟩
theorem shadeW_gray (x : Hp) (y : Wd) : ∃ L, (shadeW x y).gray = x.gray ++ L := by
  unfold shadeW shadeH
  split
  · split
    · exact ⟨_, rfl⟩
    · exact ⟨[], by simp⟩
  · exact ⟨[], by simp⟩
theorem Shd.step {x z : Hp} (h : Shd x z) (y : Wd) (hy : Good1 x y) : Shd x (shadeW z y) ∧ (Marking x → ¬ White (shadeW z y) y) := by
  have hz : Good1 z y := hy.keep h.len h.un
  obtain ⟨a1, a2, a3, a4, a5⟩ := shadeW_same z y
  obtain ⟨L, hL⟩ := h.gray
  obtain ⟨M, hM⟩ := shadeW_gray z y
  refine ⟨⟨h.s.shdW y hz, a1.trans h.regs, a2.trans h.len, a3.trans h.phase, a4.trans h.hand, a5.trans h.sub, fun q => (shadeW_un z y hz q).trans (h.un q), fun q hq => shadeW_mono z y hz q (h.mono q hq), L ++ M, by rw [hM, hL, List.append_assoc]⟩, fun hm => not_white_shadeW z y hz (by unfold Marking; rw [h.phase]; exact hm)⟩
theorem white_keep {z : Hp} {y u : Wd} (hy : Good1 z y) (h : ¬ White z u) : ¬ White (shadeW z y) u := fun w => h ⟨w.1, by
  rcases Int.decEq (z.c u.a.toNat).color 0 with hn | he
  · exact absurd w.2 (shadeW_mono z y hy _ hn)
  · exact he⟩
theorem Shd.fold {x : Hp} (hm : Marking x) : ∀ (ys : List Wd) (z : Hp), (∀ y, y ∈ ys → Good1 x y) → Shd x z → Shd x (ys.foldl shadeW z) ∧ (∀ y, y ∈ ys → ¬ White (ys.foldl shadeW z) y) ∧ ∀ u, ¬ White z u → ¬ White (ys.foldl shadeW z) u
  | [], z, _, h => ⟨h, fun y hy => (by cases hy), fun _ h => h⟩
  | y :: ys, z, hg, h => by
    have st := h.step y (hg y (List.mem_cons_self ..))
    obtain ⟨q1, q2, q3⟩ := Shd.fold hm ys (shadeW z y) (fun u hu => hg u (List.mem_cons_of_mem _ hu)) st.1
    have hz : Good1 z y := (hg y (List.mem_cons_self ..)).keep h.len h.un
    refine ⟨q1, fun u hu => ?_, fun u hu => q3 u (white_keep hz hu)⟩
    rcases List.mem_cons.1 hu with e | e
    · rw [e]; exact q3 y (st.2 hm)
    · exact q2 u e
theorem un_prs {x z : Hp} (h : ∀ q, (z.c q).un = (x.c q).un) (q : Nat) : (z.c q).prs = (x.c q).prs := (un_parts (h q)).2.2.2.2.2.2
theorem un_p {x z : Hp} (h : ∀ q, (z.c q).un = (x.c q).un) (q k : Nat) : (z.c q).p k = (x.c q).p k := by simp only [Cl.p, un_prs h q]

theorem Snd.u2a {x : Hp} (h : Snd x) (hp : x.phase = 2) (g : Int) (G : List Int) (hg : x.gray = g :: G) (hs : x.sub < (x.c g.toNat).prs.length) : Snd { shadeW (shadeW x ((x.c g.toNat).p x.sub.toNat).key) ((x.c g.toNat).p x.sub.toNat).val with sub := x.sub + 1 } := by
  have hm : Marking x := .inr hp
  have hgr := h.r5.2.2 g (by rw [hg]; exact List.mem_cons_self ..)
  have hs0 := h.r1.sub
  have hi : g.toNat < x.cells.length := by omega
  have hk : x.sub.toNat < (x.c g.toNat).prs.length := by omega
  obtain ⟨g1, g2⟩ := h.good_pair hm g.toNat x.sub.toNat hi hk
  obtain ⟨p, hpp⟩ : ∃ p, p = (x.c g.toNat).p x.sub.toNat := ⟨_, rfl⟩
  rw [← hpp] at g1 g2 ⊢
  have s1 := (Shd.refl h).step p.key g1
  have s2 := s1.1.step p.val g2
  have w1 : ¬ White (shadeW (shadeW x p.key) p.val) p.key := white_keep (g2.keep s1.1.len s1.1.un) (s1.2 hm)
  have w2 := s2.2 hm
  obtain ⟨z, hz⟩ : ∃ z, z = shadeW (shadeW x p.key) p.val := ⟨_, rfl⟩
  rw [← hz] at s2 w1 w2 ⊢
  obtain ⟨s2, _⟩ := s2
  obtain ⟨L, hL⟩ := s2.gray
  have hzg : z.gray = g :: (G ++ L) := by rw [hL, hg]; rfl
  have hmz : Marking z := by unfold Marking; rw [s2.phase]; exact hm
  have h6 := s2.s.r6
  have hp200 := h.ok.p200 g.toNat hi
  have e0 : ({ z with sub := x.sub + 1 } : Hp) = { z with phase := z.phase, hand := z.hand, sub := x.sub + 1 } := rfl
  rw [e0]
  refine s2.s.hand hmz z.phase z.hand (x.sub + 1) hmz s2.s.r1.hand ⟨by omega, by omega⟩ ?_ ?_
  · refine ⟨fun e => ?_, fun e => ⟨(h6.2.1 e).1, fun e2 => ?_, fun _ => ?_⟩, fun e => ?_, fun e => ?_⟩
    · have e' : z.phase = 0 ∨ z.phase = 4 := e; rw [s2.phase] at e'; omega
    · have e' : z.gray.length = 0 := e2; rw [hzg] at e'; simp at e'
    · have : ({ z with phase := z.phase, hand := z.hand, sub := x.sub + 1 } : Hp).g0 = g.toNat := by unfold Hp.g0; show (z.gray.getD 0 0).toNat = _; rw [hzg]; rfl
      rw [this]
      show x.sub + 1 ≤ ((z.c g.toNat).prs.length : Int)
      rw [un_prs s2.un]; omega
    · have e' : z.phase = 5 := e; rw [s2.phase] at e'; omega
    · have e' : z.phase = 1 ∨ z.phase = 3 ∨ z.phase = 6 := e; rw [s2.phase] at e'; omega
  · intro _ j hj
    have r := s2.s.r7 hmz j hj
    refine ⟨fun e => r.1 e, fun k hkk => ?_⟩
    have same : ∀ y, White ({ z with phase := z.phase, hand := z.hand, sub := x.sub + 1 } : Hp) y → White z y := fun y hy => hy
    have key : k < looked z j ∨ (j = g.toNat ∧ k = x.sub.toNat) := by
      unfold looked at hkk ⊢
      have hkk' : k < if (z.c j).color = 2 then (z.c j).prs.length else if z.phase = 2 ∧ z.gray.length ≠ 0 ∧ z.gray.getD 0 0 = (j : Int) then (x.sub + 1).toNat else 0 := hkk
      by_cases c2 : (z.c j).color = 2
      · rw [if_pos c2] at hkk' ⊢; exact .inl hkk'
      · rw [if_neg c2] at hkk' ⊢
        split at hkk'
        · rename_i hh
          rw [if_pos hh]
          have ej : j = g.toNat := by have := hh.2.2; rw [hzg] at this; simp at this; omega
          rw [s2.sub]
          by_cases ek : k = x.sub.toNat
          · exact .inr ⟨ej, ek⟩
          · left; omega
        · omega
    rcases key with q | ⟨q1, q2⟩
    · exact ⟨fun e => (r.2 k q).1 (same _ e), fun e => (r.2 k q).2 (same _ e)⟩
    · subst q1 q2
      have e9 : (({ z with phase := z.phase, hand := z.hand, sub := x.sub + 1 } : Hp).c g.toNat).p x.sub.toNat = p := by
        show (z.c g.toNat).p x.sub.toNat = p
        rw [un_p s2.un, ← hpp]
      rw [e9]
      exact ⟨fun e => w1 (same _ e), fun e => w2 (same _ e)⟩
theorem Snd.u2b {x : Hp} (h : Snd x) (hp : x.phase = 2) (g : Int) (G : List Int) (hg : x.gray = g :: G) (hs : ¬ x.sub < (x.c g.toNat).prs.length) : Snd { x with cells := x.cells.set g.toNat (blackC (x.c g.toNat)), gray := G, sub := 0 } := by
  have hm : Marking x := .inr hp
  have hgm : g ∈ x.gray := by rw [hg]; exact List.mem_cons_self ..
  have hgr := h.r5.2.2 g hgm
  have hi : g.toNat < x.cells.length := by omega
  have eg : ((g.toNat : Nat) : Int) = g := by omega
  have hu := gray_used h.r2 h.r5 g hgm
  have hsub : x.sub = ((x.c g.toNat).prs.length : Int) := by
    have := (h.r6.2.1 hp).2.2 (by rw [hg]; simp)
    have e : x.g0 = g.toNat := by unfold Hp.g0; rw [hg]; rfl
    rw [e] at this; omega
  obtain ⟨y, hy⟩ : ∃ y : Hp, y = { x with cells := x.cells.set g.toNat (blackC (x.c g.toNat)), gray := G, sub := 0 } := ⟨_, rfl⟩
  have hc : ∀ q, y.c q = if q = g.toNat then blackC (x.c g.toNat) else x.c q := fun q => by
    have := Hp.c_set x g.toNat (blackC (x.c g.toNat)) hi q
    rw [hy]; exact this
  have hl : y.cells.length = x.cells.length := by rw [hy]; simp
  have hph : y.phase = x.phase := by rw [hy]
  have hhd : y.hand = x.hand := by rw [hy]
  have hyg : y.gray = G := by rw [hy]
  have hys : y.sub = 0 := by rw [hy]
  have hr1 : y.room = x.room ∧ y.used = x.used ∧ y.born = x.born ∧ y.regs = x.regs ∧ y.per = x.per ∧ y.start = x.start ∧ y.rounds = x.rounds ∧ y.forced = x.forced := by rw [hy]; exact ⟨rfl, rfl, rfl, rfl, rfl, rfl, rfl, rfl⟩
  have hun : ∀ q, (y.c q).un = (x.c q).un := fun q => by
    rw [hc q]; by_cases e : q = g.toNat
    · rw [if_pos e, e]; rfl
    · rw [if_neg e]
  have hcol : ∀ q, (y.c q).color = if q = g.toNat then 2 else (x.c q).color := fun q => by
    rw [hc q]; by_cases e : q = g.toNat
    · rw [if_pos e, if_pos e]; rfl
    · rw [if_neg e, if_neg e]
  have hunits : units y.cells = units x.cells := by
    have : y.cells = x.cells.set g.toNat (blackC (x.c g.toNat)) := by rw [hy]
    rw [this]
    exact units_set _ _ _ hi (by rw [Hp.c_eq x _ hi]; rfl)
  rw [← hy]
  clear hy
  obtain ⟨z, hz⟩ : ∃ z : Hp, z = { x with sub := 0 } := ⟨_, rfl⟩
  have zc : ∀ q, z.c q = x.c q := fun q => by rw [hz]; rfl
  have h2 : R2 z := by rw [hz]; exact h.r2
  have h3 : R3 z := by rw [hz]; exact h.r3
  have h4 : R4 z := by
    have men : ∀ i k, ¬ Mended x i k → ¬ Mended z i k := fun i k e e' => e ⟨by have := e'.1; rw [hz] at this; exact this, fun h5 => by omega⟩
    have lead : ∀ (w : Wd) (m m' : Prop), (m → m') → Leads x w m → Leads z w m' := fun w m m' hmm hl => by
      refine ⟨by rw [hz]; exact hl.1, fun hk => ?_⟩
      rw [zc]
      rcases hl.2 hk with ⟨a, b⟩ | ⟨a, _⟩
      · exact .inl ⟨a, hmm b⟩
      · exact .inr ⟨a, fun d => by have := d.1; rw [hz] at this; have : x.phase = 3 := this; omega⟩
    have nd : ∀ i, ¬ Doomed z i := fun i d => by have := d.1; rw [hz] at this; have : x.phase = 3 := this; omega
    refine ⟨fun i hi' => ?_, fun i hi' => ⟨fun d => nd i d.1, fun k hk => ⟨fun d => (nd i d).elim, fun _ => ?_⟩⟩⟩
    · have e : z.regs = x.regs := by rw [hz]
      have hi2 : i < x.regs.length := by rw [← e]; exact hi'
      have e2 : z.regs[i] = x.regs[i] := by simp [e]
      rw [e2]; exact lead _ _ _ id (h.r4.1 i hi2)
    · rw [zc] at hk ⊢
      have := ((h.r4.2 i (by have e : z.cells = x.cells := by rw [hz]
                             rw [← e]; exact hi')).2 k hk).2 (fun d => by have := d.1; omega)
      exact ⟨lead _ _ _ (men i k) this.1, lead _ _ _ (men i k) this.2⟩
  have hmz : Marking z := by rw [hz]; exact hm
  obtain ⟨q2, q3, q4, q8⟩ := marked_same (x := z) (y := y) hmz (by rw [hph, hz]) (by rw [hhd, hz]) (by rw [hys, hz]) (by rw [hr1.2.2.1, hz]) (by rw [hr1.2.1, hz]) (by rw [hr1.1, hz]) (by rw [hr1.2.2.2.1, hz]) (by rw [hl, hz]) (fun q => by rw [zc]; exact hun q) (fun q hq => by
    rw [zc, hcol q]
    by_cases e : q = g.toNat
    · right; rw [if_pos e, (un_parts (hun q)).1, e]; exact ⟨hu.2, by omega, by omega⟩
    · left; rw [if_neg e]) (by rw [hunits, hz]) h2 h3 h4
  have hmy : Marking y := by unfold Marking; rw [hph]; exact hm
  have cg : ∀ j : Nat, cnt x.gray j = cnt G j + if j = g.toNat then 1 else 0 := fun j => by
    unfold cnt
    rw [hg, List.count_cons]
    by_cases e : j = g.toNat
    · subst e; rw [if_pos rfl]; simp [eg]
    · rw [if_neg e]
      have : ¬ g = (j : Int) := by omega
      simp [this]
  refine ⟨?_, q2, q3, q4, ⟨fun n => (n hmy).elim, fun j hj => ?_, fun k hk => ?_⟩, ?_, ?_, q8⟩
  · have r := h.r1
    have r4 := r.gray
    rw [hg] at r4
    simp at r4
    exact ⟨by rw [hr1.1]; exact r.room, by rw [hr1.2.2.2.1]; exact r.regs, by rw [hl, hr1.1]; exact r.cells, by rw [hyg, hl]; omega, by rw [hr1.2.2.1]; exact r.born, by rw [hr1.2.2.2.2.2.2.1]; exact r.rounds, by rw [hr1.2.2.2.2.2.2.2]; exact r.forced, by rw [hr1.2.2.2.2.1]; exact r.per, by rw [hr1.2.2.2.2.2.1]; exact r.start, by rw [hph]; exact r.phase, by rw [hhd, hl]; exact r.hand, by rw [hys]; omega⟩
  · rw [hl] at hj
    have r := h.r5.2.1 j hj
    have c := cg j
    unfold ColorOk
    rw [hcol j, hyg]
    by_cases e : j = g.toNat
    · subst e
      rw [if_pos rfl] at c ⊢
      have := r.1 hu.1
      exact ⟨fun h' => by omega, fun _ => by omega, fun _ => .inl hmy⟩
    · rw [if_neg e] at c ⊢
      exact ⟨fun h' => by have := r.1 h'; omega, fun h' => by have := r.2.1 h'; omega, fun _ => .inl hmy⟩
  · rw [hyg] at hk
    rw [hl]
    exact h.r5.2.2 k (by rw [hg]; exact List.mem_cons_of_mem _ hk)
  · unfold R6
    rw [hph, hhd, hys]
    refine ⟨fun e => by omega, fun _ => ⟨(h.r6.2.1 hp).1, fun _ => rfl, fun _ => by omega⟩, fun e => by omega, fun e => by omega⟩
  · intro _ j hj
    rw [hl] at hj
    have r := h.r7 hm j hj
    have wh : ∀ u, White y u → White x u := fun u hw => by
      refine ⟨hw.1, ?_⟩
      have := hw.2
      rw [hcol] at this
      by_cases e : u.a.toNat = g.toNat
      · rw [if_pos e] at this; omega
      · rw [if_neg e] at this; exact this
    refine ⟨fun e => r.1 ⟨?_, ?_, .inl hp⟩, fun k hk => ?_⟩
    · unfold Speaks; rw [← (un_parts (hun j)).2.2.2.1]; exact e.1
    · have := e.2.1
      rw [hcol] at this
      by_cases ej : j = g.toNat
      · rw [if_pos ej] at this; omega
      · rw [if_neg ej] at this; exact this
    · rw [un_p hun]
      have hk' : k < looked x j := by
        unfold looked at hk ⊢
        rw [hcol j, un_prs hun, hys] at hk
        by_cases ej : j = g.toNat
        · subst ej
          rw [if_pos rfl, if_pos rfl] at hk
          rw [if_neg (by have := hu.1; omega), if_pos ⟨hp, by rw [hg]; simp, by rw [hg]; simp [eg]⟩]
          omega
        · rw [if_neg ej] at hk
          by_cases c2 : (x.c j).color = 2
          · rw [if_pos c2] at hk ⊢; exact hk
          · rw [if_neg c2] at hk
            split at hk
            · simp at hk
            · omega
      have := r.2 k hk'
      exact ⟨fun w => this.1 (wh _ w), fun w => this.2 (wh _ w)⟩
end Go.Proofs.YtkabcfhemljnbaaGreat

namespace Go.Proofs.YtkabcfhemljnbaaGreat
open Go.RowKit

theorem Snd.look {x : Hp} (h : Snd x) (hp : x.phase = 2) : Shd x (lookH x) ∧ ∀ i (hi : i < x.regs.length), ¬ White (lookH x) x.regs[i] := by
  have hm : Marking x := .inr hp
  have hg : ∀ y, y ∈ x.regs → Good1 x y := fun y hy => by
    obtain ⟨i, hi, e⟩ := List.getElem_of_mem hy
    rw [← e]; exact h.good_reg i hi
  obtain ⟨q1, q2, _⟩ := Shd.fold hm x.regs x hg (Shd.refl h)
  exact ⟨q1, fun i hi => q2 _ (List.getElem_mem hi)⟩
/-- marking has ended: nothing gray, no register that leads to a white cell -/
theorem Snd.ended {x : Hp} (h : Snd x) (hp : x.phase = 2) (hg : x.gray = []) (hw : ∀ i (hi : i < x.regs.length), ¬ White x x.regs[i]) : Snd (toPh x 3 0) := by
  have hm : Marking x := .inr hp
  obtain ⟨y, hy⟩ : ∃ y, y = toPh x 3 0 := ⟨_, rfl⟩
  have yc : ∀ q, y.c q = x.c q := fun q => by rw [hy]; rfl
  have yl : y.cells = x.cells := by rw [hy]; rfl
  have yp : y.phase = 3 := by rw [hy]; rfl
  have yh : y.hand = 0 := by rw [hy]; rfl
  have ys : y.sub = 0 := by rw [hy]; rfl
  have yr : y.regs = x.regs := by rw [hy]; rfl
  have yg : y.gray = [] := by rw [hy]; exact hg
  have y1 : y.room = x.room ∧ y.used = x.used ∧ y.born = x.born ∧ y.per = x.per ∧ y.start = x.start ∧ y.rounds = x.rounds ∧ y.forced = x.forced := by rw [hy]; exact ⟨rfl, rfl, rfl, rfl, rfl, rfl, rfl⟩
  rw [← hy]
  clear hy
  have nog : ∀ i, i < x.cells.length → (x.c i).color ≠ 1 := fun i hi e => by
    have := (h.r5.2.1 i hi).1 e
    rw [hg] at this; simp [cnt] at this
  have dm : ∀ i, Doomed y i ↔ (x.c i).st = 1 ∧ (x.c i).color = 0 := fun i => by
    unfold Doomed; rw [yp, yh, yc]
    exact ⟨fun e => ⟨e.2.2.1, e.2.2.2⟩, fun e => ⟨rfl, by omega, e.1, e.2⟩⟩
  have lead : ∀ u, Good1 x u → Formed u x.cells.length → ¬ White x u → ∀ m, Leads y u m := fun u hg1 hf hnw m => by
    refine ⟨by rw [yl]; exact hf, fun hk => .inr ⟨by rw [yc]; exact (hg1 hk).2, fun d => hnw ⟨hk, ((dm _).1 d).2⟩⟩⟩
  have r := h.r1
  refine ⟨⟨by rw [y1.1]; exact r.room, by rw [yr]; exact r.regs, by rw [yl, y1.1]; exact r.cells, by rw [yg]; simp, by rw [y1.2.2.1]; exact r.born, by rw [y1.2.2.2.2.2.1]; exact r.rounds, by rw [y1.2.2.2.2.2.2]; exact r.forced, by rw [y1.2.2.2.1]; exact r.per, by rw [y1.2.2.2.2.1]; exact r.start, by rw [yp]; omega, by rw [yh]; omega, by rw [ys]; omega⟩, ⟨fun i hi => ?_, fun i hi => ?_⟩, ⟨by rw [y1.2.1, yl]; exact h.r3.1, by rw [y1.2.1, y1.1]; exact h.r3.2⟩, ⟨fun i hi => ?_, fun i hi => ⟨fun e => ?_, fun k hk => ⟨fun d => ?_, fun d => ?_⟩⟩⟩, ⟨fun _ => by rw [yg]; rfl, fun i hi => ?_, fun g hg' => by rw [yg] at hg'; cases hg'⟩, ?_, fun e => ?_, fun i hi e => by have := e.1; omega⟩
  · rw [yl] at hi
    unfold CellOk
    rw [yc]
    rcases h.r2.1 i hi with a | ⟨_, b⟩ | ⟨a, b⟩
    · exact .inl a
    · have := b.2.1; omega
    · exact .inr (.inr ⟨a, b.1, b.2.1, b.2.2.1, by rw [y1.2.2.1]; exact b.2.2.2.1, b.2.2.2.2⟩)
  · rw [yl] at hi
    rw [yc]
    intro hst k hk
    rw [yc]
    exact h.r2.2 i hi hst k hk
  · have hi2 : i < x.regs.length := by rw [← yr]; exact hi
    have e2 : y.regs[i] = x.regs[i] := by simp [yr]
    rw [e2]
    exact lead _ (h.good_reg i hi2) (h.r4.1 i hi2).1 (hw i hi2) _
  · rw [yl] at hi
    have d := (dm i).1 e.1
    have sp : Speaks (x.c i) := by have := e.2; rw [yc] at this; exact this
    exact (h.r7 hm i hi).1 ⟨sp, d.2, .inl hp⟩
  · rw [yl] at hi
    rw [yc] at hk ⊢
    have := ((h.r4.2 i hi).2 k hk).2 (fun d => by have := d.1; omega)
    rw [yl]
    exact ⟨this.1.1, this.2.1⟩
  · rw [yl] at hi
    rw [yc] at hk ⊢
    have nd : ¬ ((x.c i).st = 1 ∧ (x.c i).color = 0) := fun e => d ((dm i).2 e)
    have h4 := ((h.r4.2 i hi).2 k hk).2 (fun d => by have := d.1; omega)
    have gp := h.good_pair hm i k hi hk
    have hc2 : (x.c i).color = 2 := by
      rcases h.r2.1 i hi with ⟨_, b, _⟩ | ⟨_, b⟩ | ⟨a, b⟩
      · have := b.2.2.2.2.2; omega
      · have := b.2.1; omega
      · have := b.2.2.2.2.1
        have := nog i hi
        have : (x.c i).color ≠ 0 := fun e => nd ⟨a, e⟩
        omega
    have lk : k < looked x i := by unfold looked; rw [if_pos hc2]; exact hk
    have := (h.r7 hm i hi).2 k lk
    exact ⟨lead _ gp.1 h4.1.1 this.1 _, lead _ gp.2 h4.2.1 this.2 _⟩
  · rw [yl] at hi
    unfold ColorOk
    rw [yc, yg, yp, yh]
    refine ⟨fun e => (nog i hi e).elim, fun _ => by simp [cnt], fun _ => .inr ⟨rfl, by omega⟩⟩
  · unfold R6
    rw [yp, yh, ys]
    exact ⟨fun e => by omega, fun e => by omega, fun e => by omega, fun _ => rfl⟩
  · exfalso; rcases e with e | e <;> omega
theorem Snd.u2 {x : Hp} (h : Snd x) (hp : x.phase = 2) : Snd (unit2 x) := by
  unfold unit2
  split
  · rename_i g G hg
    split
    · rename_i hs; exact h.u2a hp g G hg hs
    · rename_i hs; exact h.u2b hp g G hg hs
  · have lk := h.look hp
    split
    · rename_i hg
      refine lk.1.s.ended (by rw [lk.1.phase]; exact hp) hg (fun i hi => ?_)
      have hi2 : i < x.regs.length := by rw [← lk.1.regs]; exact hi
      have e2 : (lookH x).regs[i] = x.regs[i] := by simp [lk.1.regs]
      rw [e2]; exact lk.2 i hi2
    · exact lk.1.s

/-! The unit of PSweep. -/
def whiteC (c : Cl) : Cl := { c with color := 0 }
def unit3 (x : Hp) : Hp := if x.hand = x.cells.length then toPh x 4 0 else
  if whB (x.c x.hand.toNat) = true then { x with used := x.used - (1 + (x.c x.hand.toNat).prs.length), cells := x.cells.set x.hand.toNat Cl0, hand := x.hand + 1 }
  else { x with cells := x.cells.set x.hand.toNat (whiteC (x.c x.hand.toNat)), hand := x.hand + 1 }
theorem units_set2 (cs : List Cl) (i : Nat) (c : Cl) (hi : i < cs.length) : units (cs.set i c) + unitsOf cs[i] = units cs + unitsOf c := by
  induction cs generalizing i with
  | nil => simp at hi
  | cons a cs ih =>
    cases i with
    | zero => simp [units]; omega
    | succ i =>
      have := ih i (by simpa using hi)
      simp [units] at this ⊢
      omega
theorem Snd.u3end {x : Hp} (h : Snd x) (hp : x.phase = 3) (he : x.hand = x.cells.length) : Snd (toPh x 4 0) := by
  have hgr : x.gray.length = 0 := h.r5.1 (fun e => by rcases e with e | e <;> omega)
  have hg : x.gray = [] := List.eq_nil_of_length_eq_zero hgr
  obtain ⟨y, hy⟩ : ∃ y, y = toPh x 4 0 := ⟨_, rfl⟩
  have yc : ∀ q, y.c q = x.c q := fun q => by rw [hy]; rfl
  have yl : y.cells = x.cells := by rw [hy]; rfl
  have yp : y.phase = 4 := by rw [hy]; rfl
  have yh : y.hand = 0 := by rw [hy]; rfl
  have ys : y.sub = 0 := by rw [hy]; rfl
  have yr : y.regs = x.regs := by rw [hy]; rfl
  have yg : y.gray = [] := by rw [hy]; exact hg
  have y1 : y.room = x.room ∧ y.used = x.used ∧ y.born = x.born ∧ y.per = x.per ∧ y.start = x.start ∧ y.rounds = x.rounds ∧ y.forced = x.forced := by rw [hy]; exact ⟨rfl, rfl, rfl, rfl, rfl, rfl, rfl⟩
  rw [← hy]
  clear hy
  have nd : ∀ i, ¬ Doomed y i := fun i d => by have := d.1; omega
  have ndx : ∀ i, i < x.cells.length → ¬ Doomed x i := fun i hi d => by have := d.2.1; omega
  have nom : ∀ i, i < x.cells.length → (x.c i).st ≠ 2 := fun i hi e => by
    rcases h.r2.1 i hi with ⟨a, _⟩ | ⟨_, b⟩ | ⟨a, _⟩
    · omega
    · have := b.2.1; omega
    · omega
  have r := h.r1
  have lead : ∀ u m m', Leads x u m → Leads y u m' := fun u m m' hl => by
    refine ⟨by rw [yl]; exact hl.1, fun hk => .inr ⟨?_, nd _⟩⟩
    rw [yc]
    have hlt : u.a.toNat < x.cells.length := by rcases hl.1 with f | f | f <;> omega
    rcases hl.2 hk with ⟨a, _⟩ | ⟨a, _⟩
    · exact (nom _ hlt a).elim
    · exact a
  refine ⟨⟨by rw [y1.1]; exact r.room, by rw [yr]; exact r.regs, by rw [yl, y1.1]; exact r.cells, by rw [yg]; simp, by rw [y1.2.2.1]; exact r.born, by rw [y1.2.2.2.2.2.1]; exact r.rounds, by rw [y1.2.2.2.2.2.2]; exact r.forced, by rw [y1.2.2.2.1]; exact r.per, by rw [y1.2.2.2.2.1]; exact r.start, by rw [yp]; omega, by rw [yh]; omega, by rw [ys]; omega⟩, ⟨fun i hi => ?_, fun i hi => ?_⟩, ⟨by rw [y1.2.1, yl]; exact h.r3.1, by rw [y1.2.1, y1.1]; exact h.r3.2⟩, ⟨fun i hi => ?_, fun i hi => ⟨fun e => nd i e.1, fun k hk => ⟨fun d => (nd i d).elim, fun d => ?_⟩⟩⟩, ⟨fun _ => by rw [yg]; rfl, fun i hi => ?_, fun g hg' => by rw [yg] at hg'; cases hg'⟩, ?_, fun e => ?_, fun i hi e => by have := e.1; omega⟩
  · rw [yl] at hi
    unfold CellOk
    rw [yc]
    rcases h.r2.1 i hi with a | ⟨_, b⟩ | ⟨a, b⟩
    · exact .inl a
    · have := b.2.1; omega
    · exact .inr (.inr ⟨a, b.1, b.2.1, b.2.2.1, by rw [y1.2.2.1]; exact b.2.2.2.1, b.2.2.2.2⟩)
  · rw [yl] at hi
    rw [yc]
    intro hst k hk
    rw [yc]
    exact h.r2.2 i hi hst k hk
  · have hi2 : i < x.regs.length := by rw [← yr]; exact hi
    have e2 : y.regs[i] = x.regs[i] := by simp [yr]
    rw [e2]
    exact lead _ _ _ (h.r4.1 i hi2)
  · rw [yl] at hi
    rw [yc] at hk ⊢
    have h4 := ((h.r4.2 i hi).2 k hk).2 (ndx i hi)
    exact ⟨lead _ _ _ h4.1, lead _ _ _ h4.2⟩
  · rw [yl] at hi
    have c := h.r5.2.1 i hi
    have c2 : (x.c i).color ≠ 2 := fun e => by
      rcases c.2.2 e with m | m
      · rcases m with m | m <;> omega
      · have := m.2; omega
    unfold ColorOk
    rw [yc, yg]
    refine ⟨fun e => ?_, fun _ => by simp [cnt], fun e => (c2 e).elim⟩
    have := c.1 e
    rw [hg] at this; simp [cnt] at this
  · unfold R6
    rw [yp, yh, ys]
    exact ⟨fun _ => ⟨rfl, rfl⟩, fun e => by omega, fun e => by omega, fun e => by omega⟩
  · exfalso; rcases e with e | e <;> omega
end Go.Proofs.YtkabcfhemljnbaaGreat

namespace Go.Proofs.YtkabcfhemljnbaaGreat
open Go.RowKit

theorem whB_iff (c : Cl) : whB c = true ↔ c.st = 1 ∧ c.color = 0 := by simp [whB]
theorem Snd.nogray {x : Hp} (h : Snd x) (hm : ¬ Marking x) : x.gray = [] := List.eq_nil_of_length_eq_zero (h.r5.1 hm)
theorem Snd.nomoved {x : Hp} (h : Snd x) (hp : x.phase < 4) (i : Nat) (hi : i < x.cells.length) : (x.c i).st ≠ 2 := fun e => by
  rcases h.r2.1 i hi with ⟨a, _⟩ | ⟨_, b⟩ | ⟨a, _⟩
  · omega
  · have := b.2.1; omega
  · omega
theorem Snd.u3cell {x : Hp} (h : Snd x) (hp : x.phase = 3) (i : Nat) (hi : x.hand = (i : Int)) (hin : i < x.cells.length) (c' : Cl) (u' : Int) (hc : (c' = Cl0 ∧ whB (x.c i) = true ∧ u' = x.used - (1 + (x.c i).prs.length)) ∨ (c' = whiteC (x.c i) ∧ ¬ whB (x.c i) = true ∧ u' = x.used)) :
    Snd { x with used := u', cells := x.cells.set i c', hand := x.hand + 1 } := by
  have hg := h.nogray (fun e => by rcases e with e | e <;> omega)
  obtain ⟨y, hy⟩ : ∃ y : Hp, y = { x with used := u', cells := x.cells.set i c', hand := x.hand + 1 } := ⟨_, rfl⟩
  have yc : ∀ q, y.c q = if q = i then c' else x.c q := fun q => by rw [hy]; exact Hp.c_set x i c' hin q
  have yl : y.cells.length = x.cells.length := by rw [hy]; simp
  have ycs : y.cells = x.cells.set i c' := by rw [hy]
  have yp : y.phase = 3 := by rw [hy]; exact hp
  have yh : y.hand = x.hand + 1 := by rw [hy]
  have ys : y.sub = x.sub := by rw [hy]
  have yr : y.regs = x.regs := by rw [hy]
  have yg : y.gray = [] := by rw [hy]; exact hg
  have yu : y.used = u' := by rw [hy]
  have y1 : y.room = x.room ∧ y.born = x.born ∧ y.per = x.per ∧ y.start = x.start ∧ y.rounds = x.rounds ∧ y.forced = x.forced := by rw [hy]; exact ⟨rfl, rfl, rfl, rfl, rfl, rfl⟩
  rw [← hy]
  clear hy
  have stp : ∀ q, q ≠ i → y.c q = x.c q := fun q e => by rw [yc, if_neg e]
  have sti : y.c i = c' := by rw [yc, if_pos rfl]
  have ci : c'.color = 0 := by rcases hc with ⟨e, _⟩ | ⟨e, _⟩ <;> rw [e] <;> rfl
  have dmx : Doomed x i ↔ whB (x.c i) = true := by
    rw [whB_iff]; unfold Doomed
    exact ⟨fun e => e.2.2, fun e => ⟨hp, by omega, e⟩⟩
  have dm : ∀ q, Doomed y q → Doomed x q ∧ q ≠ i := fun q d => by
    obtain ⟨_, d2, d3, d4⟩ := d
    have hq : q ≠ i := fun e => by rw [yh] at d2; omega
    rw [stp q hq] at d3 d4
    exact ⟨⟨hp, by rw [yh] at d2; omega, d3, d4⟩, hq⟩
  have lead : ∀ u m, Leads x u m → Leads y u m := fun u m hl => by
    refine ⟨by rw [yl]; exact hl.1, fun hk => ?_⟩
    have hlt : u.a.toNat < x.cells.length := by rcases hl.1 with f | f | f <;> omega
    rcases hl.2 hk with ⟨a, _⟩ | ⟨a, b⟩
    · exact (h.nomoved (by omega) _ hlt a).elim
    · refine .inr ⟨?_, fun d => b (dm _ d).1⟩
      by_cases e : u.a.toNat = i
      · rw [e] at a b ⊢
        rcases hc with ⟨_, w, _⟩ | ⟨e2, _, _⟩
        · exact (b (dmx.2 w)).elim
        · rw [sti, e2]; exact a
      · rw [stp _ e]; exact a
  have r := h.r1
  refine ⟨⟨by rw [y1.1]; exact r.room, by rw [yr]; exact r.regs, by rw [yl, y1.1]; exact r.cells, by rw [yg]; simp, by rw [y1.2.1]; exact r.born, by rw [y1.2.2.2.2.1]; exact r.rounds, by rw [y1.2.2.2.2.2]; exact r.forced, by rw [y1.2.2.1]; exact r.per, by rw [y1.2.2.2.1]; exact r.start, by rw [yp]; omega, by rw [yh, yl]; omega, by rw [ys]; exact r.sub⟩, ⟨fun q hq => ?_, fun q hq hst k hk hh => ?_⟩, ?_, ⟨fun q hq => ?_, fun q hq => ⟨fun e => ?_, fun k hk => ⟨fun d => ?_, fun d => ?_⟩⟩⟩, ⟨fun _ => by rw [yg]; rfl, fun q hq => ?_, fun g hg' => by rw [yg] at hg'; cases hg'⟩, ?_, fun e => ?_, fun q hq e => by have := e.1; omega⟩
  · rw [yl] at hq
    unfold CellOk
    by_cases e : q = i
    · subst e
      rw [sti]
      rcases hc with ⟨e2, _⟩ | ⟨e2, _⟩
      · rw [e2]; exact .inl ⟨rfl, ⟨rfl, rfl, rfl, rfl, rfl, rfl⟩, rfl⟩
      · rw [e2]
        rcases h.r2.1 q hq with ⟨a, b, c⟩ | ⟨a, _⟩ | ⟨a, b⟩
        · exact .inl ⟨a, ⟨b.1, b.2.1, b.2.2.1, b.2.2.2.1, rfl, b.2.2.2.2.2⟩, c⟩
        · exact (h.nomoved (by omega) q hq a).elim
        · exact .inr (.inr ⟨a, b.1, b.2.1, b.2.2.1, by rw [y1.2.1]; exact b.2.2.2.1, ⟨show (0:Int) ≤ 0 by omega, show (0:Int) ≤ 2 by omega⟩, b.2.2.2.2.2⟩)
    · rw [stp q e]
      rcases h.r2.1 q hq with a | ⟨a, _⟩ | ⟨a, b⟩
      · exact .inl a
      · exact (h.nomoved (by omega) q hq a).elim
      · exact .inr (.inr ⟨a, b.1, b.2.1, b.2.2.1, by rw [y1.2.1]; exact b.2.2.2.1, b.2.2.2.2⟩)
  · rw [yl] at hq
    rcases hc with ⟨e2, _⟩ | ⟨e2, _⟩
    · have n1 : q ≠ i := fun e => by rw [e, sti, e2] at hst; exact hst rfl
      have n2 : k ≠ i := fun e => by
        have h1 := hh.1
        rw [e, sti, e2] at h1
        exact hst h1.symm
      rw [stp q n1, stp k n2] at hh
      rw [stp q n1] at hst
      exact h.r2.2 q hq hst k hk hh
    · have same : ∀ p, (y.c p).st = (x.c p).st ∧ (y.c p).born = (x.c p).born ∧ (y.c p).to = (x.c p).to := fun p => by
        by_cases e : p = i
        · rw [e, sti, e2]; exact ⟨rfl, rfl, rfl⟩
        · rw [stp p e]; exact ⟨rfl, rfl, rfl⟩
      rw [(same q).1, (same q).2.1, (same q).2.2, (same k).1, (same k).2.1, (same k).2.2] at hh
      rw [(same q).1] at hst
      exact h.r2.2 q hq hst k hk hh
  · have hu := units_set2 x.cells i c' hin
    rw [Hp.c_eq x i hin] at hu
    unfold R3
    rw [yu, ycs, y1.1]
    have h3 := h.r3
    rcases hc with ⟨e2, w, e3⟩ | ⟨e2, w, e3⟩
    · have h1 : unitsOf (x.c i) = 1 + (x.c i).prs.length := by unfold unitsOf; rw [if_pos ((whB_iff _).1 w).1]
      have h2 : unitsOf c' = 0 := by rw [e2]; rfl
      rw [h1, h2] at hu
      have := h3.1; have := h3.2
      exact ⟨by omega, by omega⟩
    · have h2 : unitsOf c' = unitsOf (x.c i) := by rw [e2]; rfl
      rw [h2] at hu
      have := h3.1; have := h3.2
      exact ⟨by omega, by omega⟩
  · have hi2 : q < x.regs.length := by rw [← yr]; exact hq
    have e2 : y.regs[q] = x.regs[q] := by simp [yr]
    rw [e2]
    exact lead _ _ (h.r4.1 q hi2)
  · rw [yl] at hq
    obtain ⟨d1, d2⟩ := dm q e.1
    have sp := e.2
    rw [stp q d2] at sp
    exact (h.r4.2 q hq).1 ⟨d1, sp⟩
  · rw [yl] at hq
    obtain ⟨d1, d2⟩ := dm q d
    rw [stp q d2] at hk ⊢
    rw [yl]
    exact ((h.r4.2 q hq).2 k hk).1 d1
  · rw [yl] at hq
    have mm : ∀ u, Leads x u (¬ Mended x q k) → Leads y u (¬ Mended y q k) := fun u hl => by
      have := lead u _ hl
      refine ⟨this.1, fun hk2 => ?_⟩
      rcases this.2 hk2 with ⟨a, b⟩ | b
      · exfalso
        have : Mended x q k := ⟨by omega, fun h5 => by omega⟩
        exact b this
      · exact .inr b
    by_cases e : q = i
    · subst e
      rw [sti] at hk ⊢
      rcases hc with ⟨e2, _⟩ | ⟨e2, w, _⟩
      · rw [e2] at hk; simp [Cl0] at hk
      · rw [e2] at hk ⊢
        have := ((h.r4.2 q hq).2 k hk).2 (fun d => w (dmx.1 d))
        exact ⟨mm _ this.1, mm _ this.2⟩
    · rw [stp q e] at hk ⊢
      have nd : ¬ Doomed x q := fun dx => d ⟨yp, by rw [yh]; have := dx.2.1; omega, by rw [stp q e]; exact dx.2.2.1, by rw [stp q e]; exact dx.2.2.2⟩
      have := ((h.r4.2 q hq).2 k hk).2 nd
      exact ⟨mm _ this.1, mm _ this.2⟩
  · rw [yl] at hq
    unfold ColorOk
    rw [yg, yp, yh]
    by_cases e : q = i
    · subst e
      rw [sti, ci]
      exact ⟨fun h' => by omega, fun _ => by simp [cnt], fun h' => by omega⟩
    · rw [stp q e]
      have c := h.r5.2.1 q hq
      refine ⟨fun h' => ?_, fun _ => by simp [cnt], fun h' => .inr ⟨rfl, ?_⟩⟩
      · have := c.1 h'; rw [hg] at this; simp [cnt] at this
      · rcases c.2.2 h' with m | m
        · rcases m with m | m <;> omega
        · have := m.2; omega
  · unfold R6
    rw [yp, ys]
    exact ⟨fun e => by omega, fun e => by omega, fun e => by omega, fun _ => h.r6.2.2.2 (by omega)⟩
  · exfalso; rcases e with e | e <;> omega
theorem Snd.u3 {x : Hp} (h : Snd x) (hp : x.phase = 3) : Snd (unit3 x) := by
  unfold unit3
  split
  · rename_i he; exact h.u3end hp he
  · rename_i hne
    have hh := h.r1.hand
    have e : x.hand = ((x.hand.toNat : Nat) : Int) := by omega
    split
    · rename_i w
      exact h.u3cell hp x.hand.toNat e (by omega) Cl0 _ (.inl ⟨rfl, w, rfl⟩)
    · rename_i w
      have := h.u3cell hp x.hand.toNat e (by omega) (whiteC (x.c x.hand.toNat)) x.used (.inr ⟨rfl, w, rfl⟩)
      exact this
end Go.Proofs.YtkabcfhemljnbaaGreat

namespace Go.Proofs.YtkabcfhemljnbaaGreat
open Go.RowKit

/-! The unit of PMove. -/
def mvC (t : Nat) : Cl := ⟨2, 0, 0, 0, 0, 0, t, []⟩
def mvW (t f : Nat) (r : Wd) : Wd := if r.k = 2 ∧ r.a = (f : Int) then ⟨2, 0, t⟩ else r
def moveH (x : Hp) (t f : Nat) : Hp := { x with cells := (x.cells.set t (x.c f)).set f (mvC t), regs := x.regs.map (mvW t f) }
def fstFree (x : Hp) : Nat := x.cells.findIdx (fun c => c.st == 0)
def lstUsed (x : Hp) : Nat → Int
  | 0 => -1
  | k + 1 => if (x.c k).st = 1 then (k : Int) else lstUsed x k
def unit4 (x : Hp) : Hp := if lstUsed x x.cells.length ≤ (fstFree x : Int) then toPh x 5 0 else moveH x (fstFree x) (lstUsed x x.cells.length).toNat
theorem lstUsed_is (x : Hp) : ∀ k, (lstUsed x k = -1 ∧ ∀ i, i < k → (x.c i).st ≠ 1) ∨ ∃ f : Nat, lstUsed x k = (f : Int) ∧ f < k ∧ (x.c f).st = 1 ∧ ∀ i, f < i → i < k → (x.c i).st ≠ 1
  | 0 => .inl ⟨rfl, fun i hi => by omega⟩
  | k + 1 => by
    unfold lstUsed
    by_cases e : (x.c k).st = 1
    · rw [if_pos e]; exact .inr ⟨k, rfl, by omega, e, fun i h1 h2 => by omega⟩
    · rw [if_neg e]
      rcases lstUsed_is x k with ⟨h1, h2⟩ | ⟨f, h1, h2, h3, h4⟩
      · exact .inl ⟨h1, fun i hi => by
          by_cases ei : i = k
          · rw [ei]; exact e
          · exact h2 i (by omega)⟩
      · exact .inr ⟨f, h1, by omega, h3, fun i hi1 hi2 => by
          by_cases ei : i = k
          · rw [ei]; exact e
          · exact h4 i hi1 (by omega)⟩
theorem fstFree_is (x : Hp) : fstFree x ≤ x.cells.length ∧ (∀ i, i < fstFree x → (x.c i).st ≠ 0) ∧ (fstFree x < x.cells.length → (x.c (fstFree x)).st = 0) := by
  refine ⟨List.findIdx_le_length, fun i hi e => ?_, fun hlt => ?_⟩
  · have hl : i < x.cells.length := Nat.lt_of_lt_of_le hi List.findIdx_le_length
    have := List.not_of_lt_findIdx hi
    rw [Hp.c_eq x i hl, e] at this
    simp at this
  · have := List.findIdx_getElem (w := hlt)
    rw [← Hp.c_eq x _ hlt]
    have h2 : x.cells[List.findIdx (fun c => c.st == 0) x.cells].st = 0 := by simpa using this
    exact h2
theorem Snd.mv {x : Hp} (h : Snd x) (hp : x.phase = 4) (t f : Nat) (htf : t < f) (hf : f < x.cells.length) (h0 : (x.c t).st = 0) (hlow : ∀ k, k < t → (x.c k).st ≠ 0) (h1 : (x.c f).st = 1) : Snd (moveH x t f) := by
  have hg := h.nogray (fun e => by rcases e with e | e <;> omega)
  have ht : t < x.cells.length := by omega
  obtain ⟨y, hy⟩ : ∃ y : Hp, y = moveH x t f := ⟨_, rfl⟩
  have yl : y.cells.length = x.cells.length := by rw [hy]; simp [moveH]
  have yc : ∀ q, y.c q = if q = f then mvC t else if q = t then x.c f else x.c q := fun q => by
    have e1 := Hp.c_set { x with cells := x.cells.set t (x.c f) } f (mvC t) (by simpa using hf) q
    have e2 := Hp.c_set x t (x.c f) ht q
    rw [hy]
    have e3 : (moveH x t f).c q = ({ x with cells := (x.cells.set t (x.c f)).set f (mvC t) } : Hp).c q := rfl
    rw [e3, e1, e2]
  have ycs : y.cells = (x.cells.set t (x.c f)).set f (mvC t) := by rw [hy]; rfl
  have yp : y.phase = 4 := by rw [hy]; exact hp
  have yh : y.hand = x.hand := by rw [hy]; rfl
  have ys : y.sub = x.sub := by rw [hy]; rfl
  have yr : y.regs = x.regs.map (mvW t f) := by rw [hy]; rfl
  have yg : y.gray = [] := by rw [hy]; exact hg
  have y1 : y.room = x.room ∧ y.used = x.used ∧ y.born = x.born ∧ y.per = x.per ∧ y.start = x.start ∧ y.rounds = x.rounds ∧ y.forced = x.forced := by rw [hy]; exact ⟨rfl, rfl, rfl, rfl, rfl, rfl, rfl⟩
  rw [← hy]
  clear hy
  have ycf : y.c f = mvC t := by rw [yc, if_pos rfl]
  have yct : y.c t = x.c f := by rw [yc, if_neg (by omega), if_pos rfl]
  have yco : ∀ q, q ≠ f → q ≠ t → y.c q = x.c q := fun q a b => by rw [yc, if_neg a, if_neg b]
  have nd : ∀ i, ¬ Doomed y i := fun i d => by have := d.1; omega
  have ndx : ∀ i, ¬ Doomed x i := fun i d => by have := d.1; omega
  have nmd : ∀ i k, ¬ Mended y i k := fun i k e => e.1 yp
  have nmx : ∀ i k, ¬ Mended x i k := fun i k e => e.1 hp
  have tgt : ∀ i, i < x.cells.length → (x.c i).st = 2 → (x.c i).to.toNat ≠ f ∧ (x.c i).to.toNat ≠ t ∧ (x.c i).to ≠ (t : Int) := fun i hi e => by
    rcases h.r2.1 i hi with ⟨a, _⟩ | ⟨_, b⟩ | ⟨a, _⟩
    · omega
    · obtain ⟨_, _, b3, b4, b5, b6⟩ := b
      refine ⟨fun e2 => ?_, fun e2 => ?_, fun e2 => ?_⟩
      · exact b6 hp t (by omega) h0
      · rw [e2] at b5; omega
      · have : (x.c i).to.toNat = t := by omega
        rw [this] at b5; omega
    · omega
  have lead : ∀ u (m m' : Prop), m' → Leads x u m → Leads y u m' := fun u m m' hm' hl => by
    refine ⟨by rw [yl]; exact hl.1, fun hk => ?_⟩
    by_cases e : u.a.toNat = f
    · exact .inl ⟨by rw [e, ycf]; rfl, hm'⟩
    · have e2 : u.a.toNat ≠ t := fun e2 => by
        rcases hl.2 hk with ⟨a, _⟩ | ⟨a, _⟩ <;> rw [e2] at a <;> omega
      rw [yco _ e e2]
      rcases hl.2 hk with ⟨a, _⟩ | ⟨a, _⟩
      · exact .inl ⟨a, hm'⟩
      · exact .inr ⟨a, nd _⟩
  have r := h.r1
  refine ⟨⟨by rw [y1.1]; exact r.room, by rw [yr, List.length_map]; exact r.regs, by rw [yl, y1.1]; exact r.cells, by rw [yg]; simp, by rw [y1.2.2.1]; exact r.born, by rw [y1.2.2.2.2.2.1]; exact r.rounds, by rw [y1.2.2.2.2.2.2]; exact r.forced, by rw [y1.2.2.2.1]; exact r.per, by rw [y1.2.2.2.2.1]; exact r.start, by rw [yp]; omega, by rw [yh, yl]; exact r.hand, by rw [ys]; exact r.sub⟩, ⟨fun q hq => ?_, fun q hq hst k hk hh => ?_⟩, ?_, ⟨fun q hq => ?_, fun q hq => ⟨fun e => nd q e.1, fun k hk => ⟨fun d => (nd q d).elim, fun _ => ?_⟩⟩⟩, ⟨fun _ => by rw [yg]; rfl, fun q hq => ?_, fun g hg' => by rw [yg] at hg'; cases hg'⟩, ?_, fun e => ?_, fun q hq e => by have := e.1; omega⟩
  · rw [yl] at hq
    unfold CellOk
    by_cases e : q = f
    · subst e
      rw [ycf]
      refine .inr (.inl ⟨rfl, ⟨rfl, rfl, rfl, rfl, rfl, rfl⟩, by rw [yp]; omega, show (0:Int) ≤ (t:Int) by omega, show (t:Int) < (q:Int) by omega, ?_, fun _ k hk => ?_⟩)
      · show (y.c (t:Int).toNat).st = 1
        have : ((t:Int)).toNat = t := by omega
        rw [this, yct]; exact h1
      · have hk' : (k:Int) < (t:Int) := hk
        rw [yco k (by omega) (by omega)]
        exact hlow k (by omega)
    · by_cases e2 : q = t
      · subst e2
        rw [yct]
        rcases h.r2.1 f hf with ⟨a, _⟩ | ⟨a, _⟩ | ⟨a, b⟩
        · omega
        · omega
        · exact .inr (.inr ⟨a, b.1, b.2.1, b.2.2.1, by rw [y1.2.2.1]; exact b.2.2.2.1, b.2.2.2.2⟩)
      · rw [yco q e e2]
        rcases h.r2.1 q hq with a | ⟨a, b⟩ | ⟨a, b⟩
        · exact .inl a
        · obtain ⟨t1, t2, _⟩ := tgt q hq a
          refine .inr (.inl ⟨a, b.1, by rw [yp]; omega, b.2.2.1, b.2.2.2.1, by rw [yco _ t1 t2]; exact b.2.2.2.2.1, fun _ k hk => ?_⟩)
          by_cases ek : k = f
          · rw [ek, ycf]; simp [mvC]
          · by_cases ek2 : k = t
            · rw [ek2, yct]; omega
            · rw [yco k ek ek2]; exact b.2.2.2.2.2 hp k hk
        · exact .inr (.inr ⟨a, b.1, b.2.1, b.2.2.1, by rw [y1.2.2.1]; exact b.2.2.2.1, b.2.2.2.2⟩)
  · rw [yl] at hq
    have key : ∀ p p', p < x.cells.length → p' < x.cells.length → p ≠ p' → (x.c p).st ≠ 0 → ¬ ((x.c p').st = (x.c p).st ∧ (x.c p').born = (x.c p).born ∧ (x.c p').to = (x.c p).to) := fun p p' hp1 hp2 hne hs e => by
      rcases Nat.lt_or_gt_of_ne hne with l | l
      · exact h.r2.2 p' hp2 (by rw [e.1]; exact hs) p l ⟨e.1.symm, e.2.1.symm, e.2.2.symm⟩
      · exact h.r2.2 p hp1 hs p' l e
    have hkl : k < x.cells.length := by omega
    have other : ∀ p, p < x.cells.length → p ≠ f → p ≠ t → ¬ ((x.c p).st = 2 ∧ (x.c p).to = (t : Int)) := fun p hp1 _ _ e => (tgt p hp1 e.1).2.2 e.2
    by_cases q1 : q = f
    · subst q1
      rw [ycf] at hh hst
      by_cases k2 : k = t
      · subst k2; rw [yct] at hh; have := hh.1; simp [mvC] at this; omega
      · rw [yco k (by omega) k2] at hh
        exact other k hkl (by omega) k2 ⟨hh.1, hh.2.2⟩
    · by_cases q2 : q = t
      · subst q2
        rw [yct] at hh hst
        rw [yco k (by omega) (by omega)] at hh
        exact key f k hf hkl (by omega) hst hh
      · rw [yco q q1 q2] at hh hst
        by_cases k1 : k = f
        · subst k1
          rw [ycf] at hh
          exact other q hq q1 q2 ⟨hh.1.symm, hh.2.2.symm⟩
        · by_cases k2 : k = t
          · subst k2
            rw [yct] at hh
            exact key q f hq hf q1 hst hh
          · rw [yco k k1 k2] at hh
            exact h.r2.2 q hq hst k hk hh
  · have hu1 := units_set2 x.cells t (x.c f) ht
    have hu2 := units_set2 (x.cells.set t (x.c f)) f (mvC t) (by simpa using hf)
    rw [Hp.c_eq x t ht] at hu1
    have e1 : (x.cells.set t (x.c f))[f]'(by simpa using hf) = x.c f := by
      rw [List.getElem_set_ne (by omega), Hp.c_eq x f hf]
    rw [e1] at hu2
    have z1 : unitsOf (x.c t) = 0 := by unfold unitsOf; rw [if_neg (by omega)]
    have z2 : unitsOf (mvC t) = 0 := by unfold unitsOf; rw [if_neg (by simp [mvC])]
    unfold R3
    rw [y1.2.1, y1.1, ycs]
    have := h.r3.1; have := h.r3.2
    exact ⟨by omega, by omega⟩
  · have hq2 : q < x.regs.length := by rw [yr, List.length_map] at hq; exact hq
    have e2 : y.regs[q] = mvW t f x.regs[q] := by simp [yr]
    rw [e2]
    have hl := h.r4.1 q hq2
    unfold mvW
    split
    · refine ⟨.inr (.inr ⟨rfl, rfl, show (0:Int) ≤ (t:Int) by omega, show (t:Int) < _ by rw [yl]; omega⟩), fun _ => .inr ⟨?_, nd _⟩⟩
      show (y.c (t:Int).toNat).st = 1
      have : ((t:Int)).toNat = t := by omega
      rw [this, yct]; exact h1
    · rename_i hne
      refine ⟨by rw [yl]; exact hl.1, fun hk => ?_⟩
      have ha : 0 ≤ x.regs[q].a := by rcases hl.1 with g | g | g <;> omega
      have e3 : x.regs[q].a.toNat ≠ f := fun e => hne ⟨hk, by omega⟩
      rcases hl.2 hk with ⟨_, b⟩ | ⟨a, _⟩
      · exact b.elim
      · have e4 : x.regs[q].a.toNat ≠ t := fun e => by rw [e] at a; omega
        exact .inr ⟨by rw [yco _ e3 e4]; exact a, nd _⟩
  · rw [yl] at hq
    by_cases e : q = f
    · subst e; rw [ycf] at hk; simp [mvC] at hk
    · by_cases e2 : q = t
      · subst e2
        rw [yct] at hk ⊢
        have := ((h.r4.2 f hf).2 k hk).2 (ndx f)
        exact ⟨lead _ _ _ (nmd q k) this.1, lead _ _ _ (nmd q k) this.2⟩
      · rw [yco q e e2] at hk ⊢
        have := ((h.r4.2 q hq).2 k hk).2 (ndx q)
        exact ⟨lead _ _ _ (nmd q k) this.1, lead _ _ _ (nmd q k) this.2⟩
  · rw [yl] at hq
    have cx : ∀ p, p < x.cells.length → (x.c p).color ≠ 1 ∧ (x.c p).color ≠ 2 := fun p hp1 => by
      have c := h.r5.2.1 p hp1
      refine ⟨fun e => ?_, fun e => ?_⟩
      · have := c.1 e; rw [hg] at this; simp [cnt] at this
      · rcases c.2.2 e with m | m
        · rcases m with m | m <;> omega
        · have := m.1; omega
    have cy : (y.c q).color ≠ 1 ∧ (y.c q).color ≠ 2 := by
      rw [yc]
      split
      · exact ⟨by simp [mvC], by simp [mvC]⟩
      · split
        · exact cx f hf
        · exact cx q hq
    exact ⟨fun e => (cy.1 e).elim, fun _ => by rw [yg]; simp [cnt], fun e => (cy.2 e).elim⟩
  · unfold R6
    rw [yp, yh, ys]
    exact ⟨fun _ => h.r6.1 (.inr hp), fun e => by omega, fun e => by omega, fun e => by omega⟩
  · exfalso; rcases e with e | e <;> omega
end Go.Proofs.YtkabcfhemljnbaaGreat

namespace Go.Proofs.YtkabcfhemljnbaaGreat
open Go.RowKit

/-! A turn of the Phase alone; the units of PMend. -/
theorem Snd.cols {x : Hp} (h : Snd x) (hp : x.phase ≠ 1 ∧ x.phase ≠ 2 ∧ x.phase ≠ 3) (i : Nat) (hi : i < x.cells.length) : (x.c i).color ≠ 1 ∧ (x.c i).color ≠ 2 := by
  have hg := h.nogray (fun e => by rcases e with e | e <;> omega)
  have c := h.r5.2.1 i hi
  refine ⟨fun e => ?_, fun e => ?_⟩
  · have := c.1 e; rw [hg] at this; simp [cnt] at this
  · rcases c.2.2 e with m | m
    · rcases m with m | m <;> omega
    · have := m.1; omega
/-- a heap of another Phase with the same rows, where neither marks nor sweeps -/
theorem Snd.turned {x : Hp} (h : Snd x) (hp : x.phase ≠ 1 ∧ x.phase ≠ 2 ∧ x.phase ≠ 3) (p hd sb rn : Int) (hp1 : 0 ≤ p ∧ p ≤ 6 ∧ p ≠ 2 ∧ p ≠ 3 ∧ p ≠ 4) (h1 : 0 ≤ hd ∧ hd ≤ x.cells.length) (h2 : 0 ≤ sb ∧ sb ≤ 200) (h3 : 0 ≤ rn ∧ rn ≤ 1000000000) (hmv : p < 4 → ∀ i, i < x.cells.length → (x.c i).st ≠ 2)
    (hmd : ∀ i k, i < x.cells.length → k < (x.c i).prs.length → ¬ Mended x i k → ¬ Mended { x with phase := p, hand := hd, sub := sb, rounds := rn } i k) (h6 : R6 { x with phase := p, hand := hd, sub := sb, rounds := rn }) (h7 : p = 1 → hd = 0) (h8 : R8 { x with phase := p, hand := hd, sub := sb, rounds := rn }) : Snd { x with phase := p, hand := hd, sub := sb, rounds := rn } := by
  have hg := h.nogray (fun e => by rcases e with e | e <;> omega)
  have r := h.r1
  have lead : ∀ (w : Wd) (m m' : Prop), (m → m') → Leads x w m → Leads { x with phase := p, hand := hd, sub := sb, rounds := rn } w m' := fun w m m' hmm hl => by
    refine ⟨hl.1, fun hk => ?_⟩
    rcases hl.2 hk with ⟨a, b⟩ | ⟨a, _⟩
    · exact .inl ⟨a, hmm b⟩
    · exact .inr ⟨a, fun d => hp1.2.2.2.1 d.1⟩
  refine ⟨⟨r.room, r.regs, r.cells, r.gray, r.born, h3, r.forced, r.per, r.start, ⟨hp1.1, hp1.2.1⟩, h1, h2⟩, ⟨fun i hi => ?_, h.r2.2⟩, h.r3, ⟨fun i hi => lead _ _ _ id (h.r4.1 i hi), fun i hi => ⟨fun d => hp1.2.2.2.1 d.1.1, fun k hk => ⟨fun d => (hp1.2.2.2.1 d.1).elim, fun _ => ?_⟩⟩⟩, ⟨fun _ => by show x.gray.length = 0; rw [hg]; rfl, fun i hi => ?_, h.r5.2.2⟩, h6, fun hm i hi => ?_, h8⟩
  · rcases h.r2.1 i hi with a | ⟨a, b⟩ | a
    · exact .inl a
    · refine .inr (.inl ⟨a, b.1, ?_, b.2.2.1, b.2.2.2.1, b.2.2.2.2.1, fun e => (hp1.2.2.2.2 e).elim⟩)
      show 4 ≤ p
      by_cases l : p < 4
      · exact (hmv l i hi a).elim
      · omega
    · exact .inr (.inr a)
  · have := ((h.r4.2 i hi).2 k hk).2 (fun d => hp.2.2 d.1)
    exact ⟨lead _ _ _ (hmd i k hi hk) this.1, lead _ _ _ (hmd i k hi hk) this.2⟩
  · have c := h.cols hp i hi
    exact ⟨fun e => (c.1 e).elim, fun e => (h.r5.2.1 i hi).2.1 e, fun e => (c.2 e).elim⟩
  · have hm1 : p = 1 := by
      have e : p = 1 ∨ p = 2 := hm
      omega
    have c := h.cols hp i hi
    refine ⟨fun e => ?_, fun k hk => ?_⟩
    · have e3 : p = 2 ∨ (i : Int) < hd := e.2.2
      have := h7 hm1
      omega
    · have hk2 : k < (if (x.c i).color = 2 then (x.c i).prs.length else if p = 2 ∧ x.gray.length ≠ 0 ∧ x.gray.getD 0 0 = (i : Int) then sb.toNat else 0) := hk
      rw [if_neg c.2, if_neg (fun e => hp1.2.2.1 e.1)] at hk2
      omega
theorem Snd.begin {x : Hp} (h : Snd x) (hp : x.phase = 0) : Snd (toPh x 1 0) := by
  refine h.turned ⟨by omega, by omega, by omega⟩ 1 0 0 x.rounds ⟨by omega, by omega, by omega, by omega, by omega⟩ ⟨by omega, by omega⟩ ⟨by omega, by omega⟩ h.r1.rounds (fun _ i hi => h.nomoved (by omega) i hi) (fun i k _ _ e => (e ⟨by omega, fun h5 => by omega⟩).elim) ⟨fun e => ?_, fun e => ?_, fun e => ?_, fun _ => rfl⟩ (fun _ => rfl) (fun i hi e => ?_)
  · have e' : (1:Int) = 0 ∨ (1:Int) = 4 := e; omega
  · have e' : (1:Int) = 2 := e; omega
  · have e' : (1:Int) = 5 := e; omega
  · have e' : (1:Int) = 6 := e.1; omega
theorem Snd.u4 {x : Hp} (h : Snd x) (hp : x.phase = 4) : Snd (unit4 x) := by
  have nm : ∀ i k, ¬ Mended x i k := fun i k e => e.1 hp
  unfold unit4
  obtain ⟨f1, f2, f3⟩ := fstFree_is x
  split
  · refine h.turned ⟨by omega, by omega, by omega⟩ 5 0 0 x.rounds ⟨by omega, by omega, by omega, by omega, by omega⟩ ⟨by omega, by omega⟩ ⟨by omega, by omega⟩ h.r1.rounds (fun e => by omega) (fun i k _ _ _ e => ?_) ⟨fun e => ?_, fun e => ?_, fun _ => ⟨fun _ => rfl, fun _ => ?_⟩, fun e => ?_⟩ (fun e => by omega) (fun i hi e => ?_)
    · have e' : (i : Int) < 0 ∨ ((i : Int) = 0 ∧ (k : Int) < 0) := e.2 rfl
      omega
    · have e' : (5:Int) = 0 ∨ (5:Int) = 4 := e; omega
    · have e' : (5:Int) = 2 := e; omega
    · show (0:Int) ≤ _; omega
    · have e' : (5:Int) = 1 ∨ (5:Int) = 3 ∨ (5:Int) = 6 := e; omega
    · have e' : (5:Int) = 6 := e.1; omega
  · rename_i hlt
    rcases lstUsed_is x x.cells.length with ⟨e, _⟩ | ⟨f, e, hf, hs, _⟩
    · omega
    · have e2 : (lstUsed x x.cells.length).toNat = f := by omega
      rw [e2]
      rw [e] at hlt
      exact h.mv hp (fstFree x) f (by omega) hf (f3 (by omega)) f2 hs
def resW (x : Hp) (y : Wd) : Wd := if y.k = 2 ∧ (x.c y.a.toNat).st = 2 then ⟨2, 0, (x.c y.a.toNat).to⟩ else y
def mendC (x : Hp) (c : Cl) (k : Nat) : Cl := { c with prs := c.prs.set k ⟨resW x (c.p k).key, resW x (c.p k).val⟩ }
def unit5 (x : Hp) : Hp := if x.hand = x.cells.length then toPh x 6 x.cells.length else
  if x.sub < (x.c x.hand.toNat).prs.length then { x with cells := x.cells.set x.hand.toNat (mendC x (x.c x.hand.toNat) x.sub.toNat), sub := x.sub + 1 }
  else { x with hand := x.hand + 1, sub := 0 }
theorem Snd.mend {x : Hp} (h : Snd x) (hp : x.phase = 5) (i k : Nat) (hi : x.hand = (i : Int)) (hin : i < x.cells.length) (hk : x.sub = (k : Int)) (hkl : k < (x.c i).prs.length) : Snd { x with cells := x.cells.set i (mendC x (x.c i) k), sub := x.sub + 1 } := by
  have hg := h.nogray (fun e => by rcases e with e | e <;> omega)
  have hst : (x.c i).st = 1 := by
    rcases h.r2.1 i hin with ⟨_, b, _⟩ | ⟨_, b⟩ | ⟨a, _⟩
    · have := b.2.2.2.2.2; omega
    · have := b.1.2.2.2.2.2; omega
    · exact a
  obtain ⟨y, hy⟩ : ∃ y : Hp, y = { x with cells := x.cells.set i (mendC x (x.c i) k), sub := x.sub + 1 } := ⟨_, rfl⟩
  have yc : ∀ q, y.c q = if q = i then mendC x (x.c i) k else x.c q := fun q => by rw [hy]; exact Hp.c_set x i _ hin q
  have yl : y.cells.length = x.cells.length := by rw [hy]; simp
  have ycs : y.cells = x.cells.set i (mendC x (x.c i) k) := by rw [hy]
  have yp : y.phase = 5 := by rw [hy]; exact hp
  have yh : y.hand = x.hand := by rw [hy]
  have ys : y.sub = x.sub + 1 := by rw [hy]
  have yr : y.regs = x.regs := by rw [hy]
  have yg : y.gray = [] := by rw [hy]; exact hg
  have y1 : y.room = x.room ∧ y.used = x.used ∧ y.born = x.born ∧ y.per = x.per ∧ y.start = x.start ∧ y.rounds = x.rounds ∧ y.forced = x.forced := by rw [hy]; exact ⟨rfl, rfl, rfl, rfl, rfl, rfl, rfl⟩
  rw [← hy]
  clear hy
  have yci : y.c i = mendC x (x.c i) k := by rw [yc, if_pos rfl]
  have yco : ∀ q, q ≠ i → y.c q = x.c q := fun q e => by rw [yc, if_neg e]
  have parts : ∀ q, (y.c q).st = (x.c q).st ∧ (y.c q).kind = (x.c q).kind ∧ (y.c q).weak = (x.c q).weak ∧ (y.c q).last = (x.c q).last ∧ (y.c q).born = (x.c q).born ∧ (y.c q).color = (x.c q).color ∧ (y.c q).to = (x.c q).to ∧ (y.c q).prs.length = (x.c q).prs.length := fun q => by
    by_cases e : q = i
    · rw [e, yci]; exact ⟨rfl, rfl, rfl, rfl, rfl, rfl, rfl, by simp [mendC]⟩
    · rw [yco q e]; exact ⟨rfl, rfl, rfl, rfl, rfl, rfl, rfl, rfl⟩
  have nd : ∀ q, ¬ Doomed y q := fun q d => by have := d.1; omega
  have ndx : ∀ q, ¬ Doomed x q := fun q d => by have := d.1; omega
  have lead : ∀ (u : Wd) (m m' : Prop), (m → m') → Leads x u m → Leads y u m' := fun u m m' hmm hl => by
    refine ⟨by rw [yl]; exact hl.1, fun hk => ?_⟩
    rw [(parts _).1]
    rcases hl.2 hk with ⟨a, b⟩ | ⟨a, _⟩
    · exact .inl ⟨a, hmm b⟩
    · exact .inr ⟨a, nd _⟩
  have res : ∀ (u : Wd) (m m' : Prop), Leads x u m → Leads y (resW x u) m' := fun u m m' hl => by
    unfold resW
    split
    · rename_i e
      have hlt : u.a.toNat < x.cells.length := by rcases hl.1 with f | f | f <;> omega
      rcases h.r2.1 _ hlt with ⟨a, _⟩ | ⟨_, b⟩ | ⟨a, _⟩
      · have := e.2; omega
      · obtain ⟨_, _, b3, b4, b5, _⟩ := b
        refine ⟨.inr (.inr ⟨rfl, rfl, b3, show (x.c u.a.toNat).to < _ by rw [yl]; omega⟩), fun _ => .inr ⟨?_, nd _⟩⟩
        rw [(parts _).1]; exact b5
      · have := e.2; omega
    · rename_i e
      refine ⟨by rw [yl]; exact hl.1, fun hk => ?_⟩
      rw [(parts _).1]
      rcases hl.2 hk with ⟨a, _⟩ | ⟨a, _⟩
      · exact (e ⟨hk, a⟩).elim
      · exact .inr ⟨a, nd _⟩
  have hp200 := h.ok.p200 i hin
  have r := h.r1
  refine ⟨⟨by rw [y1.1]; exact r.room, by rw [yr]; exact r.regs, by rw [yl, y1.1]; exact r.cells, by rw [yg]; simp, by rw [y1.2.2.1]; exact r.born, by rw [y1.2.2.2.2.2.1]; exact r.rounds, by rw [y1.2.2.2.2.2.2]; exact r.forced, by rw [y1.2.2.2.1]; exact r.per, by rw [y1.2.2.2.2.1]; exact r.start, by rw [yp]; omega, by rw [yh, yl]; exact r.hand, by rw [ys]; omega⟩, ⟨fun q hq => ?_, fun q hq hs j hj hh => ?_⟩, ?_, ⟨fun q hq => ?_, fun q hq => ⟨fun e => nd q e.1, fun j hj => ⟨fun d => (nd q d).elim, fun _ => ?_⟩⟩⟩, ⟨fun _ => by rw [yg]; rfl, fun q hq => ?_, fun g hg' => by rw [yg] at hg'; cases hg'⟩, ?_, fun e => ?_, fun q hq e => by have := e.1; omega⟩
  · rw [yl] at hq
    obtain ⟨e1, e2, e3, e4, e5, e6, e7, e8⟩ := parts q
    unfold CellOk UsedOk MovedOk Bare
    rw [e1, e2, e3, e4, e5, e6, e7, e8, y1.2.2.1, yp, (parts _).1]
    rcases h.r2.1 q hq with a | ⟨a, b⟩ | a
    · exact .inl a
    · exact .inr (.inl ⟨a, b.1, by omega, b.2.2.1, b.2.2.2.1, b.2.2.2.2.1, fun e => by omega⟩)
    · exact .inr (.inr a)
  · rw [yl] at hq
    obtain ⟨e1, _, _, _, e5, _, e7, _⟩ := parts q
    obtain ⟨f1, _, _, _, f5, _, f7, _⟩ := parts j
    rw [e1, e5, e7, f1, f5, f7] at hh
    rw [e1] at hs
    exact h.r2.2 q hq hs j hj hh
  · unfold R3
    rw [y1.2.1, y1.1, ycs]
    have : units (x.cells.set i (mendC x (x.c i) k)) = units x.cells := units_set _ _ _ hin (by rw [Hp.c_eq x i hin]; unfold unitsOf mendC; simp)
    rw [this]
    exact h.r3
  · have hq2 : q < x.regs.length := by rw [← yr]; exact hq
    have e2 : y.regs[q] = x.regs[q] := by simp [yr]
    rw [e2]
    exact lead _ _ _ id (h.r4.1 q hq2)
  · rw [yl] at hq
    rw [(parts q).2.2.2.2.2.2.2] at hj
    have h4 := ((h.r4.2 q hq).2 j hj).2 (ndx q)
    by_cases e : q = i
    · subst e
      by_cases ej : j = k
      · subst ej
        have ep : (y.c q).p j = ⟨resW x ((x.c q).p j).key, resW x ((x.c q).p j).val⟩ := by
          rw [yci]
          simp [Cl.p, mendC, hkl]
        rw [ep]
        exact ⟨res _ _ _ h4.1, res _ _ _ h4.2⟩
      · have ep : (y.c q).p j = (x.c q).p j := by
          rw [yci]
          simp only [Cl.p, mendC, List.getD_eq_getElem?_getD]
          rw [List.getElem?_set_ne (fun e => ej e.symm)]
        rw [ep]
        have men : ¬ Mended x q j → ¬ Mended y q j := fun e e' => e ⟨by omega, fun _ => by
          have := e'.2 yp
          rw [yh, ys] at this
          omega⟩
        exact ⟨lead _ _ _ men h4.1, lead _ _ _ men h4.2⟩
    · rw [yco q e]
      have men : ¬ Mended x q j → ¬ Mended y q j := fun e2 e' => e2 ⟨by omega, fun _ => by
        have := e'.2 yp
        rw [yh, ys] at this
        omega⟩
      exact ⟨lead _ _ _ men h4.1, lead _ _ _ men h4.2⟩
  · rw [yl] at hq
    have c := h.cols ⟨by omega, by omega, by omega⟩ q hq
    unfold ColorOk
    rw [(parts q).2.2.2.2.2.1, yg]
    exact ⟨fun e => (c.1 e).elim, fun _ => by simp [cnt], fun e => (c.2 e).elim⟩
  · unfold R6
    rw [yp, yh, ys, yl]
    have e : x.hand.toNat = i := by omega
    rw [e, (parts i).1, (parts i).2.2.2.2.2.2.2]
    exact ⟨fun e => by omega, fun e => by omega, fun _ => ⟨fun e => by omega, fun _ => by omega⟩, fun e => by omega⟩
  · exfalso; rcases e with e | e <;> omega
theorem Snd.u5 {x : Hp} (h : Snd x) (hp : x.phase = 5) : Snd (unit5 x) := by
  have hh := h.r1.hand
  have hs := h.r1.sub
  have h6 := h.r6.2.2.1 hp
  unfold unit5
  split
  · rename_i he
    refine h.turned ⟨by omega, by omega, by omega⟩ 6 x.cells.length 0 x.rounds ⟨by omega, by omega, by omega, by omega, by omega⟩ ⟨by omega, by omega⟩ ⟨by omega, by omega⟩ h.r1.rounds (fun e => by omega) (fun i k hi _ e => (e ⟨by omega, fun _ => .inl (by omega)⟩).elim) ⟨fun e => ?_, fun e => ?_, fun e => ?_, fun _ => rfl⟩ (fun e => by omega) (fun i hi e => ?_)
    · have e' : (6:Int) = 0 ∨ (6:Int) = 4 := e; omega
    · have e' : (6:Int) = 2 := e; omega
    · have e' : (6:Int) = 5 := e; omega
    · have e' : (x.cells.length : Int) ≤ i := e.2.1
      have hi' : i < x.cells.length := hi
      omega
  · rename_i hne
    split
    · rename_i hlt
      exact h.mend hp x.hand.toNat x.sub.toNat (by omega) (by omega) (by omega) (by omega)
    · rename_i hlt
      obtain ⟨i, hi⟩ : ∃ i : Nat, x.hand = (i : Int) := ⟨x.hand.toNat, by omega⟩
      have hin : i < x.cells.length := by omega
      have ei : x.hand.toNat = i := by omega
      rw [ei] at h6 hlt
      have key : ∀ k, k < (x.c i).prs.length → (k : Int) < x.sub := fun k hk => by
        have hst : (x.c i).st = 1 := by
          rcases h.r2.1 i hin with ⟨_, b, _⟩ | ⟨_, b⟩ | ⟨a, _⟩
          · have := b.2.2.2.2.2; omega
          · have := b.1.2.2.2.2.2; omega
          · exact a
        omega
      have e0 : ({ x with hand := x.hand + 1, sub := 0 } : Hp) = { x with phase := x.phase, hand := x.hand + 1, sub := 0, rounds := x.rounds } := rfl
      rw [e0, hp]
      refine h.turned ⟨by omega, by omega, by omega⟩ 5 (x.hand + 1) 0 x.rounds ⟨by omega, by omega, by omega, by omega, by omega⟩ ⟨by omega, by omega⟩ ⟨by omega, by omega⟩ h.r1.rounds (fun e => by omega) (fun q k hq hk e e' => e ⟨by omega, fun _ => ?_⟩) ⟨fun e => ?_, fun e => ?_, fun _ => ⟨fun _ => rfl, fun _ => ?_⟩, fun e => ?_⟩ (fun e => by omega) (fun q hq e => ?_)
      · have e2 : (q : Int) < x.hand + 1 ∨ ((q : Int) = x.hand + 1 ∧ (k : Int) < 0) := e'.2 rfl
        by_cases eq : q = i
        · subst eq; exact .inr ⟨by omega, key k hk⟩
        · left; omega
      · have e' : (5:Int) = 0 ∨ (5:Int) = 4 := e; omega
      · have e' : (5:Int) = 2 := e; omega
      · show (0:Int) ≤ _; omega
      · have e' : (5:Int) = 1 ∨ (5:Int) = 3 ∨ (5:Int) = 6 := e; omega
      · have e' : (5:Int) = 6 := e.1; omega
end Go.Proofs.YtkabcfhemljnbaaGreat

namespace Go.Proofs.YtkabcfhemljnbaaGreat
open Go.RowKit

/-! The unit of PClose, and all of them. -/
def shutH (x : Hp) (i : Nat) : Hp := { x with cells := if (x.c i).st = 2 then x.cells.set i Cl0 else x.cells, hand := (i : Int) }
def dropH (x : Hp) (i : Nat) : Hp := if i + 1 = x.cells.length ∧ (x.c i).st = 0 then { x with cells := x.cells.take i } else x
def unit6 (x : Hp) : Hp := if x.hand = 0 then { x with phase := 0, hand := 0, sub := 0, rounds := if x.rounds < 1000000000 then x.rounds + 1 else x.rounds } else dropH (shutH x (x.hand - 1).toNat) (x.hand - 1).toNat
theorem Snd.noword {x : Hp} (h : Snd x) (hp : x.phase = 6) : (∀ i (hi : i < x.regs.length), Good1 x x.regs[i]) ∧ ∀ i k, i < x.cells.length → k < (x.c i).prs.length → Good1 x ((x.c i).p k).key ∧ Good1 x ((x.c i).p k).val := by
  refine ⟨fun i hi => h.good_reg i hi, fun i k hi hk => ?_⟩
  have r := ((h.r4.2 i hi).2 k hk).2 (fun d => by have := d.1; omega)
  have hmen : Mended x i k := ⟨by omega, fun h5 => by omega⟩
  have go : ∀ y, Leads x y (¬ Mended x i k) → Good1 x y := fun y hy hk2 => by
    rcases hy.2 hk2 with ⟨_, h2⟩ | ⟨h1, _⟩
    · exact (h2 hmen).elim
    · refine ⟨?_, h1⟩
      rcases hy.1 with f | f | f <;> omega
  exact ⟨go _ r.1, go _ r.2⟩
theorem Snd.shut {x : Hp} (h : Snd x) (hp : x.phase = 6) (i : Nat) (hi : x.hand = (i : Int) + 1) : Snd (shutH x i) := by
  have hh := h.r1.hand
  have hin : i < x.cells.length := by omega
  have hg := h.nogray (fun e => by rcases e with e | e <;> omega)
  obtain ⟨g1, g2⟩ := h.noword hp
  obtain ⟨y, hy⟩ : ∃ y : Hp, y = shutH x i := ⟨_, rfl⟩
  have yc : ∀ q, y.c q = if q = i ∧ (x.c i).st = 2 then Cl0 else x.c q := fun q => by
    rw [hy]
    by_cases e : (x.c i).st = 2
    · have e3 : shutH x i = { x with cells := x.cells.set i Cl0, hand := (i : Int) } := by unfold shutH; rw [if_pos e]
      rw [e3]
      have := Hp.c_set x i Cl0 hin q
      have e4 : ({ x with cells := x.cells.set i Cl0, hand := (i : Int) } : Hp).c q = ({ x with cells := x.cells.set i Cl0 } : Hp).c q := rfl
      rw [e4, this]
      by_cases eq : q = i
      · rw [if_pos eq, if_pos ⟨eq, e⟩]
      · rw [if_neg eq, if_neg (fun z => eq z.1)]
    · have e3 : shutH x i = { x with hand := (i : Int) } := by unfold shutH; rw [if_neg e]
      rw [e3, if_neg (fun z => e z.2)]; rfl
  have yl : y.cells.length = x.cells.length := by rw [hy]; unfold shutH; split <;> simp
  have yu : units y.cells = units x.cells := by
    rw [hy]; unfold shutH
    split
    · rename_i e
      refine units_set _ _ _ hin ?_
      rw [Hp.c_eq x i hin]
      unfold unitsOf
      rw [if_neg (by simp [Cl0]), if_neg (by omega)]
    · rfl
  have yp : y.phase = 6 := by rw [hy]; exact hp
  have yh : y.hand = (i : Int) := by rw [hy]; rfl
  have ys : y.sub = x.sub := by rw [hy]; rfl
  have yr : y.regs = x.regs := by rw [hy]; rfl
  have yg : y.gray = [] := by rw [hy]; exact hg
  have y1 : y.room = x.room ∧ y.used = x.used ∧ y.born = x.born ∧ y.per = x.per ∧ y.start = x.start ∧ y.rounds = x.rounds ∧ y.forced = x.forced := by rw [hy]; exact ⟨rfl, rfl, rfl, rfl, rfl, rfl, rfl⟩
  rw [← hy]
  clear hy
  have used : ∀ q, (x.c q).st = 1 → y.c q = x.c q := fun q e => by
    rw [yc, if_neg (fun z => by rw [z.1] at e; omega)]
  have nd : ∀ q, ¬ Doomed y q := fun q d => by have := d.1; omega
  have lead : ∀ u m m', Good1 x u → Leads x u m → Leads y u m' := fun u m m' hg1 hl => by
    refine ⟨by rw [yl]; exact hl.1, fun hk => .inr ⟨?_, nd _⟩⟩
    rw [used _ (hg1 hk).2]; exact (hg1 hk).2
  have prs : ∀ q, 0 < (y.c q).prs.length → y.c q = x.c q := fun q hq => by
    rw [yc] at hq ⊢
    split
    · rename_i e; rw [if_pos e] at hq; simp [Cl0] at hq
    · rfl
  have r := h.r1
  refine ⟨⟨by rw [y1.1]; exact r.room, by rw [yr]; exact r.regs, by rw [yl, y1.1]; exact r.cells, by rw [yg]; simp, by rw [y1.2.2.1]; exact r.born, by rw [y1.2.2.2.2.2.1]; exact r.rounds, by rw [y1.2.2.2.2.2.2]; exact r.forced, by rw [y1.2.2.2.1]; exact r.per, by rw [y1.2.2.2.2.1]; exact r.start, by rw [yp]; omega, by rw [yh, yl]; omega, by rw [ys]; exact r.sub⟩, ⟨fun q hq => ?_, fun q hq hs j hj hh => ?_⟩, ⟨by rw [y1.2.1, yu]; exact h.r3.1, by rw [y1.2.1, y1.1]; exact h.r3.2⟩, ⟨fun q hq => ?_, fun q hq => ⟨fun e => nd q e.1, fun j hj => ⟨fun d => (nd q d).elim, fun _ => ?_⟩⟩⟩, ⟨fun _ => by rw [yg]; rfl, fun q hq => ?_, fun g hg' => by rw [yg] at hg'; cases hg'⟩, ?_, fun e => ?_, fun q hq e => ?_⟩
  · rw [yl] at hq
    unfold CellOk
    rw [yc]
    split
    · exact .inl ⟨rfl, ⟨rfl, rfl, rfl, rfl, rfl, rfl⟩, rfl⟩
    · rcases h.r2.1 q hq with a | ⟨a, b⟩ | ⟨a, b⟩
      · exact .inl a
      · exact .inr (.inl ⟨a, b.1, by rw [yp]; omega, b.2.2.1, b.2.2.2.1, by rw [used _ b.2.2.2.2.1]; exact b.2.2.2.2.1, fun e => by rw [yp] at e; omega⟩)
      · exact .inr (.inr ⟨a, b.1, b.2.1, b.2.2.1, by rw [y1.2.2.1]; exact b.2.2.2.1, b.2.2.2.2⟩)
  · rw [yl] at hq
    have n1 : y.c q = x.c q := by
      rw [yc] at hs ⊢
      split
      · rename_i e; rw [if_pos e] at hs; exact (hs rfl).elim
      · rfl
    have n2 : y.c j = x.c j := by
      have h1 := hh.1
      rw [yc j] at h1 ⊢
      split
      · rename_i e; rw [if_pos e] at h1; exact (hs h1.symm).elim
      · rfl
    rw [n1, n2] at hh
    rw [n1] at hs
    exact h.r2.2 q hq hs j hj hh
  · have hq2 : q < x.regs.length := by rw [← yr]; exact hq
    have e2 : y.regs[q] = x.regs[q] := by simp [yr]
    rw [e2]
    exact lead _ _ _ (g1 q hq2) (h.r4.1 q hq2)
  · rw [yl] at hq
    have e := prs q (by omega)
    rw [e] at hj ⊢
    have h4 := ((h.r4.2 q hq).2 j hj).2 (fun d => by have := d.1; omega)
    exact ⟨lead _ _ _ (g2 q j hq hj).1 h4.1, lead _ _ _ (g2 q j hq hj).2 h4.2⟩
  · rw [yl] at hq
    have c := h.cols ⟨by omega, by omega, by omega⟩ q hq
    have cy : (y.c q).color ≠ 1 ∧ (y.c q).color ≠ 2 := by
      rw [yc]; split
      · exact ⟨by simp [Cl0], by simp [Cl0]⟩
      · exact c
    exact ⟨fun e => (cy.1 e).elim, fun _ => by rw [yg]; simp [cnt], fun e => (cy.2 e).elim⟩
  · unfold R6
    rw [yp, ys]
    exact ⟨fun e => by omega, fun e => by omega, fun e => by omega, fun _ => h.r6.2.2.2 (by omega)⟩
  · exfalso; rcases e with e | e <;> omega
  · rw [yl] at hq
    have e2 := e.2.2
    have e1 := e.2.1
    rw [yh] at e1
    rw [yc] at e2
    split at e2
    · simp [Cl0] at e2
    · rename_i hn
      by_cases eq : q = i
      · exact hn ⟨eq, by rw [← eq]; exact e2⟩
      · exact h.r8 q hq ⟨hp, by omega, e2⟩
theorem Snd.drop {x : Hp} (h : Snd x) (hp : x.phase = 6) (i : Nat) (hi : x.hand = (i : Int)) : Snd (dropH x i) := by
  unfold dropH
  split
  rotate_left
  · exact h
  rename_i hd
  obtain ⟨hlen, hst⟩ := hd
  have hg := h.nogray (fun e => by rcases e with e | e <;> omega)
  obtain ⟨g1, g2⟩ := h.noword hp
  obtain ⟨y, hy⟩ : ∃ y : Hp, y = { x with cells := x.cells.take i } := ⟨_, rfl⟩
  have yl : y.cells.length = i := by rw [hy]; simp; omega
  have yc : ∀ q, q < i → y.c q = x.c q := fun q hq => by
    rw [hy]
    simp only [Hp.c, List.getD_eq_getElem?_getD]
    rw [List.getElem?_take_of_lt hq]
  have yu : units y.cells = units x.cells := by
    have e := units_take x.cells i (by omega)
    rw [show i + 1 = x.cells.length from hlen, List.take_length, Hp.c_eq x i (by omega)] at e
    have : unitsOf (x.c i) = 0 := by unfold unitsOf; rw [if_neg (by omega)]
    rw [hy]; show units (x.cells.take i) = _; omega
  have yp : y.phase = 6 := by rw [hy]; exact hp
  have yh : y.hand = (i : Int) := by rw [hy]; exact hi
  have ys : y.sub = x.sub := by rw [hy]
  have yr : y.regs = x.regs := by rw [hy]
  have yg : y.gray = [] := by rw [hy]; exact hg
  have y1 : y.room = x.room ∧ y.used = x.used ∧ y.born = x.born ∧ y.per = x.per ∧ y.start = x.start ∧ y.rounds = x.rounds ∧ y.forced = x.forced := by rw [hy]; exact ⟨rfl, rfl, rfl, rfl, rfl, rfl, rfl⟩
  rw [← hy]
  clear hy
  have nd : ∀ q, ¬ Doomed y q := fun q d => by have := d.1; omega
  have lead : ∀ u m m', Good1 x u → Leads x u m → Leads y u m' := fun u m m' hg1 hl => by
    have key : u.k = 2 → u.a.toNat < i := fun hk => by
      have := hg1 hk
      have : u.a.toNat ≠ i := fun e => by rw [e] at this; omega
      omega
    refine ⟨?_, fun hk => .inr ⟨?_, nd _⟩⟩
    · rw [yl]
      rcases hl.1 with f | f | f
      · exact .inl f
      · exact .inr (.inl f)
      · refine .inr (.inr ⟨f.1, f.2.1, f.2.2.1, ?_⟩)
        have := key f.1; omega
    · rw [yc _ (key hk)]; exact (hg1 hk).2
  have r := h.r1
  refine ⟨⟨by rw [y1.1]; exact r.room, by rw [yr]; exact r.regs, by rw [yl, y1.1]; have := r.cells; omega, by rw [yg]; simp, by rw [y1.2.2.1]; exact r.born, by rw [y1.2.2.2.2.2.1]; exact r.rounds, by rw [y1.2.2.2.2.2.2]; exact r.forced, by rw [y1.2.2.2.1]; exact r.per, by rw [y1.2.2.2.2.1]; exact r.start, by rw [yp]; omega, by rw [yh, yl]; omega, by rw [ys]; exact r.sub⟩, ⟨fun q hq => ?_, fun q hq hs j hj hh => ?_⟩, ⟨by rw [y1.2.1, yu]; exact h.r3.1, by rw [y1.2.1, y1.1]; exact h.r3.2⟩, ⟨fun q hq => ?_, fun q hq => ⟨fun e => nd q e.1, fun j hj => ⟨fun d => (nd q d).elim, fun _ => ?_⟩⟩⟩, ⟨fun _ => by rw [yg]; rfl, fun q hq => ?_, fun g hg' => by rw [yg] at hg'; cases hg'⟩, ?_, fun e => ?_, fun q hq e => ?_⟩
  · rw [yl] at hq
    unfold CellOk
    rw [yc q hq]
    rcases h.r2.1 q (by omega) with a | ⟨a, b⟩ | ⟨a, b⟩
    · exact .inl a
    · have hto : (x.c q).to.toNat < i := by have := b.2.2.1; have := b.2.2.2.1; omega
      exact .inr (.inl ⟨a, b.1, by rw [yp]; omega, b.2.2.1, b.2.2.2.1, by rw [yc _ hto]; exact b.2.2.2.2.1, fun e => by rw [yp] at e; omega⟩)
    · exact .inr (.inr ⟨a, b.1, b.2.1, b.2.2.1, by rw [y1.2.2.1]; exact b.2.2.2.1, b.2.2.2.2⟩)
  · rw [yl] at hq
    rw [yc q hq, yc j (by omega)] at hh
    rw [yc q hq] at hs
    exact h.r2.2 q (by omega) hs j hj hh
  · have hq2 : q < x.regs.length := by rw [← yr]; exact hq
    have e2 : y.regs[q] = x.regs[q] := by simp [yr]
    rw [e2]
    exact lead _ _ _ (g1 q hq2) (h.r4.1 q hq2)
  · rw [yl] at hq
    rw [yc q hq] at hj ⊢
    have h4 := ((h.r4.2 q (by omega)).2 j hj).2 (fun d => by have := d.1; omega)
    exact ⟨lead _ _ _ (g2 q j (by omega) hj).1 h4.1, lead _ _ _ (g2 q j (by omega) hj).2 h4.2⟩
  · rw [yl] at hq
    have c := h.cols ⟨by omega, by omega, by omega⟩ q (by omega)
    unfold ColorOk
    rw [yc q hq, yg]
    exact ⟨fun e => (c.1 e).elim, fun _ => by simp [cnt], fun e => (c.2 e).elim⟩
  · unfold R6
    rw [yp, ys]
    exact ⟨fun e => by omega, fun e => by omega, fun e => by omega, fun _ => h.r6.2.2.2 (by omega)⟩
  · exfalso; rcases e with e | e <;> omega
  · rw [yl] at hq
    have := e.2.1
    rw [yh] at this
    omega
theorem Snd.u6 {x : Hp} (h : Snd x) (hp : x.phase = 6) : Snd (unit6 x) := by
  have hh := h.r1.hand
  unfold unit6
  split
  · rename_i he
    refine h.turned ⟨by omega, by omega, by omega⟩ 0 0 0 _ ⟨by omega, by omega, by omega, by omega, by omega⟩ ⟨by omega, by omega⟩ ⟨by omega, by omega⟩ (by have := h.r1.rounds; split <;> omega) (fun _ i hi e => h.r8 i hi ⟨hp, by omega, e⟩) (fun i k _ _ e => (e ⟨by omega, fun h5 => by omega⟩).elim) ⟨fun _ => ⟨rfl, rfl⟩, fun e => ?_, fun e => ?_, fun e => ?_⟩ (fun e => by omega) (fun i hi e => ?_)
    · have e' : (0:Int) = 2 := e; omega
    · have e' : (0:Int) = 5 := e; omega
    · have e' : (0:Int) = 1 ∨ (0:Int) = 3 ∨ (0:Int) = 6 := e; omega
    · have e' : (0:Int) = 6 := e.1; omega
  · rename_i hne
    have e : x.hand = (((x.hand - 1).toNat : Nat) : Int) + 1 := by omega
    have s := h.shut hp _ e
    exact s.drop hp _ rfl
/-- one unit of a round that is on -/
def unitH (x : Hp) : Hp := if x.phase = 1 then unit1 x else if x.phase = 2 then unit2 x else if x.phase = 3 then unit3 x else if x.phase = 4 then unit4 x else if x.phase = 5 then unit5 x else if x.phase = 6 then unit6 x else x
theorem Snd.unit {x : Hp} (h : Snd x) : Snd (unitH x) := by
  unfold unitH
  split
  · rename_i e; exact h.u1 e
  split
  · rename_i e; exact h.u2 e
  split
  · rename_i e; exact h.u3 e
  split
  · rename_i e; exact h.u4 e
  split
  · rename_i e; exact h.u5 e
  split
  · rename_i e; exact h.u6 e
  · exact h
end Go.Proofs.YtkabcfhemljnbaaGreat

namespace Go.Proofs.YtkabcfhemljnbaaGreat
open Go.RowKit
attribute [local go_sem ↓] Go.wp_at_zero Go.wp_at_succ

/-! The store in the midst of a round. -/
/-- a number of the box has turned -/
theorem SAt.boxed {B : Nat} {w w' : World} {b : Nat} {x x' : Hp} {ar : Option Addr} {kr : Nat} {v4 v8 : Value} {br bc bn : Nat} {pb : Nat → Nat} {pa : Nat → Option Addr} {pk : Nat → Nat} {kn hd : Nat} {vf : Value} {F : List Int} {vk : Value} {K : List Nat} {role : Nat → Nat} (h : SAt B w b x ar kr v4 v8 br bc bn pb pa pk kn hd vf F vk K role) (o : Only (fun q => q = b) w w') (nf : Nf1 b w') (hr : x'.regs = x.regs) (hc : x'.cells = x.cells) (hg : x'.gray = x.gray) (bx : HBox w' b x' (.slice ar x.regs.length kr) v4 v8) (c : ∀ k, 13 ≤ k → w'.cell? ⟨b, k, none⟩ = w.cell? ⟨b, k, none⟩) :
    SAt B w' b x' ar kr v4 v8 br bc bn pb pa pk kn hd vf F vk K role := by
  have far : ∀ q, q < w.heap.size → role q ≠ 0 → w'.heap[q]? = w.heap[q]? := fun q hq hn => o.block q hq (fun e => hn (by rw [e]; exact h.sp.b))
  have fn := far bn h.sb.lo.2.2 (by rw [h.sp.n]; omega)
  have cc : ∀ q, x'.c q = x.c q := fun q => by simp only [Hp.c, hc]
  have rw2 := h.rw.same o.size (fun hl => far br (h.rw.nr hl).1.1 (by rw [h.sp.r hl]; omega)) (fun hl => far bc (h.rw.nc hl).1.1 (by rw [h.sp.c hl]; omega)) (fun q hq hl => far (pb q) (h.rw.pl q hq hl).2.1.1 (by rw [h.sp.p q hq hl]; omega))
  refine ⟨⟨by rw [hr]; exact bx, by rw [hr]; exact h.sb.ha, by rw [hc]; exact (c 13 (by omega)).trans h.sb.n13, fun k hk => ?_, ⟨(c 14 (by omega)).trans h.sb.fr.hd, nf.2 14, ownsRow_of_block h.sb.fr.own (fun q hq => far q (h.sb.fr.own.lt q hq).2 (by rw [h.sp.f q hq]; omega)), h.sb.fr.apart⟩, ?_, (c 4017 (by omega)).trans h.sb.k0, ownsRow_of_block h.sb.kp (fun q hq => far q (h.sb.kp.lt q hq).2 (by rw [h.sp.k q hq]; omega)), nf, ⟨h.sb.lo.1, h.sb.lo.2.1, Nat.lt_of_lt_of_le h.sb.lo.2.2 o.size⟩⟩, ?_, ?_⟩
  · rw [hc] at hk
    exact ⟨(World.cell?_of_block (a := ⟨bn, _, none⟩) fn).trans (h.sb.nd k hk).1, (World.cell?_of_block (a := ⟨bn, _, none⟩) fn).trans (h.sb.nd k hk).2⟩
  · rw [hg]; exact h.sb.rg.of fun o h1 _ => c o (by omega)
  · refine ⟨fun i hi => ?_, fun q hq => ?_, fun q hq => ?_, fun q hq k hk => ?_, fun q hq hl => ?_, ?_, ?_, ?_, fun q q' hq hq' hne h1 h2 => ?_⟩
    · have hi2 : i < x.regs.length := by rw [← hr]; exact hi
      have e2 : x'.regs[i] = x.regs[i] := by simp [hr]
      rw [e2]; exact rw2.r i hi2
    · rw [hc] at hq; rw [cc]; exact rw2.s q hq
    · rw [hc] at hq; rw [cc]; exact rw2.p7 q hq
    · rw [hc] at hq; rw [cc] at hk ⊢; exact rw2.p q hq k hk
    · rw [hc] at hq; rw [cc] at hl; exact rw2.pl q hq hl
    · rw [hr]; exact rw2.nr
    · rw [hc]; exact rw2.nc
    · rw [hc]; exact rw2.d
    · rw [hc] at hq hq'; rw [cc] at h1 h2; exact rw2.dp q q' hq hq' hne h1 h2
  · refine ⟨h.sp.b, h.sp.n, by rw [hr]; exact h.sp.r, by rw [hc]; exact h.sp.c, h.sp.f, h.sp.k, fun q hq hl => ?_⟩
    rw [hc] at hq; rw [cc] at hl; exact h.sp.p q hq hl
/-- how many places may still become free till the round's end -/
def remU (x : Hp) : Nat := if x.phase = 1 ∨ x.phase = 2 then 16000 else if x.phase = 3 then 8000 + (x.cells.length - x.hand.toNat) else if x.phase = 4 ∨ x.phase = 5 then 8000 else if x.phase = 6 then x.hand.toNat else 0
/-- what the free places and the kept cells have to do with the heap -/
structure SInv (C : Nat) (x : Hp) (F : List Int) (K : List Nat) : Prop where
  ho : Ho F
  al : ∀ i, i < x.cells.length → (x.c i).st = 0 → (i : Int) ∈ F
  nn : ∀ v, v ∈ F → 0 ≤ v
  le : F.length + remU x ≤ C
  k3 : x.phase = 3 → K = (List.range x.hand.toNat).filter (fun i => (x.c i).st == 1)
  k4 : x.phase = 4 → K.Pairwise (· < ·) ∧ (∀ i, i ∈ K → i < x.cells.length ∧ (x.c i).st = 1) ∧ ∀ i, i < x.cells.length → (x.c i).st = 1 → i ∉ K → ∀ j, j < x.cells.length → (x.c j).st = 0 → i < j
  k0 : x.phase ≠ 3 → x.phase ≠ 4 → K = []
/-- the store behind a pointer -/
def SOk (C B : Nat) (w : World) (b : Nat) (x : Hp) : Prop := ∃ ar kr v4 v8 br bc bn pb pa pk kn hd vf F vk K role, SAt B w b x ar kr v4 v8 br bc bn pb pa pk kn hd vf F vk K role ∧ SInv C x F K
theorem SOk.ext {C B : Nat} {w w' : World} {b : Nat} {x : Hp} (h : SOk C B w b x) (e : Ext w w') : SOk C B w' b x := by
  obtain ⟨ar, kr, v4, v8, br, bc, bn, pb, pa, pk, kn, hd, vf, F, vk, K, role, h, i⟩ := h
  exact ⟨ar, kr, v4, v8, br, bc, bn, pb, pa, pk, kn, hd, vf, F, vk, K, role, h.ext e, i⟩
end Go.Proofs.YtkabcfhemljnbaaGreat

namespace Go.Proofs.YtkabcfhemljnbaaGreat
open Go.RowKit

/-! What the free places and the kept cells have to do with the heap, behind each unit (mathematics alone). -/
def SameSt (x z : Hp) : Prop := z.cells.length = x.cells.length ∧ ∀ q, (z.c q).st = (x.c q).st
theorem SameSt.refl (x : Hp) : SameSt x x := ⟨rfl, fun _ => rfl⟩
theorem SameSt.trans {x y z : Hp} (h : SameSt x y) (k : SameSt y z) : SameSt x z := ⟨k.1.trans h.1, fun q => (k.2 q).trans (h.2 q)⟩
theorem SameSt.set (x : Hp) (i : Nat) (c : Cl) (hc : c.st = (x.c i).st) {z : Hp} (hz : z.cells = x.cells.set i c) : SameSt x z := by
  refine ⟨by rw [hz]; simp, fun q => ?_⟩
  have e : z.c q = ({ x with cells := x.cells.set i c } : Hp).c q := by simp only [Hp.c, hz]
  rw [e]
  rcases Nat.lt_or_ge i x.cells.length with hi | hi
  · rw [Hp.c_set x i c hi q]
    by_cases h : q = i
    · rw [if_pos h, h]; exact hc
    · rw [if_neg h]
  · rw [List.set_eq_of_length_le hi]
theorem SameSt.cells {x z : Hp} (hz : z.cells = x.cells) : SameSt x z := ⟨by rw [hz], fun q => by simp only [Hp.c, hz]⟩
theorem same_shade (x : Hp) (i : Nat) : SameSt x (shadeH x i) := by
  unfold shadeH
  split
  · exact SameSt.set x i (grayC (x.c i)) rfl rfl
  · exact SameSt.refl x
theorem same_shadeW (x : Hp) (y : Wd) : SameSt x (shadeW x y) := by
  unfold shadeW
  split
  · exact same_shade x _
  · exact SameSt.refl x
theorem same_fold : ∀ (ys : List Wd) (z : Hp), SameSt z (ys.foldl shadeW z) ∧ (ys.foldl shadeW z).phase = z.phase
  | [], z => ⟨SameSt.refl z, rfl⟩
  | y :: ys, z => by
    obtain ⟨a, b⟩ := same_fold ys (shadeW z y)
    exact ⟨(same_shadeW z y).trans a, b.trans (shadeW_same z y).2.2.1⟩
theorem remU_12 {x : Hp} (h : x.phase = 1 ∨ x.phase = 2) : remU x = 16000 := by unfold remU; rw [if_pos h]
theorem remU_3 {x : Hp} (h : x.phase = 3) : remU x = 8000 + (x.cells.length - x.hand.toNat) := by unfold remU; rw [if_neg (by omega), if_pos h]
theorem remU_45 {x : Hp} (h : x.phase = 4 ∨ x.phase = 5) : remU x = 8000 := by unfold remU; rw [if_neg (by omega), if_neg (by omega), if_pos h]
theorem remU_6 {x : Hp} (h : x.phase = 6) : remU x = x.hand.toNat := by unfold remU; rw [if_neg (by omega), if_neg (by omega), if_neg (by omega), if_pos h]
theorem remU_0 {x : Hp} (h : x.phase = 0) : remU x = 0 := by unfold remU; rw [if_neg (by omega), if_neg (by omega), if_neg (by omega), if_neg (by omega)]
theorem SInv.same {C : Nat} {x : Hp} {F : List Int} {K : List Nat} (h : SInv C x F K) {z : Hp} (hs : SameSt x z) (hp : x.phase ≠ 3 ∧ x.phase ≠ 4) (hr : remU z ≤ remU x) (h4 : z.phase ≠ 4) (h3 : z.phase = 3 → z.hand = 0) : SInv C z F K where
  ho := h.ho
  al := fun i hi h0 => h.al i (by rw [← hs.1]; exact hi) (by rw [← hs.2]; exact h0)
  nn := h.nn
  le := by have := h.le; omega
  k3 := fun e => by rw [h.k0 hp.1 hp.2, h3 e]; rfl
  k4 := fun e => absurd e h4
  k0 := fun _ _ => h.k0 hp.1 hp.2
theorem inv1 {C : Nat} {x : Hp} {F : List Int} {K : List Nat} (h : SInv C x F K) (hp : x.phase = 1) : SInv C (unit1 x) F K := by
  have hr := remU_12 (.inl hp)
  have key : ∀ z : Hp, SameSt x z → z.phase = 1 → SInv C z F K := fun z hs hz => h.same hs ⟨by omega, by omega⟩ (by rw [hr, remU_12 (.inl hz)]; omega) (by omega) (fun e => by omega)
  unfold unit1
  split
  · refine h.same (z := toPh x 2 0) (SameSt.cells rfl) ⟨by omega, by omega⟩ ?_ (by simp [toPh]) (by simp [toPh])
    rw [hr, remU_12 (.inr rfl)]; omega
  · by_cases e : spkB (x.c x.hand.toNat) = true
    · simp only [if_pos e]
      exact key _ ((same_shade x x.hand.toNat).trans (SameSt.cells rfl)) ((shade_same x _).2.2.2.2.2.1.trans hp)
    · simp only [if_neg e]
      exact key _ (SameSt.cells rfl) hp
theorem inv2 {C : Nat} {x : Hp} {F : List Int} {K : List Nat} (h : SInv C x F K) (hp : x.phase = 2) (n8 : x.cells.length ≤ 8000) : SInv C (unit2 x) F K := by
  have hr := remU_12 (.inr hp)
  have key : ∀ z : Hp, SameSt x z → z.phase = 2 → SInv C z F K := fun z hs hz => h.same hs ⟨by omega, by omega⟩ (by rw [hr, remU_12 (.inr hz)]; omega) (by omega) (fun e => by omega)
  unfold unit2
  split
  · rename_i g G hg
    split
    · refine key _ (((same_shadeW x _).trans (same_shadeW _ _)).trans (SameSt.cells rfl)) ?_
      exact (shadeW_same _ _).2.2.1.trans ((shadeW_same _ _).2.2.1.trans hp)
    · exact key _ (SameSt.set x g.toNat (blackC (x.c g.toNat)) rfl rfl) hp
  · obtain ⟨a, b⟩ := same_fold x.regs x
    have len : (lookH x).cells.length ≤ 8000 := by have := a.1; unfold lookH; omega
    split
    · refine h.same (a.trans (SameSt.cells rfl)) ⟨by omega, by omega⟩ ?_ (by simp [toPh]) (by simp [toPh])
      rw [hr, remU_3 rfl]
      simp only [toPh]
      omega
    · exact key _ a (b.trans hp)
theorem inv5 {C : Nat} {x : Hp} {F : List Int} {K : List Nat} (h : SInv C x F K) (hp : x.phase = 5) (n8 : x.cells.length ≤ 8000) : SInv C (unit5 x) F K := by
  have hr := remU_45 (.inr hp)
  have key : ∀ z : Hp, SameSt x z → z.phase = 5 → SInv C z F K := fun z hs hz => h.same hs ⟨by omega, by omega⟩ (by rw [hr, remU_45 (.inr hz)]; omega) (by omega) (fun e => by omega)
  unfold unit5
  split
  · refine h.same (z := toPh x 6 x.cells.length) (SameSt.cells rfl) ⟨by omega, by omega⟩ ?_ (by simp [toPh]) (by simp [toPh])
    rw [hr, remU_6 rfl]
    simp [toPh]; exact n8
  · split
    · exact key _ (SameSt.set x x.hand.toNat (mendC x (x.c x.hand.toNat) x.sub.toNat) rfl rfl) hp
    · exact key _ (SameSt.cells rfl) hp
theorem filt_same {x z : Hp} (n : Nat) (hs : ∀ q, q < n → (z.c q).st = (x.c q).st) : (List.range n).filter (fun i => (z.c i).st == 1) = (List.range n).filter (fun i => (x.c i).st == 1) := by
  refine List.filter_congr fun q hq => ?_
  rw [hs q (List.mem_range.1 hq)]
theorem filt_succ (x : Hp) (n : Nat) : (List.range (n + 1)).filter (fun i => (x.c i).st == 1) = (List.range n).filter (fun i => (x.c i).st == 1) ++ if (x.c n).st = 1 then [n] else [] := by
  rw [List.range_succ, List.filter_append]
  congr 1
  by_cases e : (x.c n).st = 1
  · simp [e]
  · simp [e]
/-- the sweep's end -/
theorem inv3_end {C : Nat} {x : Hp} {F : List Int} {K : List Nat} (h : SInv C x F K) (hp : x.phase = 3) (he : x.hand = x.cells.length) : SInv C (toPh x 4 0) F K where
  ho := h.ho
  al := h.al
  nn := h.nn
  le := by have := h.le; rw [remU_3 hp] at this; rw [remU_45 (.inl rfl)]; omega
  k3 := fun e => by simp [toPh] at e
  k4 := fun _ => by
    have k := h.k3 hp
    have e : x.hand.toNat = x.cells.length := by omega
    rw [e] at k
    refine ⟨?_, fun i hi => ?_, fun i hi h1 hn => ?_⟩
    · rw [k]; exact List.pairwise_lt_range.filter _
    · rw [k] at hi
      obtain ⟨a, b⟩ := List.mem_filter.1 hi
      exact ⟨List.mem_range.1 a, show (x.c i).st = 1 by simpa using b⟩
    · rw [k] at hn
      exact absurd (List.mem_filter.2 ⟨List.mem_range.2 hi, by simpa using (show (x.c i).st = 1 from h1)⟩) hn
  k0 := fun _ e => by simp [toPh] at e
/-- the sweep leaves a cell -/
theorem inv3_step {C : Nat} {x z : Hp} {F F' : List Int} {K : List Nat} (h : SInv C x F K) (hp : x.phase = 3) (hz : z.phase = 3) (i : Nat) (hi : x.hand = (i : Int)) (hin : i < x.cells.length) (hzi : z.hand = (i : Int) + 1) (hl : z.cells.length = x.cells.length) (hs : ∀ q, q ≠ i → (z.c q).st = (x.c q).st) (ho : Ho F') (hf : (F' = F ∧ ((z.c i).st = 0 → (x.c i).st = 0)) ∨ F'.Perm ((i : Int) :: F)) : SInv C z F' (K ++ if (z.c i).st = 1 then [i] else []) where
  ho := ho
  al := fun q hq h0 => by
    rw [hl] at hq
    rcases hf with ⟨e, e2⟩ | e
    · rw [e]
      refine h.al q hq ?_
      by_cases c : q = i
      · rw [c] at h0 ⊢; exact e2 h0
      · rw [← hs q c]; exact h0
    · refine e.mem_iff.2 ?_
      by_cases c : q = i
      · rw [c]; exact List.mem_cons_self
      · exact List.mem_cons_of_mem _ (h.al q hq (by rw [← hs q c]; exact h0))
  nn := fun v hv => by
    rcases hf with ⟨e, _⟩ | e
    · rw [e] at hv; exact h.nn v hv
    · rcases List.mem_cons.1 (e.mem_iff.1 hv) with e2 | e2
      · omega
      · exact h.nn v e2
  le := by
    have h1 := h.le
    rw [remU_3 hp] at h1
    rw [remU_3 hz]
    have : F'.length ≤ F.length + 1 := by
      rcases hf with ⟨e, _⟩ | e
      · rw [e]; omega
      · have := e.length_eq; simp at this; omega
    omega
  k3 := fun _ => by
    have e : z.hand.toNat = i + 1 := by omega
    have e2 : x.hand.toNat = i := by omega
    rw [e, filt_succ, filt_same i (fun q hq => hs q (by omega)), h.k3 hp, e2]
  k4 := fun e => by omega
  k0 := fun e => absurd hz e
theorem inv6_end {C : Nat} {x : Hp} {F : List Int} {K : List Nat} (h : SInv C x F K) (hp : x.phase = 6) {z : Hp} (hz : z.phase = 0) (hc : z.cells = x.cells) : SInv C z F K :=
  h.same (SameSt.cells hc) ⟨by omega, by omega⟩ (by rw [remU_0 hz]; omega) (by omega) (fun e => by omega)
theorem inv6_cell {C : Nat} {x z : Hp} {F F' : List Int} {K : List Nat} (h : SInv C x F K) (hp : x.phase = 6) (hz : z.phase = 6) (i : Nat) (hi : x.hand = (i : Int) + 1) (hzi : z.hand = (i : Int)) (hl : z.cells.length ≤ x.cells.length) (hs : ∀ q, q < z.cells.length → q ≠ i → (z.c q).st = (x.c q).st) (ho : Ho F') (hf : (F' = F ∧ (i < z.cells.length → (z.c i).st = 0 → (x.c i).st = 0)) ∨ F'.Perm ((i : Int) :: F)) : SInv C z F' K where
  ho := ho
  al := fun q hq h0 => by
    rcases hf with ⟨e, e2⟩ | e
    · rw [e]
      refine h.al q (by omega) ?_
      by_cases c : q = i
      · rw [c] at h0 ⊢; exact e2 (by omega) h0
      · rw [← hs q hq c]; exact h0
    · refine e.mem_iff.2 ?_
      by_cases c : q = i
      · rw [c]; exact List.mem_cons_self
      · exact List.mem_cons_of_mem _ (h.al q (by omega) (by rw [← hs q hq c]; exact h0))
  nn := fun v hv => by
    rcases hf with ⟨e, _⟩ | e
    · rw [e] at hv; exact h.nn v hv
    · rcases List.mem_cons.1 (e.mem_iff.1 hv) with e2 | e2
      · omega
      · exact h.nn v e2
  le := by
    have h1 := h.le
    rw [remU_6 hp] at h1
    rw [remU_6 hz]
    have : F'.length ≤ F.length + 1 := by
      rcases hf with ⟨e, _⟩ | e
      · rw [e]; omega
      · have := e.length_eq; simp at this; omega
    omega
  k3 := fun e => by omega
  k4 := fun e => by omega
  k0 := fun _ _ => h.k0 (by omega) (by omega)
/-- a round begins -/
theorem inv0 {C : Nat} {x : Hp} {F : List Int} {K : List Nat} (h : SInv C x F K) (hp : x.phase = 0) : SInv (C + 16000) (toPh x 1 0) F K where
  ho := h.ho
  al := h.al
  nn := h.nn
  le := by have := h.le; rw [remU_12 (.inl rfl)]; omega
  k3 := fun e => by simp [toPh] at e
  k4 := fun e => by simp [toPh] at e
  k0 := fun _ _ => h.k0 (by omega) (by omega)
theorem SInv.wide {C D : Nat} {x : Hp} {F : List Int} {K : List Nat} (h : SInv C x F K) (hd : C ≤ D) : SInv D x F K := ⟨h.ho, h.al, h.nn, Nat.le_trans h.le hd, h.k3, h.k4, h.k0⟩
end Go.Proofs.YtkabcfhemljnbaaGreat
