import Derived.Test.YtkabcfhemljnbaaGreatQa
import Derived.Test.YtkabcfhemljnbaaGreatPza
import Derived.Test.YtkabcfhemljnbaaGreatPxp
import Derived.Test.YtkabcfhemljnbaaGreatPh
import Derived.Test.YtkabcfhemljnbaaGreatPr
import Derived.Test.YtkabcfhemljnbaaGreatPs
import Derived.Test.YtkabcfhemljnbaaGreatPv
import Derived.Deep.LoopGhost
namespace Go.Proofs.YtkabcfhemljnbaaGreat
open Go.RowKit

/-! Each of the program's units, over the store with its places hidden. -/
def SOq (C B : Nat) (w : World) (b : Nat) (x : Hp) : Prop := ∃ ar kr a4 n4 k4 a8 m8 k8 br bc bn pb pa pk kn hd vf F vk K role, SAt B w b x ar kr (.slice a4 n4 k4) (.slice a8 m8 k8) br bc bn pb pa pk kn hd vf F vk K role ∧ SInv C x F K ∧ x.cells.length ≤ kn
theorem SOq.ext {C B : Nat} {w w' : World} {b : Nat} {x : Hp} (h : SOq C B w b x) (e : Ext w w') : SOq C B w' b x := by
  obtain ⟨ar, kr, a4, n4, k4, a8, m8, k8, br, bc, bn, pb, pa, pk, kn, hd, vf, F, vk, K, role, h, i⟩ := h
  exact ⟨ar, kr, a4, n4, k4, a8, m8, k8, br, bc, bn, pb, pa, pk, kn, hd, vf, F, vk, K, role, h.ext e, i⟩
theorem ulen1 (x : Hp) : (unit1 x).cells.length = x.cells.length := by
  unfold unit1
  split
  · rfl
  · by_cases e : spkB (x.c x.hand.toNat) = true
    · simp only [if_pos e]; exact (same_shade x _).1
    · simp only [if_neg e]
theorem ulen2 (x : Hp) : (unit2 x).cells.length = x.cells.length := by
  unfold unit2
  split
  · split
    · exact (same_shadeW _ _).1.trans (same_shadeW _ _).1
    · simp
  · split
    · exact (same_fold x.regs x).1.1
    · exact (same_fold x.regs x).1.1
theorem ulen5 (x : Hp) : (unit5 x).cells.length = x.cells.length := by
  unfold unit5
  split
  · rfl
  · split
    · simp
    · rfl
theorem unit1_any {C B : Nat} {w : World} {b : Nat} {x : Hp} (h : SOq C B w b x) (s : Snd x) (hp : x.phase = 1) (a : World) (ha : a.heap.size ≤ B) (hx : Ext a w) :
    Calls Tryz.prog 231 #[.agg #[.pointer (some ⟨b, 0, none⟩)]] w fun e w' => e = .returned (nowV (unit1 x).phase b) ∧ Hid (SOq C B w' b (unit1 x)) ∧ Ext a w' := by
  obtain ⟨ar, kr, a4, n4, k4, a8, m8, k8, br, bc, bn, pb, pa, pk, kn, hd, vf, F, vk, K, role, h, i, hk⟩ := h
  have hh := s.r1.hand
  have lk : (unit1 x).cells.length ≤ kn := by rw [ulen1]; exact hk
  by_cases he : x.hand = x.cells.length
  · refine (roots_end h hp he a ha hx).mono ?_
    rintro e w' ⟨rfl, h2, x2⟩
    exact ⟨rfl, ⟨_, _, _, _, _, _, _, _, _, _, _, _, _, _, _, _, _, _, _, _, _, unhide h2, inv1 i hp, lk⟩, x2⟩
  · refine (roots_cell h s hp x.hand.toNat (by omega) (by omega) a ha hx).mono ?_
    rintro e w' ⟨rfl, h2, x2⟩
    exact ⟨rfl, ⟨_, _, _, _, _, _, _, _, _, _, _, _, _, _, _, _, _, _, _, _, _, unhide h2, inv1 i hp, lk⟩, x2⟩
theorem unit2_any {C B : Nat} {w : World} {b : Nat} {x : Hp} (h : SOq C B w b x) (s : Snd x) (hp : x.phase = 2) (a : World) (ha : a.heap.size ≤ B) (hx : Ext a w) :
    Calls Tryz.prog 233 #[.agg #[.pointer (some ⟨b, 0, none⟩)]] w fun e w' => e = .returned (nowV (unit2 x).phase b) ∧ Hid (SOq C B w' b (unit2 x)) ∧ Ext a w' := by
  obtain ⟨ar, kr, a4, n4, k4, a8, m8, k8, br, bc, bn, pb, pa, pk, kn, hd, vf, F, vk, K, role, h, i, hk⟩ := h
  have hh := s.r1.sub
  have n8 := s.ok.n8
  have lk : (unit2 x).cells.length ≤ kn := by rw [ulen2]; exact hk
  cases hg : x.gray with
  | nil =>
    refine (mark_look h s hp hg a ha hx).mono ?_
    rintro e w' ⟨rfl, h2, x2⟩
    exact ⟨rfl, ⟨_, _, _, _, _, _, _, _, _, _, _, _, _, _, _, _, _, _, _, _, _, unhide h2, inv2 i hp n8, lk⟩, x2⟩
  | cons g G =>
    obtain ⟨g0, g1⟩ := s.r5.2.2 g (by rw [hg]; simp)
    obtain ⟨j, rfl⟩ : ∃ j : Nat, g = (j : Int) := ⟨g.toNat, by omega⟩
    by_cases hs : x.sub < ((x.c j).prs.length : Int)
    · refine (mark_pair h s hp j G hg (by omega) x.sub.toNat (by omega) (by omega) a ha hx).mono ?_
      rintro e w' ⟨rfl, h2, x2⟩
      exact ⟨rfl, ⟨_, _, _, _, _, _, _, _, _, _, _, _, _, _, _, _, _, _, _, _, _, unhide h2, inv2 i hp n8, lk⟩, x2⟩
    · refine (mark_black h n8 hp j G hg (by omega) hs a ha hx).mono ?_
      rintro e w' ⟨rfl, h2, x2⟩
      exact ⟨rfl, ⟨_, _, _, _, _, _, _, _, _, _, _, _, _, _, _, _, _, _, _, _, _, unhide h2, inv2 i hp n8, lk⟩, x2⟩
theorem unit3_any {C B : Nat} {w : World} {b : Nat} {x : Hp} (h : SOq C B w b x) (hC : C ≤ 100000) (s : Snd x) (hp : x.phase = 3) (a : World) (ha : a.heap.size ≤ B) (hx : Ext a w) :
    Calls Tryz.prog 236 #[.agg #[.pointer (some ⟨b, 0, none⟩)]] w fun e w' => e = .returned (nowV (unit3 x).phase b) ∧ Hid (SOq C B w' b (unit3 x)) ∧ Ext a w' := by
  obtain ⟨ar, kr, a4, n4, k4, a8, m8, k8, br, bc, bn, pb, pa, pk, kn, hd, vf, F, vk, K, role, h, iv, hk⟩ := h
  have hh := s.r1.hand
  have n8 := s.ok.n8
  by_cases he : x.hand = x.cells.length
  · have e3 : unit3 x = toPh x 4 0 := by unfold unit3; rw [if_pos he]
    refine (sweep_end h hp he a ha hx).mono ?_
    rintro e w' ⟨rfl, h2, x2⟩
    exact ⟨rfl, ⟨_, _, _, _, _, _, _, _, _, _, _, _, _, _, _, _, _, _, _, _, _, unhide h2, by rw [e3]; exact inv3_end iv hp he, by rw [e3]; exact hk⟩, x2⟩
  · obtain ⟨i, hi⟩ : ∃ i : Nat, x.hand = (i : Int) := ⟨x.hand.toNat, by omega⟩
    have hin : i < x.cells.length := by omega
    have ei : x.hand.toNat = i := by omega
    cases q1 : ((x.c i).st == 1)
    · have qn : (x.c i).st ≠ 1 := by simpa using q1
      have e3 := unit3_free s i hi hin qn
      have hv := inv3_step (z := unit3 x) iv hp (by rw [e3]; exact hp) i hi hin (by rw [e3]) (by rw [e3]) (fun q _ => by rw [e3]; rfl) iv.ho (.inl ⟨rfl, by rw [e3]; exact id⟩)
      rw [if_neg (by rw [e3]; exact qn), List.append_nil] at hv
      refine (sweep_free h s hp i hi hin q1 a ha hx).mono ?_
      rintro e w' ⟨rfl, h2, x2⟩
      exact ⟨rfl, ⟨_, _, _, _, _, _, _, _, _, _, _, _, _, _, _, _, _, _, _, _, _, unhide h2, hv, by rw [e3]; exact hk⟩, x2⟩
    · have q1' : (x.c i).st = 1 := by simpa using q1
      cases q0 : ((x.c i).color == 0)
      · have e3 : unit3 x = { x with cells := x.cells.set i (whiteC (x.c i)), hand := (i : Int) + 1 } := by
          unfold unit3; rw [if_neg he, ei, if_neg (by simp [whB, q0]), hi]
        have cs : ∀ q, (unit3 x).c q = if q = i then whiteC (x.c i) else x.c q := fun q => by
          rw [e3]; exact Hp.c_set x i (whiteC (x.c i)) hin q
        have hv := inv3_step (z := unit3 x) iv hp (by rw [e3]; exact hp) i hi hin (by rw [e3]) (by rw [e3]; simp) (fun q hq => by rw [cs, if_neg hq]) iv.ho (.inl ⟨rfl, by rw [cs, if_pos rfl]; exact id⟩)
        rw [if_pos (by rw [cs, if_pos rfl]; exact q1')] at hv
        have hK : K.length ≤ 8000 := by
          have := iv.k3 hp
          have l2 := List.length_filter_le (fun i => (x.c i).st == 1) (List.range x.hand.toNat)
          rw [← this] at l2
          simp at l2
          omega
        refine (sweep_keep h n8 hp i hi hin q1 q0 hK a ha hx).mono ?_
        rintro e w' ⟨rfl, h2, x2⟩
        obtain ⟨vk', role', h2⟩ := unhide h2
        exact ⟨rfl, ⟨_, _, _, _, _, _, _, _, _, _, _, _, _, _, _, _, _, _, _, _, _, h2, hv, by rw [e3]; simpa using hk⟩, x2⟩
      · have wh : whB (x.c i) = true := by simp [whB, q1, q0]
        have e3 : unit3 x = { x with used := x.used - (1 + (x.c i).prs.length), cells := x.cells.set i Cl0, hand := (i : Int) + 1 } := by
          unfold unit3; rw [if_neg he, ei, if_pos wh, hi]
        have cs : ∀ q, (unit3 x).c q = if q = i then Cl0 else x.c q := fun q => by
          rw [e3]; exact Hp.c_set x i Cl0 hin q
        refine (sweep_white h s hp i hi hin wh iv.ho (by have := iv.le; omega) a ha hx).mono ?_
        rintro e w' ⟨rfl, h2, x2⟩
        obtain ⟨pa', pk', vf', F', role', h2, ho2, pm⟩ := unhide h2
        have hv := inv3_step (z := unit3 x) iv hp (by rw [e3]; exact hp) i hi hin (by rw [e3]) (by rw [e3]; simp) (fun q hq => by rw [cs, if_neg hq]) ho2 (.inr pm)
        rw [if_neg (by rw [cs, if_pos rfl]; simp [Cl0]), List.append_nil] at hv
        exact ⟨rfl, ⟨_, _, _, _, _, _, _, _, _, _, _, _, _, _, _, _, _, _, _, _, _, h2, hv, by rw [e3]; simpa using hk⟩, x2⟩
theorem unit4_any {C B : Nat} {w : World} {b : Nat} {x : Hp} (h : SOq C B w b x) (hC : C ≤ 100000) (s : Snd x) (hp : x.phase = 4) (a : World) (ha : a.heap.size ≤ B) (hx : Ext a w) :
    Calls Tryz.prog 238 #[.agg #[.pointer (some ⟨b, 0, none⟩)]] w fun e w' => e = .returned (nowV (unit4 x).phase b) ∧ Hid (SOq C B w' b (unit4 x)) ∧ Ext a w' := by
  obtain ⟨ar, kr, a4, n4, k4, a8, m8, k8, br, bc, bn, pb, pa, pk, kn, hd, vf, F, vk, K, role, h, iv, hk⟩ := h
  have lk : (unit4 x).cells.length ≤ kn := by
    unfold unit4
    split
    · exact hk
    · simpa [moveH] using hk
  refine (move_any h iv hC s hp a ha hx).mono ?_
  rintro e w' ⟨rfl, h2, x2⟩
  obtain ⟨pb', pa', pk', vf', F', vk', K', role', h2, i2⟩ := unhide h2
  exact ⟨rfl, ⟨_, _, _, _, _, _, _, _, _, _, _, _, _, _, _, _, _, _, _, _, _, h2, i2, lk⟩, x2⟩
theorem unit5_any {C B : Nat} {w : World} {b : Nat} {x : Hp} (h : SOq C B w b x) (s : Snd x) (hp : x.phase = 5) (a : World) (ha : a.heap.size ≤ B) (hx : Ext a w) :
    Calls Tryz.prog 242 #[.agg #[.pointer (some ⟨b, 0, none⟩)]] w fun e w' => e = .returned (nowV (unit5 x).phase b) ∧ Hid (SOq C B w' b (unit5 x)) ∧ Ext a w' := by
  obtain ⟨ar, kr, a4, n4, k4, a8, m8, k8, br, bc, bn, pb, pa, pk, kn, hd, vf, F, vk, K, role, h, i, hk⟩ := h
  have hh := s.r1.hand
  have hs := s.r1.sub
  have n8 := s.ok.n8
  have lk : (unit5 x).cells.length ≤ kn := by rw [ulen5]; exact hk
  by_cases he : x.hand = x.cells.length
  · refine (mend_end h hp he a ha hx).mono ?_
    rintro e w' ⟨rfl, h2, x2⟩
    exact ⟨rfl, ⟨_, _, _, _, _, _, _, _, _, _, _, _, _, _, _, _, _, _, _, _, _, unhide h2, inv5 i hp n8, lk⟩, x2⟩
  · have hin : x.hand.toNat < x.cells.length := by omega
    by_cases hkl : x.sub.toNat < (x.c x.hand.toNat).prs.length
    · have pf := ((s.r4.2 x.hand.toNat hin).2 x.sub.toNat hkl).2 (fun d => by have := d.1; omega)
      refine (mend_pair h hp x.hand.toNat (by omega) hin x.sub.toNat (by omega) hkl s.r2 pf.1.1 pf.2.1 a ha hx).mono ?_
      rintro e w' ⟨rfl, h2, x2⟩
      exact ⟨rfl, ⟨_, _, _, _, _, _, _, _, _, _, _, _, _, _, _, _, _, _, _, _, _, unhide h2, inv5 i hp n8, lk⟩, x2⟩
    · refine (mend_next h n8 hp x.hand.toNat (by omega) hin x.sub.toNat (by omega) hkl a ha hx).mono ?_
      rintro e w' ⟨rfl, h2, x2⟩
      exact ⟨rfl, ⟨_, _, _, _, _, _, _, _, _, _, _, _, _, _, _, _, _, _, _, _, _, unhide h2, inv5 i hp n8, lk⟩, x2⟩
theorem unit6_any {C B : Nat} {w : World} {b : Nat} {x : Hp} (h : SOq C B w b x) (hC : C ≤ 100000) (s : Snd x) (hp : x.phase = 6) (a : World) (ha : a.heap.size ≤ B) (hx : Ext a w) :
    Calls Tryz.prog 244 #[.agg #[.pointer (some ⟨b, 0, none⟩)]] w fun e w' => e = .returned (nowV (unit6 x).phase b) ∧ Hid (SOq C B w' b (unit6 x)) ∧ Ext a w' := by
  obtain ⟨ar, kr, a4, n4, k4, a8, m8, k8, br, bc, bn, pb, pa, pk, kn, hd, vf, F, vk, K, role, h, iv, hk⟩ := h
  have hh := s.r1.hand
  have n8 := s.ok.n8
  by_cases he : x.hand = 0
  · refine (shut_end h hp he s.r1.rounds a ha hx).mono ?_
    rintro e w' ⟨rfl, h2, x2⟩
    have e6 : (unit6 x).phase = 0 ∧ (unit6 x).cells = x.cells := by unfold unit6; rw [if_pos he]; exact ⟨rfl, rfl⟩
    exact ⟨rfl, ⟨_, _, _, _, _, _, _, _, _, _, _, _, _, _, _, _, _, _, _, _, _, unhide h2, inv6_end iv hp e6.1 e6.2, by rw [e6.2]; exact hk⟩, x2⟩
  · obtain ⟨i, hi⟩ : ∃ i : Nat, x.hand = (i : Int) + 1 := ⟨(x.hand - 1).toNat, by omega⟩
    have hin : i < x.cells.length := by omega
    have e6 : unit6 x = dropH (shutH x i) i := by unfold unit6; rw [if_neg (by omega), show (x.hand - 1).toNat = i by omega]
    have shl : (shutH x i).cells.length = x.cells.length := by unfold shutH; split <;> simp
    have shc : ∀ q, (shutH x i).c q = if q = i ∧ (x.c i).st = 2 then Cl0 else x.c q := fun q => by
      by_cases e2 : (x.c i).st = 2
      · have : (shutH x i).c q = ({ x with cells := x.cells.set i Cl0 } : Hp).c q := by unfold shutH; rw [if_pos e2]; rfl
        rw [this, Hp.c_set x i Cl0 hin q]
        by_cases e : q = i
        · rw [if_pos e, if_pos ⟨e, e2⟩]
        · rw [if_neg e, if_neg (fun h => e h.1)]
      · have : (shutH x i).c q = x.c q := by unfold shutH; rw [if_neg e2]; rfl
        rw [this, if_neg (fun h => e2 h.2)]
    have d1 : (unit6 x).phase = 6 ∧ (unit6 x).hand = (i : Int) ∧ (unit6 x).cells.length ≤ x.cells.length ∧ ∀ q, q < (unit6 x).cells.length → (unit6 x).c q = (shutH x i).c q := by
      rw [e6]; unfold dropH
      split
      · refine ⟨hp, rfl, by simp [shl]; omega, fun q hq => ?_⟩
        simp at hq
        simp only [Hp.c, List.getD_eq_getElem?_getD, List.getElem?_take]
        rw [if_pos (by omega)]
      · exact ⟨hp, rfl, by rw [shl]; omega, fun q _ => rfl⟩
    refine (shut_cell h n8 hp i hi hin hk iv.ho (by have := iv.le; omega) a ha hx).mono ?_
    rintro e w' ⟨rfl, h2, x2⟩
    obtain ⟨pa', pk', vf', F', role', h2, ho2, pm⟩ := unhide h2
    have hv := inv6_cell (z := unit6 x) iv hp d1.1 i hi d1.2.1 d1.2.2.1 (fun q hq hne => by rw [d1.2.2.2 q hq, shc, if_neg (fun h => hne h.1)]) ho2 (by
      rcases pm with ⟨_, p⟩ | ⟨n2, p⟩
      · exact .inr p
      · exact .inl ⟨p, fun hq => by rw [d1.2.2.2 i hq, shc, if_neg (fun h => n2 h.2)]; exact id⟩)
    exact ⟨rfl, ⟨_, _, _, _, _, _, _, _, _, _, _, _, _, _, _, _, _, _, _, _, _, h2, hv, by omega⟩, x2⟩
end Go.Proofs.YtkabcfhemljnbaaGreat

namespace Go.Proofs.YtkabcfhemljnbaaGreat
open Go.RowKit

/-! A round comes to its end: every unit makes 'mu' less. -/
def sm (F : Cl → Nat) (cs : List Cl) : Nat := (cs.map F).sum
theorem sm_set (F : Cl → Nat) (cs : List Cl) (i : Nat) (c : Cl) (hi : i < cs.length) : sm F (cs.set i c) + F cs[i] = sm F cs + F c := by
  induction cs generalizing i with
  | nil => simp at hi
  | cons a cs ih =>
    cases i with
    | zero => simp [sm]; omega
    | succ i =>
      have := ih i (by simpa using hi)
      simp [sm] at this ⊢
      omega
theorem sm_le (F : Cl → Nat) (b : Nat) : ∀ (cs : List Cl), (∀ c, c ∈ cs → F c ≤ b) → sm F cs ≤ b * cs.length
  | [], _ => by simp [sm]
  | c :: cs, h => by
    have h1 := sm_le F b cs (fun d hd => h d (by simp [hd]))
    have h2 := h c (by simp)
    simp only [sm, List.map_cons, List.sum_cons, List.length_cons, Nat.mul_add] at h1 ⊢
    omega
theorem sm_drop (F : Cl → Nat) (cs : List Cl) (i : Nat) (hi : i < cs.length) : sm F (cs.drop i) = F cs[i] + sm F (cs.drop (i + 1)) := by
  rw [List.drop_eq_getElem_cons hi]; simp only [sm, List.map_cons, List.sum_cons]
theorem sm_drop_set (F : Cl → Nat) (cs : List Cl) (i k : Nat) (c : Cl) (hi : i < cs.length) (h : F c = F cs[i]) : sm F ((cs.set i c).drop k) = sm F (cs.drop k) := by
  have e : (cs.set i c).map F = cs.map F := by
    refine List.ext_getElem (by simp) (fun j h1 h2 => ?_)
    simp only [List.getElem_map, List.getElem_set]
    split
    · rename_i q; subst q; exact h
    · rfl
  simp only [sm, List.map_drop, e]
def D2 (c : Cl) : Nat := if c.st = 1 ∧ c.color ≠ 2 then c.prs.length + 2 + (if c.color = 0 then 1 else 0) else 0
def D4 (c : Cl) : Nat := if c.st = 0 then 1 else 0
def D5 (c : Cl) : Nat := c.prs.length + 1
def part (x : Hp) : Nat :=
  if x.phase = 2 then sm D2 x.cells - x.sub.toNat else if x.phase = 4 then sm D4 x.cells else if x.phase = 5 then sm D5 (x.cells.drop x.hand.toNat) - x.sub.toNat else if x.phase = 6 then x.hand.toNat else ((x.cells.length : Int) - x.hand).toNat
def mu (x : Hp) : Nat := if x.phase = 0 then 0 else (6 - x.phase).toNat * 2000000 + part x + 1
theorem Snd.pbound {x : Hp} (h : Snd x) : part x < 2000000 := by
  have n8 := h.ok.n8
  have p2 : ∀ c, c ∈ x.cells → c.prs.length ≤ 200 := fun c hc => by
    obtain ⟨i, hi, e⟩ := List.getElem_of_mem hc
    have := h.ok.p200 i hi
    rw [← e, Hp.c_eq x i hi]; exact this
  have hh := h.r1.hand
  unfold part
  split
  · have := sm_le D2 203 x.cells (fun c hc => by have := p2 c hc; unfold D2; split <;> (try split) <;> omega)
    omega
  split
  · have := sm_le D4 1 x.cells (fun c hc => by unfold D4; split <;> omega)
    omega
  split
  · have := sm_le D5 201 (x.cells.drop x.hand.toNat) (fun c hc => by have := p2 c (List.mem_of_mem_drop hc); unfold D5; omega)
    simp only [List.length_drop] at this
    omega
  split <;> omega
theorem Snd.mu_le {x : Hp} (h : Snd x) : mu x ≤ 14000000 := by
  have hp := h.pbound
  have := h.r1.phase
  unfold mu; split <;> omega
theorem mu_same {x y : Hp} (hp : y.phase = x.phase) (h0 : x.phase ≠ 0) (hl : part y < part x) : mu y < mu x := by
  unfold mu; rw [hp, if_neg h0, if_neg h0]; omega
theorem mu_next {x y : Hp} (s : Snd y) (hp : y.phase = x.phase + 1) (h1 : 1 ≤ x.phase ∧ x.phase ≤ 5) : mu y < mu x := by
  have := s.pbound
  unfold mu; rw [if_neg (by omega), if_neg (by omega), hp]
  omega
/-- what shading takes from the sum it lays upon the gray ones -/
theorem shade_sum (x : Hp) (i : Nat) (hi : i < x.cells.length) : sm D2 (shadeH x i).cells + (shadeH x i).gray.length = sm D2 x.cells + x.gray.length := by
  unfold shadeH
  by_cases hb : shadeB x i = true
  · rw [if_pos hb]
    have hp := (shadeB_parts hb).2
    have := sm_set D2 x.cells i (grayC (x.c i)) hi
    have e1 : D2 (grayC (x.c i)) = (x.c i).prs.length + 2 := by simp [D2, grayC, hp.1]
    have e2 : D2 (x.c i) = (x.c i).prs.length + 3 := by simp [D2, hp.1, hp.2]
    rw [Hp.c_eq x i hi, e1, e2] at this
    simp only [List.length_append, List.length_singleton]
    omega
  · rw [if_neg hb]
theorem shadeW_sum (x : Hp) (y : Wd) (hy : Good1 x y) : sm D2 (shadeW x y).cells + (shadeW x y).gray.length = sm D2 x.cells + x.gray.length := by
  unfold shadeW
  split
  · rename_i e
    exact shade_sum x _ (hy (by simpa using e)).1
  · rfl
theorem fold_sum : ∀ (ys : List Wd) (z : Hp), (∀ y, y ∈ ys → Good1 z y) → sm D2 (ys.foldl shadeW z).cells + (ys.foldl shadeW z).gray.length = sm D2 z.cells + z.gray.length
  | [], _, _ => rfl
  | y :: ys, z, h => by
    have h1 := h y (by simp)
    rw [List.foldl_cons, fold_sum ys (shadeW z y) (fun u hu => (h u (by simp [hu])).keep (shadeW_same z y).2.1 (shadeW_un z y h1)), shadeW_sum z y h1]
theorem shadeW_gle (x : Hp) (y : Wd) : x.gray.length ≤ (shadeW x y).gray.length := by
  obtain ⟨L, e⟩ := shadeW_gray x y
  rw [e]; simp
theorem Snd.less {x : Hp} (h : Snd x) (h0 : x.phase ≠ 0) : mu (unitH x) < mu x := by
  have hr := h.r1.phase
  have hh := h.r1.hand
  have hs := h.r1.sub
  by_cases p1 : x.phase = 1
  · have s := h.u1 p1
    rw [show unitH x = unit1 x by unfold unitH; rw [if_pos p1]]
    unfold unit1 at s ⊢
    split
    · rename_i e
      rw [if_pos e] at s
      exact mu_next s (by show (2:Int) = x.phase + 1; omega) ⟨by omega, by omega⟩
    · rename_i e
      have hin : x.hand.toNat < x.cells.length := by omega
      have q := shade_same x x.hand.toNat
      refine mu_same ?_ h0 ?_
      · show (if spkB (x.c x.hand.toNat) = true then shadeH x x.hand.toNat else x).phase = x.phase
        split
        · exact q.2.2.2.2.2.1
        · rfl
      · have e1 : ∀ z : Hp, z.phase = 1 → part z = ((z.cells.length : Int) - z.hand).toNat := fun z hz => by
          unfold part; rw [if_neg (by omega), if_neg (by omega), if_neg (by omega), if_neg (by omega)]
        by_cases hk : spkB (x.c x.hand.toNat) = true
        · rw [if_pos hk, e1 x p1, e1 _ (by show (shadeH x x.hand.toNat).phase = 1; rw [q.2.2.2.2.2.1]; exact p1)]
          show (((shadeH x x.hand.toNat).cells.length : Int) - (x.hand + 1)).toNat < _
          rw [q.2.2.2.2.1]; omega
        · rw [if_neg hk, e1 x p1]
          refine Nat.lt_of_le_of_lt (Nat.le_of_eq (e1 _ ?_)) ?_
          · exact p1
          show ((x.cells.length : Int) - (x.hand + 1)).toNat < _
          omega
  by_cases p2 : x.phase = 2
  · have s := h.u2 p2
    have h6 := h.r6.2.1 p2
    have e2 : ∀ z : Hp, z.phase = 2 → part z = sm D2 z.cells - z.sub.toNat := fun z hz => by
      unfold part; rw [if_pos hz]
    rw [show unitH x = unit2 x by unfold unitH; rw [if_neg p1, if_pos p2]]
    cases hg : x.gray with
    | cons g G =>
      have hl := h6.2.2 (by rw [hg]; simp)
      have eg : x.g0 = g.toNat := by simp [Hp.g0, hg]
      rw [eg] at hl
      have hgin : ∃ i : Nat, g = (i : Int) ∧ i < x.cells.length ∧ (x.c i).st = 1 ∧ (x.c i).color = 1 := by
        have hgm : g ∈ x.gray := by rw [hg]; exact List.mem_cons_self ..
        have hu := gray_used h.r2 h.r5 g hgm
        have hgr := h.r5.2.2 g hgm
        refine ⟨g.toNat, by omega, by omega, hu.2, hu.1⟩
      obtain ⟨i, rfl, hi, hst, hco⟩ := hgin
      have et : ((i : Int)).toNat = i := by omega
      rw [et] at hl
      have d2 : D2 (x.c i) = (x.c i).prs.length + 2 := by simp [D2, hst, hco]
      have big : D2 (x.c i) ≤ sm D2 x.cells := by
        have := sm_set D2 x.cells i Cl0 hi
        have z0 : D2 Cl0 = 0 := by simp [D2, Cl0]
        rw [Hp.c_eq x i hi, z0] at this
        omega
      unfold unit2
      rw [hg]
      simp only [et]
      by_cases hlt : x.sub < (x.c i).prs.length
      · rw [if_pos hlt]
        have gp := h.good_pair (.inr p2) i x.sub.toNat hi (by omega)
        have w1 := shadeW_same x ((x.c i).p x.sub.toNat).key
        have gk := gp.2.keep w1.2.1 (shadeW_un x _ gp.1)
        have w2 := shadeW_same (shadeW x ((x.c i).p x.sub.toNat).key) ((x.c i).p x.sub.toNat).val
        have s1 := shadeW_sum x _ gp.1
        have s2 := shadeW_sum _ _ gk
        have g1 := shadeW_gle x ((x.c i).p x.sub.toNat).key
        have g2 := shadeW_gle (shadeW x ((x.c i).p x.sub.toNat).key) ((x.c i).p x.sub.toNat).val
        have ph : (shadeW (shadeW x ((x.c i).p x.sub.toNat).key) ((x.c i).p x.sub.toNat).val).phase = x.phase := by rw [w2.2.2.1, w1.2.2.1]
        refine mu_same ph h0 ?_
        rw [e2 x p2, e2 _ (by show (shadeW (shadeW x ((x.c i).p x.sub.toNat).key) ((x.c i).p x.sub.toNat).val).phase = 2; rw [ph]; exact p2)]
        show sm D2 (shadeW (shadeW x ((x.c i).p x.sub.toNat).key) ((x.c i).p x.sub.toNat).val).cells - (x.sub + 1).toNat < _
        omega
      · rw [if_neg hlt]
        refine mu_same rfl h0 ?_
        rw [e2 x p2]
        refine Nat.lt_of_le_of_lt (Nat.le_of_eq (e2 _ ?_)) ?_
        · exact p2
        show sm D2 (x.cells.set i (blackC (x.c i))) - (0 : Int).toNat < _
        have := sm_set D2 x.cells i (blackC (x.c i)) hi
        have z0 : D2 (blackC (x.c i)) = 0 := by simp [D2, blackC]
        rw [Hp.c_eq x i hi, z0] at this
        omega
    | nil =>
      have lk := (h.look p2).1
      have h60 := h6.2.1 (by rw [hg]; rfl)
      unfold unit2 at s ⊢
      rw [hg] at s ⊢
      simp only at s ⊢
      by_cases hq : (lookH x).gray = []
      · rw [if_pos hq] at s ⊢
        exact mu_next s (by show (3:Int) = x.phase + 1; omega) ⟨by omega, by omega⟩
      · rw [if_neg hq]
        refine mu_same lk.phase h0 ?_
        rw [e2 x p2, e2 _ (by rw [lk.phase]; exact p2), lk.sub, h60]
        have fs := fold_sum x.regs x (fun y hy => by
          obtain ⟨i, hi, e⟩ := List.getElem_of_mem hy
          rw [← e]; exact h.good_reg i hi)
        have fs2 : sm D2 (lookH x).cells + (lookH x).gray.length = sm D2 x.cells + x.gray.length := fs
        have : (lookH x).gray.length ≠ 0 := fun e => hq (List.eq_nil_of_length_eq_zero e)
        rw [hg] at fs2
        simp only [List.length_nil] at fs2
        simp only [Int.toNat_zero]
        omega
  by_cases p3 : x.phase = 3
  · have s := h.u3 p3
    have e3 : ∀ z : Hp, z.phase = 3 → part z = ((z.cells.length : Int) - z.hand).toNat := fun z hz => by
      unfold part; rw [if_neg (by omega), if_neg (by omega), if_neg (by omega), if_neg (by omega)]
    rw [show unitH x = unit3 x by unfold unitH; rw [if_neg p1, if_neg p2, if_pos p3]]
    unfold unit3 at s ⊢
    split
    · rename_i e
      rw [if_pos e] at s
      exact mu_next s (by show (4:Int) = x.phase + 1; omega) ⟨by omega, by omega⟩
    · split
      all_goals
        refine mu_same (by rfl) h0 ?_
        rw [e3 x p3]
        refine Nat.lt_of_le_of_lt (Nat.le_of_eq (e3 _ ?_)) ?_
        · exact p3
        simp only [List.length_set]
        omega
  by_cases p4 : x.phase = 4
  · have s := h.u4 p4
    have e4 : ∀ z : Hp, z.phase = 4 → part z = sm D4 z.cells := fun z hz => by
      unfold part; rw [if_neg (by omega), if_pos hz]
    rw [show unitH x = unit4 x by unfold unitH; rw [if_neg p1, if_neg p2, if_neg p3, if_pos p4]]
    unfold unit4 at s ⊢
    split
    · rename_i e
      rw [if_pos e] at s
      exact mu_next s (by show (5:Int) = x.phase + 1; omega) ⟨by omega, by omega⟩
    · rename_i e
      have ff := fstFree_is x
      rcases lstUsed_is x x.cells.length with ⟨q, _⟩ | ⟨f, q, hf, hst, _⟩
      · omega
      · rw [q] at e ⊢
        have ef : ((f : Int)).toNat = f := by omega
        rw [ef]
        obtain ⟨t, ht⟩ : ∃ t, t = fstFree x := ⟨_, rfl⟩
        rw [← ht] at ff e ⊢
        have htf : t < f := by omega
        have ht0 := ff.2.2 (by omega)
        refine mu_same rfl h0 ?_
        rw [e4 x p4]
        refine Nat.lt_of_le_of_lt (Nat.le_of_eq (e4 _ ?_)) ?_
        · exact p4
        show sm D4 ((x.cells.set t (x.c f)).set f (mvC t)) < _
        have a1 := sm_set D4 x.cells t (x.c f) (by omega)
        have a2 := sm_set D4 (x.cells.set t (x.c f)) f (mvC t) (by rw [List.length_set]; exact hf)
        have a3 : (x.cells.set t (x.c f))[f]'(by rw [List.length_set]; exact hf) = x.c f := by
          rw [List.getElem_set, if_neg (by omega), Hp.c_eq]
        rw [a3] at a2
        rw [Hp.c_eq x t (by omega)] at a1
        have b1 : D4 (x.c f) = 0 := by simp [D4, hst]
        have b2 : D4 (mvC t) = 0 := by simp [D4, mvC]
        have b3 : D4 (x.c t) = 1 := by simp [D4, ht0]
        omega
  by_cases p5 : x.phase = 5
  · have s := h.u5 p5
    have h6 := h.r6.2.2.1 p5
    have e5 : ∀ z : Hp, z.phase = 5 → part z = sm D5 (z.cells.drop z.hand.toNat) - z.sub.toNat := fun z hz => by
      unfold part; rw [if_neg (by omega), if_neg (by omega), if_pos hz]
    rw [show unitH x = unit5 x by unfold unitH; rw [if_neg p1, if_neg p2, if_neg p3, if_neg p4, if_pos p5]]
    unfold unit5 at s ⊢
    split
    · rename_i e
      rw [if_pos e] at s
      exact mu_next s (by show (6:Int) = x.phase + 1; omega) ⟨by omega, by omega⟩
    · rename_i e
      obtain ⟨i, hi⟩ : ∃ i : Nat, x.hand = (i : Int) := ⟨x.hand.toNat, by omega⟩
      have hin : i < x.cells.length := by omega
      have ei : x.hand.toNat = i := by omega
      rw [ei] at h6 ⊢
      have hsub : x.sub ≤ (x.c i).prs.length := by
        by_cases hst : (x.c i).st = 1
        · exact h6.2 ⟨e, hst⟩
        · have := h6.1 (.inr hst); omega
      have dr := sm_drop D5 x.cells i hin
      have d5 : D5 x.cells[i] = (x.c i).prs.length + 1 := by rw [Hp.c_eq x i hin]; rfl
      split
      · refine mu_same rfl h0 ?_
        rw [e5 x p5]
        refine Nat.lt_of_le_of_lt (Nat.le_of_eq (e5 _ ?_)) ?_
        · exact p5
        show sm D5 ((x.cells.set i (mendC x (x.c i) x.sub.toNat)).drop x.hand.toNat) - (x.sub + 1).toNat < _
        rw [sm_drop_set D5 x.cells i _ _ hin (by rw [Hp.c_eq x i hin]; simp [D5, mendC]), ei]
        omega
      · refine mu_same rfl h0 ?_
        rw [e5 x p5]
        refine Nat.lt_of_le_of_lt (Nat.le_of_eq (e5 _ ?_)) ?_
        · exact p5
        show sm D5 (x.cells.drop (x.hand + 1).toNat) - (0 : Int).toNat < _
        rw [show (x.hand + 1).toNat = i + 1 by omega, ei]
        omega
  · have p6 : x.phase = 6 := by omega
    have e6 : ∀ z : Hp, z.phase = 6 → part z = z.hand.toNat := fun z hz => by
      unfold part; rw [if_neg (by omega), if_neg (by omega), if_neg (by omega), if_pos hz]
    rw [show unitH x = unit6 x by unfold unitH; rw [if_neg p1, if_neg p2, if_neg p3, if_neg p4, if_neg p5, if_pos p6]]
    unfold unit6
    split
    · show (if (0:Int) = 0 then 0 else _) < mu x
      rw [if_pos rfl]
      unfold mu; rw [if_neg h0]; omega
    · rename_i e
      obtain ⟨i, hi⟩ : ∃ i : Nat, i = (x.hand - 1).toNat := ⟨_, rfl⟩
      rw [← hi]
      have k : (dropH (shutH x i) i).phase = x.phase ∧ (dropH (shutH x i) i).hand = (i : Int) := by
        unfold dropH; split <;> exact ⟨rfl, rfl⟩
      refine mu_same k.1 h0 ?_
      rw [e6 x p6, e6 _ (by rw [k.1]; exact p6), k.2]
      omega
end Go.Proofs.YtkabcfhemljnbaaGreat

namespace Go.Proofs.YtkabcfhemljnbaaGreat
open Go.RowKit

/-! How many units a round still takes. -/
def itU : Nat → Hp → Hp
  | 0, x => x
  | k + 1, x => unitH (itU k x)
theorem Snd.itU {x : Hp} (h : Snd x) : ∀ k, Snd (itU k x)
  | 0 => h
  | k + 1 => (Snd.itU h k).unit
/-- k units are taken, and none behind the round's end -/
def Runs (x : Hp) (k : Nat) : Prop := ∀ j, j < k → (itU j x).phase ≠ 0
def EndIs (x : Hp) (k : Nat) : Prop := (itU k x).phase = 0 ∧ Runs x k
theorem Runs.zero (x : Hp) : Runs x 0 := fun j h => by omega
theorem Runs.succ {x : Hp} {k : Nat} (h : Runs x k) (h0 : (itU k x).phase ≠ 0) : Runs x (k + 1) := fun j hj => by
  by_cases e : j = k
  · rw [e]; exact h0
  · exact h j (by omega)
theorem EndIs.uniq {x : Hp} {j k : Nat} (a : EndIs x j) (b : EndIs x k) : j = k := by
  rcases Nat.lt_trichotomy j k with h | h | h
  · exact (b.2 j h a.1).elim
  · exact h
  · exact (a.2 k h b.1).elim
theorem Runs.mu {x : Hp} (s : Snd x) : ∀ k, Runs x k → mu (itU k x) + k ≤ mu x
  | 0, _ => by simp [Go.Proofs.YtkabcfhemljnbaaGreat.itU]
  | k + 1, h => by
    have h1 := Runs.mu s k (fun j hj => h j (by omega))
    have h2 := (s.itU k).less (h k (by omega))
    simp only [Go.Proofs.YtkabcfhemljnbaaGreat.itU]
    omega
theorem Runs.le {x : Hp} (s : Snd x) {k : Nat} (h : Runs x k) : k ≤ 14000000 := by
  have := Runs.mu s k h
  have := s.mu_le
  omega
/-- what Step with n units comes to: k units taken -/
def StepIs (x : Hp) (n k : Nat) : Prop := Runs x k ∧ k ≤ n ∧ (k = n ∨ (itU k x).phase = 0)
theorem StepIs.uniq {x : Hp} {n j k : Nat} (a : StepIs x n j) (b : StepIs x n k) : j = k := by
  rcases Nat.lt_trichotomy j k with h | h | h
  · rcases a.2.2 with e | e
    · have := b.2.1; omega
    · exact (b.1 j h e).elim
  · exact h
  · rcases b.2.2 with e | e
    · have := a.2.1; omega
    · exact (a.1 k h e).elim
end Go.Proofs.YtkabcfhemljnbaaGreat

namespace Go.Proofs.YtkabcfhemljnbaaGreat
open Go.RowKit
attribute [local go_sem ↓] Go.wp_at_zero Go.wp_at_succ

/-! The program's work: units one after another. -/
theorem SOq.box {C B : Nat} {w : World} {b : Nat} {x : Hp} (h : SOq C B w b x) : w.cell? ⟨b, 5, none⟩ = some (iv x.phase) ∧ w.frozen? ⟨b, 5, none⟩ = false ∧ B ≤ b ∧ b < w.heap.size := by
  obtain ⟨ar, kr, a4, n4, k4, a8, m8, k8, br, bc, bn, pb, pa, pk, kn, hd, vf, F, vk, K, role, h, i⟩ := h
  exact ⟨h.sb.bx.2.2.2.2.2.1, h.sb.nb.2 5, h.sb.lo.1, h.sb.nb.1⟩
/-- the name of the method -/
def unitN : String := "loop.example/spool/impl.unit"
theorem mth_roots (b : Nat) (W : World) {s : String} (hs : s = unitN) : (method 339 193 (.agg #[.pointer (some ⟨b, 0, none⟩)]) s).run Tryz.prog W = .ok (231, .agg #[.pointer (some ⟨b, 0, none⟩)]) W := by subst hs; kernel_rfl
theorem neq_roots (b : Nat) (W : World) : (binOp .neq 156 (.iface 193 (.agg #[.pointer (some ⟨b, 0, none⟩)])) .nilIface).run Tryz.prog W = .ok (.bool true) W := by kernel_rfl
theorem mth_mark (b : Nat) (W : World) {s : String} (hs : s = unitN) : (method 339 194 (.agg #[.pointer (some ⟨b, 0, none⟩)]) s).run Tryz.prog W = .ok (233, .agg #[.pointer (some ⟨b, 0, none⟩)]) W := by subst hs; kernel_rfl
theorem neq_mark (b : Nat) (W : World) : (binOp .neq 156 (.iface 194 (.agg #[.pointer (some ⟨b, 0, none⟩)])) .nilIface).run Tryz.prog W = .ok (.bool true) W := by kernel_rfl
theorem mth_sweep (b : Nat) (W : World) {s : String} (hs : s = unitN) : (method 339 195 (.agg #[.pointer (some ⟨b, 0, none⟩)]) s).run Tryz.prog W = .ok (236, .agg #[.pointer (some ⟨b, 0, none⟩)]) W := by subst hs; kernel_rfl
theorem neq_sweep (b : Nat) (W : World) : (binOp .neq 156 (.iface 195 (.agg #[.pointer (some ⟨b, 0, none⟩)])) .nilIface).run Tryz.prog W = .ok (.bool true) W := by kernel_rfl
theorem mth_move (b : Nat) (W : World) {s : String} (hs : s = unitN) : (method 339 196 (.agg #[.pointer (some ⟨b, 0, none⟩)]) s).run Tryz.prog W = .ok (238, .agg #[.pointer (some ⟨b, 0, none⟩)]) W := by subst hs; kernel_rfl
theorem neq_move (b : Nat) (W : World) : (binOp .neq 156 (.iface 196 (.agg #[.pointer (some ⟨b, 0, none⟩)])) .nilIface).run Tryz.prog W = .ok (.bool true) W := by kernel_rfl
theorem mth_mend (b : Nat) (W : World) {s : String} (hs : s = unitN) : (method 339 197 (.agg #[.pointer (some ⟨b, 0, none⟩)]) s).run Tryz.prog W = .ok (242, .agg #[.pointer (some ⟨b, 0, none⟩)]) W := by subst hs; kernel_rfl
theorem neq_mend (b : Nat) (W : World) : (binOp .neq 156 (.iface 197 (.agg #[.pointer (some ⟨b, 0, none⟩)])) .nilIface).run Tryz.prog W = .ok (.bool true) W := by kernel_rfl
theorem mth_shut (b : Nat) (W : World) {s : String} (hs : s = unitN) : (method 339 198 (.agg #[.pointer (some ⟨b, 0, none⟩)]) s).run Tryz.prog W = .ok (244, .agg #[.pointer (some ⟨b, 0, none⟩)]) W := by subst hs; kernel_rfl
theorem neq_shut (b : Nat) (W : World) : (binOp .neq 156 (.iface 198 (.agg #[.pointer (some ⟨b, 0, none⟩)])) .nilIface).run Tryz.prog W = .ok (.bool true) W := by kernel_rfl
set_option maxRecDepth 100000 in
set_option maxHeartbeats 600000 in
theorem work_any {C B : Nat} {w : World} {b : Nat} {x : Hp} (n : Nat) (h : SOq C B w b x) (hC : C ≤ 100000) (s : Snd x) (a : World) (ha : a.heap.size ≤ B) (hx : Ext a w) :
    Calls Tryz.prog 131 #[.pointer (some ⟨b, 0, none⟩), .int .i64 n] w fun e w' => ∃ k : Nat, e = .returned (.int .i64 k) ∧ Hid (StepIs x n k) ∧ Hid (SOq C B w' b (itU k x)) ∧ Ext a w' := by
  have HS := hide h
  have S := hide s
  have NW := hide (now_any x.phase b w h.box.1 s.r1.phase)
  have XS := hide hx
  clear h s
  go_enter Tryz.func131, Tryz.ntmps131
  go_wp2_with fail
  refine (unhide NW).mono ?_
  rintro e w1 ⟨rfl, hw1⟩
  subst hw1
  go_wp2_with fail
  go_loopg [5, 6] (14000000) (fun gk u now wr => ∃ k : Nat, u = .int .i64 k ∧ now = nowV (itU k x).phase b ∧ Hid (k ≤ n) ∧ Hid (Runs x k) ∧ Hid (mu (itU k x) ≤ gk) ∧ Hid (SOq C B wr b (itU k x)) ∧ Hid (Ext a wr))
  case atStart => exact ⟨0, rfl, rfl, Nat.zero_le _, Runs.zero _, (unhide S).mu_le, unhide HS, unhide XS⟩
  case round =>
    clear HS XS NW
    obtain ⟨k, rfl, rfl, hkn, hr, hm, hG, hxr⟩ := hrel
    have kl := (unhide hr).le (unhide S)
    have SK := hide ((unhide S).itU k)
    by_cases p0 : (itU k x).phase = 0
    · have EP := hide p0
      have e0 : nowV (itU k x).phase b = .nilIface := by rw [p0]; rfl
      have q0 : ∀ W, (binOp .neq 156 .nilIface .nilIface).run Tryz.prog W = .ok (.bool false) W := fun _ => by kernel_rfl
      rw [e0]
      clear p0 e0
      go_wp2_with fail
      go_ret
      exact ⟨k, rfl, ⟨unhide hr, unhide hkn, .inr (unhide EP)⟩, unhide hG, unhide hxr⟩
    · by_cases hlt : k < n
      · have h1 : (k : Int) < (n : Int) := by omega
        have R3 := hide ((unhide hr).succ p0)
        have M3 := hide (show mu (itU (k + 1) x) < mu (itU k x) from (unhide SK).less p0)
        have wk : wrap64 ((k : Int) + 1) = (k : Int) + 1 := by unfold wrap64; omega
        have HP := hide (unhide SK).r1.phase
        have P0 := hide p0
        have HK := hide (show k + 1 ≤ n by omega)
        clear p0
        by_cases p1 : (itU k x).phase = 1
        · have e1 : nowV (itU k x).phase b = .iface 193 (.agg #[.pointer (some ⟨b, 0, none⟩)]) := by rw [p1]; rfl
          have q1 : ∀ W, (binOp .neq 156 (.iface 193 (.agg #[.pointer (some ⟨b, 0, none⟩)])) .nilIface).run Tryz.prog W = .ok (.bool true) W := neq_roots b
          have EU := hide (show unit1 (itU k x) = itU (k + 1) x by show unit1 (itU k x) = unitH (itU k x); unfold unitH; simp [p1])
          have P1 := hide p1
          rw [e1]
          clear p1 e1
          go_wp2_with fail
          rw [mth_roots b _ (show _ = unitN by kernel_rfl)]
          go_wp2_with fail
          refine (unit1_any (unhide hG) (unhide SK) (unhide P1) a ha (unhide hxr)).mono ?_
          rintro e w3 ⟨rfl, h3, x3⟩
          rw [unhide EU] at h3 ⊢
          have X3 := hide x3
          clear x3
          go_wp2_with fail
          go_roundg (mu (itU (k + 1) x))
          case measure => have := unhide M3; have := unhide hm; omega
          case rel => exact ⟨k + 1, by go_num, rfl, unhide HK, unhide R3, Nat.le_refl _, unhide h3, unhide X3⟩
        · skip
          by_cases p2 : (itU k x).phase = 2
          · have e1 : nowV (itU k x).phase b = .iface 194 (.agg #[.pointer (some ⟨b, 0, none⟩)]) := by rw [p2]; rfl
            have q1 : ∀ W, (binOp .neq 156 (.iface 194 (.agg #[.pointer (some ⟨b, 0, none⟩)])) .nilIface).run Tryz.prog W = .ok (.bool true) W := neq_mark b
            have EU := hide (show unit2 (itU k x) = itU (k + 1) x by show unit2 (itU k x) = unitH (itU k x); unfold unitH; simp [p2])
            have P1 := hide p2
            rw [e1]
            clear p2 e1
            go_wp2_with fail
            rw [mth_mark b _ (show _ = unitN by kernel_rfl)]
            go_wp2_with fail
            refine (unit2_any (unhide hG) (unhide SK) (unhide P1) a ha (unhide hxr)).mono ?_
            rintro e w3 ⟨rfl, h3, x3⟩
            rw [unhide EU] at h3 ⊢
            have X3 := hide x3
            clear x3
            go_wp2_with fail
            go_roundg (mu (itU (k + 1) x))
            case measure => have := unhide M3; have := unhide hm; omega
            case rel => exact ⟨k + 1, by go_num, rfl, unhide HK, unhide R3, Nat.le_refl _, unhide h3, unhide X3⟩
          · skip
            by_cases p3 : (itU k x).phase = 3
            · have e1 : nowV (itU k x).phase b = .iface 195 (.agg #[.pointer (some ⟨b, 0, none⟩)]) := by rw [p3]; rfl
              have q1 : ∀ W, (binOp .neq 156 (.iface 195 (.agg #[.pointer (some ⟨b, 0, none⟩)])) .nilIface).run Tryz.prog W = .ok (.bool true) W := neq_sweep b
              have EU := hide (show unit3 (itU k x) = itU (k + 1) x by show unit3 (itU k x) = unitH (itU k x); unfold unitH; simp [p3])
              have P1 := hide p3
              rw [e1]
              clear p3 e1
              go_wp2_with fail
              rw [mth_sweep b _ (show _ = unitN by kernel_rfl)]
              go_wp2_with fail
              refine (unit3_any (unhide hG) hC (unhide SK) (unhide P1) a ha (unhide hxr)).mono ?_
              rintro e w3 ⟨rfl, h3, x3⟩
              rw [unhide EU] at h3 ⊢
              have X3 := hide x3
              clear x3
              go_wp2_with fail
              go_roundg (mu (itU (k + 1) x))
              case measure => have := unhide M3; have := unhide hm; omega
              case rel => exact ⟨k + 1, by go_num, rfl, unhide HK, unhide R3, Nat.le_refl _, unhide h3, unhide X3⟩
            · skip
              by_cases p4 : (itU k x).phase = 4
              · have e1 : nowV (itU k x).phase b = .iface 196 (.agg #[.pointer (some ⟨b, 0, none⟩)]) := by rw [p4]; rfl
                have q1 : ∀ W, (binOp .neq 156 (.iface 196 (.agg #[.pointer (some ⟨b, 0, none⟩)])) .nilIface).run Tryz.prog W = .ok (.bool true) W := neq_move b
                have EU := hide (show unit4 (itU k x) = itU (k + 1) x by show unit4 (itU k x) = unitH (itU k x); unfold unitH; simp [p4])
                have P1 := hide p4
                rw [e1]
                clear p4 e1
                go_wp2_with fail
                rw [mth_move b _ (show _ = unitN by kernel_rfl)]
                go_wp2_with fail
                refine (unit4_any (unhide hG) hC (unhide SK) (unhide P1) a ha (unhide hxr)).mono ?_
                rintro e w3 ⟨rfl, h3, x3⟩
                rw [unhide EU] at h3 ⊢
                have X3 := hide x3
                clear x3
                go_wp2_with fail
                go_roundg (mu (itU (k + 1) x))
                case measure => have := unhide M3; have := unhide hm; omega
                case rel => exact ⟨k + 1, by go_num, rfl, unhide HK, unhide R3, Nat.le_refl _, unhide h3, unhide X3⟩
              · skip
                by_cases p5 : (itU k x).phase = 5
                · have e1 : nowV (itU k x).phase b = .iface 197 (.agg #[.pointer (some ⟨b, 0, none⟩)]) := by rw [p5]; rfl
                  have q1 : ∀ W, (binOp .neq 156 (.iface 197 (.agg #[.pointer (some ⟨b, 0, none⟩)])) .nilIface).run Tryz.prog W = .ok (.bool true) W := neq_mend b
                  have EU := hide (show unit5 (itU k x) = itU (k + 1) x by show unit5 (itU k x) = unitH (itU k x); unfold unitH; simp [p5])
                  have P1 := hide p5
                  rw [e1]
                  clear p5 e1
                  go_wp2_with fail
                  rw [mth_mend b _ (show _ = unitN by kernel_rfl)]
                  go_wp2_with fail
                  refine (unit5_any (unhide hG) (unhide SK) (unhide P1) a ha (unhide hxr)).mono ?_
                  rintro e w3 ⟨rfl, h3, x3⟩
                  rw [unhide EU] at h3 ⊢
                  have X3 := hide x3
                  clear x3
                  go_wp2_with fail
                  go_roundg (mu (itU (k + 1) x))
                  case measure => have := unhide M3; have := unhide hm; omega
                  case rel => exact ⟨k + 1, by go_num, rfl, unhide HK, unhide R3, Nat.le_refl _, unhide h3, unhide X3⟩
                · skip
                  have p6 : (itU k x).phase = 6 := by have := unhide HP; have := unhide P0; omega
                  have e1 : nowV (itU k x).phase b = .iface 198 (.agg #[.pointer (some ⟨b, 0, none⟩)]) := by rw [p6]; rfl
                  have q1 : ∀ W, (binOp .neq 156 (.iface 198 (.agg #[.pointer (some ⟨b, 0, none⟩)])) .nilIface).run Tryz.prog W = .ok (.bool true) W := neq_shut b
                  have EU := hide (show unit6 (itU k x) = itU (k + 1) x by show unit6 (itU k x) = unitH (itU k x); unfold unitH; simp [p6])
                  have P1 := hide p6
                  rw [e1]
                  clear p6 e1
                  go_wp2_with fail
                  rw [mth_shut b _ (show _ = unitN by kernel_rfl)]
                  go_wp2_with fail
                  refine (unit6_any (unhide hG) hC (unhide SK) (unhide P1) a ha (unhide hxr)).mono ?_
                  rintro e w3 ⟨rfl, h3, x3⟩
                  rw [unhide EU] at h3 ⊢
                  have X3 := hide x3
                  clear x3
                  go_wp2_with fail
                  go_roundg (mu (itU (k + 1) x))
                  case measure => have := unhide M3; have := unhide hm; omega
                  case rel => exact ⟨k + 1, by go_num, rfl, unhide HK, unhide R3, Nat.le_refl _, unhide h3, unhide X3⟩
      · have h1 : ¬ (k : Int) < (n : Int) := by omega
        have hkn2 := hide (show k = n by have := unhide hkn; omega)
        have Q := hide (show ∃ T, nowV (itU k x).phase b = .iface T (.agg #[.pointer (some ⟨b, 0, none⟩)]) ∧ ∀ W, (binOp .neq 156 (.iface T (.agg #[.pointer (some ⟨b, 0, none⟩)])) .nilIface).run Tryz.prog W = .ok (.bool true) W by
          have hp := (unhide SK).r1.phase
          have h : (itU k x).phase = 1 ∨ (itU k x).phase = 2 ∨ (itU k x).phase = 3 ∨ (itU k x).phase = 4 ∨ (itU k x).phase = 5 ∨ (itU k x).phase = 6 := by omega
          rcases h with e | e | e | e | e | e
          · exact ⟨_, by rw [e]; rfl, neq_roots b⟩
          · exact ⟨_, by rw [e]; rfl, neq_mark b⟩
          · exact ⟨_, by rw [e]; rfl, neq_sweep b⟩
          · exact ⟨_, by rw [e]; rfl, neq_move b⟩
          · exact ⟨_, by rw [e]; rfl, neq_mend b⟩
          · exact ⟨_, by rw [e]; rfl, neq_shut b⟩)
        obtain ⟨T, e1, q1⟩ := unhide Q
        rw [e1]
        clear p0 e1
        go_wp2_with fail
        go_ret
        exact ⟨k, rfl, ⟨unhide hr, unhide hkn, .inl (unhide hkn2)⟩, unhide hG, unhide hxr⟩
end Go.Proofs.YtkabcfhemljnbaaGreat
