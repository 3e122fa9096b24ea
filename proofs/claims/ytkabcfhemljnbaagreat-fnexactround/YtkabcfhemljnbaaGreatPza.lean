import Derived.Test.YtkabcfhemljnbaaGreatPy
namespace Go.Proofs.YtkabcfhemljnbaaGreat
open Go.RowKit

/-- the row of what is kept has turned -/
theorem SAt.keptAs {B : Nat} {w : World} {b : Nat} {x : Hp} {ar : Option Addr} {kr : Nat} {v4 v8 : Value} {br bc bn : Nat} {pb : Nat → Nat} {pa : Nat → Option Addr} {pk : Nat → Nat} {kn hd : Nat} {vf : Value} {F : List Int} {vk : Value} {K : List Nat} {role : Nat → Nat} (h : SAt B w b x ar kr v4 v8 br bc bn pb pa pk kn hd vf F vk K role) {vk' : Value} {K' : List Nat} (ow : w.ownsRow B 103 1 vk' K'.length (K'.map (ndp bn))) (hb : ∀ q, vk'.ownBlock = some q → vk.ownBlock = some q) :
    SAt B (w.setCell ⟨b, 4017, none⟩ vk') b x ar kr v4 v8 br bc bn pb pa pk kn hd vf F vk' K' role := by
  have far : ∀ q, q ≠ b → (w.setCell ⟨b, 4017, none⟩ vk').heap[q]? = w.heap[q]? := fun q hne => Below.heap_setCell _ _ _ _ hne
  have cb : ∀ o, o ≠ 4017 → (w.setCell ⟨b, 4017, none⟩ vk').cell? ⟨b, o, none⟩ = w.cell? ⟨b, o, none⟩ := fun o ho => cell_other _ (.inr (fun e => ho e.symm))
  have ne : ∀ q, role q ≠ 0 → q ≠ b := fun q hq e => hq (by rw [e]; exact h.sp.b)
  have hsz : w.heap.size ≤ (w.setCell ⟨b, 4017, none⟩ vk').heap.size := by simp [World.setCell]
  have fn := far bn (ne bn (by rw [h.sp.n]; omega))
  refine ⟨⟨h.sb.bx.of fun o ho => cb o (by omega), h.sb.ha, (cb 13 (by omega)).trans h.sb.n13, fun k hk => ⟨(World.cell?_of_block (a := ⟨bn, _, none⟩) fn).trans (h.sb.nd k hk).1, (World.cell?_of_block (a := ⟨bn, _, none⟩) fn).trans (h.sb.nd k hk).2⟩, ⟨(cb 14 (by omega)).trans h.sb.fr.hd, ?_, ownsRow_of_block h.sb.fr.own (fun q hq => far q (ne q (by rw [h.sp.f q hq]; omega))), h.sb.fr.apart⟩, h.sb.rg.of fun o _ h2 => cb o (by omega), ?_, ?_, h.sb.nb.set _ _, ⟨h.sb.lo.1, h.sb.lo.2.1, Nat.lt_of_lt_of_le h.sb.lo.2.2 hsz⟩⟩, ?_, ?_⟩
  · rw [World.frozen?_setCell]; exact h.sb.fr.hf
  · exact World.cell?_setCell_same _ _ _ h.sb.k0
  · exact ownsRow_of_block ow (fun q hq => far q (ne q (by rw [h.sp.k q (hb q hq)]; omega)))
  · exact h.rw.same hsz (fun hl => far br (ne br (by rw [h.sp.r hl]; omega))) (fun hl => far bc (ne bc (by rw [h.sp.c hl]; omega))) (fun q hq hl => far (pb q) (ne (pb q) (by rw [h.sp.p q hq hl]; omega)))
  · exact ⟨h.sp.b, h.sp.n, h.sp.r, h.sp.c, h.sp.f, fun q hq => h.sp.k q (hb q hq), h.sp.p⟩
/-- a row of one's own, shorter -/
theorem own_short1 {w : World} {B : Nat} {e : TypeId} {a : Option Addr} {k : Nat} {K : List Nat} {l : Nat} {bn : Nat} (h : w.ownsRow B e 1 (.slice a (K ++ [l]).length k) (K ++ [l]).length ((K ++ [l]).map (ndp bn))) : w.ownsRow B e 1 (.slice a K.length k) K.length (K.map (ndp bn)) := by
  obtain ⟨_, h2⟩ := h
  refine ⟨by simp, ?_⟩
  rcases h2 with ⟨_, h0⟩ | ⟨g, cap, cur, e1, e2, e3, e4, e5, e6, e7⟩
  · simp at h0
  · injection e1 with e1 e1b e1c
    subst e1 e1c
    refine .inr ⟨g, _, cur, rfl, e2, e3, by simp at e4; omega, e5, e6, ?_⟩
    have := congrArg (List.take K.length) e7
    rw [List.take_take] at this
    simp at this
    simpa using this

theorem unit4_done (x : Hp) (hd : ∀ i j, i < x.cells.length → j < x.cells.length → (x.c i).st = 1 → (x.c j).st = 0 → i < j) : unit4 x = toPh x 5 0 := by
  unfold unit4
  obtain ⟨a, b, c⟩ := fstFree_is x
  rw [if_pos]
  rcases lstUsed_is x x.cells.length with ⟨e, _⟩ | ⟨f, e, hf, h1, _⟩
  · rw [e]; omega
  · rw [e]
    rcases Nat.lt_or_ge (fstFree x) x.cells.length with l | l
    · have := hd f _ hf l h1 (c l); omega
    · omega
theorem unit4_go (x : Hp) (j l : Nat) (hj : j < x.cells.length) (h0 : (x.c j).st = 0) (hm : ∀ q, q < j → (x.c q).st ≠ 0) (hl : l < x.cells.length) (h1 : (x.c l).st = 1) (hx : ∀ i, l < i → i < x.cells.length → (x.c i).st ≠ 1) (hjl : j < l) : unit4 x = moveH x j l := by
  have e1 := fstFree_at x j hj hm h0
  have e2 : lstUsed x x.cells.length = (l : Int) := by
    rcases lstUsed_is x x.cells.length with ⟨_, h⟩ | ⟨f, e, hf, h2, h3⟩
    · exact absurd h1 (h l hl)
    · rcases Nat.lt_trichotomy f l with q | q | q
      · exact absurd h1 (h3 l q hl)
      · rw [e, q]
      · exact absurd h2 (hx f q hf)
  unfold unit4
  rw [e1, e2, if_neg (by omega)]
  rfl
/-- moving ends: no free place lies below a used cell -/
theorem inv4_end {C : Nat} {x : Hp} {F : List Int} {K : List Nat} (h : SInv C x F K) (hp : x.phase = 4) {F' : List Int} (g : GapL x F F') : SInv C (toPh x 5 0) F' [] where
  ho := g.1
  al := fun i hi hs => g.2.2.2 i hi hs (h.al i hi hs)
  nn := fun v hv => h.nn v (g.2.2.1 v hv)
  le := by
    have h1 := h.le
    have h2 := g.2.1
    have e1 : remU x = 8000 := by unfold remU; rw [if_neg (by omega), if_neg (by omega), if_pos (by omega)]
    have e2 : remU (toPh x 5 0) = 8000 := rfl
    omega
  k3 := fun e => by simp [toPh] at e
  k4 := fun e => by simp [toPh] at e
  k0 := fun _ _ => rfl
theorem done_none {C : Nat} {x : Hp} {F : List Int} {K : List Nat} (h : SInv C x F K) {F' : List Int} (g : GapL x F F') (t : GapT x F' none) : unit4 x = toPh x 5 0 := unit4_done x fun i j hi hj h1 h0 => by
  have := g.2.2.2 j hj h0 (h.al j hj h0)
  have t' : F' = [] := t
  rw [t'] at this
  exact absurd this (by simp)
theorem done_nil {C : Nat} {x : Hp} {F : List Int} (h : SInv C x F []) (hp : x.phase = 4) : unit4 x = toPh x 5 0 := unit4_done x fun i j hi hj h1 h0 => (h.k4 hp).2.2 i hi h1 (by simp) j hj h0
theorem last_le {K : List Nat} {l : Nat} (h : (K ++ [l]).Pairwise (· < ·)) : ∀ i, i ∈ K → i < l := fun i hi => (List.pairwise_append.1 h).2.2 i hi l (by simp)
theorem done_past {C : Nat} {x : Hp} {F : List Int} {K : List Nat} {l : Nat} (h : SInv C x F (K ++ [l])) (hp : x.phase = 4) {F' : List Int} (g : GapL x F F') {j : Nat} (t : GapT x F' (some j)) (hl : l < j) : unit4 x = toPh x 5 0 := unit4_done x fun i q hi hq h1 h0 => by
  have k4 := h.k4 hp
  by_cases e : i ∈ K ++ [l]
  · have hil : i ≤ l := by
      rcases List.mem_append.1 e with e | e
      · have := last_le k4.1 i e; omega
      · simp at e; omega
    have := t.2.2 q (g.2.2.2 q hq h0 (h.al q hq h0))
    omega
  · exact k4.2.2 i hi h1 e q hq h0
theorem gap_least {C : Nat} {x : Hp} {F : List Int} {K : List Nat} (h : SInv C x F K) {F' : List Int} (g : GapL x F F') {j : Nat} (t : GapT x F' (some j)) : ∀ q, q < x.cells.length → (x.c q).st = 0 → j ≤ q := fun q hq h0 => by
  have := t.2.2 q (g.2.2.2 q hq h0 (h.al q hq h0))
  omega
theorem moveH_c (x : Hp) (t f : Nat) (ht : t < x.cells.length) (hf : f < x.cells.length) (q : Nat) : (moveH x t f).c q = if q = f then mvC t else if q = t then x.c f else x.c q := mvd_c x t f ht hf q
theorem go_move {C : Nat} {x : Hp} {F : List Int} {K : List Nat} {l : Nat} (h : SInv C x F (K ++ [l])) (hp : x.phase = 4) {F' : List Int} (g : GapL x F F') {j : Nat} (t : GapT x F' (some j)) (hl : ¬ l < j) : l < x.cells.length ∧ j ≠ l ∧ unit4 x = moveH x j l ∧ SInv C (moveH x j l) F' K := by
  have k4 := h.k4 hp
  obtain ⟨hll, hl1⟩ := k4.2.1 l (by simp)
  have hjl : j ≠ l := fun e => by have := t.2.1; rw [e, hl1] at this; omega
  have lt := gap_least h g t
  have c := moveH_c x j l t.1 hll
  refine ⟨hll, hjl, unit4_go x j l t.1 t.2.1 (fun q hq e => by have := lt q (by have := t.1; omega) e; omega) hll hl1 (fun i h1 h2 h3 => ?_) (by omega), ?_⟩
  · by_cases e : i ∈ K ++ [l]
    · rcases List.mem_append.1 e with e | e
      · have := last_le k4.1 i e; omega
      · simp at e; omega
    · have := k4.2.2 i h2 h3 e j t.1 t.2.1; omega
  · have len : (moveH x j l).cells.length = x.cells.length := by simp [moveH]
    have free : ∀ i, ((moveH x j l).c i).st = 0 → (x.c i).st = 0 ∧ i ≠ j ∧ i ≠ l := fun i hi => by
      rw [c i] at hi
      by_cases e1 : i = l
      · rw [if_pos e1] at hi; simp [mvC] at hi
      · rw [if_neg e1] at hi
        by_cases e2 : i = j
        · rw [if_pos e2, hl1] at hi; omega
        · rw [if_neg e2] at hi; exact ⟨hi, e2, e1⟩
    refine ⟨g.1, fun i hi hs => ?_, fun v hv => h.nn v (g.2.2.1 v hv), ?_, fun e => ?_, fun _ => ⟨?_, fun i hi => ?_, fun i hi h1 hn q hq h0 => ?_⟩, fun _ e => absurd hp e⟩
    · rw [len] at hi
      exact g.2.2.2 i hi (free i hs).1 (h.al i hi (free i hs).1)
    · have h1 := h.le
      have h2 := g.2.1
      have e1 : remU x = 8000 := by unfold remU; rw [if_neg (by omega), if_neg (by omega), if_pos (by omega)]
      have hp2 : (moveH x j l).phase = 4 := hp
      have e2 : remU (moveH x j l) = 8000 := by unfold remU; rw [if_neg (by omega), if_neg (by omega), if_pos (by omega)]
      omega
    · have hp2 : (moveH x j l).phase = 4 := hp
      omega
    · exact (List.pairwise_append.1 k4.1).1
    · have := last_le k4.1 i hi
      obtain ⟨a1, a2⟩ := k4.2.1 i (List.mem_append_left _ hi)
      refine ⟨by rw [len]; exact a1, ?_⟩
      rw [c i, if_neg (by omega), if_neg (fun e => by have := t.2.1; rw [← e, a2] at this; omega)]
      exact a2
    · rw [len] at hi hq
      obtain ⟨f1, f2, f3⟩ := free q h0
      rw [c i] at h1
      by_cases e1 : i = l
      · rw [if_pos e1] at h1; simp [mvC] at h1
      · rw [if_neg e1] at h1
        by_cases e2 : i = j
        · have := lt q hq f1; omega
        · rw [if_neg e2] at h1
          exact k4.2.2 i hi h1 (fun e => by rcases List.mem_append.1 e with e | e; exact hn e; simp at e; exact e1 e) q hq f1
end Go.Proofs.YtkabcfhemljnbaaGreat

namespace Go.Proofs.YtkabcfhemljnbaaGreat
open Go.RowKit
attribute [local go_sem ↓] Go.wp_at_zero Go.wp_at_succ

set_option maxRecDepth 100000 in
set_option maxHeartbeats 600000 in
/-- moving ends -/
theorem move_end {B : Nat} {w : World} {b : Nat} {x : Hp} {ar : Option Addr} {kr : Nat} {v4 v8 : Value} {br bc bn : Nat} {pb : Nat → Nat} {pa : Nat → Option Addr} {pk : Nat → Nat} {kn hd : Nat} {vf : Value} {F : List Int} {vk : Value} {K : List Nat} {role : Nat → Nat} (h : SAt B w b x ar kr v4 v8 br bc bn pb pa pk kn hd vf F vk K role) (hp : x.phase = 4) (a : World) (ha : a.heap.size ≤ B) (hx : Ext a w) :
    Calls Tryz.prog 130 #[.pointer (some ⟨b, 0, none⟩)] (w.setCell ⟨b, 4017, none⟩ (.slice none 0 0)) fun e w' => e = .returned (nowV 5 b) ∧ Hid (SAt B w' b (toPh x 5 0) ar kr v4 v8 br bc bn pb pa pk kn hd vf F (.slice none 0 0) [] role) ∧ Ext a w' := by
  have h2 := h.keptAs (vk' := .slice none 0 0) (K' := []) (World.ownsRow_nil _ _ _ _) (fun q hq => by simp [Value.ownBlock] at hq)
  exact turn_low h2 4 hp rfl rfl (by omega) a ha (hx.setCell (p := ⟨b, 4017, none⟩) (Nat.le_trans ha h.sb.lo.1) _)

set_option maxRecDepth 100000 in
set_option maxHeartbeats 1000000 in
theorem move_any {C : Nat} {B : Nat} {w : World} {b : Nat} {x : Hp} {ar : Option Addr} {kr : Nat} {v4 v8 : Value} {br bc bn : Nat} {pb : Nat → Nat} {pa : Nat → Option Addr} {pk : Nat → Nat} {kn hd : Nat} {vf : Value} {F : List Int} {vk : Value} {K : List Nat} {role : Nat → Nat} (h : SAt B w b x ar kr v4 v8 br bc bn pb pa pk kn hd vf F vk K role) (i : SInv C x F K) (hC : C ≤ 100000) (s : Snd x) (hp : x.phase = 4) (a : World) (ha : a.heap.size ≤ B) (hx : Ext a w) :
    Calls Tryz.prog 238 #[.agg #[.pointer (some ⟨b, 0, none⟩)]] w fun e w' => e = .returned (nowV (unit4 x).phase b) ∧ Hid (∃ pb' pa' pk' vf' F' vk' K' role', SAt B w' b (unit4 x) ar kr v4 v8 br bc bn pb' pa' pk' kn hd vf' F' vk' K' role' ∧ SInv C (unit4 x) F' K') ∧ Ext a w' := by
  have XA := (Ext.refl w).alloc (.cells #[.pointer (some ⟨b, 0, none⟩)] 196)
  have GP := hide (gap_any (h.ext XA) i.ho (by have := i.le; omega) i.nn)
  have H := hide (h.ext XA)
  have S := hide s
  have I := hide i
  have HP := hide hp
  have XS := hide (hx.trans XA)
  have m0 : (w.alloc (.cells #[.pointer (some ⟨b, 0, none⟩)] 196)).cell? ⟨w.heap.size, 0, none⟩ = some (.pointer (some ⟨b, 0, none⟩)) := by simp [go_sem]
  have hbw : b < w.heap.size := h.sb.nb.1
  have lo := h.sb.lo.1
  have hK : K.length ≤ 8000 := by
    have k4 := i.k4 hp
    have := nd_len x.cells.length K (k4.1.imp (fun h => Nat.ne_of_lt h)) (fun i hi => (k4.2.1 i hi).1)
    have := s.ok.n8
    omega
  have FARB := hide (show ∀ q, vf.ownBlock = some q → q < w.heap.size from fun q hq => (h.sb.fr.own.lt q hq).2)
  have nsb : ¬ w.heap.size = b := by omega
  have BRC := hide (show br < w.heap.size ∧ (0 < x.cells.length → bc < w.heap.size) from ⟨(h.rw.nr (by have := s.r1.regs; omega)).1.1, fun hn => (h.rw.nc hn).1.1⟩)
  clear h s i hp XA
  go_enter Tryz.func238, Tryz.ntmps238
  go_wp2_with fail
  refine (unhide GP).mono ?_
  rintro e w1 ⟨t, vf', F', rfl, lq, gl⟩
  have q1 := (unhide lq).2
  have NF : Nf1 b w1 := ⟨Nat.lt_of_lt_of_le (unhide H).sb.nb.1 q1.size, fun j => (q1.hfr j).trans ((unhide H).sb.nb.2 j)⟩
  obtain ⟨role1, h1⟩ := (unhide H).freed (unhide lq).1 q1 NF
  have H1 := hide h1
  have X1 := hide (q1.ext (unhide XS) (show a.heap.size ≤ b by omega) (fun k hk => by have := ((unhide H).sb.fr.own.lt k hk).1; omega))
  have m1 : w1.cell? ⟨w.heap.size, 0, none⟩ = some (.pointer (some ⟨b, 0, none⟩)) := q1.cells m0 nsb (fun e => by have := unhide FARB _ e; omega)
  have k17 := h1.sb.k0
  have f17 := h1.sb.nb.2 4017
  obtain ⟨avk, kvk, hvk⟩ : ∃ a k, vk = .slice a K.length k := ⟨_, _, (own_form h1.sb.kp).1⟩
  subst hvk
  have hb1 : b < w1.heap.size := h1.sb.nb.1
  have hs1 : w.heap.size < w1.heap.size := cell_lt m1
  have ME := hide (show ∀ W, Ext w1 W → unit4 x = toPh x 5 0 → Calls Tryz.prog 130 #[.pointer (some ⟨b, 0, none⟩)] (W.setCell ⟨b, 4017, none⟩ (.slice none 0 0)) fun e w' => e = .returned (nowV (unit4 x).phase b) ∧ Hid (∃ pb' pa' pk' vf' F' vk' K' role', SAt B w' b (unit4 x) ar kr v4 v8 br bc bn pb' pa' pk' kn hd vf' F' vk' K' role' ∧ SInv C (unit4 x) F' K') ∧ Ext a w' from fun W xw e4 => by
    refine (move_end (h1.ext xw) (unhide HP) a ha ((unhide X1).trans xw)).mono ?_
    rintro e w2 ⟨rfl, h2, x2⟩
    rw [e4]
    exact ⟨rfl, ⟨_, _, _, _, _, _, _, _, unhide h2, inv4_end (unhide I) (unhide HP) (unhide gl).1⟩, x2⟩)
  clear h1 q1 lq NF m0 H XS
  have nbs : ¬ b = w.heap.size := by omega
  rcases t with _ | j
  · have E4 := hide (done_none (unhide I) (unhide gl).1 (unhide gl).2)
    simp only [gapV]
    go_wp2_with fail
    go_quiet (fail)
    obtain ⟨d1, hd1⟩ : ∃ m, m = nq := ⟨_, rfl⟩
    go_wp2_with fail
    refine (unhide ME _ ((Ext.refl _).drewN _) (unhide E4)).mono ?_
    rintro e w2 ⟨rfl, h2, x2⟩
    go_wp2_with fail
    go_ret
    exact ⟨rfl, h2, x2⟩
  · simp only [gapV]
    have GT := hide (show j < x.cells.length ∧ (x.c j).st = 0 ∧ ∀ v, v ∈ F' → (j : Int) ≤ v from (unhide gl).2)
    have hjn : j < x.cells.length := (unhide GT).1
    rcases List.eq_nil_or_concat K with hK0 | ⟨K0, l, hK0⟩
    · subst hK0
      have E4 := hide (done_nil (unhide I) (unhide HP))
      simp only [List.length_nil] at k17
      go_wp2_with fail
      go_quiet (fail)
      obtain ⟨d1, hd1⟩ : ∃ m, m = nq := ⟨_, rfl⟩
      go_wp2_with fail
      refine (unhide ME _ ((Ext.refl _).drewN _) (unhide E4)).mono ?_
      rintro e w2 ⟨rfl, h2, x2⟩
      go_wp2_with fail
      go_ret
      exact ⟨rfl, h2, x2⟩
    · rw [List.concat_eq_append] at hK0
      subst hK0
      obtain ⟨m, hm⟩ : ∃ m, m = K0.length := ⟨_, rfl⟩
      have hlen : (K0 ++ [l]).length = m + 1 := by simp [hm]
      obtain ⟨g, cap, hv, _, _⟩ := (unhide H1).sb.kp.form (by rw [hlen]; omega)
      injection hv with hv1 hv2 hv3
      subst hv1 hv3
      have ow := (unhide H1).sb.kp
      have kc : w1.cell? ⟨g, m, none⟩ = some (ndp bn l) := by
        rw [ow.cellAt m (by rw [hlen]; omega)]
        simp [hm]
      have LL := hide (((unhide I).k4 (unhide HP)).2.1 l (by simp))
      have hln : l < x.cells.length := (unhide LL).1
      have nj0 := ((unhide H1).sb.nd j hjn).1
      have nl0 := ((unhide H1).sb.nd l hln).1
      rw [hlen] at k17 hK
      have HL := hide hlen
      have HM := hide hm
      have hm0 : (0 : Int) ≤ (m : Int) := by omega
      have hm1 : (m : Int) < (m : Int) + 1 := by omega
      have mc : (m : Int) ≤ (kvk : Int) := by
        rcases ow.2 with ⟨e, _⟩ | ⟨g', cap', cur, e1, _, _, e4, _⟩
        · simp at e
        · injection e1 with _ _ e1
          rw [hlen] at e4
          omega
      clear hm hlen hv2 ow
      by_cases hlj : l < j
      · have E4 := hide (done_past (unhide I) (unhide HP) (unhide gl).1 (unhide gl).2 hlj)
        have gt : (j : Int) > (l : Int) := by omega
        go_wp2_with fail
        go_quiet (fail)
        obtain ⟨d1, hd1⟩ : ∃ m, m = nq := ⟨_, rfl⟩
        go_wp2_with fail
        refine (unhide ME _ ((Ext.refl _).drewN _) (unhide E4)).mono ?_
        rintro e w2 ⟨rfl, h2, x2⟩
        go_wp2_with fail
        go_ret
        exact ⟨rfl, h2, x2⟩
      · have gt : ¬ (j : Int) > (l : Int) := by omega
        have GM := hide (go_move (unhide I) (unhide HP) (unhide gl).1 (unhide gl).2 hlj)
        have EP := hide (show (unit4 x).phase = 4 by rw [(unhide GM).2.2.1]; exact unhide HP)
        have FIN := hide (show ∀ w3, (∃ pb' pa' pk' role', SAt B w3 b (moveH x j l) ar kr v4 v8 br bc bn pb' pa' pk' kn hd vf' F' (.slice (some ⟨g, 0, none⟩) (K0 ++ [l]).length kvk) (K0 ++ [l]) role') → Ext a w3 → ∀ W', Ext w3 W' → Hid (∃ pb' pa' pk' vf' F' vk' K' role', SAt B (W'.setCell ⟨b, 4017, none⟩ (.slice (some ⟨g, 0, none⟩) m kvk)) b (unit4 x) ar kr v4 v8 br bc bn pb' pa' pk' kn hd vf' F' vk' K' role' ∧ SInv C (unit4 x) F' K') ∧ Ext a (W'.setCell ⟨b, 4017, none⟩ (.slice (some ⟨g, 0, none⟩) m kvk)) from fun w3 h3 x3 W' xw => by
          obtain ⟨pb', pa', pk', role', h3⟩ := h3
          have h4 := h3.ext xw
          have ow := own_short1 h4.sb.kp
          rw [← unhide HM] at ow
          rw [(unhide GM).2.2.1]
          refine ⟨⟨pb', pa', pk', vf', F', _, K0, role', h4.keptAs (by rw [← unhide HM]; exact ow) (fun q hq => hq), (unhide GM).2.2.2⟩, (x3.trans xw).setCell (p := ⟨b, 4017, none⟩) (show a.heap.size ≤ b by omega) _⟩)
        go_wp2_with fail
        go_quiet (fail)
        obtain ⟨d1, hd1⟩ : ∃ m, m = nq := ⟨_, rfl⟩
        go_wp2_with fail
        go_region_with (go_at_call 240; refine (carry_any ((unhide H1).ext (((Ext.refl w1).drewN _).drew)) (unhide S) j l (unhide GM).2.1 hjn hln a ha ((unhide X1).trans (((Ext.refl w1).drewN _).drew))).mono ?_; rintro e w3 ⟨rfl, h3, x3⟩)
        all_goals
          have Y3 := hide (show ∃ pb' pa' pk' role', SAt B w3 b (moveH x j l) ar kr v4 v8 br bc bn pb' pa' pk' kn hd vf' F' (.slice (some ⟨g, 0, none⟩) (K0 ++ [l]).length kvk) (K0 ++ [l]) role' by obtain ⟨pb', pa', pk', role', q3, _⟩ := unhide h3; exact ⟨_, _, _, _, q3⟩)
          have t17 : w3.cell? ⟨b, 4017, none⟩ = some (.slice (some ⟨g, 0, none⟩) (m + 1) kvk) := by
            obtain ⟨pb', pa', pk', role', q3⟩ := unhide Y3
            have := q3.sb.k0
            rw [unhide HL] at this
            exact this
          have u17 : w3.frozen? ⟨b, 4017, none⟩ = false := by
            obtain ⟨pb', pa', pk', role', q3⟩ := unhide Y3
            exact q3.sb.nb.2 4017
          have t0 : w3.cell? ⟨w.heap.size, 0, none⟩ = some (.pointer (some ⟨b, 0, none⟩)) := by
            obtain ⟨pb', pa', pk', role', _, q3⟩ := unhide h3
            exact (World.cell?_of_block (a := ⟨w.heap.size, 0, none⟩) (q3 w.heap.size (by simpa using hs1) (fun e => by have := (unhide BRC).1; omega) (fun e => by have := (unhide BRC).2 (by omega); omega))).trans m1
          have hb3 : b < w3.heap.size := cell_lt t17
          have hs3 : w.heap.size < w3.heap.size := cell_lt t0
          have FN := hide (unhide FIN w3 (unhide Y3) x3)
          clear h3 k17 f17 kc nj0 nl0
          go_wp2_with fail
          go_region
          all_goals
            go_wp2_with fail
            go_ret
            exact ⟨by rw [unhide EP]; rfl, (unhide FN w3.drew (Ext.refl w3).drew).1, (unhide FN w3.drew (Ext.refl w3).drew).2⟩
end Go.Proofs.YtkabcfhemljnbaaGreat
