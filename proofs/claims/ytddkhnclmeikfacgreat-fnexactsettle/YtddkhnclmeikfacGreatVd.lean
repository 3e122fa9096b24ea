import Derived.Test.YtddkhnclmeikfacGreatL2d
import Derived.Test.YtddkhnclmeikfacGreatImpR
import Derived.Test.YtddkhnclmeikfacGreatLl0
import Derived.Test.YtddkhnclmeikfacGreatLc
import Derived.Test.YtddkhnclmeikfacGreatHx
import Derived.Deep.QuietTactic
namespace Go.Proofs.YtddkhnclmeikfacGreat
open Go.RowKit
attribute [local go_sem ↓] Go.wp_at_zero Go.wp_at_succ

/-- holds its keys, its values, strongly -/
def SK (c : Cl) : Prop := c.weak ≠ 1 ∧ c.weak ≠ 3
def SV (c : Cl) : Prop := c.weak ≠ 2 ∧ c.weak ≠ 3
/-- what is held -/
def Held (x : Hp) (i : Nat) : Prop := ∀ P : Nat → Prop, (∀ k (h : k < x.regs.length), x.regs[k].k = 2 → P (tgt x x.regs[k])) → (∀ i, i < x.cells.length → (x.c i).last = 2 → P i) →
  (∀ j p, P j → p < (x.c j).prs.length → SK (x.c j) → ((x.c j).p p).key.k = 2 → P (tgt x ((x.c j).p p).key)) →
  (∀ j p, P j → p < (x.c j).prs.length → SV (x.c j) → (((x.c j).p p).key.k = 2 → P (tgt x ((x.c j).p p).key)) → ((x.c j).p p).val.k = 2 → P (tgt x ((x.c j).p p).val)) → P i
theorem Held.reg {x : Hp} (k : Nat) (h : k < x.regs.length) (hk : x.regs[k].k = 2) : Held x (tgt x x.regs[k]) := fun _ a _ _ _ => a k h hk
theorem Held.due {x : Hp} (i : Nat) (hi : i < x.cells.length) (h : (x.c i).last = 2) : Held x i := fun _ _ b _ _ => b i hi h
theorem Held.key {x : Hp} (j p : Nat) (h : Held x j) (hp : p < (x.c j).prs.length) (hs : SK (x.c j)) (hk : ((x.c j).p p).key.k = 2) : Held x (tgt x ((x.c j).p p).key) := fun P a b c d => c j p (h P a b c d) hp hs hk
theorem Held.val {x : Hp} (j p : Nat) (h : Held x j) (hp : p < (x.c j).prs.length) (hs : SV (x.c j)) (hh : ((x.c j).p p).key.k = 2 → Held x (tgt x ((x.c j).p p).key)) (hk : ((x.c j).p p).val.k = 2) : Held x (tgt x ((x.c j).p p).val) := fun P a b c d => d j p (h P a b c d) hp hs (fun e => hh e P a b c d) hk
theorem Held.reached {x : Hp} (r2 : R2 x) {i : Nat} (h : Held x i) : Reached x i :=
  h (Reached x) (fun k h hk => Reached.reg k h hk) (fun i hi hl => Reached.last i hi (speaks_used r2 i hi (.inr hl)) (.inr hl)) (fun j p ih hp _ hk => Reached.key j p ih hp hk) (fun j p ih hp _ _ hk => Reached.val j p ih hp hk)
theorem Held.good {x : Hp} (r2 : R2 x) (r4 : R4 x) {i : Nat} (h : Held x i) : Good x i := (h.reached r2).good r2 r4

def OnlyH (x : Hp) (L : List Int) : Prop := ∀ z, z ∈ L → ∃ i : Nat, z = (i : Int) ∧ Held x i
theorem OnlyH.add {x : Hp} {y : Wd} {L L' : List Int} (h : OnlyH x L) (a : Add x y L L') (hy : y.k = 2 → Held x (tgt x y)) : OnlyH x L' := fun z hz => by
  rcases a.new hz with q | ⟨k, e⟩
  · exact h z q
  · exact ⟨_, e, hy k⟩
def DueIn (x : Hp) (k : Nat) (L : List Int) : Prop := ∀ i, i < k → i < x.cells.length → (x.c i).last = 2 → (i : Int) ∈ L
/-- the first k pairs of j: what they hold is in T, as far as keys of L0 go -/
def PairsH (x : Hp) (L0 : List Int) (j k : Nat) (T : List Int) : Prop := ∀ p, p < k → (SK (x.c j) → ((x.c j).p p).key.k = 2 → (tgt x ((x.c j).p p).key : Int) ∈ T) ∧ (SV (x.c j) → (((x.c j).p p).key.k = 2 → (tgt x ((x.c j).p p).key : Int) ∈ L0) → ((x.c j).p p).val.k = 2 → (tgt x ((x.c j).p p).val : Int) ∈ T)
theorem PairsH.mono {x : Hp} {L0 : List Int} {j k : Nat} {T T' : List Int} (h : PairsH x L0 j k T) (s : ∀ z, z ∈ T → z ∈ T') : PairsH x L0 j k T' := fun p hp => ⟨fun a e => s _ ((h p hp).1 a e), fun a b e => s _ ((h p hp).2 a b e)⟩
def ClH (x : Hp) (L0 : List Int) (c : Nat) (T : List Int) : Prop := ∀ q, q < c → PairsH x L0 (it T q).toNat (x.c (it T q).toNat).prs.length T
theorem ClH.add {x : Hp} {L0 : List Int} {y : Wd} {c : Nat} {T T' : List Int} (h : ClH x L0 c T) (a : Add x y T T') (hc : c ≤ T.length) : ClH x L0 c T' := fun q hq => by
  obtain ⟨R, e⟩ := a.pre
  have e2 : it T' q = it T q := by rw [e]; exact it_pre (by omega)
  rw [e2]; exact (h q hq).mono (fun z hz => a.sub hz)
/-- a pass over the list, that began at L0 -/
structure Pass (x : Hp) (L0 : List Int) (c : Nat) (T : List Int) : Prop where
  o : OnlyH x T
  r : RegsIn x x.regs.length T
  d : DueIn x x.cells.length T
  e : ∃ R, T = L0 ++ R
  c : ClH x L0 c T
theorem Pass.add {x : Hp} {L0 : List Int} {y : Wd} {c : Nat} {T T' : List Int} (h : Pass x L0 c T) (a : Add x y T T') (hc : c ≤ T.length) (hy : y.k = 2 → Held x (tgt x y)) : Pass x L0 c T' :=
  ⟨h.o.add a hy, fun j hj hk e => a.sub (h.r j hj hk e), fun i hi hn e => a.sub (h.d i hi hn e), by
    obtain ⟨R, e⟩ := h.e
    obtain ⟨R', e'⟩ := a.pre
    exact ⟨R ++ R', by rw [e', e, List.append_assoc]⟩, h.c.add a hc⟩
theorem Pass.step {x : Hp} {L0 : List Int} {c j : Nat} {T : List Int} (h : Pass x L0 c T) (e : it T c = (j : Int)) (k : PairsH x L0 j (x.c j).prs.length T) : Pass x L0 (c + 1) T :=
  ⟨h.o, h.r, h.d, h.e, fun q hq => by
    by_cases f : q = c
    · subst f; rw [e]; simpa using k
    · exact h.c q (by omega)⟩
/-- between two passes -/
structure Rest (x : Hp) (n : Int) (L : List Int) : Prop where
  o : OnlyH x L
  r : RegsIn x x.regs.length L
  d : DueIn x x.cells.length L
  b : -1 ≤ n ∧ n ≤ L.length
  c : n = L.length → ClH x L L.length L
theorem Rest.begin {x : Hp} {n : Int} {L : List Int} (h : Rest x n L) : Pass x L 0 L := ⟨h.o, h.r, h.d, ⟨[], by simp⟩, fun q hq => by omega⟩
theorem Pass.rest {x : Hp} {L0 T : List Int} (h : Pass x L0 T.length T) : Rest x L0.length T := by
  obtain ⟨R, e⟩ := h.e
  refine ⟨h.o, h.r, h.d, ⟨by omega, by rw [e]; simp; omega⟩, fun f => ?_⟩
  have : R = [] := by
    have : (T.length : Int) = L0.length + R.length := by rw [e]; simp
    exact List.length_eq_zero_iff.1 (by omega)
  have e2 : T = L0 := by rw [e, this]; simp
  have := h.c
  rw [← e2] at this; exact this
theorem Rest.done {x : Hp} {L : List Int} (h : Rest x L.length L) (i : Nat) : (i : Int) ∈ L ↔ Held x i := by
  constructor
  · intro q
    obtain ⟨j, e, hj⟩ := h.o _ q
    have : i = j := by omega
    rw [this]; exact hj
  · intro q
    have cl : ∀ j : Nat, (j : Int) ∈ L → PairsH x L j (x.c j).prs.length L := fun j hj => by
      obtain ⟨q, hq, e⟩ := List.getElem_of_mem hj
      have := h.c rfl q hq
      rw [← it_eq L q hq, e] at this
      simpa using this
    exact q (fun i => (i : Int) ∈ L) (fun k hk e => h.r k hk hk e) (fun i hi e => h.d i hi hi e) (fun j p ih hp hs hk => (cl j ih p hp).1 hs hk) (fun j p ih hp hs hh hk => (cl j ih p hp).2 hs hh hk)
end Go.Proofs.YtddkhnclmeikfacGreat

namespace Go.Proofs.YtddkhnclmeikfacGreat
open Go.RowKit

/-! What Settle comes to (mathematics alone). H: who is held. -/
def lostB (x : Hp) (H : Nat → Bool) (y : Wd) : Bool := (resW x y).k == 2 && !H (resW x y).a.toNat
def wkB (c : Cl) : Bool := c.weak == 1 || c.weak == 3
def wvB (c : Cl) : Bool := c.weak == 2 || c.weak == 3
def goB (x : Hp) (H : Nat → Bool) (c : Cl) (p : Pr) : Bool := (wkB c && lostB x H p.key) || (wvB c && lostB x H p.val)
/-- the pairs that stay -/
def stay (x : Hp) (H : Nat → Bool) (c : Cl) (l : List Pr) : List Pr := l.filter (fun p => !goB x H c p)
/-- how many go -/
def goes (x : Hp) (H : Nat → Bool) (c : Cl) (l : List Pr) : Nat := (l.filter (fun p => goB x H c p)).length
theorem stay_goes (x : Hp) (H : Nat → Bool) (c : Cl) (l : List Pr) : (stay x H c l).length + goes x H c l = l.length := by
  unfold stay goes
  induction l with
  | nil => rfl
  | cons p l ih =>
    cases h : goB x H c p <;> simp [h] <;> omega
theorem goes_append (x : Hp) (H : Nat → Bool) (c : Cl) (a b : List Pr) : goes x H c (a ++ b) = goes x H c a + goes x H c b := by simp [goes]
theorem stay_append (x : Hp) (H : Nat → Bool) (c : Cl) (a b : List Pr) : stay x H c (a ++ b) = stay x H c a ++ stay x H c b := by simp [stay]
/-- the cell whose pairs the collector is going through -/
def scanI (x : Hp) : Int := if x.phase = 2 ∧ 0 < x.gray.length then x.gray.getD 0 0 else if x.phase = 5 ∧ x.hand < x.cells.length then x.hand else -1
/-- a held cell is settled -/
def letC (x : Hp) (H : Nat → Bool) (c : Cl) : Cl := { c with prs := stay x H c c.prs }
def letSub (x : Hp) (H : Nat → Bool) (i : Nat) (s : Int) : Int := if scanI x = (i : Int) then s - goes x H (x.c i) ((x.c i).prs.take s.toNat) else s
/-- the first k cells are settled: their pairs -/
def cutTo (x : Hp) (H : Nat → Bool) : Nat → Hp
  | 0 => x
  | k + 1 => if H k = true then { cutTo x H k with cells := (cutTo x H k).cells.set k (letC x H (x.c k)), used := (cutTo x H k).used - goes x H (x.c k) (x.c k).prs, sub := letSub x H k (cutTo x H k).sub } else cutTo x H k
def goneTo (x : Hp) (H : Nat → Bool) : Nat → Nat
  | 0 => 0
  | k + 1 => if H k = true then goneTo x H k + goes x H (x.c k) (x.c k).prs else goneTo x H k
def dueB (x : Hp) (H : Nat → Bool) (i : Nat) : Bool := !H i && (x.c i).last == 1
def dueC (c : Cl) : Cl := { c with last := 2 }
/-- the first k cells are looked at: their last words -/
def dueTo (x z : Hp) (H : Nat → Bool) : Nat → Hp
  | 0 => z
  | k + 1 => if dueB x H k = true then { dueTo x z H k with cells := (dueTo x z H k).cells.set k (dueC (x.c k)) } else dueTo x z H k
def dueN (x : Hp) (H : Nat → Bool) : Nat → Nat
  | 0 => 0
  | k + 1 => if dueB x H k = true then dueN x H k + 1 else dueN x H k
def settleH (x : Hp) (H : Nat → Bool) : Hp := dueTo x (cutTo x H x.cells.length) H x.cells.length
/-- a cell of the settled heap -/
def stlC (x : Hp) (H : Nat → Bool) (i : Nat) : Cl := if H i = true then letC x H (x.c i) else if (x.c i).last = 1 then dueC (x.c i) else x.c i
theorem cutTo_len (x : Hp) (H : Nat → Bool) : ∀ k, (cutTo x H k).cells.length = x.cells.length
  | 0 => rfl
  | k + 1 => by
    unfold cutTo
    split
    · simp [cutTo_len x H k]
    · exact cutTo_len x H k
theorem cutTo_c (x : Hp) (H : Nat → Bool) : ∀ k, k ≤ x.cells.length → ∀ q, (cutTo x H k).c q = if q < k ∧ H q = true then letC x H (x.c q) else x.c q
  | 0, _, q => by rw [if_neg (by omega)]; rfl
  | k + 1, hk, q => by
    have ih := cutTo_c x H k (by omega) q
    unfold cutTo
    by_cases h : H k = true
    · rw [if_pos h]
      have := Hp.c_set (cutTo x H k) k (letC x H (x.c k)) (by rw [cutTo_len]; omega) q
      have e : ({ cutTo x H k with cells := (cutTo x H k).cells.set k (letC x H (x.c k)), used := (cutTo x H k).used - goes x H (x.c k) (x.c k).prs, sub := letSub x H k (cutTo x H k).sub } : Hp).c q = ({ cutTo x H k with cells := (cutTo x H k).cells.set k (letC x H (x.c k)) } : Hp).c q := rfl
      rw [e, this]
      by_cases eq : q = k
      · rw [if_pos eq, eq, if_pos ⟨by omega, h⟩]
      · rw [if_neg eq, ih]
        by_cases h2 : q < k ∧ H q = true
        · rw [if_pos h2, if_pos ⟨by omega, h2.2⟩]
        · rw [if_neg h2, if_neg (fun h3 => h2 ⟨by omega, h3.2⟩)]
    · rw [if_neg h, ih]
      by_cases h2 : q < k ∧ H q = true
      · rw [if_pos h2, if_pos ⟨by omega, h2.2⟩]
      · rw [if_neg h2, if_neg (fun h3 => by
          by_cases eq : q = k
          · rw [eq] at h3; exact h h3.2
          · exact h2 ⟨by omega, h3.2⟩)]
end Go.Proofs.YtddkhnclmeikfacGreat

namespace Go.Proofs.YtddkhnclmeikfacGreat
open Go.RowKit
attribute [local go_sem ↓] Go.wp_at_zero Go.wp_at_succ

/-- the row of pairs of one cell is another, new one -/
theorem GAt.prow {B : Nat} {w w' : World} {g : Nat} {x : Hp} {ar : Option Addr} {kr : Nat} {ac : Option Addr} {kc : Nat} {vg : Value} {br bc : Nat} {pb : Nat → Nat} {pa : Nat → Option Addr} {pk : Nat → Nat} {role : Nat → Nat} (h : GAt B w g x ar kr ac kc vg br bc pb pa pk role) (i : Nat) (hi : i < x.cells.length) (r0 : 0 < x.regs.length) (L : List Pr) (qb : Nat) (qa : Option Addr) (qk : Nat) (o : Only (fun q => q = bc) w w') (nfc : Nf1 bc w') (c7 : w'.cell? ⟨bc, i * 8 + 7, none⟩ = some (.slice qa L.length qk)) (co : ∀ j, j ≠ i * 8 + 7 → w'.cell? ⟨bc, j, none⟩ = w.cell? ⟨bc, j, none⟩)
    (hp : ∀ k, k < L.length → PrAt w' qb (k * 6) (L.getD k Pr0)) (hN : 0 < L.length → qa = some ⟨qb, 0, none⟩ ∧ Nf1 qb w' ∧ w.heap.size ≤ qb ∧ B ≤ qb) :
    GAt B w' g { x with cells := x.cells.set i { x.c i with prs := L } } ar kr ac kc vg br bc (fun q => if q = i then qb else pb q) (fun q => if q = i then qa else pa q) (fun q => if q = i then qk else pk q) (fun d => if w.heap.size ≤ d then 6 + i else role d) := by
  have hn : 0 < x.cells.length := by omega
  have far : ∀ q, q < w.heap.size → role q ≠ 3 → w'.heap[q]? = w.heap[q]? := fun q hq hr => o.block q hq (fun e => hr (by rw [e]; exact h.sp.c hn))
  have old : ∀ q, q < w.heap.size → (if w.heap.size ≤ q then 6 + i else role q) = role q := fun q hq => if_neg (by omega)
  have hl : ({ x with cells := x.cells.set i { x.c i with prs := L } } : Hp).cells.length = x.cells.length := by simp
  have hc := Hp.c_set x i { x.c i with prs := L } hi
  have hne : ∀ q, q ≠ i → (({ x with cells := x.cells.set i { x.c i with prs := L } } : Hp).c q) = x.c q := fun q e => by rw [hc q, if_neg e]
  have hei : (({ x with cells := x.cells.set i { x.c i with prs := L } } : Hp).c i) = { x.c i with prs := L } := by rw [hc i, if_pos rfl]
  have fg := far g h.nf.1 (by rw [h.sp.g]; omega)
  have pf : ∀ q, q < x.cells.length → 0 < (x.c q).prs.length → w'.heap[pb q]? = w.heap[pb q]? := fun q hq hl => far (pb q) (h.rw.pl q hq hl).2.1.1 (by rw [h.sp.p q hq hl]; omega)
  have fr : 0 < x.regs.length → w'.heap[br]? = w.heap[br]? := fun hr => far br (h.rw.nr hr).1.1 (by rw [h.sp.r hr]; omega)
  refine ⟨?_, nf1_block h.nf fg o.size, h.lo, h.ha, fun _ => h.hc hn, ⟨fun j hj => ?_, fun q hq => ?_, fun q hq => ?_, fun q hq j hj => ?_, fun q hq hlq => ?_, fun hr => ⟨nf1_block (h.rw.nr hr).1 (fr hr) o.size, (h.rw.nr hr).2⟩, fun _ => ⟨nfc, (h.rw.nc hn).2⟩, fun _ => h.rw.d hn, fun q q' hq hq' hqq h1 h2 => ?_⟩, h.gr.block (fun q hq => far q (h.gr.lt q hq).2 (by rw [h.sp.y q hq]; omega)), ⟨?_, fun hr => ?_, fun _ => ?_, fun q hq => ?_, fun q hq hlq => ?_⟩, by rw [hl]; exact h.kl⟩
  · rw [hl]; exact h.bx.block fg
  · exact (h.rw.r j hj).of fun m _ => World.cell?_of_block (a := ⟨br, _, none⟩) (fr (by have : j < x.regs.length := hj; omega))
  · rw [hl] at hq
    have key : S7 w' bc (q * 8) (x.c q) := (h.rw.s q hq).of fun m hm => co _ (by omega)
    by_cases e : q = i
    · subst e; rw [hei]; exact key
    · rw [hne q e]; exact key
  · rw [hl] at hq
    by_cases e : q = i
    · subst e; rw [hei]; simp only [if_true]; exact c7
    · rw [hne q e]; simp only [if_neg e]
      rw [co _ (by omega)]; exact h.rw.p7 q hq
  · rw [hl] at hq
    by_cases e : q = i
    · subst e; rw [hei] at hj ⊢; simp only [if_true]; exact hp j hj
    · rw [hne q e] at hj ⊢; simp only [if_neg e]
      exact (h.rw.p q hq j hj).of fun m _ => World.cell?_of_block (a := ⟨pb q, _, none⟩) (pf q hq (by omega))
  · rw [hl] at hq
    by_cases e : q = i
    · subst e
      rw [hei] at hlq
      simp only [if_true]
      obtain ⟨a1, a2, a3, a4⟩ := hN hlq
      refine ⟨a1, a2, ⟨fun e => ?_, fun e => ?_⟩, a4⟩
      · have := (h.rw.nr r0).1.1; omega
      · have := (h.rw.nc hn).1.1; omega
    · rw [hne q e] at hlq
      simp only [if_neg e]
      obtain ⟨a1, a2, a3, a4⟩ := h.rw.pl q hq hlq
      exact ⟨a1, nf1_block a2 (pf q hq hlq) o.size, a3, a4⟩
  · rw [hl] at hq hq'
    by_cases e : q = i
    · subst e
      have e' : q' ≠ q := fun e => hqq e.symm
      rw [hei] at h1
      rw [hne q' e'] at h2
      simp only [if_true, if_neg e']
      have := (h.rw.pl q' hq' h2).2.1.1
      have := (hN h1).2.2.1
      omega
    · by_cases e2 : q' = i
      · subst e2
        rw [hei] at h2
        rw [hne q e] at h1
        simp only [if_true, if_neg e]
        have := (h.rw.pl q hq h1).2.1.1
        have := (hN h2).2.2.1
        omega
      · rw [hne q e] at h1
        rw [hne q' e2] at h2
        simp only [if_neg e, if_neg e2]
        exact h.rw.dp q q' hq hq' hqq h1 h2
  · rw [old g h.nf.1]; exact h.sp.g
  · rw [old br (h.rw.nr hr).1.1]; exact h.sp.r hr
  · rw [old bc (h.rw.nc hn).1.1]; exact h.sp.c hn
  · rw [old q (h.gr.lt q hq).2]; exact h.sp.y q hq
  · rw [hl] at hq
    by_cases e : q = i
    · subst e
      rw [hei] at hlq
      simp only [if_true]
      rw [if_pos (hN hlq).2.2.1]
    · rw [hne q e] at hlq
      simp only [if_neg e]
      rw [old (pb q) (h.rw.pl q hq hlq).2.1.1]; exact h.sp.p q hq hlq
end Go.Proofs.YtddkhnclmeikfacGreat

namespace Go.Proofs.YtddkhnclmeikfacGreat
open Go.RowKit
attribute [local go_sem ↓] Go.wp_at_zero Go.wp_at_succ

set_option maxRecDepth 100000 in
set_option maxHeartbeats 600000 in
theorem l4scanned_any {B : Nat} {w : World} {g : Nat} {x : Hp} {ar : Option Addr} {kr : Nat} {ac : Option Addr} {kc : Nat} {vg : Value} {br bc : Nat} {pb : Nat → Nat} {pa : Nat → Option Addr} {pk : Nat → Nat} {role : Nat → Nat} (h : GAt B w g x ar kr ac kc vg br bc pb pa pk role) :
    Calls Tryz.prog 199 #[.pointer (some ⟨g, 0, none⟩)] w fun e w' => e = .returned (.int .i64 (scanI x)) ∧ Ext w w' := by
  obtain ⟨ag, kg, hvg⟩ := h.gr.form
  subst hvg
  have c4 := h.bx.2.2.2.2.1
  have c5 := h.bx.2.2.2.2.2.1
  have c6 := h.bx.2.2.2.2.2.2.1
  have c8 := h.bx.2.2.2.2.2.2.2.2.1
  have GA := hide (fun i hi => h.gr.at i hi)
  clear h
  cases q2 : (x.phase == 2)
  · cases q5 : (x.phase == 5)
    · have E := hide (show scanI x = -1 by unfold scanI; rw [if_neg (fun h => by simp [h.1] at q2), if_neg (fun h => by simp [h.1] at q5)])
      go_enter Tryz.func199, Tryz.ntmps199
      go_wp2_with fail
      go_quiet (fail)
      go_wp2_with fail
      go_ret
      exact ⟨by rw [unhide E]; rfl, by repeat (first | exact Ext.refl _ | refine Ext.drewN ?_ _ | refine Ext.drew ?_)⟩
    · by_cases hl : x.hand < x.cells.length
      · have E := hide (show scanI x = x.hand by unfold scanI; rw [if_neg (fun h => by simp [h.1] at q2), if_pos ⟨by simpa using q5, hl⟩])
        go_enter Tryz.func199, Tryz.ntmps199
        go_wp2_with fail
        go_quiet (fail)
        go_wp2_with fail
        go_ret
        exact ⟨by rw [unhide E]; rfl, by repeat (first | exact Ext.refl _ | refine Ext.drewN ?_ _ | refine Ext.drew ?_)⟩
      · have E := hide (show scanI x = -1 by unfold scanI; rw [if_neg (fun h => by simp [h.1] at q2), if_neg (fun h => hl h.2)])
        go_enter Tryz.func199, Tryz.ntmps199
        go_wp2_with fail
        go_quiet (fail)
        go_wp2_with fail
        go_ret
        exact ⟨by rw [unhide E]; rfl, by repeat (first | exact Ext.refl _ | refine Ext.drewN ?_ _ | refine Ext.drew ?_)⟩
  · have q5 : (x.phase == 5) = false := by simp at q2 ⊢; omega
    by_cases hl : 0 < x.gray.length
    · obtain ⟨gb, go, rfl, gc, _⟩ := unhide GA 0 hl
      have E := hide (show scanI x = x.gray[0] by unfold scanI; rw [if_pos ⟨by simpa using q2, hl⟩]; simp [hl])
      have g0 : (x.gray.length : Int) > 0 := by omega
      have g1 : (0 : Int) < (x.gray.length : Int) := by omega
      rw [Nat.add_zero] at gc
      go_enter Tryz.func199, Tryz.ntmps199
      go_wp2_with fail
      go_ret
      exact ⟨by rw [unhide E]; rfl, by repeat (first | exact Ext.refl _ | refine Ext.drewN ?_ _ | refine Ext.drew ?_)⟩
    · have E := hide (show scanI x = -1 by unfold scanI; rw [if_neg (fun h => hl h.2), if_neg (fun h => by simp [h.1] at q5)])
      have g0 : ¬ (x.gray.length : Int) > 0 := by omega
      go_enter Tryz.func199, Tryz.ntmps199
      go_wp2_with fail
      go_quiet (fail)
      go_wp2_with fail
      go_ret
      exact ⟨by rw [unhide E]; rfl, by repeat (first | exact Ext.refl _ | refine Ext.drewN ?_ _ | refine Ext.drew ?_)⟩
end Go.Proofs.YtddkhnclmeikfacGreat

namespace Go.Proofs.YtddkhnclmeikfacGreat
open Go.RowKit
attribute [local go_sem ↓] Go.wp_at_zero Go.wp_at_succ

set_option maxRecDepth 100000 in
set_option maxHeartbeats 600000 in
theorem l4lost_any {B : Nat} {w : World} {g : Nat} {x : Hp} {ar : Option Addr} {kr : Nat} {ac : Option Addr} {kc : Nat} {vg : Value} {br bc : Nat} {pb : Nat → Nat} {pa : Nat → Option Addr} {pk : Nat → Nat} {role : Nat → Nat} (h : GAt B w g x ar kr ac kc vg br bc pb pa pk role) (H : Nat → Bool) (bs : Nat) (hs : ∀ j, j < x.cells.length → w.cell? ⟨bs, j, none⟩ = some (.bool (H j))) (y : Wd) (hy : Formed y x.cells.length) (hr : (resW x y).k = 2 → 0 ≤ (resW x y).a ∧ (resW x y).a < x.cells.length) :
    Calls Tryz.prog 118 #[.pointer (some ⟨g, 0, none⟩), .slice (some ⟨bs, 0, none⟩) x.cells.length x.cells.length, y.v] w fun e w' => e = .returned (.bool (lostB x H y)) ∧ Ext w w' := by
  have XA := (Ext.refl w).alloc (.cells #[iv y.k, iv y.n, iv y.a] 147)
  have QR := hide (gres_any y _ (h.ext XA) hy)
  have HS := hide (show ∀ W, Ext w W → ∀ j, j < x.cells.length → W.cell? ⟨bs, j, none⟩ = some (.bool (H j)) from fun W e j hj => e.keep (hs j hj))
  have XA2 := hide XA
  obtain ⟨r, hrr⟩ : ∃ r, r = resW x y := ⟨_, rfl⟩
  have LB := hide (show lostB x H y = (r.k == 2 && !H r.a.toNat) by unfold lostB; rw [hrr])
  rw [← hrr] at QR hr
  clear h hs XA hrr
  go_enter Tryz.func118, Tryz.ntmps118
  go_wp2_with fail
  refine (unhide QR).mono ?_
  rintro e w1 ⟨rfl, q1⟩
  have X1 := hide ((unhide XA2).trans q1)
  cases q : (r.k == 2)
  · have E := hide (show lostB x H y = false by rw [unhide LB, q]; rfl)
    go_wp2_with fail
    go_ret
    exact ⟨by rw [unhide E]; rfl, by repeat (first | exact unhide X1 | refine Ext.drewN ?_ _ | refine Ext.drew ?_ | refine Ext.alloc ?_ _)⟩
  · obtain ⟨a0, a1⟩ := hr (by simpa using q)
    obtain ⟨j, hj⟩ : ∃ j : Nat, r.a = (j : Int) := ⟨r.a.toNat, by omega⟩
    have hjl : j < x.cells.length := by omega
    have c0 := unhide HS w1 (unhide X1) j hjl
    have j0 : (0 : Int) ≤ (j : Int) := by omega
    have j1 : (j : Int) < (x.cells.length : Int) := by omega
    have hb : bs < w1.heap.size := cell_lt c0
    have E := hide (show lostB x H y = !H j by rw [unhide LB, q, hj]; rfl)
    cases hH : H j
    all_goals
      rw [hH] at c0
      have E2 := hide (unhide E)
      rw [hH] at E2
      go_wp2_with fail
      go_ret
      exact ⟨by rw [unhide E2]; rfl, by repeat (first | exact unhide X1 | refine Ext.drewN ?_ _ | refine Ext.drew ?_ | refine Ext.alloc ?_ _)⟩
theorem wrap_wide (n : Int) (h0 : -4000000 ≤ n) (h1 : n ≤ 4000000) : wrap64 n = n := by unfold wrap64; omega
/-- one pair is taken out -/
def cutH (x : Hp) (i k : Nat) : Hp := { x with cells := x.cells.set i { x.c i with prs := (x.c i).prs.eraseIdx k }, used := x.used - 1, sub := if (k : Int) < x.sub ∧ scanI x = (i : Int) then x.sub - 1 else x.sub }
theorem take_erase (l : List Pr) (k j : Nat) (h : j < l.length) : (l.take (j + 1)).eraseIdx k = if j = k then l.take j else (l.take j).eraseIdx k ++ [l[j]] := by
  rw [List.take_succ_eq_append_getElem h]
  have hl : (l.take j).length = j := by simp; omega
  by_cases e : j = k
  · rw [if_pos e, List.eraseIdx_append_of_length_le (by omega), hl, show k - j = 0 by omega]; simp
  · rw [if_neg e]
    rcases Nat.lt_or_ge k j with q | q
    · rw [List.eraseIdx_append_of_lt_length (by omega)]
    · rw [List.eraseIdx_append_of_length_le (by omega), hl, List.eraseIdx_of_length_le (l := l.take j) (by omega)]
      congr 1
      rw [List.eraseIdx_of_length_le]
      simp; omega
theorem cut_no {w : World} {B : Nat} {v : Value} {l : List Pr} {k j : Nat} (h : Hid (w.ownsRow B 152 6 v ((l.take j).eraseIdx k).length (((l.take j).eraseIdx k).flatMap fP))) (hj : j < l.length) (e : j = k) : Hid (w.ownsRow B 152 6 v ((l.take (j + 1)).eraseIdx k).length (((l.take (j + 1)).eraseIdx k).flatMap fP)) := by
  rw [take_erase l k j hj, if_pos e]
  have : (l.take j).eraseIdx k = l.take j := List.eraseIdx_of_length_le (by simp; omega)
  rw [this] at h
  exact h
theorem cut_all {w : World} {B : Nat} {v : Value} {l : List Pr} {k j : Nat} (h : Hid (w.ownsRow B 152 6 v ((l.take j).eraseIdx k).length (((l.take j).eraseIdx k).flatMap fP))) (hj : l.length ≤ j) : Hid (w.ownsRow B 152 6 v (l.eraseIdx k).length ((l.eraseIdx k).flatMap fP)) := by
  rw [List.take_of_length_le hj] at h; exact h
theorem ownsP_ext {w w' : World} {B : Nat} {v : Value} {n : Nat} {l : List Value} (h : Hid (w.ownsRow B 152 6 v n l)) (e : Ext w w') : Hid (w'.ownsRow B 152 6 v n l) := ownsRow_of_block h (fun q hq => e.block q ((unhide h).lt q hq).2)
/-- the model's heap with its rows of pairs hidden -/
def GK (B : Nat) (w : World) (g : Nat) (x : Hp) (ar : Option Addr) (kr : Nat) (ac : Option Addr) (kc : Nat) (vg : Value) (br bc : Nat) : Prop := ∃ pb pa pk role, GAt B w g x ar kr ac kc vg br bc pb pa pk role
theorem GK.ext {B : Nat} {w w' : World} {g : Nat} {x : Hp} {ar : Option Addr} {kr : Nat} {ac : Option Addr} {kc : Nat} {vg : Value} {br bc : Nat} (h : GK B w g x ar kr ac kc vg br bc) (e : Ext w w') : GK B w' g x ar kr ac kc vg br bc := let ⟨pb, pa, pk, role, h⟩ := h; ⟨pb, pa, pk, role, h.ext e⟩
theorem GK.ok {B : Nat} {w : World} {g : Nat} {x : Hp} {ar : Option Addr} {kr : Nat} {ac : Option Addr} {kc : Nat} {vg : Value} {br bc : Nat} (h : GK B w g x ar kr ac kc vg br bc) : GOk B w g x := let ⟨pb, pa, pk, role, h⟩ := h; ⟨_, _, _, _, _, _, _, pb, pa, pk, role, h⟩
theorem GK.set1 {B : Nat} {w : World} {g : Nat} {x : Hp} {ar : Option Addr} {kr : Nat} {ac : Option Addr} {kc : Nat} {vg : Value} {br bc : Nat} (h : GK B w g x ar kr ac kc vg br bc) (v : Int) : GK B (w.setCell ⟨g, 1, none⟩ (iv v)) g { x with used := v } ar kr ac kc vg br bc := let ⟨_, _, _, _, h⟩ := h; ⟨_, _, _, _, h.boxed (x' := { x with used := v }) (Only.setCell (S := fun q => q = g) (Only.refl _ w) (p := ⟨g, 1, none⟩) rfl _) (h.nf.set _ _) rfl rfl rfl (h.bx.set1 v)⟩
theorem GK.set7 {B : Nat} {w : World} {g : Nat} {x : Hp} {ar : Option Addr} {kr : Nat} {ac : Option Addr} {kc : Nat} {vg : Value} {br bc : Nat} (h : GK B w g x ar kr ac kc vg br bc) (v : Int) : GK B (w.setCell ⟨g, 7, none⟩ (iv v)) g { x with sub := v } ar kr ac kc vg br bc := let ⟨_, _, _, _, h⟩ := h; ⟨_, _, _, _, h.boxed (x' := { x with sub := v }) (Only.setCell (S := fun q => q = g) (Only.refl _ w) (p := ⟨g, 7, none⟩) rfl _) (h.nf.set _ _) rfl rfl rfl (h.bx.set7 v)⟩
/-- what is left as it was -/
def Fr2 (g bc : Nat) (w w' : World) : Prop := w.heap.size ≤ w'.heap.size ∧ ∀ q, q < w.heap.size → q ≠ g → q ≠ bc → w'.heap[q]? = w.heap[q]?
theorem Fr2.ext {g bc : Nat} {w w1 w2 : World} (h : Fr2 g bc w w1) (e : Ext w1 w2) : Fr2 g bc w w2 := ⟨Nat.le_trans h.1 e.size, fun q h1 h2 h3 => (e.block q (Nat.lt_of_lt_of_le h1 h.1)).trans (h.2 q h1 h2 h3)⟩
theorem Fr2.of {g bc : Nat} {w w1 : World} (e : Ext w w1) : Fr2 g bc w w1 := ⟨e.size, fun q h1 _ _ => e.block q h1⟩
theorem Fr2.set {g bc : Nat} {w w1 : World} (h : Fr2 g bc w w1) (p : Addr) (hp : p.block = g ∨ p.block = bc) (u : Value) : Fr2 g bc w (w1.setCell p u) := ⟨by have := h.1; simpa [World.setCell] using this, fun q h1 h2 h3 => (Below.heap_setCell _ _ _ _ (by rcases hp with e | e <;> rw [e] <;> assumption)).trans (h.2 q h1 h2 h3)⟩
theorem Fr2.trans {g bc : Nat} {a b c : World} (h : Fr2 g bc a b) (k : Fr2 g bc b c) : Fr2 g bc a c := ⟨Nat.le_trans h.1 k.1, fun q h1 h2 h3 => (k.2 q (Nat.lt_of_lt_of_le h1 h.1) h2 h3).trans (h.2 q h1 h2 h3)⟩
theorem own_sl {w : World} {B : Nat} {T : TypeId} {c n : Nat} {v : Value} {xs : List Value} (h : w.ownsRow B T c v n xs) : ∃ va vq, v = .slice va n vq := ⟨_, _, (own_form h).1⟩
/-- the cell's pairs are a new row -/
theorem prow_own {B : Nat} {w wr : World} {g : Nat} {x : Hp} {ar : Option Addr} {kr : Nat} {ac : Option Addr} {kc : Nat} {vg : Value} {br bc : Nat} {pb : Nat → Nat} {pa : Nat → Option Addr} {pk : Nat → Nat} {role : Nat → Nat} (h : GAt B w g x ar kr ac kc vg br bc pb pa pk role) (i : Nat) (hi : i < x.cells.length) (r0 : 0 < x.regs.length) (L : List Pr) (va : Option Addr) (vq : Nat) (e : Ext w wr) (ow : wr.ownsRow w.heap.size 152 6 (.slice va L.length vq) L.length (L.flatMap fP)) :
    GK B (wr.setCell ⟨bc, i * 8 + 7, none⟩ (.slice va L.length vq)) g { x with cells := x.cells.set i { x.c i with prs := L } } ar kr ac kc vg br bc := by
  have hn : 0 < x.cells.length := by omega
  have hBg : B ≤ w.heap.size := Nat.le_trans h.lo (Nat.le_of_lt h.nf.1)
  have hbc := (h.rw.nc hn).1
  obtain ⟨ad, cap, e1, e2, hc⟩ := own_cells (f := fP) (fun _ => rfl) ow
  injection e1 with e1 _ e3
  subst e1 e3
  have hq : ∀ qb, va = some ⟨qb, 0, none⟩ → w.heap.size ≤ qb ∧ qb < wr.heap.size ∧ qb ≠ bc := fun qb hv => by
    have := ow.lt qb (by rw [hv]; rfl)
    have := hbc.1
    omega
  have c7 : (wr.setCell ⟨bc, i * 8 + 7, none⟩ (.slice va L.length vq)).cell? ⟨bc, i * 8 + 7, none⟩ = some (.slice va L.length vq) := World.cell?_setCell_same _ _ _ (e.keep (h.rw.p7 i hi))
  have nb : ∀ qb, va = some ⟨qb, 0, none⟩ → 0 < L.length → Nf1 qb (wr.setCell ⟨bc, i * 8 + 7, none⟩ (.slice va L.length vq)) := fun qb hv hl => by
    refine ⟨by have := (hq qb hv).2.1; simpa [World.setCell] using this, fun j => ?_⟩
    rw [World.frozen?_setCell]
    rw [hv] at ow
    exact ow.frozenAt j
  refine ⟨_, _, _, _, h.prow i hi r0 L (vblk (.slice va L.length vq)) va vq (Only.setCell (S := fun q => q = bc) (Only.of_ext e) (p := ⟨bc, i * 8 + 7, none⟩) rfl _) ((hbc.ext e).set _ _) c7 (fun j hj => ?_) (fun k hk => ?_) (fun hl => ?_)⟩
  · rw [cell_other _ (.inr (fun e => hj e.symm))]; exact (bcell e).1 bc j hbc.1
  · obtain ⟨qb, rfl⟩ := e2 (by omega)
    obtain ⟨q2, e4, _, _, hcc⟩ := hc k hk
    injection e4 with e4
    injection e4 with e4
    subst e4
    have el : L.getD k Pr0 = L[k] := by simp [hk]
    rw [el]
    have key : ∀ m, m < 6 → (wr.setCell ⟨bc, i * 8 + 7, none⟩ (.slice (some ⟨qb, 0, none⟩) L.length vq)).cell? ⟨qb, k * 6 + m, none⟩ = (fP L[k])[m]? := fun m hm => by
      rw [cell_other _ (.inl (fun e => (hq qb rfl).2.2 e.symm))]
      have := hcc m hm
      rwa [Nat.zero_add] at this
    exact ⟨key 0 (by omega), key 1 (by omega), key 2 (by omega), key 3 (by omega), key 4 (by omega), key 5 (by omega)⟩
  · obtain ⟨qb, rfl⟩ := e2 hl
    exact ⟨rfl, nb qb rfl hl, (hq qb rfl).1, Nat.le_trans hBg (hq qb rfl).1⟩
set_option maxRecDepth 100000 in
set_option maxHeartbeats 1000000 in
theorem l4cut_any {B : Nat} {w : World} {g : Nat} {x : Hp} {ar : Option Addr} {kr : Nat} {ac : Option Addr} {kc : Nat} {vg : Value} {br bc : Nat} (h : GK B w g x ar kr ac kc vg br bc) (i k : Nat) (hi : i < x.cells.length) (hk : k < (x.c i).prs.length) (r0 : 0 < x.regs.length) (h200 : (x.c i).prs.length ≤ 200) (hu : -3000000 ≤ x.used ∧ x.used ≤ 1000000) (hsb : -3000000 ≤ x.sub ∧ x.sub ≤ 1000000) (n8 : x.cells.length ≤ 8000) (a : World) (ha : a.heap.size ≤ B) (hx : Ext a w) :
    Calls Tryz.prog 119 #[.pointer (some ⟨g, 0, none⟩), .int .i64 i, .int .i64 k] w fun e w' => e = .returned (.tuple #[]) ∧ GK B w' g (cutH x i k) ar kr ac kc vg br bc ∧ Fr2 g bc w w' ∧ Ext a w' := by
  obtain ⟨pb, pa, pk, role, h⟩ := h
  have hn : 0 < x.cells.length := by omega
  have HH := hide h
  have c4 := h.bx.2.2.2.2.1
  rw [h.hc hn] at c4
  have p7 := h.rw.p7 i hi
  have PL := hide (h.rw.pl i hi (by omega))
  obtain ⟨i0, hi0, hz0, hz1, hz2⟩ := info_parts infoPairs
  have j0 : (0 : Int) ≤ (i : Int) := by omega
  have j1 : (i : Int) < (x.cells.length : Int) := by omega
  rw [(unhide PL).1] at p7
  have hgw : g < w.heap.size := cell_lt c4
  have hbw : bc < w.heap.size := cell_lt p7
  have XS := hide hx
  clear h
  go_enter Tryz.func119, Tryz.ntmps119
  go_wp2_with fail
  obtain ⟨l, hl⟩ : ∃ l, l = (x.c i).prs := ⟨_, rfl⟩
  rw [← hl] at p7 hk h200
  have PP := hide (show ∀ j (hj : j < l.length), PrAt w (pb i) (j * 6) l[j] from fun j hj => by
    have h1 := (unhide HH).rw.p i hi j (by rw [← hl]; exact hj)
    have h2 : (x.c i).p j = l[j] := by simp [Cl.p, ← hl, hj]
    rw [h2] at h1; exact h1)
  have HL := hide hl
  have C4 := hide c4
  have P7 := hide p7
  rw [← hl]
  clear hl
  go_loopw [6, 18] (fun v s wr => ∃ j : Nat, j ≤ l.length ∧ s = .int .i64 j ∧ Hid (wr.ownsRow w.heap.size 152 6 v ((l.take j).eraseIdx k).length (((l.take j).eraseIdx k).flatMap fP)) ∧ Ext w wr) (fun _ s _ => l.length - (intOf s).toNat)
  case atStart => exact ⟨0, Nat.zero_le _, rfl, World.ownsRow_nil _ _ _ _, Ext.refl _⟩
  case round =>
    clear c4 p7
    obtain ⟨j, hj, rfl, hown, hbl⟩ := hrel
    by_cases hlt : j < l.length
    · obtain ⟨e0, e1, e2, e3, e4, e5⟩ := (unhide PP j hlt).ext hbl
      have hb' : pb i < wr.heap.size := cell_lt e0
      have k0 : (0:Int) ≤ (j:Int) := by omega
      have k1 : (j:Int) < (l.length:Int) := by omega
      have NO := hide (fun q => cut_no hown hlt q)
      have YES := hide (take_erase l k j hlt)
      have LE := hide (show ((l.take j).eraseIdx k).length ≤ j by have := List.length_eraseIdx_le (l.take j) k; simp at this; omega)
      obtain ⟨y, hy⟩ : ∃ y, y = l[j] := ⟨_, rfl⟩
      rw [← hy] at e0 e1 e2 e3 e4 e5 YES
      clear hy
      obtain ⟨L, hL⟩ : ∃ L, L = (l.take j).eraseIdx k := ⟨_, rfl⟩
      rw [← hL] at hown YES LE
      clear hL
      have xa := (Ext.refl wr).alloc (.cells #[iv y.key.k, iv y.key.n, iv y.key.a, iv y.val.k, iv y.val.n, iv y.val.a] 152)
      by_cases e : j = k
      · have eb : ((j : Int) != (k : Int)) = false := by simp [e]
        have N := hide (unhide (ownsP_ext (unhide NO e) xa))
        clear NO YES e
        go_wp2_with fail
        go_roundw
        case rel => exact ⟨j + 1, by omega, by go_num, unhide N, hbl.trans xa⟩
        case measure => simp [intOf]; omega
      · have eb : ((j : Int) != (k : Int)) = true := by simp; omega
        have Y := hide (show (l.take (j + 1)).eraseIdx k = L ++ [y] by rw [unhide YES, if_neg e])
        clear NO YES e
        go_wp2_with (at_builtin; refine wpList_append_lies _ rfl _ _ 148 rfl w.heap.size 152 i0 (.agg #[iv 0, iv 0, iv 0, iv 0, iv 0, iv 0]) 6 48 Tryz.underlying148 hi0 hz0 hz1 hz2 rfl (by decide) _ L.length (L.flatMap fP) rfl (((unhide hown).alloc _).alloc _) _ 1 1 (fP y) rfl rfl ?c1 ?c2 (by decide) ?c3 ?c4 ?c5 _ rfl ?_)
        case c1 =>
          intro q u hk
          match q, hk with
          | 0, hk => simp [fP] at hk; subst hk; simp [Addr.add, go_sem]
          | 1, hk => simp [fP] at hk; subst hk; simp [Addr.add, go_sem]
          | 2, hk => simp [fP] at hk; subst hk; simp [Addr.add, go_sem]
          | 3, hk => simp [fP] at hk; subst hk; simp [Addr.add, go_sem]
          | 4, hk => simp [fP] at hk; subst hk; simp [Addr.add, go_sem]
          | 5, hk => simp [fP] at hk; subst hk; simp [Addr.add, go_sem]
          | q + 6, hk => simp [fP] at hk
        case c2 => intro u hu; simp [fP] at hu; rcases hu with e | e | e | e | e | e <;> subst e <;> rfl
        case c3 => have := unhide LE; unfold maxLen; omega
        case c4 => have := unhide LE; omega
        case c5 => have := hbl.size; simp; omega
        intro gq cap' w2 hown2 hgrow hat hglt
        have R := hide (show w2.ownsRow w.heap.size 152 6 (.slice (some ⟨gq, 0, none⟩) (L.length + 1) cap') ((l.take (j + 1)).eraseIdx k).length (((l.take (j + 1)).eraseIdx k).flatMap fP) by
          rw [unhide Y, List.flatMap_append]
          simpa using hown2)
        have X2 := hide (grown_ext ((hbl.alloc _).alloc _) (((unhide hown).alloc _).alloc _) (Nat.le_refl _) hgrow)
        clear hown2 hgrow hat Y
        go_wp2_with fail
        go_roundw
        case rel => exact ⟨j + 1, by omega, by go_num, unhide R, unhide X2⟩
        case measure => simp [intOf]; omega
    · have OW := hide (unhide (cut_all hown (by omega)))
      obtain ⟨va, vq, hv⟩ := own_sl (unhide OW)
      subst hv
      have G1 := hide (prow_own (unhide HH) i hi r0 (l.eraseIdx k) va vq hbl (unhide OW))
      have d4 := hbl.keep (unhide C4)
      have d7 := hbl.keep (unhide P7)
      have hgr : g < wr.heap.size := cell_lt d4
      have hbr : bc < wr.heap.size := cell_lt d7
      have fc := (((unhide HH).ext hbl).rw.nc hn).1.2 (i * 8 + 7)
      have X1 := hide (show Ext a (wr.setCell ⟨bc, i * 8 + 7, none⟩ (.slice va (l.eraseIdx k).length vq)) from ((unhide XS).trans hbl).setCell (p := ⟨bc, i * 8 + 7, none⟩) (Nat.le_trans ha ((unhide HH).rw.nc hn).2) _)
      have ngc : ¬ g = bc := fun e => by have h1 := (unhide HH).sp.g; have h2 := (unhide HH).sp.c hn; rw [e] at h1; omega
      have ncg : ¬ bc = g := fun e => ngc e.symm
      have b1 := hbl.keep (unhide HH).bx.2.1
      have b7 := hbl.keep (unhide HH).bx.2.2.2.2.2.2.2.1
      have f1 := ((unhide HH).ext hbl).nf.2 1
      have f7 := ((unhide HH).ext hbl).nf.2 7
      have wu : wrap64 (x.used - 1) = x.used - 1 := wrap_wide _ (by omega) (by omega)
      have G2 := hide ((unhide G1).set1 (x.used - 1))
      have LO := hide (unhide HH).lo
      have FR := hide (((Fr2.of (g := g) (bc := bc) hbl).set ⟨bc, i * 8 + 7, none⟩ (.inr rfl) (.slice va (l.eraseIdx k).length vq)).set ⟨g, 1, none⟩ (.inl rfl) (iv (x.used - 1)))
      have X2 := hide ((unhide X1).setCell (p := ⟨g, 1, none⟩) (Nat.le_trans ha (unhide HH).lo) (iv (x.used - 1)))
      clear hown OW
      obtain ⟨z, hz⟩ : ∃ z : Hp, z = { ({ x with cells := x.cells.set i { x.c i with prs := l.eraseIdx k } } : Hp) with used := x.used - 1 } := ⟨_, rfl⟩
      have HZ := hide hz
      have SZ := hide (show scanI z = scanI x by rw [hz]; unfold scanI; simp)
      have ZS := hide (show z.sub = x.sub by rw [hz])
      have G2 := hide (show GK B ((wr.setCell ⟨bc, i * 8 + 7, none⟩ (.slice va (l.eraseIdx k).length vq)).setCell ⟨g, 1, none⟩ (iv (x.used - 1))) g z ar kr ac kc vg br bc by rw [hz]; exact unhide G2)
      clear hz
      by_cases hks : (k : Int) < x.sub
      · obtain ⟨pb2, pa2, pk2, role2, g2⟩ := unhide G2
        have QS := hide (l4scanned_any g2)
        rw [unhide SZ] at QS
        clear g2
        go_wp2_with fail
        refine (unhide QS).mono ?_
        rintro e w3 ⟨rfl, q3⟩
        have G3 := hide ((unhide G2).ext q3)
        have X3 := hide ((unhide X2).trans q3)
        have d1 : w3.cell? ⟨g, 7, none⟩ = some (iv x.sub) := by have := (unhide G3).ok.box; exact this.2.1.trans (by rw [unhide ZS])
        have d2 : w3.frozen? ⟨g, 7, none⟩ = false := by obtain ⟨_, _, _, _, g3⟩ := unhide G3; exact g3.nf.2 7
        have hg3 : g < w3.heap.size := cell_lt d1
        have ws : wrap64 (x.sub - 1) = x.sub - 1 := wrap_wide _ (by omega) (by omega)
        cases q : (scanI x == (i : Int))
        · have E := hide (show cutH x i k = z by rw [unhide HZ]; unfold cutH; rw [if_neg (fun h => by simp [h.2] at q), unhide HL])
          go_wp2_with fail
          go_end0
          exact ⟨rfl, by rw [unhide E]; exact unhide G3, (unhide FR).ext q3, unhide X3⟩
        · have E := hide (show cutH x i k = { z with sub := x.sub - 1 } by rw [unhide HZ]; unfold cutH; rw [if_pos ⟨hks, by simpa using q⟩, unhide HL])
          have G4 := hide ((unhide G3).set7 (x.sub - 1))
          have X4 := hide ((unhide X3).setCell (p := ⟨g, 7, none⟩) (Nat.le_trans ha (unhide LO)) (iv (x.sub - 1)))
          go_wp2_with fail
          go_end0
          exact ⟨rfl, by rw [unhide E]; exact unhide G4, ((unhide FR).ext q3).set ⟨g, 7, none⟩ (.inl rfl) _, unhide X4⟩
      · have E := hide (show cutH x i k = z by rw [unhide HZ]; unfold cutH; rw [if_neg (fun h => hks h.1), unhide HL])
        go_wp2_with fail
        go_end0
        exact ⟨rfl, by rw [unhide E]; exact unhide G2, unhide FR, unhide X2⟩
end Go.Proofs.YtddkhnclmeikfacGreat
