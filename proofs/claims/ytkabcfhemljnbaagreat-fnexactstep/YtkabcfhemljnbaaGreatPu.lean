import Derived.Test.YtkabcfhemljnbaaGreatEq
import Derived.Test.YtkabcfhemljnbaaGreatSq
import Derived.Test.YtkabcfhemljnbaaGreatLc
import Derived.Deep.QuietTactic
import Derived.Test.YtkabcfhemljnbaaGreatUn9
import Derived.Test.YtkabcfhemljnbaaGreatLj
namespace Go.Proofs.YtkabcfhemljnbaaGreat
open Go.RowKit
attribute [local go_sem ↓] Go.wp_at_zero Go.wp_at_succ

/-! A heap and a number: compared, marked, held. -/
def SBx (w : World) (B : Nat) (x : Hp) (k : Nat) (vr vc vg : Value) : Prop := HBox w B x vr vc vg ∧ w.cell? ⟨B, 13, none⟩ = some (iv k)
theorem SBx.ext {w w' : World} {B : Nat} {x : Hp} {k : Nat} {vr vc vg : Value} (h : SBx w B x k vr vc vg) (e : Ext w w') : SBx w' B x k vr vc vg := ⟨h.1.ext e, e.keep h.2⟩
theorem SBx.only {S : Nat → Prop} {w w' : World} {B : Nat} {x : Hp} {k : Nat} {vr vc vg : Value} (h : SBx w B x k vr vc vg) (e : Only S w w') (hs : ¬ S B) : SBx w' B x k vr vc vg := ⟨h.1.only e hs, (World.cell?_of_block (a := ⟨B, 13, none⟩) (e.block B (cell_lt h.2) hs)).trans h.2⟩
abbrev stpC (x : Hp) (k : Nat) (vr vc vg : Value) : Array Value := #[iv x.room, iv x.used, iv x.born, vr, vc, iv x.phase, iv x.hand, iv x.sub, vg, iv x.per, iv x.start, iv x.rounds, iv x.forced, iv k]
theorem SBx.new (w : World) (x : Hp) (k : Nat) (vr vc vg : Value) (t : TypeId) : SBx (w.alloc (.cells (stpC x k vr vc vg) t)) w.heap.size x k vr vc vg := by
  refine ⟨⟨?_, ?_, ?_, ?_, ?_, ?_, ?_, ?_, ?_, ?_, ?_, ?_, ?_⟩, ?_⟩ <;> simp [go_sem]
set_option maxRecDepth 100000 in
set_option maxHeartbeats 600000 in
theorem eqStepped_same (x : Hp) (k : Nat) (vr vc vg vr2 vc2 vg2 : Value) (w : World) (h1 : SlW w vr x.regs) (h2 : SlW w vr2 x.regs) (h3 : SlC w vc x.cells) (h4 : SlC w vc2 x.cells) (h5 : SlI w vg x.gray) (h6 : SlI w vg2 x.gray) :
    Calls Tryz.prog 37 #[stpV x k vr vc vg, stpV x k vr2 vc2 vg2] w fun e w' => e = .returned (.bool true) ∧ Ext w w' := by
  have xa := ((Ext.refl w).alloc (.cells (stpC x k vr vc vg) 50)).alloc (.cells (stpC x k vr2 vc2 vg2) 50)
  have Q := hide (eqHeap_same x vr vc vg vr2 vc2 vg2 _ (SlW.ext xa h1) (SlW.ext xa h2) (SlC.ext xa h3) (SlC.ext xa h4) (SlI.ext xa h5) (SlI.ext xa h6))
  have hk : ((k : Int) != (k : Int)) = false := by simp
  have XA := hide xa
  clear h1 h2 h3 h4 h5 h6 xa
  go_enter Tryz.func37, Tryz.ntmps37
  go_wp2_with fail
  refine (unhide Q).mono ?_
  rintro e w1 ⟨rfl, q1⟩
  have u13 : w1.cell? ⟨w.heap.size, 13, none⟩ = some (iv k) := q1.keep (by simp [go_sem])
  have v13 : w1.cell? ⟨w.heap.size + 1, 13, none⟩ = some (iv k) := q1.keep (by simp [go_sem])
  clear Q
  go_wp2_with fail
  go_ret
  exact ⟨rfl, (unhide XA).trans q1⟩
set_option maxRecDepth 100000 in
set_option maxHeartbeats 600000 in
theorem markStep {B U : Nat} {w : World} {y : Hp} {k : Nat} {ar : Option Addr} {kr : Nat} {ac : Option Addr} {kc : Nat} {ag : Option Addr} {kg : Nat} (h : HA B U w y ar kr ac kc ag kg) (hU : U ≤ w.heap.size) :
    Calls Tryz.prog 38 #[stpV y k (.slice ar y.regs.length kr) (.slice ac y.cells.length kc) (.slice ag y.gray.length kg), .int .i64 1] w fun e w' => ∃ m, e = .returned (.int .i64 m) ∧ HAm w' y ar kr ac kc ag kg m ∧ ∃ w1, Ext w w1 ∧ Only (fun q => B ≤ q ∧ q < U) w1 w' := by
  have xa := (Ext.refl w).alloc (.cells (stpC y k (.slice ar y.regs.length kr) (.slice ac y.cells.length kc) (.slice ag y.gray.length kg)) 50)
  have Q := hide (markHA (h.ext xa) (by simp; omega))
  have XA := hide xa
  clear h xa
  go_enter Tryz.func38, Tryz.ntmps38
  go_wp2_with fail
  refine (unhide Q).mono ?_
  rintro e w1 ⟨m, rfl, hm, w0, hx, ho⟩
  have R := hide (And.intro hm (show ∃ w1', Ext w w1' ∧ Only (fun q => B ≤ q ∧ q < U) w1' w1 from ⟨w0, (unhide XA).trans hx, ho⟩))
  clear hm hx ho Q
  go_wp2_with fail
  go_ret
  exact ⟨m, rfl, (unhide R).1, (unhide R).2⟩
set_option maxRecDepth 100000 in
set_option maxHeartbeats 600000 in
theorem heldStep {w : World} {y : Hp} {k : Nat} {ar : Option Addr} {kr : Nat} {ac : Option Addr} {kc : Nat} {ag : Option Addr} {kg : Nat} {m : Int} (h : HAm w y ar kr ac kc ag kg m) :
    Calls Tryz.prog 39 #[stpV y k (.slice ar y.regs.length kr) (.slice ac y.cells.length kc) (.slice ag y.gray.length kg), .int .i64 1] w fun e w' => e = .returned (.int .i64 m) ∧ Ext w w' := by
  have xa := (Ext.refl w).alloc (.cells (stpC y k (.slice ar y.regs.length kr) (.slice ac y.cells.length kc) (.slice ag y.gray.length kg)) 50)
  have Q := hide (heldHA (h.ext xa))
  have XA := hide xa
  have hm0 : ¬ m < 0 := by have := h.nn; omega
  clear h xa
  go_enter Tryz.func39, Tryz.ntmps39
  go_wp2_with fail
  refine (unhide Q).mono ?_
  rintro e w1 ⟨rfl, q1⟩
  clear Q
  go_wp2_with fail
  go_ret
  exact ⟨rfl, (unhide XA).trans q1⟩
end Go.Proofs.YtkabcfhemljnbaaGreat

namespace Go.Proofs.YtkabcfhemljnbaaGreat
open Go.RowKit
attribute [local go_sem ↓] Go.wp_at_zero Go.wp_at_succ

/-! The program's rounds: the parts of a unit. -/
/-- the part of a round that is on, as a value -/
def nowV (p : Int) (b : Nat) : Value := if p = 1 then .iface 193 (.agg #[.pointer (some ⟨b, 0, none⟩)]) else if p = 2 then .iface 194 (.agg #[.pointer (some ⟨b, 0, none⟩)]) else if p = 3 then .iface 195 (.agg #[.pointer (some ⟨b, 0, none⟩)]) else if p = 4 then .iface 196 (.agg #[.pointer (some ⟨b, 0, none⟩)]) else if p = 5 then .iface 197 (.agg #[.pointer (some ⟨b, 0, none⟩)]) else if p = 6 then .iface 198 (.agg #[.pointer (some ⟨b, 0, none⟩)]) else .nilIface
theorem now_any (p : Int) (b : Nat) (w : World) (c5 : w.cell? ⟨b, 5, none⟩ = some (iv p)) (hp : 0 ≤ p ∧ p ≤ 6) :
    Calls Tryz.prog 171 #[.pointer (some ⟨b, 0, none⟩)] w fun e w' => e = .returned (nowV p b) ∧ w' = w := by
  have h : p = 0 ∨ p = 1 ∨ p = 2 ∨ p = 3 ∨ p = 4 ∨ p = 5 ∨ p = 6 := by omega
  clear hp
  rcases h with rfl | rfl | rfl | rfl | rfl | rfl | rfl
  all_goals
    go_enter Tryz.func171, Tryz.ntmps171
    go_wp2_with fail
    go_ret
    exact ⟨rfl, rfl⟩
theorem atHand_none (hd : Int) (b n kn : Nat) (an : Option Addr) (w : World) (c6 : w.cell? ⟨b, 6, none⟩ = some (iv hd)) (c13 : w.cell? ⟨b, 13, none⟩ = some (.slice an n kn)) (h : (hd == (n : Int)) = true) :
    Calls Tryz.prog 232 #[.pointer (some ⟨b, 0, none⟩)] w fun e w' => e = .returned (.pointer none) ∧ Ext w w' := by
  go_enter Tryz.func232, Tryz.ntmps232
  go_wp2_with fail
  go_quiet (fail)
  go_wp2_with fail
  go_ret
  exact ⟨rfl, (Ext.refl _).drewN _⟩
theorem atHand_some (b n kn bn i : Nat) (w : World) (c6 : w.cell? ⟨b, 6, none⟩ = some (iv i)) (c13 : w.cell? ⟨b, 13, none⟩ = some (.slice (some ⟨bn, 0, none⟩) n kn)) (hi : i < n) :
    Calls Tryz.prog 232 #[.pointer (some ⟨b, 0, none⟩)] w fun e w' => e = .returned (ndp bn i) ∧ Ext w w' := by
  have h : ((i : Int) == (n : Int)) = false := by simp; omega
  have i0 : (0:Int) ≤ (i:Int) := by omega
  have i1 : (i:Int) < (n:Int) := by omega
  go_enter Tryz.func232, Tryz.ntmps232
  go_wp2_with fail
  go_quiet (fail)
  obtain ⟨m1, rfl⟩ : ∃ m, m = nq := ⟨_, rfl⟩
  go_wp2_with fail
  go_quiet (fail)
  go_wp2_with fail
  go_ret
  exact ⟨rfl, ((Ext.refl _).drewN _).drewN _⟩
end Go.Proofs.YtkabcfhemljnbaaGreat

namespace Go.Proofs.YtkabcfhemljnbaaGreat
open Go.RowKit
attribute [local go_sem ↓] Go.wp_at_zero Go.wp_at_succ

/-! The store in the midst of a round. -/
/-- a number of the box has turned -/
theorem SAt.boxed {B : Nat} {w w' : World} {b : Nat} {x x' : Hp} {ar : Option Addr} {kr : Nat} {v4 v8 : Value} {br bc bn : Nat} {pb : Nat → Nat} {pa : Nat → Option Addr} {pk : Nat → Nat} {kn hd : Nat} {vf : Value} {F : List Int} {vk : Value} {K : List Nat} {role : Nat → Nat} (h : SAt B w b x ar kr v4 v8 br bc bn pb pa pk kn hd vf F vk K role) (o : Only (fun q => q = b) w w') (nf : Nf1 b w') (hr : x'.regs = x.regs) (hc : x'.cells = x.cells) (hg : x'.gray = x.gray) (bx : HBox w' b x' (.slice ar x.regs.length kr) v4 v8) (c : ∀ k, 13 ≤ k → w'.cell? ⟨b, k, none⟩ = w.cell? ⟨b, k, none⟩) :
    SAt B w' b x' ar kr v4 v8 br bc bn pb pa pk kn hd vf F vk K role := by
  have far : ∀ q, q < w.heap.size → role q ≠ 0 → w'.heap[q]? = w.heap[q]? := fun q hq hn => o.block q hq (fun e => hn (by rw [e]; exact h.sp.b))
  have fn := far bn h.sb.lo.2.2 (by rw [h.sp.n]; omega)
  have cc : ∀ q, x'.c q = x.c q := fun q => by simp only [Hp.c, hc]
  have rw2 := h.rw.same o.size (fun hl => far br (h.rw.nr hl).1.1 (by rw [h.sp.r hl]; omega)) (fun hl => far bc (h.rw.nc hl).1.1 (by rw [h.sp.c hl]; omega)) (fun q hq hl => far (pb q) (h.rw.pl q hq hl).2.1.1 (by rw [h.sp.p q hq hl]; omega))
  refine ⟨⟨by rw [hr]; exact bx, by rw [hr]; exact h.sb.ha, by rw [hc]; exact (c 13 (by omega)).trans h.sb.n13, fun k hk => ?_, ⟨(c 14 (by omega)).trans h.sb.fr.hd, nf.2 14, ownsRow_of_block h.sb.fr.own (fun q hq => far q (h.sb.fr.own.lt q hq).2 (by rw [h.sp.f q hq]; omega)), h.sb.fr.apart⟩, ?_, (c 4017 (by omega)).trans h.sb.k0, ownsRow_of_block h.sb.kp (fun q hq => far q (h.sb.kp.lt q hq).2 (by rw [h.sp.k q hq]; omega)), nf, ⟨h.sb.lo.1, h.sb.lo.2.1, Nat.lt_of_lt_of_le h.sb.lo.2.2 o.size⟩⟩, ?_, ?_⟩
  · rw [hc] at hk
    exact ⟨(World.cell?_of_block (a := ⟨bn, _, none⟩) fn).trans (h.sb.nd k hk).1, (World.cell?_of_block (a := ⟨bn, _, none⟩) fn).trans (h.sb.nd k hk).2⟩
  · rw [hg]; exact h.sb.rg.of fun o h1 _ => c o (by omega)
  · refine ⟨fun i hi => ?_, fun q hq => ?_, fun q hq => ?_, fun q hq k hk => ?_, fun q hq hl => ?_, ?_, ?_, ?_, fun q q' hq hq' hne h1 h2 => ?_⟩
    · have hi2 : i < x.regs.length := by rw [← hr]; exact hi
      have e2 : x'.regs[i] = x.regs[i] := by simp [hr]
      rw [e2]; exact rw2.r i hi2
    · rw [hc] at hq; rw [cc]; exact rw2.s q hq
    · rw [hc] at hq; rw [cc]; exact rw2.p7 q hq
    · rw [hc] at hq; rw [cc] at hk ⊢; exact rw2.p q hq k hk
    · rw [hc] at hq; rw [cc] at hl; exact rw2.pl q hq hl
    · rw [hr]; exact rw2.nr
    · rw [hc]; exact rw2.nc
    · rw [hc]; exact rw2.d
    · rw [hc] at hq hq'; rw [cc] at h1 h2; exact rw2.dp q q' hq hq' hne h1 h2
  · refine ⟨h.sp.b, h.sp.n, by rw [hr]; exact h.sp.r, by rw [hc]; exact h.sp.c, h.sp.f, h.sp.k, fun q hq hl => ?_⟩
    rw [hc] at hq; rw [cc] at hl; exact h.sp.p q hq hl
/-- how many places may still become free till the round's end -/
def remU (x : Hp) : Nat := if x.phase = 1 ∨ x.phase = 2 then 16000 else if x.phase = 3 then 8000 + (x.cells.length - x.hand.toNat) else if x.phase = 4 ∨ x.phase = 5 then 8000 else if x.phase = 6 then x.hand.toNat else 0
/-- what the free places and the kept cells have to do with the heap -/
structure SInv (C : Nat) (x : Hp) (F : List Int) (K : List Nat) : Prop where
  ho : Ho F
  al : ∀ i, i < x.cells.length → (x.c i).st = 0 → (i : Int) ∈ F
  nn : ∀ v, v ∈ F → 0 ≤ v
  le : F.length + remU x ≤ C
  k3 : x.phase = 3 → K = (List.range x.hand.toNat).filter (fun i => (x.c i).st == 1)
  k4 : x.phase = 4 → K.Pairwise (· < ·) ∧ (∀ i, i ∈ K → i < x.cells.length ∧ (x.c i).st = 1) ∧ ∀ i, i < x.cells.length → (x.c i).st = 1 → i ∉ K → ∀ j, j < x.cells.length → (x.c j).st = 0 → i < j
  k0 : x.phase ≠ 3 → x.phase ≠ 4 → K = []
/-- the store behind a pointer -/
def SOk (C B : Nat) (w : World) (b : Nat) (x : Hp) : Prop := ∃ ar kr v4 v8 br bc bn pb pa pk kn hd vf F vk K role, SAt B w b x ar kr v4 v8 br bc bn pb pa pk kn hd vf F vk K role ∧ SInv C x F K
theorem SOk.ext {C B : Nat} {w w' : World} {b : Nat} {x : Hp} (h : SOk C B w b x) (e : Ext w w') : SOk C B w' b x := by
  obtain ⟨ar, kr, v4, v8, br, bc, bn, pb, pa, pk, kn, hd, vf, F, vk, K, role, h, i⟩ := h
  exact ⟨ar, kr, v4, v8, br, bc, bn, pb, pa, pk, kn, hd, vf, F, vk, K, role, h.ext e, i⟩
end Go.Proofs.YtkabcfhemljnbaaGreat

namespace Go.Proofs.YtkabcfhemljnbaaGreat
open Go.RowKit

/-! What the free places and the kept cells have to do with the heap, behind each unit (mathematics alone). -/
def SameSt (x z : Hp) : Prop := z.cells.length = x.cells.length ∧ ∀ q, (z.c q).st = (x.c q).st
theorem SameSt.refl (x : Hp) : SameSt x x := ⟨rfl, fun _ => rfl⟩
theorem SameSt.trans {x y z : Hp} (h : SameSt x y) (k : SameSt y z) : SameSt x z := ⟨k.1.trans h.1, fun q => (k.2 q).trans (h.2 q)⟩
theorem SameSt.set (x : Hp) (i : Nat) (c : Cl) (hc : c.st = (x.c i).st) {z : Hp} (hz : z.cells = x.cells.set i c) : SameSt x z := by
  refine ⟨by rw [hz]; simp, fun q => ?_⟩
  have e : z.c q = ({ x with cells := x.cells.set i c } : Hp).c q := by simp only [Hp.c, hz]
  rw [e]
  rcases Nat.lt_or_ge i x.cells.length with hi | hi
  · rw [Hp.c_set x i c hi q]
    by_cases h : q = i
    · rw [if_pos h, h]; exact hc
    · rw [if_neg h]
  · rw [List.set_eq_of_length_le hi]
theorem SameSt.cells {x z : Hp} (hz : z.cells = x.cells) : SameSt x z := ⟨by rw [hz], fun q => by simp only [Hp.c, hz]⟩
theorem same_shade (x : Hp) (i : Nat) : SameSt x (shadeH x i) := by
  unfold shadeH
  split
  · exact SameSt.set x i (grayC (x.c i)) rfl rfl
  · exact SameSt.refl x
theorem same_shadeW (x : Hp) (y : Wd) : SameSt x (shadeW x y) := by
  unfold shadeW
  split
  · exact same_shade x _
  · exact SameSt.refl x
theorem same_fold : ∀ (ys : List Wd) (z : Hp), SameSt z (ys.foldl shadeW z) ∧ (ys.foldl shadeW z).phase = z.phase
  | [], z => ⟨SameSt.refl z, rfl⟩
  | y :: ys, z => by
    obtain ⟨a, b⟩ := same_fold ys (shadeW z y)
    exact ⟨(same_shadeW z y).trans a, b.trans (shadeW_same z y).2.2.1⟩
theorem remU_12 {x : Hp} (h : x.phase = 1 ∨ x.phase = 2) : remU x = 16000 := by unfold remU; rw [if_pos h]
theorem remU_3 {x : Hp} (h : x.phase = 3) : remU x = 8000 + (x.cells.length - x.hand.toNat) := by unfold remU; rw [if_neg (by omega), if_pos h]
theorem remU_45 {x : Hp} (h : x.phase = 4 ∨ x.phase = 5) : remU x = 8000 := by unfold remU; rw [if_neg (by omega), if_neg (by omega), if_pos h]
theorem remU_6 {x : Hp} (h : x.phase = 6) : remU x = x.hand.toNat := by unfold remU; rw [if_neg (by omega), if_neg (by omega), if_neg (by omega), if_pos h]
theorem remU_0 {x : Hp} (h : x.phase = 0) : remU x = 0 := by unfold remU; rw [if_neg (by omega), if_neg (by omega), if_neg (by omega), if_neg (by omega)]
theorem SInv.same {C : Nat} {x : Hp} {F : List Int} {K : List Nat} (h : SInv C x F K) {z : Hp} (hs : SameSt x z) (hp : x.phase ≠ 3 ∧ x.phase ≠ 4) (hr : remU z ≤ remU x) (h4 : z.phase ≠ 4) (h3 : z.phase = 3 → z.hand = 0) : SInv C z F K where
  ho := h.ho
  al := fun i hi h0 => h.al i (by rw [← hs.1]; exact hi) (by rw [← hs.2]; exact h0)
  nn := h.nn
  le := by have := h.le; omega
  k3 := fun e => by rw [h.k0 hp.1 hp.2, h3 e]; rfl
  k4 := fun e => absurd e h4
  k0 := fun _ _ => h.k0 hp.1 hp.2
theorem inv1 {C : Nat} {x : Hp} {F : List Int} {K : List Nat} (h : SInv C x F K) (hp : x.phase = 1) : SInv C (unit1 x) F K := by
  have hr := remU_12 (.inl hp)
  have key : ∀ z : Hp, SameSt x z → z.phase = 1 → SInv C z F K := fun z hs hz => h.same hs ⟨by omega, by omega⟩ (by rw [hr, remU_12 (.inl hz)]; omega) (by omega) (fun e => by omega)
  unfold unit1
  split
  · refine h.same (z := toPh x 2 0) (SameSt.cells rfl) ⟨by omega, by omega⟩ ?_ (by simp [toPh]) (by simp [toPh])
    rw [hr, remU_12 (.inr rfl)]; omega
  · by_cases e : spkB (x.c x.hand.toNat) = true
    · simp only [if_pos e]
      exact key _ ((same_shade x x.hand.toNat).trans (SameSt.cells rfl)) ((shade_same x _).2.2.2.2.2.1.trans hp)
    · simp only [if_neg e]
      exact key _ (SameSt.cells rfl) hp
theorem inv2 {C : Nat} {x : Hp} {F : List Int} {K : List Nat} (h : SInv C x F K) (hp : x.phase = 2) (n8 : x.cells.length ≤ 8000) : SInv C (unit2 x) F K := by
  have hr := remU_12 (.inr hp)
  have key : ∀ z : Hp, SameSt x z → z.phase = 2 → SInv C z F K := fun z hs hz => h.same hs ⟨by omega, by omega⟩ (by rw [hr, remU_12 (.inr hz)]; omega) (by omega) (fun e => by omega)
  unfold unit2
  split
  · rename_i g G hg
    split
    · refine key _ (((same_shadeW x _).trans (same_shadeW _ _)).trans (SameSt.cells rfl)) ?_
      exact (shadeW_same _ _).2.2.1.trans ((shadeW_same _ _).2.2.1.trans hp)
    · exact key _ (SameSt.set x g.toNat (blackC (x.c g.toNat)) rfl rfl) hp
  · obtain ⟨a, b⟩ := same_fold x.regs x
    have len : (lookH x).cells.length ≤ 8000 := by have := a.1; unfold lookH; omega
    split
    · refine h.same (a.trans (SameSt.cells rfl)) ⟨by omega, by omega⟩ ?_ (by simp [toPh]) (by simp [toPh])
      rw [hr, remU_3 rfl]
      simp only [toPh]
      omega
    · exact key _ a (b.trans hp)
theorem inv5 {C : Nat} {x : Hp} {F : List Int} {K : List Nat} (h : SInv C x F K) (hp : x.phase = 5) (n8 : x.cells.length ≤ 8000) : SInv C (unit5 x) F K := by
  have hr := remU_45 (.inr hp)
  have key : ∀ z : Hp, SameSt x z → z.phase = 5 → SInv C z F K := fun z hs hz => h.same hs ⟨by omega, by omega⟩ (by rw [hr, remU_45 (.inr hz)]; omega) (by omega) (fun e => by omega)
  unfold unit5
  split
  · refine h.same (z := toPh x 6 x.cells.length) (SameSt.cells rfl) ⟨by omega, by omega⟩ ?_ (by simp [toPh]) (by simp [toPh])
    rw [hr, remU_6 rfl]
    simp [toPh]; exact n8
  · split
    · exact key _ (SameSt.set x x.hand.toNat (mendC x (x.c x.hand.toNat) x.sub.toNat) rfl rfl) hp
    · exact key _ (SameSt.cells rfl) hp
theorem filt_same {x z : Hp} (n : Nat) (hs : ∀ q, q < n → (z.c q).st = (x.c q).st) : (List.range n).filter (fun i => (z.c i).st == 1) = (List.range n).filter (fun i => (x.c i).st == 1) := by
  refine List.filter_congr fun q hq => ?_
  rw [hs q (List.mem_range.1 hq)]
theorem filt_succ (x : Hp) (n : Nat) : (List.range (n + 1)).filter (fun i => (x.c i).st == 1) = (List.range n).filter (fun i => (x.c i).st == 1) ++ if (x.c n).st = 1 then [n] else [] := by
  rw [List.range_succ, List.filter_append]
  congr 1
  by_cases e : (x.c n).st = 1
  · simp [e]
  · simp [e]
/-- the sweep's end -/
theorem inv3_end {C : Nat} {x : Hp} {F : List Int} {K : List Nat} (h : SInv C x F K) (hp : x.phase = 3) (he : x.hand = x.cells.length) : SInv C (toPh x 4 0) F K where
  ho := h.ho
  al := h.al
  nn := h.nn
  le := by have := h.le; rw [remU_3 hp] at this; rw [remU_45 (.inl rfl)]; omega
  k3 := fun e => by simp [toPh] at e
  k4 := fun _ => by
    have k := h.k3 hp
    have e : x.hand.toNat = x.cells.length := by omega
    rw [e] at k
    refine ⟨?_, fun i hi => ?_, fun i hi h1 hn => ?_⟩
    · rw [k]; exact List.pairwise_lt_range.filter _
    · rw [k] at hi
      obtain ⟨a, b⟩ := List.mem_filter.1 hi
      exact ⟨List.mem_range.1 a, show (x.c i).st = 1 by simpa using b⟩
    · rw [k] at hn
      exact absurd (List.mem_filter.2 ⟨List.mem_range.2 hi, by simpa using (show (x.c i).st = 1 from h1)⟩) hn
  k0 := fun _ e => by simp [toPh] at e
/-- the sweep leaves a cell -/
theorem inv3_step {C : Nat} {x z : Hp} {F F' : List Int} {K : List Nat} (h : SInv C x F K) (hp : x.phase = 3) (hz : z.phase = 3) (i : Nat) (hi : x.hand = (i : Int)) (hin : i < x.cells.length) (hzi : z.hand = (i : Int) + 1) (hl : z.cells.length = x.cells.length) (hs : ∀ q, q ≠ i → (z.c q).st = (x.c q).st) (ho : Ho F') (hf : (F' = F ∧ ((z.c i).st = 0 → (x.c i).st = 0)) ∨ F'.Perm ((i : Int) :: F)) : SInv C z F' (K ++ if (z.c i).st = 1 then [i] else []) where
  ho := ho
  al := fun q hq h0 => by
    rw [hl] at hq
    rcases hf with ⟨e, e2⟩ | e
    · rw [e]
      refine h.al q hq ?_
      by_cases c : q = i
      · rw [c] at h0 ⊢; exact e2 h0
      · rw [← hs q c]; exact h0
    · refine e.mem_iff.2 ?_
      by_cases c : q = i
      · rw [c]; exact List.mem_cons_self
      · exact List.mem_cons_of_mem _ (h.al q hq (by rw [← hs q c]; exact h0))
  nn := fun v hv => by
    rcases hf with ⟨e, _⟩ | e
    · rw [e] at hv; exact h.nn v hv
    · rcases List.mem_cons.1 (e.mem_iff.1 hv) with e2 | e2
      · omega
      · exact h.nn v e2
  le := by
    have h1 := h.le
    rw [remU_3 hp] at h1
    rw [remU_3 hz]
    have : F'.length ≤ F.length + 1 := by
      rcases hf with ⟨e, _⟩ | e
      · rw [e]; omega
      · have := e.length_eq; simp at this; omega
    omega
  k3 := fun _ => by
    have e : z.hand.toNat = i + 1 := by omega
    have e2 : x.hand.toNat = i := by omega
    rw [e, filt_succ, filt_same i (fun q hq => hs q (by omega)), h.k3 hp, e2]
  k4 := fun e => by omega
  k0 := fun e => absurd hz e
theorem inv6_end {C : Nat} {x : Hp} {F : List Int} {K : List Nat} (h : SInv C x F K) (hp : x.phase = 6) {z : Hp} (hz : z.phase = 0) (hc : z.cells = x.cells) : SInv C z F K :=
  h.same (SameSt.cells hc) ⟨by omega, by omega⟩ (by rw [remU_0 hz]; omega) (by omega) (fun e => by omega)
theorem inv6_cell {C : Nat} {x z : Hp} {F F' : List Int} {K : List Nat} (h : SInv C x F K) (hp : x.phase = 6) (hz : z.phase = 6) (i : Nat) (hi : x.hand = (i : Int) + 1) (hzi : z.hand = (i : Int)) (hl : z.cells.length ≤ x.cells.length) (hs : ∀ q, q < z.cells.length → q ≠ i → (z.c q).st = (x.c q).st) (ho : Ho F') (hf : (F' = F ∧ (i < z.cells.length → (z.c i).st = 0 → (x.c i).st = 0)) ∨ F'.Perm ((i : Int) :: F)) : SInv C z F' K where
  ho := ho
  al := fun q hq h0 => by
    rcases hf with ⟨e, e2⟩ | e
    · rw [e]
      refine h.al q (by omega) ?_
      by_cases c : q = i
      · rw [c] at h0 ⊢; exact e2 (by omega) h0
      · rw [← hs q hq c]; exact h0
    · refine e.mem_iff.2 ?_
      by_cases c : q = i
      · rw [c]; exact List.mem_cons_self
      · exact List.mem_cons_of_mem _ (h.al q (by omega) (by rw [← hs q hq c]; exact h0))
  nn := fun v hv => by
    rcases hf with ⟨e, _⟩ | e
    · rw [e] at hv; exact h.nn v hv
    · rcases List.mem_cons.1 (e.mem_iff.1 hv) with e2 | e2
      · omega
      · exact h.nn v e2
  le := by
    have h1 := h.le
    rw [remU_6 hp] at h1
    rw [remU_6 hz]
    have : F'.length ≤ F.length + 1 := by
      rcases hf with ⟨e, _⟩ | e
      · rw [e]; omega
      · have := e.length_eq; simp at this; omega
    omega
  k3 := fun e => by omega
  k4 := fun e => by omega
  k0 := fun _ _ => h.k0 (by omega) (by omega)
/-- a round begins -/
theorem inv0 {C : Nat} {x : Hp} {F : List Int} {K : List Nat} (h : SInv C x F K) (hp : x.phase = 0) : SInv (C + 16000) (toPh x 1 0) F K where
  ho := h.ho
  al := h.al
  nn := h.nn
  le := by have := h.le; rw [remU_12 (.inl rfl)]; omega
  k3 := fun e => by simp [toPh] at e
  k4 := fun e => by simp [toPh] at e
  k0 := fun _ _ => h.k0 (by omega) (by omega)
theorem SInv.wide {C D : Nat} {x : Hp} {F : List Int} {K : List Nat} (h : SInv C x F K) (hd : C ≤ D) : SInv D x F K := ⟨h.ho, h.al, h.nn, Nat.le_trans h.le hd, h.k3, h.k4, h.k0⟩
end Go.Proofs.YtkabcfhemljnbaaGreat

namespace Go.Proofs.YtkabcfhemljnbaaGreat
open Go.RowKit

/-! What turns in the store's memory: cells wiped and moved. -/
/-- the row of cells has turned; each row of pairs is one that was: of place 'so q' -/
theorem SAt.turned {B : Nat} {w w' : World} {b : Nat} {x : Hp} {ar : Option Addr} {kr : Nat} {v4 v8 : Value} {br bc bn : Nat} {pb : Nat → Nat} {pa : Nat → Option Addr} {pk : Nat → Nat} {kn hd : Nat} {vf : Value} {F : List Int} {vk : Value} {K : List Nat} {role : Nat → Nat} (h : SAt B w b x ar kr v4 v8 br bc bn pb pa pk kn hd vf F vk K role) (cs : List Cl) (hl : cs.length = x.cells.length) (so : Nat → Nat) (pa' : Nat → Option Addr) (pk' : Nat → Nat) (role' : Nat → Nat) (hn : 0 < x.cells.length)
    (o : Only (fun q => q = bc) w w') (nf : Nf1 bc w')
    (hs : ∀ q, q < x.cells.length → S7 w' bc (q * 8) (({ x with cells := cs } : Hp).c q))
    (h7 : ∀ q, q < x.cells.length → w'.cell? ⟨bc, q * 8 + 7, none⟩ = some (.slice (pa' q) (({ x with cells := cs } : Hp).c q).prs.length (pk' q)))
    (hso : ∀ q, q < x.cells.length → 0 < (({ x with cells := cs } : Hp).c q).prs.length → so q < x.cells.length ∧ (x.c (so q)).prs = (({ x with cells := cs } : Hp).c q).prs ∧ pa' q = pa (so q) ∧ role' (pb (so q)) = 6 + q)
    (hro : ∀ q, role q < 6 → role' q = role q) :
    SAt B w' b { x with cells := cs } ar kr v4 v8 br bc bn (fun q => pb (so q)) pa' pk' kn hd vf F vk K role' := by
  have far : ∀ q, q < w.heap.size → role q ≠ 3 → w'.heap[q]? = w.heap[q]? := fun q hq hr => o.block q hq (fun e => hr (by rw [e]; exact h.sp.c hn))
  have hl' : ({ x with cells := cs } : Hp).cells.length = x.cells.length := hl
  have pf : ∀ q, q < x.cells.length → 0 < (x.c q).prs.length → w'.heap[pb q]? = w.heap[pb q]? := fun q hq hl => far (pb q) (h.rw.pl q hq hl).2.1.1 (by rw [h.sp.p q hq hl]; omega)
  have sb2 := h.sb.same o.size (far b h.sb.nb.1 (by rw [h.sp.b]; omega)) (far bn h.sb.lo.2.2 (by rw [h.sp.n]; omega)) (fun q hq => far q (h.sb.fr.own.lt q hq).2 (by rw [h.sp.f q hq]; omega)) (fun q hq => far q (h.sb.kp.lt q hq).2 (by rw [h.sp.k q hq]; omega))
  refine ⟨⟨sb2.bx, sb2.ha, by rw [hl']; exact sb2.n13, fun k hk => sb2.nd k (by rw [hl'] at hk; exact hk), sb2.fr, sb2.rg, sb2.k0, sb2.kp, sb2.nb, sb2.lo⟩, ⟨fun k hk => ?_, fun q hq => ?_, fun q hq => ?_, fun q hq k hk => ?_, fun q hq hlq => ?_, fun hr => ⟨nf1_block (h.rw.nr hr).1 (far br (h.rw.nr hr).1.1 (by rw [h.sp.r hr]; omega)) o.size, (h.rw.nr hr).2⟩, fun _ => ⟨nf, (h.rw.nc hn).2⟩, fun _ => h.rw.d hn, fun q q' hq hq' hne h1 h2 => ?_⟩, ⟨?_, ?_, fun hr => ?_, fun _ => ?_, fun q hq => ?_, fun q hq => ?_, fun q hq hlq => ?_⟩⟩
  · exact (h.rw.r k hk).of fun j _ => World.cell?_of_block (a := ⟨br, _, none⟩) (far br (h.rw.nr (by have : k < x.regs.length := hk; omega)).1.1 (by rw [h.sp.r (by have : k < x.regs.length := hk; omega)]; omega))
  · rw [hl'] at hq; exact hs q hq
  · rw [hl'] at hq; exact h7 q hq
  · rw [hl'] at hq
    obtain ⟨a1, a2, _⟩ := hso q hq (by omega)
    have e2 : (({ x with cells := cs } : Hp).c q).p k = (x.c (so q)).p k := by simp only [Cl.p, a2]
    rw [← a2] at hk
    rw [e2]
    exact (h.rw.p (so q) a1 k hk).of fun j _ => World.cell?_of_block (a := ⟨pb (so q), _, none⟩) (pf (so q) a1 (by omega))
  · rw [hl'] at hq
    obtain ⟨a1, a2, a3, _⟩ := hso q hq hlq
    rw [← a2] at hlq
    obtain ⟨b1, b2, b3⟩ := h.rw.pl (so q) a1 hlq
    exact ⟨a3.trans b1, nf1_block b2 (pf (so q) a1 hlq) o.size, b3⟩
  · rw [hl'] at hq hq'
    intro e
    have r1 := (hso q hq h1).2.2.2
    have r2 := (hso q' hq' h2).2.2.2
    have e' : pb (so q) = pb (so q') := e
    rw [e', r2] at r1
    omega
  · rw [hro b (by rw [h.sp.b]; omega)]; exact h.sp.b
  · rw [hro bn (by rw [h.sp.n]; omega)]; exact h.sp.n
  · have := h.sp.r hr
    rw [hro br (by omega)]; exact this
  · have := h.sp.c hn
    rw [hro bc (by omega)]; exact this
  · have := h.sp.f q hq
    rw [hro q (by omega)]; exact this
  · have := h.sp.k q hq
    rw [hro q (by omega)]; exact this
  · rw [hl'] at hq
    exact (hso q hq hlq).2.2.2
/-- one cell is wiped -/
theorem SAt.wiped {B : Nat} {w : World} {b : Nat} {x : Hp} {ar : Option Addr} {kr : Nat} {v4 v8 : Value} {br bc bn : Nat} {pb : Nat → Nat} {pa : Nat → Option Addr} {pk : Nat → Nat} {kn hd : Nat} {vf : Value} {F : List Int} {vk : Value} {K : List Nat} {role : Nat → Nat} (h : SAt B w b x ar kr v4 v8 br bc bn pb pa pk kn hd vf F vk K role) (i : Nat) (hi : i < x.cells.length) (st tt : Int) :
    SAt B (wipeW w bc (i * 8) st tt) b { x with cells := x.cells.set i ⟨st, 0, 0, 0, 0, 0, tt, []⟩ } ar kr v4 v8 br bc bn pb (fun q => if q = i then none else pa q) (fun q => if q = i then 0 else pk q) kn hd vf F vk K role := by
  have hc := Hp.c_set x i ⟨st, 0, 0, 0, 0, 0, tt, []⟩ hi
  obtain ⟨k1, k2⟩ := wipe_same w bc (i * 8) st tt _ _ (h.rw.s i hi) (h.rw.p7 i hi)
  have ho := wipe_other w bc (i * 8) st tt
  refine h.turned (x.cells.set i ⟨st, 0, 0, 0, 0, 0, tt, []⟩) (by simp) (fun q => q) _ _ role (by omega) (wipe_only _ _ _ _ _) (wipe_nf (h.rw.nc (by omega)).1 _ _ _) (fun q hq => ?_) (fun q hq => ?_) (fun q hq hl => ?_) (fun _ _ => rfl)
  · rw [hc q]
    by_cases e : q = i
    · subst e; rw [if_pos rfl]; exact k1
    · rw [if_neg e]; exact (h.rw.s q hq).of fun j hj => ho _ (by omega)
  · rw [hc q]
    by_cases e : q = i
    · subst e; simp only [if_true]; exact k2
    · simp only [if_neg e]; rw [ho _ (by omega)]; exact h.rw.p7 q hq
  · rw [hc q] at hl ⊢
    by_cases e : q = i
    · rw [if_pos e] at hl; simp at hl
    · rw [if_neg e] at hl ⊢
      exact ⟨hq, rfl, by simp only [if_neg e], h.sp.p q hq hl⟩
end Go.Proofs.YtkabcfhemljnbaaGreat

namespace Go.Proofs.YtkabcfhemljnbaaGreat
open Go.RowKit

/-- the free places have turned -/
theorem SAt.freed {B : Nat} {w w' : World} {b : Nat} {x : Hp} {ar : Option Addr} {kr : Nat} {v4 v8 : Value} {br bc bn : Nat} {pb : Nat → Nat} {pa : Nat → Option Addr} {pk : Nat → Nat} {kn hd : Nat} {vf : Value} {F : List Int} {vk : Value} {K : List Nat} {role : Nat → Nat} (h : SAt B w b x ar kr v4 v8 br bc bn pb pa pk kn hd vf F vk K role) {vf' : Value} {F' : List Int} (l : LsAt w' B b 14 vf' F') (q : QFr b 14 vf vf' w w') (nf : Nf1 b w') :
    ∃ role', SAt B w' b x ar kr v4 v8 br bc bn pb pa pk kn hd vf' F' vk K role' := by
  have nfree : ∀ k, role k ≠ 4 → vf.ownBlock ≠ some k := fun k hk e => hk (h.sp.f k e)
  have far : ∀ k, k < w.heap.size → role k ≠ 4 → role k ≠ 0 → w'.heap[k]? = w.heap[k]? := fun k hk h1 h2 => q.block k hk (fun e => h2 (by rw [e]; exact h.sp.b)) (nfree k h1)
  have cb : ∀ o, o ≠ 14 → w'.cell? ⟨b, o, none⟩ = w.cell? ⟨b, o, none⟩ := fun o ho => q.hdr o ho
  have own2 : ∀ k, vf'.ownBlock = some k → vf.ownBlock = some k ∨ w.heap.size ≤ k := fun k hk => by
    rcases q.own with e | ⟨g, e, hg⟩
    · exact .inl (e ▸ hk)
    · rw [e] at hk; injection hk with hk; exact .inr (by omega)
  have ne4 : ∀ k, k < w.heap.size → role k ≠ 4 → vf'.ownBlock ≠ some k := fun k hk hr e => by
    rcases own2 k e with e2 | e2
    · exact hr (h.sp.f k e2)
    · omega
  have fn := far bn h.sb.lo.2.2 (by rw [h.sp.n]; omega) (by rw [h.sp.n]; omega)
  refine ⟨fun k => (open Classical in if vf'.ownBlock = some k then 4 else role k), ⟨h.sb.bx.of fun o ho => cb o (by omega), h.sb.ha, (cb 13 (by omega)).trans h.sb.n13, fun k hk => ⟨(World.cell?_of_block (a := ⟨bn, _, none⟩) fn).trans (h.sb.nd k hk).1, (World.cell?_of_block (a := ⟨bn, _, none⟩) fn).trans (h.sb.nd k hk).2⟩, l, h.sb.rg.of fun o h1 _ => cb o (by omega), (cb 4017 (by omega)).trans h.sb.k0, ownsRow_of_block h.sb.kp (fun k hk => far k (h.sb.kp.lt k hk).2 (by rw [h.sp.k k hk]; omega) (by rw [h.sp.k k hk]; omega)), nf, ⟨h.sb.lo.1, h.sb.lo.2.1, Nat.lt_of_lt_of_le h.sb.lo.2.2 q.size⟩⟩, h.rw.same q.size (fun hl => far br (h.rw.nr hl).1.1 (by rw [h.sp.r hl]; omega) (by rw [h.sp.r hl]; omega)) (fun hl => far bc (h.rw.nc hl).1.1 (by rw [h.sp.c hl]; omega) (by rw [h.sp.c hl]; omega)) (fun k hk hl => far (pb k) (h.rw.pl k hk hl).2.1.1 (by rw [h.sp.p k hk hl]; omega) (by rw [h.sp.p k hk hl]; omega)), ?_⟩
  refine ⟨?_, ?_, fun hl => ?_, fun hl => ?_, fun k hk => ?_, fun k hk => ?_, fun k hk hl => ?_⟩
  · rw [if_neg (ne4 b h.sb.nb.1 (by rw [h.sp.b]; omega))]; exact h.sp.b
  · rw [if_neg (ne4 bn h.sb.lo.2.2 (by rw [h.sp.n]; omega))]; exact h.sp.n
  · rw [if_neg (ne4 br (h.rw.nr hl).1.1 (by rw [h.sp.r hl]; omega))]; exact h.sp.r hl
  · rw [if_neg (ne4 bc (h.rw.nc hl).1.1 (by rw [h.sp.c hl]; omega))]; exact h.sp.c hl
  · rw [if_pos hk]
  · rw [if_neg (ne4 k (h.sb.kp.lt k hk).2 (by rw [h.sp.k k hk]; omega))]; exact h.sp.k k hk
  · rw [if_neg (ne4 (pb k) (h.rw.pl k hk hl).2.1.1 (by rw [h.sp.p k hk hl]; omega))]; exact h.sp.p k hk hl
end Go.Proofs.YtkabcfhemljnbaaGreat

namespace Go.Proofs.YtkabcfhemljnbaaGreat
open Go.RowKit

/-- the last cell is dropped -/
theorem SAt.drop {B : Nat} {w : World} {b : Nat} {x : Hp} {ar : Option Addr} {kr : Nat} {v4 v8 : Value} {br bc bn : Nat} {pb : Nat → Nat} {pa : Nat → Option Addr} {pk : Nat → Nat} {kn hd : Nat} {vf : Value} {F : List Int} {vk : Value} {K : List Nat} {role : Nat → Nat} (h : SAt B w b x ar kr v4 v8 br bc bn pb pa pk kn hd vf F vk K role) (i : Nat) (hi : i + 1 = x.cells.length) :
    SAt B (w.setCell ⟨b, 13, none⟩ (.slice (some ⟨bn, 0, none⟩) i kn)) b { x with cells := x.cells.take i } ar kr v4 v8 br bc bn pb pa pk kn hd vf F vk K role := by
  have far : ∀ q, q < w.heap.size → role q ≠ 0 → (w.setCell ⟨b, 13, none⟩ (.slice (some ⟨bn, 0, none⟩) i kn)).heap[q]? = w.heap[q]? := fun q hq hn => Below.heap_setCell _ _ _ _ (fun e => hn (by rw [e]; exact h.sp.b))
  have hsz : w.heap.size ≤ (w.setCell ⟨b, 13, none⟩ (.slice (some ⟨bn, 0, none⟩) i kn)).heap.size := by simp [World.setCell]
  have rw2 := h.rw.same (w' := w.setCell ⟨b, 13, none⟩ (.slice (some ⟨bn, 0, none⟩) i kn)) hsz (fun hl => far br (h.rw.nr hl).1.1 (by rw [h.sp.r hl]; omega)) (fun hl => far bc (h.rw.nc hl).1.1 (by rw [h.sp.c hl]; omega)) (fun q hq hl => far (pb q) (h.rw.pl q hq hl).2.1.1 (by rw [h.sp.p q hq hl]; omega))
  have hl : ({ x with cells := x.cells.take i } : Hp).cells.length = i := by simp; omega
  have hn : 0 < x.cells.length := by omega
  have hc : ∀ q, q < i → ({ x with cells := x.cells.take i } : Hp).c q = x.c q := fun q hq => by
    simp only [Hp.c, List.getD_eq_getElem?_getD, List.getElem?_take_of_lt hq]
  have cb : ∀ o, o ≠ 13 → (w.setCell ⟨b, 13, none⟩ (.slice (some ⟨bn, 0, none⟩) i kn)).cell? ⟨b, o, none⟩ = w.cell? ⟨b, o, none⟩ := fun o ho => cell_other _ (.inr (fun e => ho e.symm))
  have fn := far bn h.sb.lo.2.2 (by rw [h.sp.n]; omega)
  refine ⟨⟨h.sb.bx.of fun o ho => cb o (by omega), h.sb.ha, ?_, fun k hk => ?_, ⟨(cb 14 (by omega)).trans h.sb.fr.hd, (h.sb.nb.set _ _).2 14, ownsRow_of_block h.sb.fr.own (fun q hq => far q (h.sb.fr.own.lt q hq).2 (by rw [h.sp.f q hq]; omega)), h.sb.fr.apart⟩, h.sb.rg.of fun o h1 _ => cb o (by omega), (cb 4017 (by omega)).trans h.sb.k0, ownsRow_of_block h.sb.kp (fun q hq => far q (h.sb.kp.lt q hq).2 (by rw [h.sp.k q hq]; omega)), h.sb.nb.set _ _, ⟨h.sb.lo.1, h.sb.lo.2.1, Nat.lt_of_lt_of_le h.sb.lo.2.2 hsz⟩⟩, ⟨rw2.r, fun q hq => ?_, fun q hq => ?_, fun q hq k hk => ?_, fun q hq hlq => ?_, rw2.nr, fun _ => rw2.nc hn, fun _ => rw2.d hn, fun q q' hq hq' hne h1 h2 => ?_⟩, ⟨h.sp.b, h.sp.n, h.sp.r, fun _ => h.sp.c hn, h.sp.f, h.sp.k, fun q hq hlq => ?_⟩⟩
  · rw [hl]; exact World.cell?_setCell_same _ _ _ h.sb.n13
  · rw [hl] at hk
    exact ⟨(World.cell?_of_block (a := ⟨bn, _, none⟩) fn).trans (h.sb.nd k (by omega)).1, (World.cell?_of_block (a := ⟨bn, _, none⟩) fn).trans (h.sb.nd k (by omega)).2⟩
  · rw [hl] at hq; rw [hc q hq]; exact rw2.s q (by omega)
  · rw [hl] at hq; rw [hc q hq]; exact rw2.p7 q (by omega)
  · rw [hl] at hq; rw [hc q hq] at hk ⊢; exact rw2.p q (by omega) k hk
  · rw [hl] at hq; rw [hc q hq] at hlq; exact rw2.pl q (by omega) hlq
  · rw [hl] at hq hq'; rw [hc q hq] at h1; rw [hc q' hq'] at h2; exact rw2.dp q q' (by omega) (by omega) hne h1 h2
  · rw [hl] at hq; rw [hc q hq] at hlq; exact h.sp.p q (by omega) hlq
/-- a register has turned -/
theorem SAt.setr {B : Nat} {w w' : World} {b : Nat} {x : Hp} {ar : Option Addr} {kr : Nat} {v4 v8 : Value} {br bc bn : Nat} {pb : Nat → Nat} {pa : Nat → Option Addr} {pk : Nat → Nat} {kn hd : Nat} {vf : Value} {F : List Int} {vk : Value} {K : List Nat} {role : Nat → Nat} (h : SAt B w b x ar kr v4 v8 br bc bn pb pa pk kn hd vf F vk K role) (j : Nat) (hj : j < x.regs.length) (y : Wd) (o : Only (fun q => q = br) w w') (nf : Nf1 br w') (hy : WdAt w' br (j * 3) y) (ho : ∀ m, (m < j * 3 ∨ j * 3 + 3 ≤ m) → w'.cell? ⟨br, m, none⟩ = w.cell? ⟨br, m, none⟩) :
    SAt B w' b { x with regs := x.regs.set j y } ar kr v4 v8 br bc bn pb pa pk kn hd vf F vk K role := by
  have hr : 0 < x.regs.length := by omega
  have far : ∀ q, q < w.heap.size → role q ≠ 2 → w'.heap[q]? = w.heap[q]? := fun q hq hn => o.block q hq (fun e => hn (by rw [e]; exact h.sp.r hr))
  have hl : ({ x with regs := x.regs.set j y } : Hp).regs.length = x.regs.length := by simp
  have pf : ∀ q, q < x.cells.length → 0 < (x.c q).prs.length → w'.heap[pb q]? = w.heap[pb q]? := fun q hq hl => far (pb q) (h.rw.pl q hq hl).2.1.1 (by rw [h.sp.p q hq hl]; omega)
  have fc : 0 < x.cells.length → w'.heap[bc]? = w.heap[bc]? := fun hn => far bc (h.rw.nc hn).1.1 (by rw [h.sp.c hn]; omega)
  have sb2 := h.sb.same o.size (far b h.sb.nb.1 (by rw [h.sp.b]; omega)) (far bn h.sb.lo.2.2 (by rw [h.sp.n]; omega)) (fun q hq => far q (h.sb.fr.own.lt q hq).2 (by rw [h.sp.f q hq]; omega)) (fun q hq => far q (h.sb.kp.lt q hq).2 (by rw [h.sp.k q hq]; omega))
  refine ⟨⟨by rw [hl]; exact sb2.bx, fun _ => sb2.ha hr, sb2.n13, sb2.nd, sb2.fr, sb2.rg, sb2.k0, sb2.kp, sb2.nb, sb2.lo⟩, ⟨fun m hm => ?_, fun q hq => ?_, fun q hq => ?_, fun q hq k hk => ?_, fun q hq hlq => ?_, fun _ => ⟨nf, (h.rw.nr hr).2⟩, fun hn => ⟨nf1_block (h.rw.nc hn).1 (fc hn) o.size, (h.rw.nc hn).2⟩, h.rw.d, h.rw.dp⟩, ⟨h.sp.b, h.sp.n, fun _ => h.sp.r hr, h.sp.c, h.sp.f, h.sp.k, h.sp.p⟩⟩
  · have hm2 : m < x.regs.length := by rw [hl] at hm; exact hm
    by_cases e : m = j
    · subst e
      have : ({ x with regs := x.regs.set m y } : Hp).regs[m] = y := by simp
      rw [this]; exact hy
    · have hjm : j ≠ m := fun e' => e e'.symm
      have : ({ x with regs := x.regs.set j y } : Hp).regs[m] = x.regs[m] := by simp [List.getElem_set_ne hjm]
      rw [this]
      exact (h.rw.r m hm2).of fun k hk => ho _ (by omega)
  · exact (h.rw.s q hq).of fun m _ => World.cell?_of_block (a := ⟨bc, _, none⟩) (fc (by have : q < x.cells.length := hq; omega))
  · exact (World.cell?_of_block (a := ⟨bc, _, none⟩) (fc (by have : q < x.cells.length := hq; omega))).trans (h.rw.p7 q hq)
  · have hk2 : k < (x.c q).prs.length := hk
    exact (h.rw.p q hq k hk).of fun m _ => World.cell?_of_block (a := ⟨pb q, _, none⟩) (pf q hq (by omega))
  · obtain ⟨a1, a2, a3⟩ := h.rw.pl q hq hlq
    exact ⟨a1, nf1_block a2 (pf q hq hlq) o.size, a3⟩
end Go.Proofs.YtkabcfhemljnbaaGreat
