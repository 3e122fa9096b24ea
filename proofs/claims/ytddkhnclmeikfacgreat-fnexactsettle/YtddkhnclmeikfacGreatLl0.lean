import Derived.Test.YtddkhnclmeikfacGreatLf
import Derived.Test.YtddkhnclmeikfacGreatLc
import Derived.BigRegion
import Derived.Deep.QuietTactic
namespace Go.Proofs.YtddkhnclmeikfacGreat
open Go.RowKit

/-! The model's heap, its blocks hidden. -/
def GOk (B : Nat) (w : World) (g : Nat) (x : Hp) : Prop := ∃ ar kr ac kc vg br bc pb pa pk role, GAt B w g x ar kr ac kc vg br bc pb pa pk role
theorem GOk.ext {B : Nat} {w w' : World} {g : Nat} {x : Hp} (h : GOk B w g x) (e : Ext w w') : GOk B w' g x := by
  obtain ⟨ar, kr, ac, kc, vg, br, bc, pb, pa, pk, role, h⟩ := h
  exact ⟨ar, kr, ac, kc, vg, br, bc, pb, pa, pk, role, h.ext e⟩
/-- a number of the box has turned -/
theorem GAt.boxed {B : Nat} {w w' : World} {g : Nat} {x x' : Hp} {ar : Option Addr} {kr : Nat} {ac : Option Addr} {kc : Nat} {vg : Value} {br bc : Nat} {pb : Nat → Nat} {pa : Nat → Option Addr} {pk : Nat → Nat} {role : Nat → Nat} (h : GAt B w g x ar kr ac kc vg br bc pb pa pk role) (o : Only (fun q => q = g) w w') (nf : Nf1 g w') (hr : x'.regs = x.regs) (hc : x'.cells = x.cells) (hg : x'.gray = x.gray) (bx : HBox w' g x' (.slice ar x.regs.length kr) (.slice ac x.cells.length kc) vg) : GAt B w' g x' ar kr ac kc vg br bc pb pa pk role := by
  have far : ∀ q, q < w.heap.size → role q ≠ 0 → w'.heap[q]? = w.heap[q]? := fun q hq hn => o.block q hq (fun e => hn (by rw [e]; exact h.sp.g))
  have cc : ∀ q, x'.c q = x.c q := fun q => by simp only [Hp.c, hc]
  have rw2 := h.rw.same o.size (fun hl => far br (h.rw.nr hl).1.1 (by rw [h.sp.r hl]; omega)) (fun hl => far bc (h.rw.nc hl).1.1 (by rw [h.sp.c hl]; omega)) (fun q hq hl => far (pb q) (h.rw.pl q hq hl).2.1.1 (by rw [h.sp.p q hq hl]; omega))
  refine ⟨by rw [hr, hc]; exact bx, nf, h.lo, by rw [hr]; exact h.ha, by rw [hc]; exact h.hc, ?_, by rw [hg]; exact h.gr.block (fun q hq => far q (h.gr.lt q hq).2 (by rw [h.sp.y q hq]; omega)), ?_, by rw [hc]; exact h.kl⟩
  · refine ⟨fun i hi => ?_, fun q hq => ?_, fun q hq => ?_, fun q hq k hk => ?_, fun q hq hl => ?_, ?_, ?_, ?_, fun q q' hq hq' hne h1 h2 => ?_⟩
    · have hi2 : i < x.regs.length := by rw [← hr]; exact hi
      have e2 : x'.regs[i] = x.regs[i] := by simp [hr]
      rw [e2]; exact rw2.r i hi2
    · rw [hc] at hq; rw [cc]; exact rw2.s q hq
    · rw [hc] at hq; rw [cc]; exact rw2.p7 q hq
    · rw [hc] at hq; rw [cc] at hk ⊢; exact rw2.p q hq k hk
    · rw [hc] at hq; rw [cc] at hl; exact rw2.pl q hq hl
    · rw [hr]; exact rw2.nr
    · rw [hc]; exact rw2.nc
    · rw [hc]; exact rw2.d
    · rw [hc] at hq hq'; rw [cc] at h1 h2; exact rw2.dp q q' hq hq' hne h1 h2
  · refine ⟨h.sp.g, by rw [hr]; exact h.sp.r, by rw [hc]; exact h.sp.c, h.sp.y, fun q hq hl => ?_⟩
    rw [hc] at hq; rw [cc] at hl; exact h.sp.p q hq hl
theorem GOk.set6 {B : Nat} {w : World} {g : Nat} {x : Hp} (h : GOk B w g x) (v : Int) : GOk B (w.setCell ⟨g, 6, none⟩ (iv v)) g { x with hand := v } := by
  obtain ⟨ar, kr, ac, kc, vg, br, bc, pb, pa, pk, role, h⟩ := h
  exact ⟨_, _, _, _, _, _, _, _, _, _, _, h.boxed (x' := { x with hand := v }) (Only.setCell (S := fun q => q = g) (Only.refl _ w) (p := ⟨g, 6, none⟩) rfl _) (h.nf.set _ _) rfl rfl rfl (h.bx.set6 v)⟩
theorem GOk.set7 {B : Nat} {w : World} {g : Nat} {x : Hp} (h : GOk B w g x) (v : Int) : GOk B (w.setCell ⟨g, 7, none⟩ (iv v)) g { x with sub := v } := by
  obtain ⟨ar, kr, ac, kc, vg, br, bc, pb, pa, pk, role, h⟩ := h
  exact ⟨_, _, _, _, _, _, _, _, _, _, _, h.boxed (x' := { x with sub := v }) (Only.setCell (S := fun q => q = g) (Only.refl _ w) (p := ⟨g, 7, none⟩) rfl _) (h.nf.set _ _) rfl rfl rfl (h.bx.set7 v)⟩
theorem GOk.box {B : Nat} {w : World} {g : Nat} {x : Hp} (h : GOk B w g x) : w.cell? ⟨g, 6, none⟩ = some (iv x.hand) ∧ w.cell? ⟨g, 7, none⟩ = some (iv x.sub) ∧ w.cell? ⟨g, 5, none⟩ = some (iv x.phase) ∧ (∀ o, w.frozen? ⟨g, o, none⟩ = false) ∧ B ≤ g ∧ g < w.heap.size := by
  obtain ⟨ar, kr, ac, kc, vg, br, bc, pb, pa, pk, role, h⟩ := h
  exact ⟨h.bx.2.2.2.2.2.2.1, h.bx.2.2.2.2.2.2.2.1, h.bx.2.2.2.2.2.1, h.nf.2, h.lo, h.nf.1⟩
end Go.Proofs.YtddkhnclmeikfacGreat

namespace Go.Proofs.YtddkhnclmeikfacGreat
open Go.RowKit

/-! Units of a round, in plain words; a sound heap stays sound. -/
structure Snd (x : Hp) : Prop where
  r1 : R1 x
  r2 : R2 x
  r3 : R3 x
  r4 : R4 x
  r5 : R5 x
  r6 : R6 x
  r7 : R7 x
  r8 : R8 x
theorem OkIs.snd {x : Hp} (h : OkIs x 0) : Snd x := by
  unfold OkIs at h
  rcases h with h | h | h | h | h | h | h | h | h
  · have := h.2; omega
  · have := h.2.2; omega
  · have := h.2.2.2; omega
  · have := h.2.2.2.2; omega
  · have := h.2.2.2.2.2; omega
  · have := h.2.2.2.2.2.2; omega
  · have := h.2.2.2.2.2.2.2; omega
  · have := h.2.2.2.2.2.2.2.2; omega
  · obtain ⟨a, b, c, d, e, f, g, i, _⟩ := h
    exact ⟨a, b, c, d, e, f, g, i⟩
theorem Snd.ok {x : Hp} (h : Snd x) : OkIs x 0 := by
  unfold OkIs
  exact .inr (.inr (.inr (.inr (.inr (.inr (.inr (.inr ⟨h.r1, h.r2, h.r3, h.r4, h.r5, h.r6, h.r7, h.r8, rfl⟩)))))))

/-! Shading keeps a heap sound. -/
theorem shade_c (x : Hp) (i : Nat) (hi : i < x.cells.length) (q : Nat) : (shadeH x i).c q = if shadeB x i = true ∧ q = i then grayC (x.c i) else x.c q := by
  unfold shadeH
  by_cases hb : shadeB x i = true
  · rw [if_pos hb]
    have := Hp.c_set x i (grayC (x.c i)) hi q
    have e : ({ x with cells := x.cells.set i (grayC (x.c i)), gray := x.gray ++ [(i : Int)] } : Hp).c q = ({ x with cells := x.cells.set i (grayC (x.c i)) } : Hp).c q := rfl
    rw [e, this]
    by_cases h : q = i
    · rw [if_pos h, if_pos ⟨hb, h⟩]
    · rw [if_neg h, if_neg (fun e => h e.2)]
  · rw [if_neg hb, if_neg (fun e => hb e.1)]
theorem units_set (cs : List Cl) (i : Nat) (c : Cl) (hi : i < cs.length) (he : unitsOf c = unitsOf cs[i]) : units (cs.set i c) = units cs := by
  induction cs generalizing i with
  | nil => simp at hi
  | cons a cs ih =>
    cases i with
    | zero => simp [units] at he ⊢; exact he
    | succ i =>
      have := ih i (by simpa using hi) (by simpa using he)
      simp [units] at this ⊢
      exact this
/-- what shading leaves as it was -/
theorem shade_same (x : Hp) (i : Nat) : (shadeH x i).room = x.room ∧ (shadeH x i).used = x.used ∧ (shadeH x i).born = x.born ∧ (shadeH x i).regs = x.regs ∧ (shadeH x i).cells.length = x.cells.length ∧ (shadeH x i).phase = x.phase ∧ (shadeH x i).hand = x.hand ∧ (shadeH x i).sub = x.sub ∧ (shadeH x i).per = x.per ∧ (shadeH x i).start = x.start ∧ (shadeH x i).rounds = x.rounds ∧ (shadeH x i).forced = x.forced := by
  unfold shadeH; split <;> simp
/-- cells that differ in their colors alone -/
def Cl.un (c : Cl) : Cl := { c with color := 0 }
theorem shade_un (x : Hp) (i : Nat) (hi : i < x.cells.length) (q : Nat) : ((shadeH x i).c q).un = (x.c q).un := by
  rw [shade_c x i hi q]
  split
  · rename_i h; rw [h.2]; rfl
  · rfl
theorem un_parts {c d : Cl} (h : c.un = d.un) : c.st = d.st ∧ c.kind = d.kind ∧ c.weak = d.weak ∧ c.last = d.last ∧ c.born = d.born ∧ c.to = d.to ∧ c.prs = d.prs := by
  cases c; cases d
  simp [Cl.un] at h
  simp [h]
/-- heaps that differ in colors and gray ones alone, while marking is on: rules 2, 3, 4, 8 -/
theorem marked_same {x y : Hp} (hm : Marking x) (hp : y.phase = x.phase) (hh : y.hand = x.hand) (hs : y.sub = x.sub) (hb : y.born = x.born) (hu : y.used = x.used) (hro : y.room = x.room) (hr : y.regs = x.regs) (hl : y.cells.length = x.cells.length) (hc : ∀ q, (y.c q).un = (x.c q).un) (hcol : ∀ q, q < x.cells.length → (y.c q).color = (x.c q).color ∨ ((y.c q).st = 1 ∧ 0 ≤ (y.c q).color ∧ (y.c q).color ≤ 2)) (hun : units y.cells = units x.cells) (h2 : R2 x) (h3 : R3 x) (h4 : R4 x) : R2 y ∧ R3 y ∧ R4 y ∧ R8 y := by
  have hp3 : x.phase ≠ 3 := by rcases hm with h | h <;> omega
  have nd : ∀ i, ¬ Doomed x i := fun i h => hp3 h.1
  have nd' : ∀ i, ¬ Doomed y i := fun i h => hp3 (by rw [← hp]; exact h.1)
  have lead : ∀ (w : Wd) (m m' : Prop), (m → m') → Leads x w m → Leads y w m' := fun w m m' hmm h => by
    refine ⟨by rw [hl]; exact h.1, fun hk => ?_⟩
    have e := (un_parts (hc w.a.toNat)).1
    rcases h.2 hk with ⟨h1, h2⟩ | ⟨h1, _⟩
    · exact .inl ⟨by rw [e]; exact h1, hmm h2⟩
    · exact .inr ⟨by rw [e]; exact h1, nd' _⟩
  have men : ∀ i k, ¬ Mended x i k → ¬ Mended y i k := fun i k h h' => h ⟨by rw [← hp]; exact h'.1, fun h5 => by have := h'.2 (by rw [hp]; exact h5); rw [hh, hs] at this; exact this⟩
  refine ⟨⟨fun i hi => ?_, fun i hi hst k hk hh => ?_⟩, ⟨by rw [hu, hun]; exact h3.1, by rw [hu, hro]; exact h3.2⟩, ⟨fun i hi => ?_, fun i hi => ⟨fun h => nd' i h.1, fun k hk => ⟨fun h => (nd' i h).elim, fun _ => ?_⟩⟩⟩, fun i hi h => ?_⟩
  · rw [hl] at hi
    obtain ⟨e1, e2, e3, e4, e5, e6, e7⟩ := un_parts (hc i)
    rcases h2.1 i hi with ⟨a, b, c⟩ | ⟨a, b⟩ | ⟨a, b⟩
    · refine .inl ⟨by rw [e1]; exact a, ?_, by rw [e6]; exact c⟩
      have hcc : (y.c i).color = (x.c i).color := by
        rcases hcol i hi with h | h
        · exact h
        · have := h.1; omega
      exact ⟨by rw [e2]; exact b.1, by rw [e3]; exact b.2.1, by rw [e4]; exact b.2.2.1, by rw [e5]; exact b.2.2.2.1, by rw [hcc]; exact b.2.2.2.2.1, by rw [e7]; exact b.2.2.2.2.2⟩
    · have := b.2.1; rcases hm with h | h <;> omega
    · refine .inr (.inr ⟨by rw [e1]; exact a, by rw [e2]; exact b.1, by rw [e3]; exact b.2.1, by rw [e4]; exact b.2.2.1, by rw [e5, hb]; exact b.2.2.2.1, ?_, by rw [e6]; exact b.2.2.2.2.2.1, by rw [e7]; exact b.2.2.2.2.2.2⟩)
      rcases hcol i hi with h | h
      · rw [h]; exact b.2.2.2.2.1
      · exact h.2
  · rw [hl] at hi
    obtain ⟨e1, _, _, _, e5, e6, _⟩ := un_parts (hc i)
    obtain ⟨f1, _, _, _, f5, f6, _⟩ := un_parts (hc k)
    rw [e1, e5, e6, f1, f5, f6] at hh
    exact h2.2 i hi (by rw [← e1]; exact hst) k hk hh
  · have hi' : i < x.regs.length := by rw [← hr]; exact hi
    have e : y.regs[i] = x.regs[i] := by simp [hr]
    rw [e]
    exact lead _ _ _ id (h4.1 i hi')
  · rw [hl] at hi
    have e7 := (un_parts (hc i)).2.2.2.2.2.2
    rw [e7] at hk
    have e8 : (y.c i).p k = (x.c i).p k := by simp only [Cl.p, e7]
    rw [e8]
    have := (h4.2 i hi).2 k hk
    exact ⟨lead _ _ _ (men i k) (this.2 (nd i)).1, lead _ _ _ (men i k) (this.2 (nd i)).2⟩
  · rw [hp] at h; rcases hm with h' | h' <;> omega
end Go.Proofs.YtddkhnclmeikfacGreat

namespace Go.Proofs.YtddkhnclmeikfacGreat
open Go.RowKit

/-- what a word leads to, as the document says it -/
def resW (x : Hp) (y : Wd) : Wd := if y.k = 2 ∧ (x.c y.a.toNat).st = 2 then ⟨2, 0, (x.c y.a.toNat).to⟩ else y
end Go.Proofs.YtddkhnclmeikfacGreat

namespace Go.Proofs.YtddkhnclmeikfacGreat
open Go.RowKit
attribute [local go_sem ↓] Go.wp_at_zero Go.wp_at_succ

/-! Words that are followed in the model's heap. -/
theorem gres_num (y : Wd) (b : Nat) (w : World) (k2 : (y.k == 2) = false) :
    Calls Tryz.prog 198 #[.pointer (some ⟨b, 0, none⟩), y.v] w fun e w' => e = .returned y.v ∧ Ext w w' := by
  go_enter Tryz.func198, Tryz.ntmps198
  go_wp2_with fail
  go_quiet (fail)
  go_wp2_with fail
  refine bodyPost_ret (v := y.v) (by simp [results, Tryz.results198, go_sem]) rfl ⟨rfl, ?_⟩
  repeat (first | exact Ext.refl _ | refine Ext.drewN ?_ _ | refine Ext.alloc ?_ _ | refine Ext.setCell ?_ (by show w.heap.size ≤ w.heap.size + 1; omega) _)
theorem gres_used (b bc n kc i : Nat) (st : Int) (w : World) (c4 : w.cell? ⟨b, 4, none⟩ = some (.slice (some ⟨bc, 0, none⟩) n kc)) (p0 : w.cell? ⟨bc, i * 8, none⟩ = some (iv st)) (hi : i < n) (s2 : (st == 2) = false) :
    Calls Tryz.prog 198 #[.pointer (some ⟨b, 0, none⟩), .agg #[iv 2, iv 0, iv i]] w fun e w' => e = .returned (.agg #[iv 2, iv 0, iv i]) ∧ Ext w w' := by
  have hb : b < w.heap.size := cell_lt c4
  have hb' : bc < w.heap.size := cell_lt p0
  have i0 : (0 : Int) ≤ (i : Int) := by omega
  have i1 : (i : Int) < (n : Int) := by omega
  go_enter Tryz.func198, Tryz.ntmps198
  go_wp2_with fail
  go_quiet (fail)
  go_wp2_with fail
  refine bodyPost_ret (v := .agg #[iv 2, iv 0, iv i]) (by simp [results, Tryz.results198, go_sem]) rfl ⟨rfl, ?_⟩
  repeat (first | exact Ext.refl _ | refine Ext.drewN ?_ _ | refine Ext.alloc ?_ _ | refine Ext.setCell ?_ (by show w.heap.size ≤ w.heap.size + 1; omega) _)
set_option maxHeartbeats 1000000 in
theorem gres_moved (b bc n kc i : Nat) (st tv : Int) (w : World) (c4 : w.cell? ⟨b, 4, none⟩ = some (.slice (some ⟨bc, 0, none⟩) n kc)) (p0 : w.cell? ⟨bc, i * 8, none⟩ = some (iv st)) (p6 : w.cell? ⟨bc, i * 8 + 6, none⟩ = some (iv tv)) (hi : i < n) (s2 : (st == 2) = true) :
    Calls Tryz.prog 198 #[.pointer (some ⟨b, 0, none⟩), .agg #[iv 2, iv 0, iv i]] w fun e w' => e = .returned (.agg #[iv 2, iv 0, iv tv]) ∧ Ext w w' := by
  have hb : b < w.heap.size := cell_lt c4
  have hb' : bc < w.heap.size := cell_lt p0
  have i0 : (0 : Int) ≤ (i : Int) := by omega
  have i1 : (i : Int) < (n : Int) := by omega
  go_enter Tryz.func198, Tryz.ntmps198
  go_wp2_with fail
  go_quiet (fail)
  go_wp2_with fail
  go_region
  all_goals
    go_wp2_with fail
    refine bodyPost_ret (v := .agg #[iv 2, iv 0, iv tv]) (by simp [results, Tryz.results198, go_sem]) rfl ⟨rfl, ?_⟩
    repeat (first | exact Ext.refl _ | refine Ext.drewN ?_ _ | refine Ext.drew ?_ | refine Ext.alloc ?_ _ | refine Ext.setCell ?_ (by show w.heap.size ≤ w.heap.size + 1; omega) _)
theorem gres_any {B : Nat} {g : Nat} {x : Hp} {ar : Option Addr} {kr : Nat} {ac : Option Addr} {kc : Nat} {vg : Value} {br bc : Nat} {pb : Nat → Nat} {pa : Nat → Option Addr} {pk : Nat → Nat} {role : Nat → Nat} (y : Wd) (w : World) (h : GAt B w g x ar kr ac kc vg br bc pb pa pk role) (hy : Formed y x.cells.length) :
    Calls Tryz.prog 198 #[.pointer (some ⟨g, 0, none⟩), y.v] w fun e w' => e = .returned (resW x y).v ∧ Ext w w' := by
  cases q : (y.k == 2)
  · have e : resW x y = y := by
      unfold resW; rw [if_neg]; intro h; simp [h.1] at q
    rw [e]
    exact gres_num y g w q
  · have hk : y.k = 2 := by simpa using q
    obtain ⟨k, n, a⟩ := y
    simp only at hk
    subst hk
    unfold Formed at hy
    simp only at hy
    obtain ⟨i, rfl⟩ : ∃ i : Nat, a = (i : Int) := ⟨a.toNat, by omega⟩
    obtain rfl : n = 0 := by omega
    have hi : i < x.cells.length := by omega
    have hn : 0 < x.cells.length := by omega
    have c4 := h.bx.2.2.2.2.1
    rw [h.hc hn] at c4
    obtain ⟨p0, _, _, _, _, _, p6⟩ := h.rw.s i hi
    have ei : ((i : Int)).toNat = i := by omega
    cases q2 : ((x.c i).st == 2)
    · have e : resW x ⟨2, 0, i⟩ = ⟨2, 0, i⟩ := by
        unfold resW; rw [if_neg]; intro h; simp only [ei] at h; simp [h.2] at q2
      rw [e]
      exact gres_used g bc _ kc i _ w c4 p0 hi q2
    · have e : resW x ⟨2, 0, i⟩ = ⟨2, 0, (x.c i).to⟩ := by
        unfold resW; simp only [ei]; rw [if_pos ⟨trivial, by simpa using q2⟩]
      rw [e]
      exact gres_moved g bc _ kc i _ _ w c4 p0 p6 hi q2
end Go.Proofs.YtddkhnclmeikfacGreat
