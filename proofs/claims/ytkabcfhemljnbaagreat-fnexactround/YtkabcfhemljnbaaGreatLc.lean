import Derived.Test.YtkabcfhemljnbaaGreatGx
import Derived.Test.YtkabcfhemljnbaaGreatLm
import Derived.Test.YtkabcfhemljnbaaGreatHx
import Derived.Maps.AppendAt
import Derived.Deep.AppendLies
namespace Go.Proofs.YtkabcfhemljnbaaGreat
open Go.RowKit
attribute [local go_sem ↓] Go.wp_at_zero Go.wp_at_succ

/-! Shading, in plain words and in the store. -/
theorem Hp.c_set (x : Hp) (i : Nat) (c : Cl) (hi : i < x.cells.length) (q : Nat) : ({ x with cells := x.cells.set i c } : Hp).c q = if q = i then c else x.c q := by
  simp only [Hp.c, List.getD_eq_getElem?_getD, List.getElem?_set]
  by_cases e : q = i
  · subst e; simp [hi]
  · rw [if_neg (fun h => e h.symm), if_neg e]
def mkB (x : Hp) : Bool := x.phase == 1 || x.phase == 2
def whB (c : Cl) : Bool := c.st == 1 && c.color == 0
def shadeB (x : Hp) (i : Nat) : Bool := mkB x && whB (x.c i)
def grayC (c : Cl) : Cl := { c with color := 1 }
def shadeH (x : Hp) (i : Nat) : Hp := if shadeB x i = true then { x with cells := x.cells.set i (grayC (x.c i)), gray := x.gray ++ [(i : Int)] } else x
theorem SAt.setc {B : Nat} {w : World} {b : Nat} {x : Hp} {ar : Option Addr} {kr : Nat} {v4 v8 : Value} {br bc bn : Nat} {pb : Nat → Nat} {pa : Nat → Option Addr} {pk : Nat → Nat} {kn hd : Nat} {vf : Value} {F : List Int} {vk : Value} {K : List Nat} {role : Nat → Nat} {w' : World} {i : Nat} {c' : Cl}
    (h : SAt B w b x ar kr v4 v8 br bc bn pb pa pk kn hd vf F vk K role) (hi : i < x.cells.length) (hp : c'.prs = (x.c i).prs) (o : Only (fun q => q = bc) w w') (hs : S7 w' bc (i * 8) c') (ho : ∀ k, (k < i * 8 ∨ i * 8 + 7 ≤ k) → w'.cell? ⟨bc, k, none⟩ = w.cell? ⟨bc, k, none⟩) (nf : Nf1 bc w') :
    SAt B w' b { x with cells := x.cells.set i c' } ar kr v4 v8 br bc bn pb pa pk kn hd vf F vk K role := by
  have hn : 0 < x.cells.length := by omega
  have far : ∀ q, q < w.heap.size → role q ≠ 3 → w'.heap[q]? = w.heap[q]? := fun q hq hr => o.block q hq (fun e => hr (by rw [e]; exact h.sp.c hn))
  have hl : ({ x with cells := x.cells.set i c' } : Hp).cells.length = x.cells.length := by simp
  have hc := Hp.c_set x i c' hi
  have hpr : ∀ q, (({ x with cells := x.cells.set i c' } : Hp).c q).prs = (x.c q).prs := fun q => by
    rw [hc q]; by_cases e : q = i
    · rw [if_pos e, hp, e]
    · rw [if_neg e]
  have sb := h.sb.same o.size (far b h.sb.nb.1 (by rw [h.sp.b]; omega)) (far bn h.sb.lo.2.2 (by rw [h.sp.n]; omega)) (fun q hq => far q (h.sb.fr.own.lt q hq).2 (by rw [h.sp.f q hq]; omega)) (fun q hq => far q (h.sb.kp.lt q hq).2 (by rw [h.sp.k q hq]; omega))
  have pf : ∀ q, q < x.cells.length → 0 < (x.c q).prs.length → w'.heap[pb q]? = w.heap[pb q]? := fun q hq hl => far (pb q) (h.rw.pl q hq hl).2.1.1 (by rw [h.sp.p q hq hl]; omega)
  refine ⟨⟨sb.bx, sb.ha, by rw [hl]; exact sb.n13, fun k hk => sb.nd k (by rw [hl] at hk; exact hk), sb.fr, sb.rg, sb.k0, sb.kp, sb.nb, sb.lo⟩, ⟨fun k hk => ?_, fun q hq => ?_, fun q hq => ?_, fun q hq k hk => ?_, fun q hq hlq => ?_, fun hr => ⟨nf1_block (h.rw.nr hr).1 (far br (h.rw.nr hr).1.1 (by rw [h.sp.r hr]; omega)) o.size, (h.rw.nr hr).2⟩, fun _ => ⟨nf, (h.rw.nc hn).2⟩, fun _ => h.rw.d hn, fun q q' hq hq' hne h1 h2 => ?_⟩, ⟨h.sp.b, h.sp.n, h.sp.r, fun _ => h.sp.c hn, h.sp.f, h.sp.k, fun q hq hlq => ?_⟩⟩
  · exact (h.rw.r k hk).of fun j _ => World.cell?_of_block (a := ⟨br, _, none⟩) (far br (h.rw.nr (by have : k < x.regs.length := hk; omega)).1.1 (by rw [h.sp.r (by have : k < x.regs.length := hk; omega)]; omega))
  · rw [hl] at hq
    rw [hc q]
    by_cases e : q = i
    · subst e; rw [if_pos rfl]; exact hs
    · rw [if_neg e]; exact (h.rw.s q hq).of fun j hj => ho _ (by omega)
  · rw [hl] at hq
    rw [hpr q, ho _ (by omega)]; exact h.rw.p7 q hq
  · rw [hl] at hq
    have e2 : (({ x with cells := x.cells.set i c' } : Hp).c q).p k = (x.c q).p k := by simp only [Cl.p, hpr q]
    rw [hpr q] at hk
    rw [e2]
    exact (h.rw.p q hq k hk).of fun j _ => World.cell?_of_block (a := ⟨pb q, _, none⟩) (pf q hq (by omega))
  · rw [hl] at hq; rw [hpr q] at hlq
    obtain ⟨a1, a2, a3⟩ := h.rw.pl q hq hlq
    exact ⟨a1, nf1_block a2 (pf q hq hlq) o.size, a3⟩
  · rw [hl] at hq hq'; rw [hpr] at h1 h2; exact h.rw.dp q q' hq hq' hne h1 h2
  · rw [hl] at hq; rw [hpr q] at hlq; exact h.sp.p q hq hlq

theorem smarking_any (x : Hp) (b : Nat) (w : World) (c5 : w.cell? ⟨b, 5, none⟩ = some (iv x.phase)) :
    Calls Tryz.prog 125 #[.pointer (some ⟨b, 0, none⟩)] w fun e w' => e = .returned (.bool (mkB x)) ∧ w' = w := by
  cases q : (x.phase == 1)
  · have E := hide (show mkB x = (x.phase == 2) by simp [mkB, q])
    go_enter Tryz.func125, Tryz.ntmps125
    go_wp2_with fail
    go_ret
    exact ⟨by rw [unhide E]; rfl, rfl⟩
  · have E := hide (show mkB x = true by simp [mkB, q])
    go_enter Tryz.func125, Tryz.ntmps125
    go_wp2_with fail
    go_ret
    exact ⟨by rw [unhide E]; rfl, rfl⟩
theorem swhite_any (c : Cl) (bn i bc : Nat) (w : World) (m1 : w.cell? ⟨bn, i * 2 + 1, none⟩ = some (.pointer (some ⟨bc, i * 8, none⟩))) (s : S7 w bc (i * 8) c) :
    Calls Tryz.prog 126 #[ndp bn i] w fun e w' => e = .returned (.bool (whB c)) ∧ w' = w := by
  have s0 := s.1
  have s5 := s.2.2.2.2.2.1
  clear s
  cases q : (c.st == 1)
  · have E := hide (show whB c = false by simp [whB, q])
    go_enter Tryz.func126, Tryz.ntmps126
    go_wp2_with fail
    go_ret
    exact ⟨by rw [unhide E]; rfl, rfl⟩
  · have E := hide (show whB c = (c.color == 0) by simp [whB, q])
    go_enter Tryz.func126, Tryz.ntmps126
    go_wp2_with fail
    go_ret
    exact ⟨by rw [unhide E]; rfl, rfl⟩

set_option maxRecDepth 100000 in
set_option maxHeartbeats 2000000 in
theorem sshade_fr {B : Nat} {b : Nat} {x : Hp} {ar : Option Addr} {kr : Nat} {v4 v8 : Value} {br bc bn : Nat} {pb : Nat → Nat} {pa : Nat → Option Addr} {pk : Nat → Nat} {kn hd : Nat} {vf : Value} {F : List Int} {vk : Value} {K : List Nat} {role : Nat → Nat} (i : Nat) (w : World)
    (h : SAt B w b x ar kr v4 v8 br bc bn pb pa pk kn hd vf F vk K role) (hi : i < x.cells.length) (hg : shadeB x i = true → x.gray.length < 4000) (a : World) (ha : a.heap.size ≤ B) (hx : Ext a w) :
    Calls Tryz.prog 76 #[.pointer (some ⟨b, 0, none⟩), ndp bn i] w fun e w' => e = .returned (.tuple #[]) ∧ Hid (SAt B w' b (shadeH x i) ar kr v4 v8 br bc bn pb pa pk kn hd vf F vk K role) ∧ Ext a w' ∧ Hid (∀ q, q < w.heap.size → q ≠ b → q ≠ bc → w'.heap[q]? = w.heap[q]?) := by
  have H := hide h
  have c5 := h.sb.bx.2.2.2.2.2.1
  obtain ⟨m0, m1⟩ := h.sb.nd i hi
  have S := hide (h.rw.s i hi)
  have hn : 0 < x.cells.length := by omega
  clear h
  go_enter Tryz.func76, Tryz.ntmps76
  go_wp2_with fail
  refine (smarking_any x b _ c5).mono ?_
  rintro e w1 ⟨rfl, rfl⟩
  cases q1 : mkB x
  · have E := hide (show shadeH x i = x by unfold shadeH; rw [if_neg (by simp [shadeB, q1])])
    go_wp2_with fail
    try simp only [Exit.inBlock, Exit.then]
    refine bodyPost_ret (results_none rfl _ _ _) rfl ?_
    exact ⟨rfl, by rw [unhide E]; exact unhide H, hx, fun _ _ _ _ => rfl⟩
  · go_wp2_with fail
    refine (swhite_any (x.c i) bn i bc _ m1 (unhide S)).mono ?_
    rintro e w2 ⟨rfl, rfl⟩
    cases q2 : whB (x.c i)
    · have E := hide (show shadeH x i = x by unfold shadeH; rw [if_neg (by simp [shadeB, q2])])
      go_wp2_with fail
      try simp only [Exit.inBlock, Exit.then]
      refine bodyPost_ret (results_none rfl _ _ _) rfl ?_
      exact ⟨rfl, by rw [unhide E]; exact unhide H, hx, fun _ _ _ _ => rfl⟩
    · have hb : shadeB x i = true := by simp [shadeB, q1, q2]
      have E := hide (show shadeH x i = { x with cells := x.cells.set i (grayC (x.c i)), gray := x.gray ++ [(i : Int)] } by unfold shadeH; rw [if_pos hb])
      have hl4 := hg hb
      have s5 := (unhide S).2.2.2.2.2.1
      have f5 := ((unhide H).rw.nc hn).1.2 (i * 8 + 5)
      have C := hide (show SAt B (w2.setCell ⟨bc, i * 8 + 5, none⟩ (iv 1)) b { x with cells := x.cells.set i (grayC (x.c i)) } ar kr v4 v8 br bc bn pb pa pk kn hd vf F vk K role from
        (unhide H).setc hi rfl (Only.setCell (S := fun q => q = bc) (Only.refl _ w2) (p := ⟨bc, i * 8 + 5, none⟩) rfl _) (by
          obtain ⟨a0, a1, a2, a3, a4, a5, a6⟩ := unhide S
          refine ⟨?_, ?_, ?_, ?_, ?_, World.cell?_setCell_same _ _ _ a5, ?_⟩
          · rw [cell_other _ (.inr (by omega))]; exact a0
          · rw [cell_other _ (.inr (by omega))]; exact a1
          · rw [cell_other _ (.inr (by omega))]; exact a2
          · rw [cell_other _ (.inr (by omega))]; exact a3
          · rw [cell_other _ (.inr (by omega))]; exact a4
          · rw [cell_other _ (.inr (by omega))]; exact a6) (fun k hk => cell_other _ (.inr (by omega))) (((unhide H).rw.nc hn).1.set _ _))
      have X2 := hide (hx.setCell (p := ⟨bc, i * 8 + 5, none⟩) (show a.heap.size ≤ bc from Nat.le_trans ha ((unhide H).rw.nc hn).2) (iv 1))
      have LB := hide (Nat.le_trans ha (unhide H).sb.lo.1)
      clear hb hg
      go_wp2_with fail
      refine (rput_any b bn hd i x.gray _ (unhide C).sb.rg (unhide C).sb.nb hl4).mono ?_
      rintro e w3 ⟨rfl, hr3, ho3, hn3, hc3⟩
      have R := hide ((unhide C).ring hr3 ho3 hn3 (fun o ho => hc3 o (by omega)))
      have FR := hide (show ∀ q, q < w2.heap.size → q ≠ b → q ≠ bc → w3.heap[q]? = w2.heap[q]? from fun q hq h1 h2 => (ho3.block q (by simpa [World.setCell] using hq) h1).trans (Below.heap_setCell _ _ _ _ h2))
      have XX := hide (ho3.ext (unhide X2) (fun q hq e => by have := unhide LB; omega))
      clear hr3 ho3 hn3 hc3
      go_wp2_with fail
      go_end0
      exact ⟨rfl, by rw [unhide E]; exact unhide R, unhide XX, unhide FR⟩
theorem sshade_any {B : Nat} {b : Nat} {x : Hp} {ar : Option Addr} {kr : Nat} {v4 v8 : Value} {br bc bn : Nat} {pb : Nat → Nat} {pa : Nat → Option Addr} {pk : Nat → Nat} {kn hd : Nat} {vf : Value} {F : List Int} {vk : Value} {K : List Nat} {role : Nat → Nat} (i : Nat) (w : World)
    (h : SAt B w b x ar kr v4 v8 br bc bn pb pa pk kn hd vf F vk K role) (hi : i < x.cells.length) (hg : shadeB x i = true → x.gray.length < 4000) (a : World) (ha : a.heap.size ≤ B) (hx : Ext a w) :
    Calls Tryz.prog 76 #[.pointer (some ⟨b, 0, none⟩), ndp bn i] w fun e w' => e = .returned (.tuple #[]) ∧ Hid (SAt B w' b (shadeH x i) ar kr v4 v8 br bc bn pb pa pk kn hd vf F vk K role) ∧ Ext a w' :=
  (sshade_fr i w h hi hg a ha hx).mono fun _ _ ⟨h1, h2, h3, _⟩ => ⟨h1, h2, h3⟩
end Go.Proofs.YtkabcfhemljnbaaGreat

namespace Go.Proofs.YtkabcfhemljnbaaGreat
open Go.RowKit

theorem OkIs.all {x : Hp} (h : OkIs x 0) : R1 x ∧ R2 x ∧ R3 x ∧ R4 x := by
  unfold OkIs at h
  rcases h with h | h | h | h | h | h | h | h | h
  · omega
  · omega
  · omega
  · omega
  · omega
  · omega
  · omega
  · omega
  · exact ⟨h.1, h.2.1, h.2.2.1, h.2.2.2.1⟩
theorem OkIs.n8 {x : Hp} (h : OkIs x 0) : x.cells.length ≤ 8000 := by have := h.all.1.room; have := h.all.1.cells; omega
theorem OkIs.p200 {x : Hp} (h : OkIs x 0) (i : Nat) (hi : i < x.cells.length) : (x.c i).prs.length ≤ 200 := by
  rcases h.all.2.1.1 i hi with c | c | c
  · have := c.2.1.2.2.2.2.2; omega
  · have := c.2.1.2.2.2.2.2; omega
  · exact c.2.2.2.2.2.2.2
end Go.Proofs.YtkabcfhemljnbaaGreat

namespace Go.Proofs.YtkabcfhemljnbaaGreat
open Go.RowKit

/-! What Shade answers, in plain words; the gray cells fit into the ring. -/
def Hp0 : Hp := ⟨0, 0, 0, [], [], 0, 0, 0, [], 0, 0, 0, 0⟩
def ShOk (x : Hp) (at_ : Int) : Prop := OkIs x 0 ∧ 0 ≤ at_ ∧ at_ < x.cells.length ∧ (x.c at_.toNat).st = 1
def ShIs (x : Hp) (at_ : Int) (y : Hp) : Prop := (ShOk x at_ ∧ y = shadeH x at_.toNat) ∨ (¬ ShOk x at_ ∧ y = Hp0)
theorem ShIs.uniq {x : Hp} {a : Int} {y z : Hp} (h : ShIs x a y) (k : ShIs x a z) : y = z := by
  rcases h with ⟨h1, h2⟩ | ⟨h1, h2⟩ <;> rcases k with ⟨k1, k2⟩ | ⟨k1, k2⟩
  · rw [h2, k2]
  · exact (k1 h1).elim
  · exact (h1 k1).elim
  · rw [h2, k2]
theorem OkIs.r5 {x : Hp} (h : OkIs x 0) : R5 x := by
  unfold OkIs at h
  rcases h with h | h | h | h | h | h | h | h | h
  · have := h.2; omega
  · have := h.2.2; omega
  · have := h.2.2.2; omega
  · have := h.2.2.2.2; omega
  · have := h.2.2.2.2.2; omega
  · have := h.2.2.2.2.2.2; omega
  · have := h.2.2.2.2.2.2.2; omega
  · have := h.2.2.2.2.2.2.2.2; omega
  · exact h.2.2.2.2.1

/-- places of used cells, no two the same: not more than units -/
theorem used_len (x : Hp) : ∀ (k : Nat) (L : List Nat), k ≤ x.cells.length → L.Nodup → (∀ i, i ∈ L → i < k ∧ (x.c i).st = 1) → L.length ≤ units (x.cells.take k)
  | 0, L, _, _, h => by
    cases L with
    | nil => simp
    | cons a L => have := (h a (List.mem_cons_self ..)).1; omega
  | k + 1, L, hk, hn, h => by
    have e : units (x.cells.take (k + 1)) = units (x.cells.take k) + unitsOf (x.c k) := by
      rw [units_take x.cells k (by omega), Hp.c_eq x k (by omega)]
    by_cases hm : k ∈ L
    · have h1 := used_len x k (L.erase k) (by omega) (hn.erase k) (fun i hi => by
        have h2 := h i (List.mem_of_mem_erase hi)
        have h3 : i ≠ k := fun e => by rw [e] at hi; exact (List.Nodup.not_mem_erase hn) hi
        exact ⟨by omega, h2.2⟩)
      rw [List.length_erase_of_mem hm] at h1
      have h4 : unitsOf (x.c k) ≥ 1 := by unfold unitsOf; rw [if_pos (h k hm).2]; omega
      have h5 : 0 < L.length := List.length_pos_of_mem hm
      omega
    · have h1 := used_len x k L (by omega) hn (fun i hi => by
        have h2 := h i hi
        have h3 : i ≠ k := fun e => hm (by rw [← e]; exact hi)
        exact ⟨by omega, h2.2⟩)
      omega
theorem gray_nodup {x : Hp} (r5 : R5 x) : x.gray.Nodup := by
  rw [List.nodup_iff_count]
  intro g
  by_cases hg : g ∈ x.gray
  · obtain ⟨h0, h1⟩ := r5.2.2 g hg
    have e : ((g.toNat : Nat) : Int) = g := by omega
    have hc := r5.2.1 g.toNat (by omega)
    by_cases hcol : (x.c g.toNat).color = 1
    · have := hc.1 hcol
      unfold cnt at this
      rw [e] at this
      omega
    · have := hc.2.1 hcol
      unfold cnt at this
      rw [e] at this
      omega
  · rw [List.count_eq_zero_of_not_mem hg]; omega
theorem gray_used {x : Hp} (r2 : R2 x) (r5 : R5 x) (g : Int) (hg : g ∈ x.gray) : (x.c g.toNat).color = 1 ∧ (x.c g.toNat).st = 1 := by
  obtain ⟨h0, h1⟩ := r5.2.2 g hg
  have e : ((g.toNat : Nat) : Int) = g := by omega
  have hc := r5.2.1 g.toNat (by omega)
  have hcol : (x.c g.toNat).color = 1 := by
    rcases Int.decEq (x.c g.toNat).color 1 with hn | hy
    · have := hc.2.1 hn
      unfold cnt at this
      rw [e] at this
      exact absurd hg (List.count_eq_zero.1 this)
    · exact hy
  refine ⟨hcol, ?_⟩
  rcases r2.1 g.toNat (by omega) with c | c | c
  · have := c.2.1.2.2.2.2.1; omega
  · have := c.2.1.2.2.2.2.1; omega
  · exact c.1
theorem gray_fit {x : Hp} (ok : OkIs x 0) : x.gray.length ≤ 4000 ∧ ∀ i, i < x.cells.length → shadeB x i = true → x.gray.length < 4000 := by
  obtain ⟨r1, r2, r3, _⟩ := ok.all
  have r5 := ok.r5
  have hu : (units x.cells : Int) ≤ 4000 := by have := r3.1; have := r3.2; have := r1.room; omega
  have hn : (x.gray.map Int.toNat).Nodup := by
    unfold List.Nodup
    rw [List.pairwise_map]
    exact List.Pairwise.imp_of_mem (fun ha hb hne e => hne (by have := (r5.2.2 _ ha).1; have := (r5.2.2 _ hb).1; omega)) (gray_nodup r5)
  have hm : ∀ i, i ∈ x.gray.map Int.toNat → i < x.cells.length ∧ (x.c i).st = 1 ∧ (x.c i).color = 1 := fun i hi => by
    obtain ⟨g, hg, rfl⟩ := List.mem_map.1 hi
    have h1 := r5.2.2 g hg
    have h2 := gray_used r2 r5 g hg
    exact ⟨by omega, h2.2, h2.1⟩
  have h1 := used_len x x.cells.length (x.gray.map Int.toNat) (Nat.le_refl _) hn (fun i hi => ⟨(hm i hi).1, (hm i hi).2.1⟩)
  rw [List.take_length, List.length_map] at h1
  refine ⟨by omega, fun i hi hb => ?_⟩
  have hb2 : (x.c i).st = 1 ∧ (x.c i).color = 0 := by simp [shadeB, whB] at hb; exact hb.2
  have h2 := used_len x x.cells.length (i :: x.gray.map Int.toNat) (Nat.le_refl _) (List.nodup_cons.2 ⟨fun h => by have := (hm i h).2.2; omega, hn⟩) (fun j hj => by
    rcases List.mem_cons.1 hj with e | e
    · rw [e]; exact ⟨hi, hb2.1⟩
    · exact ⟨(hm j e).1, (hm j e).2.1⟩)
  rw [List.take_length, List.length_cons, List.length_map] at h2
  omega
end Go.Proofs.YtkabcfhemljnbaaGreat

namespace Go.Proofs.YtkabcfhemljnbaaGreat
open Go.RowKit

/-! A row of ints of a call's own that may begin anywhere in its block: 'q = q[1:]' and 'q = append(q, x)'. -/
def Grw (w : World) (B : Nat) (v : Value) (G : List Int) : Prop :=
  (v = .slice none 0 0 ∧ G = []) ∨ ∃ gb go cap cur, v = .slice (some ⟨gb, go, none⟩) G.length cap ∧ B ≤ gb ∧ w.heap[gb]? = some (.cells cur 3 (0, 0)) ∧ G.length ≤ cap ∧ go + cap ≤ cur.size ∧ (cur.toList.drop go).take G.length = G.map iv
theorem Grw.lt {w : World} {B : Nat} {v : Value} {G : List Int} (h : Grw w B v G) : ∀ k, v.ownBlock = some k → B ≤ k ∧ k < w.heap.size := by
  intro k hk
  rcases h with ⟨rfl, _⟩ | ⟨gb, go, cap, cur, rfl, hb, hg, _⟩
  · simp [Value.ownBlock] at hk
  · simp [Value.ownBlock] at hk
    subst hk
    exact ⟨hb, (Array.getElem?_eq_some_iff.1 hg).1⟩
theorem Grw.block {w w' : World} {B : Nat} {v : Value} {G : List Int} (h : Grw w B v G) (hb : ∀ k, v.ownBlock = some k → w'.heap[k]? = w.heap[k]?) : Grw w' B v G := by
  rcases h with h | ⟨gb, go, cap, cur, rfl, h1, hg, h2⟩
  · exact .inl h
  · exact .inr ⟨gb, go, cap, cur, rfl, h1, by rw [hb gb rfl]; exact hg, h2⟩
theorem Grw.form {w : World} {B : Nat} {v : Value} {G : List Int} (h : Grw w B v G) : ∃ a k, v = .slice a G.length k := by
  rcases h with ⟨rfl, rfl⟩ | ⟨gb, go, cap, cur, rfl, _⟩
  · exact ⟨none, 0, rfl⟩
  · exact ⟨_, _, rfl⟩
theorem Grw.of {w : World} {B : Nat} {v : Value} {G : List Int} (h : w.ownsRow B 3 1 v G.length (G.map iv)) : Grw w B v G := by
  rcases h.2 with ⟨h0, h1⟩ | ⟨g, cap, cur, h0, hb, hg, hn, _, hs, ht⟩
  · exact .inl ⟨h0, List.eq_nil_of_length_eq_zero h1⟩
  · exact .inr ⟨g, 0, cap, cur, h0, hb, hg, hn, by omega, by simpa using ht⟩
theorem Grw.at {w : World} {B : Nat} {a : Option Addr} {k : Nat} {G : List Int} (h : Grw w B (.slice a G.length k) G) (i : Nat) (hi : i < G.length) : ∃ gb go, a = some ⟨gb, go, none⟩ ∧ w.cell? ⟨gb, go + i, none⟩ = some (iv G[i]) ∧ B ≤ gb := by
  rcases h with ⟨_, rfl⟩ | ⟨gb, go, cap, cur, e, hb, hg, hn, hs, ht⟩
  · simp at hi
  · simp only [Value.slice.injEq] at e
    refine ⟨gb, go, e.1, ?_, hb⟩
    rw [cell_of_row w gb (go + i) cur _ _ hg, ← Array.getElem?_toList]
    have h1 : ((cur.toList.drop go).take G.length)[i]? = (G.map iv)[i]? := by rw [ht]
    rw [List.getElem?_take_of_lt hi, List.getElem?_drop] at h1
    rw [h1]; simp [hi]
/-- without its first item -/
theorem Grw.tail {w : World} {B : Nat} {gb go cap : Nat} {g : Int} {G : List Int} (h : Grw w B (.slice (some ⟨gb, go, none⟩) (G.length + 1) cap) (g :: G)) : Grw w B (.slice (some ⟨gb, go + 1, none⟩) G.length (cap - 1)) G := by
  rcases h with ⟨_, e⟩ | ⟨gb', go', cap', cur, e, hb, hg, hn, hs, ht⟩
  · cases e
  · simp only [Value.slice.injEq, Option.some.injEq, Addr.mk.injEq] at e
    obtain ⟨⟨rfl, rfl, _⟩, _, rfl⟩ := e
    refine .inr ⟨gb, go + 1, cap - 1, cur, rfl, hb, hg, by simp at hn; omega, by simp at hn; omega, ?_⟩
    have h1 : ((cur.toList.drop go).take (G.length + 1)).drop 1 = G.map iv := by
      have : (g :: G).length = G.length + 1 := rfl
      rw [this] at ht; rw [ht]; rfl
    rw [List.drop_take, List.drop_drop] at h1
    simpa using h1
theorem take_mid {α : Type} (L : List α) (o n : Nat) (v : α) (xs : List α) (h : (L.drop o).take n = xs) (hl : xs.length = n) (ho : o + n < L.length) : ((L.take (o + n) ++ [v] ++ L.drop (o + n + 1)).drop o).take (n + 1) = xs ++ [v] := by
  have e1 : (L.take (o + n)).length = o + n := by simp; omega
  have e2 : (L.take (o + n)).drop o = xs := by rw [List.drop_take, show o + n - o = n by omega]; exact h
  rw [List.append_assoc, List.drop_append_of_le_length (by omega), e2]
  simp [List.take_append, hl]
  exact List.take_of_length_le (by omega)
theorem run_app1 {P : Program} (w : World) (t ty : TypeId) (i : TypeInfo) (z : Value) (B : Nat) (v : Value) (G : List Int) (ht : P.underlying t = some (.slice 3)) (hi : P.info? 3 = some i) (hz : i.zero = some z) (hs1 : i.size = 1) (hby : i.bytes = 8) (hzs : z.cells.size = 1) (h : Grw w B v G) (ad : Addr) (c : Nat) (x : Int) (hx : w.cell? ad = some (iv x)) (hn : G.length ≤ 1048576) (hB : B ≤ w.heap.size) :
    ∃ gb go cap w', (Builtin.append_ #[t, t] ty #[v, .slice (some ad) 1 c]).run P w = .ok (.slice (some ⟨gb, go, none⟩) (G.length + 1) cap) w' ∧ Grw w' B (.slice (some ⟨gb, go, none⟩) (G.length + 1) cap) (G ++ [x]) ∧ w.grownBy w' v.ownBlock ∧ (v.ownBlock = some gb ∨ gb = w.heap.size) ∧ gb < w'.heap.size := by
  have hnews : ∀ j u, [iv x][j]? = some u → w.cell? (ad.add j) = some u := fun j u hj => by
    match j, hj with
    | 0, hj =>
      simp at hj; subst hj
      have : ad.add 0 = ad := by unfold Addr.add; simp
      rw [this]; exact hx
  have grown : ∀ (old : Nat), old < G.length + 1 → Grw (w.drew.alloc (.cells ((G.map iv).toArray ++ #[iv x] ++ Builtin.zeroCells z.cells (grownCap w (G.length + 1) old 3 - (G.length + 1))) 3)) B (.slice (some ⟨w.heap.size, 0, none⟩) (G.length + 1) (grownCap w (G.length + 1) old 3)) (G ++ [x]) ∧ ∀ row, w.grownBy (w.drew.alloc (.cells ((G.map iv).toArray ++ #[iv x] ++ Builtin.zeroCells z.cells (grownCap w (G.length + 1) old 3 - (G.length + 1))) 3)) row := by
    intro old ho
    have hge := grownCap_ge w (G.length + 1) old 3
    refine ⟨.inr ⟨w.heap.size, 0, grownCap w (G.length + 1) old 3, _, by simp, hB, heap_alloc_new w.drew _, by simpa using hge, ?_, ?_⟩, fun row => ⟨rfl, rfl, rfl, by simp, fun k hk _ => Below.heap_alloc w.drew _ k hk⟩⟩
    · simp [size_zeroCells, hzs]; omega
    · simp
      have e : G.length + 1 = (G.map iv ++ [iv x]).length := by simp
      rw [List.append_cons, e, List.take_left]
  rcases h with ⟨rfl, rfl⟩ | ⟨gb, go, cap, cur, rfl, hb, hg, hnc, hcs, htake⟩
  · have hr := run_append_nil (P := P) w t ty 3 i z ht hi hz ad 1 c [iv x] (by simp [hs1]) hnews (by omega) (by omega) (by rw [hby]; omega)
    have hgr := grown 0 (by omega)
    simp only [List.length_nil, Nat.zero_add, List.map_nil] at hgr
    refine ⟨_, _, _, _, hr, ?_, hgr.2 _, .inr rfl, by simp⟩
    simpa using hgr.1
  · by_cases hroom : G.length + 1 ≤ cap
    · have hf := run_firstCells_some (P := P) w i.size 1 ad 1 c [iv x] (by simp [hs1]) hnews
      rw [hs1] at hf
      have hst := run_storeCells_at P gb (go + G.length) 3 [iv x] 0 cur w hg (by simp; omega) (by intro v hv; simp at hv; subst hv; rfl)
      simp only [Nat.add_zero, List.length_cons, List.length_nil, Nat.zero_add] at hst
      refine ⟨gb, go, cap, w.setRow gb (cur.toList.take (go + G.length) ++ [iv x] ++ cur.toList.drop (go + G.length + 1)).toArray, ?_, .inr ⟨gb, go, cap, _, by simp, hb, setRow_heap w gb cur _ 3 _ hg, by simpa using hroom, ?_, ?_⟩, ⟨rfl, rfl, rfl, by simp, fun k _ hk => setRow_other w gb k _ (fun e => hk (by simp [Value.ownBlock, e]))⟩, .inl rfl, ?_⟩
      · simp only [List.append_assoc, List.singleton_append] at hst ⊢
        simp [Builtin.append_, run_underlying ht, sizeOf, typeInfo, hi, Builtin.lenOf, hroom, hf, Addr.add_lit, hst, hs1]
      · simp; omega
      · have := take_mid cur.toList go G.length (iv x) (G.map iv) htake (by simp) (by simp; omega)
        simpa using this
      · have := (Array.getElem?_eq_some_iff.1 hg).1
        simpa using this
    · have hr := run_append_grow (P := P) w t ty 3 i z ht hi hz ⟨gb, go, none⟩ G.length cap (G.map iv) (by simp [hs1]) (fun j u hj => by
          have hj' : j < G.length := by have := (List.getElem?_eq_some_iff.1 hj).1; simpa using this
          have : (⟨gb, go, none⟩ : Addr).add j = ⟨gb, go + j, none⟩ := by unfold Addr.add; split <;> simp_all
          rw [this, cell_of_row w gb (go + j) cur _ _ hg, ← Array.getElem?_toList]
          have h1 : ((cur.toList.drop go).take G.length)[j]? = (G.map iv)[j]? := by rw [htake]
          rw [List.getElem?_take_of_lt hj', List.getElem?_drop] at h1
          rw [h1]; exact hj) ad 1 c [iv x] (by simp [hs1]) hnews (by omega) (by omega) (growslice_fits (by omega) (by rw [hby]; omega))
      have hgr := grown cap (by omega)
      exact ⟨_, _, _, _, hr, hgr.1, hgr.2 _, .inr rfl, by simp⟩
/-- at a step of a region that draws -/
theorem step_app1 {P : Program} (w : World) {ops : Array Oper} {o : Oper} {a : Act} {K : Act → World → Prop} {Q : Exit → Act → World → Prop} {E : Prop} (hgd : o.guard = none) (s x : Operand) (t : TypeId)
    (ho : o.op = .call { callee := .builtin .append, args := #[s, x], argTypes := #[t, t] }) (i : TypeInfo) (z : Value) (B : Nat) (v : Value) (G : List Int) (ht : P.underlying t = some (.slice 3)) (hi : P.info? 3 = some i) (hz : i.zero = some z) (hs1 : i.size = 1) (hby : i.bytes = 8) (hzs : z.cells.size = 1) (hs : a.eval s = v) (h : Grw w B v G) (ad : Addr) (c : Nat) (y : Int) (hx : a.eval x = .slice (some ad) 1 c) (hy : w.cell? ad = some (iv y)) (hn : G.length ≤ 1048576) (hB : B ≤ w.heap.size)
    (hK : ∀ gb go cap w', Grw w' B (.slice (some ⟨gb, go, none⟩) (G.length + 1) cap) (G ++ [y]) → w.grownBy w' v.ownBlock → (v.ownBlock = some gb ∨ gb = w.heap.size) → gb < w'.heap.size → K (a.put o.dst (.slice (some ⟨gb, go, none⟩) (G.length + 1) cap)) w') :
    if Region.wanted o (yielded ops a.tmps) = true then Oper.wp P o a w K Q else E := by
  have hw : Region.wanted o (yielded ops a.tmps) = true := by simp [Region.wanted, hgd]
  rw [if_pos hw]
  obtain ⟨gb, go, cap, w', hr, h2, h3, h4, h5⟩ := run_app1 (P := P) w t o.type i z B v G ht hi hz hs1 hby hzs h ad c y hy hn hB
  unfold Oper.wp execOp
  simp only [ho, resolve, invoke, builtin, Sem.run_bind, Sem.run_pure, Result.andThen_ok, List.map_toArray, List.map_cons, List.map_nil, hs, hx, hr]
  exact hK gb go cap w' h2 h3 h4 h5
end Go.Proofs.YtkabcfhemljnbaaGreat

namespace Go.Proofs.YtkabcfhemljnbaaGreat
open Go.RowKit
attribute [local go_sem ↓] Go.wp_at_zero Go.wp_at_succ

/-! spec.l1copy: the model's heap of its own. -/
/-- the cells under way: k of them, in blocks from w6 on; the box lies at g -/
structure CS (x : Hp) (w3 w6 wr : World) (vr vc vg : Value) (k : Nat) (L : List (Cl × Value)) : Prop where
  own : wr.ownsRow w6.heap.size 86 8 vc k (L.flatMap fC)
  eq : L.map (·.1) = x.cells.take k
  prs : ∀ z, z ∈ L → wr.ownsRow w6.heap.size 123 6 z.2 z.1.prs.length (z.1.prs.flatMap fP) ∧ ∀ q, z.2.ownBlock = some q → vc.ownBlock ≠ some q
  dis : ∀ i j (hi : i < L.length) (hj : j < L.length), i ≠ j → ∀ q, L[i].2.ownBlock = some q → L[j].2.ownBlock ≠ some q
  bx : HBox wr w3.heap.size x vr vc vg
  fz : ∀ o, wr.frozen? ⟨w3.heap.size, o, none⟩ = false
  on : Only (fun q => q = w3.heap.size) w6 wr
  ex : Ext w3 wr
  lt : w3.heap.size < w6.heap.size
theorem CS.ext {x : Hp} {w3 w6 wr w' : World} {vr vc vg : Value} {k : Nat} {L : List (Cl × Value)} (h : CS x w3 w6 wr vr vc vg k L) (e : Ext wr w') : CS x w3 w6 w' vr vc vg k L where
  own := ownsRow_of_block h.own (fun q hq => e.block q (h.own.lt q hq).2)
  eq := h.eq
  prs := fun z hz => ⟨ownsRow_of_block (h.prs z hz).1 (fun q hq => e.block q ((h.prs z hz).1.lt q hq).2), (h.prs z hz).2⟩
  dis := h.dis
  bx := h.bx.ext e
  fz := fun o => ((bcell e).2 _ o (Nat.lt_of_lt_of_le h.lt h.on.size)).trans (h.fz o)
  on := h.on.trans ⟨e.os, e.tape, e.output, e.size, fun q hq _ => e.block q hq⟩
  ex := h.ex.trans e
  lt := h.lt
theorem CS.len {x : Hp} {w3 w6 wr : World} {vr vc vg : Value} {k : Nat} {L : List (Cl × Value)} (h : CS x w3 w6 wr vr vc vg k L) (hk : k ≤ x.cells.length) : L.length = k := by
  have := congrArg List.length h.eq
  simpa [Nat.min_eq_left hk] using this
theorem CS.push {x : Hp} {w3 w6 W w5 : World} {vr vc vg v' : Value} {k B7 g : Nat} {L : List (Cl × Value)} {z : Cl × Value} (h : CS x w3 w6 W vr vc vg k L) (hk : k < x.cells.length) (hz : z.1 = x.cells[k]) (hg : W.grownBy w5 vc.ownBlock) (h5 : w5.ownsRow w6.heap.size 86 8 v' (k + 1) (L.flatMap fC ++ fC z))
    (hv' : v'.ownBlock = some g) (hat : vc.ownBlock = some g ∨ g = W.heap.size) (hp : W.ownsRow B7 123 6 z.2 z.1.prs.length (z.1.prs.flatMap fP)) (h7 : w6.heap.size ≤ B7) (hvn : ∀ q, vc.ownBlock = some q → q < B7) (hvp : ∀ y, y ∈ L → ∀ q, y.2.ownBlock = some q → q < B7) :
    CS x w3 w6 (w5.setCell ⟨w3.heap.size, 4, none⟩ v') vr v' vg (k + 1) (L ++ [z]) := by
  have hbW : w3.heap.size < W.heap.size := Nat.lt_of_lt_of_le h.lt h.on.size
  obtain ⟨b1, b2, b3, b4, b5, b6⟩ := box_push (o := 4) (u := v') (bg := w3.heap.size) h.lt h.ex h.own (Nat.le_refl _) hbW hg h5
  have key : ∀ y, y ∈ L ++ [z] → W.ownsRow w6.heap.size 123 6 y.2 y.1.prs.length (y.1.prs.flatMap fP) ∧ ∀ q, y.2.ownBlock = some q → vc.ownBlock ≠ some q := fun y hy => by
    rcases List.mem_append.1 hy with q | q
    · exact h.prs y q
    · rw [List.mem_singleton] at q
      subst q
      exact ⟨own_less hp h7, fun q e e' => by have := (hp.lt q e).1; have := hvn q e'; omega⟩
  have hb : HBox w5 w3.heap.size x vr vc vg := h.bx.block (hg.block w3.heap.size hbW (fun e => by have := (h.own.lt _ e.symm).1; have := h.lt; omega))
  refine ⟨by simpa using b1, ?_, fun y hy => ?_, fun i j hi hj hne q e e' => ?_, hb.set4 v', fun o => (b4 o).trans (h.fz o), ?_, b2, h.lt⟩
  · rw [List.map_append, h.eq, List.take_succ_eq_append_getElem hk]; simp [hz]
  · have kk := key y hy
    refine ⟨ownsRow_of_block kk.1 (fun q hq => b6 q (kk.1.lt q hq).2 (fun e => by have := (kk.1.lt q hq).1; have := h.lt; omega) (kk.2 q hq)), fun q e e' => ?_⟩
    rw [hv'] at e'
    injection e' with e'
    subst e'
    rcases hat with r | r
    · exact kk.2 g e r
    · have := (kk.1.lt g e).2; omega
  · simp only [List.getElem_append] at e e'
    simp at hi hj
    by_cases hi' : i < L.length <;> by_cases hj' : j < L.length
    · simp only [hi', hj', dite_true] at e e'
      exact h.dis i j hi' hj' hne q e e'
    · simp only [hi', hj', dite_true, dite_false, List.getElem_singleton] at e e'
      have := hvp _ (List.getElem_mem hi') q e
      have := (hp.lt q e').1
      omega
    · simp only [hi', hj', dite_true, dite_false, List.getElem_singleton] at e e'
      have := hvp _ (List.getElem_mem hj') q e'
      have := (hp.lt q e).1
      omega
    · omega
  · exact ⟨hg.os.trans h.on.os, hg.tape.trans h.on.tape, hg.output.trans h.on.output, by have := hg.size; have := h.on.size; simp only [World.setCell, Array.size_modify]; omega, fun q hq hne => (b6 q (Nat.lt_of_lt_of_le hq h.on.size) hne (fun e => by have := (h.own.lt q e).1; omega)).trans (h.on.block q hq hne)⟩
/-- a cell and its copy in their boxes -/
structure CB (wr W : World) (c : Cl) (ap : Option Addr) (kp : Nat) (v : Value) : Prop where
  p7 : W.cell? ⟨wr.heap.size, 7, none⟩ = some (.slice ap c.prs.length kp)
  n : S7 W (wr.heap.size + 1) 0 c
  n7 : W.cell? ⟨wr.heap.size + 1, 7, none⟩ = some v
  f : ∀ o, W.frozen? ⟨wr.heap.size + 1, o, none⟩ = false
  ex : Ext wr W
theorem CB.ext {wr W W' : World} {c : Cl} {ap : Option Addr} {kp : Nat} {v : Value} (h : CB wr W c ap kp v) (e : Ext W W') : CB wr W' c ap kp v :=
  ⟨e.keep h.p7, h.n.of fun _ _ => e.cell (p := ⟨wr.heap.size + 1, _, none⟩) (show wr.heap.size + 1 < W.heap.size from cell_lt h.n7), e.keep h.n7, fun o => ((bcell e).2 _ o (cell_lt h.n7)).trans (h.f o), h.ex.trans e⟩
theorem CB.push {wr W w5 : World} {c : Cl} {ap : Option Addr} {kp : Nat} {v v' : Value} {B7 n n' : Nat} {xs ys : List Value} (h : CB wr W c ap kp v) (hW : W.ownsRow B7 123 6 v n xs) (h7 : wr.heap.size + 1 < B7) (hg : W.grownBy w5 v.ownBlock) (h5 : w5.ownsRow B7 123 6 v' n' ys) :
    (w5.setCell ⟨wr.heap.size + 1, 7, none⟩ v').ownsRow B7 123 6 v' n' ys ∧ CB wr (w5.setCell ⟨wr.heap.size + 1, 7, none⟩ v') c ap kp v' := by
  obtain ⟨b1, b2, b3, b4, b5, b6⟩ := box_push (o := 7) (u := v') (bg := wr.heap.size + 1) h7 h.ex hW (Nat.le_succ _) (cell_lt h.n7) hg h5
  refine ⟨b1, ?_, h.n.of fun j hj => b3 _ (by omega), b5 _ h.n7, fun o => (b4 o).trans (h.f o), b2⟩
  exact (World.cell?_of_block (a := ⟨wr.heap.size, 7, none⟩) (b6 wr.heap.size (cell_lt h.p7) (by omega) (fun e => by have := (hW.lt _ e).1; omega))).trans h.p7
theorem CB.start (wr : World) (c : Cl) (ap : Option Addr) (kp : Nat) (t1 t2 : TypeId) : CB wr ((wr.alloc (.cells #[iv c.st, iv c.kind, iv c.weak, iv c.last, iv c.born, iv c.color, iv c.to, .slice ap c.prs.length kp] t1)).alloc (.cells #[iv c.st, iv c.kind, iv c.weak, iv c.last, iv c.born, iv c.color, iv c.to, .slice none 0 0] t2)) c ap kp (.slice none 0 0) :=
  ⟨by simp [go_sem], ⟨by simp [go_sem], by simp [go_sem], by simp [go_sem], by simp [go_sem], by simp [go_sem], by simp [go_sem], by simp [go_sem]⟩, by simp [go_sem], fun o => by simp [go_sem], ((Ext.refl wr).alloc _).alloc _⟩
theorem own_cap {w : World} {B : Nat} {t sz : Nat} {a : Option Addr} {n k : Nat} {xs : List Value} (h : w.ownsRow B t sz (.slice a n k) n xs) : n ≤ k := by
  rcases h.2 with ⟨h0, h1⟩ | ⟨g, cap, cur, h0, _, _, hn, _⟩
  · omega
  · simp only [Value.slice.injEq] at h0
    omega
/-- the blocks of the model's heap have one role each -/
structure GSep (x : Hp) (role : Nat → Nat) (g br bc : Nat) (pb : Nat → Nat) (vg : Value) : Prop where
  g : role g = 0
  r : 0 < x.regs.length → role br = 2
  c : 0 < x.cells.length → role bc = 3
  y : ∀ q, vg.ownBlock = some q → role q = 4
  p : ∀ q, q < x.cells.length → 0 < (x.c q).prs.length → role (pb q) = 6 + q
/-- the model's heap behind a pointer, in memory of its own -/
structure GAt (B : Nat) (w : World) (g : Nat) (x : Hp) (ar : Option Addr) (kr : Nat) (ac : Option Addr) (kc : Nat) (vg : Value) (br bc : Nat) (pb : Nat → Nat) (pa : Nat → Option Addr) (pk : Nat → Nat) (role : Nat → Nat) : Prop where
  bx : HBox w g x (.slice ar x.regs.length kr) (.slice ac x.cells.length kc) vg
  nf : Nf1 g w
  lo : B ≤ g
  ha : 0 < x.regs.length → ar = some ⟨br, 0, none⟩
  hc : 0 < x.cells.length → ac = some ⟨bc, 0, none⟩
  rw : Rws B w x br bc pb pa pk
  gr : Grw w B vg x.gray
  sp : GSep x role g br bc pb vg
  kl : x.cells.length ≤ kc
theorem GAt.ext {B : Nat} {w w' : World} {g : Nat} {x : Hp} {ar : Option Addr} {kr : Nat} {ac : Option Addr} {kc : Nat} {vg : Value} {br bc : Nat} {pb : Nat → Nat} {pa : Nat → Option Addr} {pk : Nat → Nat} {role : Nat → Nat} (h : GAt B w g x ar kr ac kc vg br bc pb pa pk role) (e : Ext w w') : GAt B w' g x ar kr ac kc vg br bc pb pa pk role :=
  ⟨h.bx.ext e, h.nf.ext e, h.lo, h.ha, h.hc, h.rw.ext e, h.gr.block (fun q hq => e.block q (h.gr.lt q hq).2), h.sp, h.kl⟩
/-- the rows are whole; the gray ones under way -/
theorem GAt.start {x : Hp} {w3 w6 wr w7 : World} {B : Nat} {ar : Option Addr} {kr : Nat} {ac : Option Addr} {kc : Nat} {vg0 vg : Value} {L : List (Cl × Value)} (h : CS x w3 w6 wr (.slice ar x.regs.length kr) (.slice ac x.cells.length kc) vg0 x.cells.length L) (hr : wr.ownsRow (w3.heap.size + 1) 90 3 (.slice ar x.regs.length kr) x.regs.length (x.regs.flatMap fW)) (hr6 : ∀ q, (Value.slice ar x.regs.length kr).ownBlock = some q → q < w6.heap.size)
    (h0 : 0 < x.regs.length) (hB : B ≤ w3.heap.size) (o7 : Only (fun q => q = w3.heap.size) wr w7) (hb7 : HBox w7 w3.heap.size x (.slice ar x.regs.length kr) (.slice ac x.cells.length kc) vg) (f7 : Nf1 w3.heap.size w7) (hg : w7.ownsRow wr.heap.size 3 1 vg x.gray.length (x.gray.map iv)) :
    ∃ br bc pb pa pk role, GAt B w7 w3.heap.size x ar kr ac kc vg br bc pb pa pk role := by
  have hll : L.length = x.cells.length := h.len (Nat.le_refl _)
  have eL : L.map (·.1) = x.cells := by rw [h.eq, List.take_length]
  have hlt := h.lt
  have hon := h.on.size
  have l1 : ∀ q (hq : q < x.cells.length), (L.getD q (Cl0, .slice none 0 0)) ∈ L ∧ (L.getD q (Cl0, .slice none 0 0)).1 = x.c q ∧ (L.getD q (Cl0, .slice none 0 0)) = L[q]'(by omega) := fun q hq => by
    have e0 : L.getD q (Cl0, .slice none 0 0) = L[q]'(by omega) := by simp [hll, hq]
    refine ⟨by rw [e0]; exact List.getElem_mem _, ?_, e0⟩
    have e : x.cells[q] = (L.map (·.1))[q]'(by simpa [hll] using hq) := by simp [eL]
    rw [← Hp.c_eq x q hq, e, e0]
    simp
  have own8 : 0 < x.cells.length → Nf1 (vblk (.slice ac x.cells.length kc)) wr ∧ w6.heap.size ≤ vblk (.slice ac x.cells.length kc) := fun hn => own_nf h.own hn
  have cell8 : ∀ q, q < x.cells.length → ∀ j, j < 8 → wr.cell? ⟨vblk (.slice ac x.cells.length kc), q * 8 + j, none⟩ = (fC (L.getD q (Cl0, .slice none 0 0)))[j]? := fun q hq j hj => by
    have := own_at (f := fC) (fun _ => rfl) (L := L) (by rw [hll]; exact h.own) q (by omega) j hj
    rw [this, (l1 q hq).2.2]
  have hbr := own_nf hr h0
  have hbr6 : vblk (.slice ar x.regs.length kr) < w6.heap.size := hr6 _ ((own_form hr).2 h0).2
  have prs : ∀ q, q < x.cells.length → wr.ownsRow w6.heap.size 123 6 (L.getD q (Cl0, .slice none 0 0)).2 (x.c q).prs.length ((x.c q).prs.flatMap fP) ∧ ∀ b, (L.getD q (Cl0, .slice none 0 0)).2.ownBlock = some b → (Value.slice ac x.cells.length kc).ownBlock ≠ some b := fun q hq => by
    have := h.prs _ (l1 q hq).1
    rw [(l1 q hq).2.1] at this
    exact this
  have dis : ∀ q q', q < x.cells.length → q' < x.cells.length → q ≠ q' → ∀ b, (L.getD q (Cl0, .slice none 0 0)).2.ownBlock = some b → (L.getD q' (Cl0, .slice none 0 0)).2.ownBlock ≠ some b := fun q q' hq hq' hne b hb => by
    rw [(l1 q hq).2.2] at hb
    rw [(l1 q' hq').2.2]
    exact h.dis q q' (by omega) (by omega) hne b hb
  have RW := Rws.of (B := w3.heap.size + 1) (w := wr) (x := x) (vr := .slice ar x.regs.length kr) (bc := vblk (.slice ac x.cells.length kc)) (pv := fun q => (L.getD q (Cl0, .slice none 0 0)).2) hr (fun q hq => by
      rw [← (l1 q hq).2.1]
      have := cell8 q hq
      exact ⟨this 0 (by omega), this 1 (by omega), this 2 (by omega), this 3 (by omega), this 4 (by omega), this 5 (by omega), this 6 (by omega)⟩) (fun q hq => cell8 q hq 7 (by omega)) (fun hn => ⟨(own8 hn).1, by have := (own8 hn).2; omega⟩) (fun hn => by have := (own8 hn).2; omega) (fun q hq => ⟨own_less (prs q hq).1 (by omega), fun b hb => ⟨by have := ((prs q hq).1.lt b hb).1; omega, fun e => by
        have hn : 0 < x.cells.length := by omega
        exact (prs q hq).2 b hb (by rw [((own_form h.own).2 hn).2, e])⟩⟩) dis
  have RW7 := RW.only o7 (fun hl e => by have := (RW.nr hl).2; omega) (fun hl e => by have := (RW.nc hl).2; omega) (fun q hq hl e => by have := (RW.pl q hq hl).2.2.2; omega)
  refine ⟨_, _, _, _, _, fun q => if q = w3.heap.size then 0 else if wr.heap.size ≤ q then 4 else if q = vblk (.slice ar x.regs.length kr) then 2 else if 0 < x.cells.length ∧ q = vblk (.slice ac x.cells.length kc) then 3 else
    (open Classical in if h : ∃ i, i < x.cells.length ∧ 0 < (x.c i).prs.length ∧ vblk (L.getD i (Cl0, .slice none 0 0)).2 = q then 6 + Classical.choose h else 5), hb7, f7, hB, fun h => ((own_form hr).2 h).1, fun hn => ((own_form h.own).2 hn).1, RW7.less (by omega), Grw.of (own_less hg (by omega)), ⟨if_pos rfl, fun hl => ?_, fun hl => ?_, fun q hq => ?_, fun q hq hl => ?_⟩, own_cap h.own⟩
  · have := (RW.nr hl).2
    have := (RW.nr hl).1.1
    rw [if_neg (by omega), if_neg (by omega), if_pos rfl]
  · have := (RW.nc hl).2
    have := (RW.nc hl).1.1
    rw [if_neg (by omega), if_neg (by omega), if_neg (fun e => RW.d hl e.symm), if_pos ⟨hl, rfl⟩]
  · have := (hg.lt q hq).1
    rw [if_neg (by omega), if_pos (by omega)]
  · have l2 := RW.pl q hq hl
    have := l2.2.2.2
    have := l2.2.1.1
    have hex : ∃ i, i < x.cells.length ∧ 0 < (x.c i).prs.length ∧ vblk (L.getD i (Cl0, .slice none 0 0)).2 = vblk (L.getD q (Cl0, .slice none 0 0)).2 := ⟨q, hq, hl, rfl⟩
    rw [if_neg (by omega), if_neg (by omega), if_neg l2.2.2.1.1, if_neg (fun e => l2.2.2.1.2 e.2), dif_pos hex]
    have sp := Classical.choose_spec hex
    have : Classical.choose hex = q := by
      rcases Nat.decEq (Classical.choose hex) q with h | h
      · exact absurd sp.2.2 (RW.dp _ q sp.1 hq h sp.2.1 hl)
      · exact h
    rw [this]
end Go.Proofs.YtkabcfhemljnbaaGreat
