import Derived.Test.YtkabcfhemljnbaaGreatPxp
import Derived.Test.YtkabcfhemljnbaaGreatLp
namespace Go.Proofs.YtkabcfhemljnbaaGreat
open Go.RowKit
attribute [local go_sem ↓] Go.wp_at_zero Go.wp_at_succ

/-- one pair of a cell has turned -/
theorem SAt.setp {B : Nat} {w w' : World} {b : Nat} {x : Hp} {ar : Option Addr} {kr : Nat} {v4 v8 : Value} {br bc bn : Nat} {pb : Nat → Nat} {pa : Nat → Option Addr} {pk : Nat → Nat} {kn hd : Nat} {vf : Value} {F : List Int} {vk : Value} {K : List Nat} {role : Nat → Nat} (h : SAt B w b x ar kr v4 v8 br bc bn pb pa pk kn hd vf F vk K role) (i : Nat) (hi : i < x.cells.length) (k : Nat) (hk : k < (x.c i).prs.length) (p' : Pr) (o : Only (fun q => q = pb i) w w') (nf : Nf1 (pb i) w') (hp : PrAt w' (pb i) (k * 6) p') (ho : ∀ j, (j < k * 6 ∨ k * 6 + 6 ≤ j) → w'.cell? ⟨pb i, j, none⟩ = w.cell? ⟨pb i, j, none⟩) :
    SAt B w' b { x with cells := x.cells.set i { x.c i with prs := (x.c i).prs.set k p' } } ar kr v4 v8 br bc bn pb pa pk kn hd vf F vk K role := by
  have hl0 : 0 < (x.c i).prs.length := by omega
  have ri := h.sp.p i hi hl0
  have far : ∀ q, q < w.heap.size → role q ≠ 6 + i → w'.heap[q]? = w.heap[q]? := fun q hq hr => o.block q hq (fun e => hr (by rw [e]; exact ri))
  have hn : 0 < x.cells.length := by omega
  have hl : ({ x with cells := x.cells.set i { x.c i with prs := (x.c i).prs.set k p' } } : Hp).cells.length = x.cells.length := by simp
  have hc := Hp.c_set x i { x.c i with prs := (x.c i).prs.set k p' } hi
  have hne : ∀ q, q ≠ i → (({ x with cells := x.cells.set i { x.c i with prs := (x.c i).prs.set k p' } } : Hp).c q) = x.c q := fun q e => by rw [hc q, if_neg e]
  have hei : (({ x with cells := x.cells.set i { x.c i with prs := (x.c i).prs.set k p' } } : Hp).c i) = { x.c i with prs := (x.c i).prs.set k p' } := by rw [hc i, if_pos rfl]
  have hpl : ∀ q, (({ x with cells := x.cells.set i { x.c i with prs := (x.c i).prs.set k p' } } : Hp).c q).prs.length = (x.c q).prs.length := fun q => by
    by_cases e : q = i
    · rw [e, hei]; simp
    · rw [hne q e]
  have fc := far bc (h.rw.nc hn).1.1 (by rw [h.sp.c hn]; omega)
  have pf : ∀ q, q < x.cells.length → q ≠ i → 0 < (x.c q).prs.length → w'.heap[pb q]? = w.heap[pb q]? := fun q hq hqi hl => far (pb q) (h.rw.pl q hq hl).2.1.1 (by rw [h.sp.p q hq hl]; omega)
  have sb2 := h.sb.same o.size (far b h.sb.nb.1 (by rw [h.sp.b]; omega)) (far bn h.sb.lo.2.2 (by rw [h.sp.n]; omega)) (fun q hq => far q (h.sb.fr.own.lt q hq).2 (by rw [h.sp.f q hq]; omega)) (fun q hq => far q (h.sb.kp.lt q hq).2 (by rw [h.sp.k q hq]; omega))
  refine ⟨⟨sb2.bx, sb2.ha, by rw [hl]; exact sb2.n13, fun k hk => sb2.nd k (by rw [hl] at hk; exact hk), sb2.fr, sb2.rg, sb2.k0, sb2.kp, sb2.nb, sb2.lo⟩, ⟨fun j hj => ?_, fun q hq => ?_, fun q hq => ?_, fun q hq j hj => ?_, fun q hq hlq => ?_, fun hr => ⟨nf1_block (h.rw.nr hr).1 (far br (h.rw.nr hr).1.1 (by rw [h.sp.r hr]; omega)) o.size, (h.rw.nr hr).2⟩, fun _ => ⟨nf1_block (h.rw.nc hn).1 fc o.size, (h.rw.nc hn).2⟩, fun _ => h.rw.d hn, fun q q' hq hq' hne h1 h2 => ?_⟩, ⟨h.sp.b, h.sp.n, h.sp.r, fun _ => h.sp.c hn, h.sp.f, h.sp.k, fun q hq hlq => ?_⟩⟩
  · exact (h.rw.r j hj).of fun m _ => World.cell?_of_block (a := ⟨br, _, none⟩) (far br (h.rw.nr (by have : j < x.regs.length := hj; omega)).1.1 (by rw [h.sp.r (by have : j < x.regs.length := hj; omega)]; omega))
  · rw [hl] at hq
    have key : S7 w' bc (q * 8) (x.c q) := (h.rw.s q hq).of fun m _ => World.cell?_of_block (a := ⟨bc, _, none⟩) fc
    by_cases e : q = i
    · subst e; rw [hei]; exact key
    · rw [hne q e]; exact key
  · rw [hl] at hq
    rw [hpl q, World.cell?_of_block (a := ⟨bc, _, none⟩) fc]; exact h.rw.p7 q hq
  · rw [hl] at hq
    rw [hpl q] at hj
    by_cases e : q = i
    · subst e
      rw [hei]
      by_cases ej : j = k
      · subst ej
        have : ({ x.c q with prs := (x.c q).prs.set j p' } : Cl).p j = p' := by simp [Cl.p, hj]
        rw [this]; exact hp
      · have : ({ x.c q with prs := (x.c q).prs.set k p' } : Cl).p j = (x.c q).p j := by
          have hkj : k ≠ j := fun e => ej e.symm
          simp [Cl.p, List.getElem?_set_ne hkj]
        rw [this]
        exact (h.rw.p q hq j hj).of fun m hm => ho _ (by omega)
    · rw [hne q e]
      exact (h.rw.p q hq j hj).of fun m _ => World.cell?_of_block (a := ⟨pb q, _, none⟩) (pf q hq e (by omega))
  · rw [hl] at hq; rw [hpl q] at hlq
    obtain ⟨a1, a2, a3⟩ := h.rw.pl q hq hlq
    by_cases e : q = i
    · subst e; exact ⟨a1, nf, a3⟩
    · exact ⟨a1, nf1_block a2 (pf q hq e hlq) o.size, a3⟩
  · rw [hl] at hq hq'; rw [hpl] at h1 h2; exact h.rw.dp q q' hq hq' hne h1 h2
  · rw [hl] at hq; rw [hpl q] at hlq; exact h.sp.p q hq hlq
theorem SAt.subs {B : Nat} {w : World} {b : Nat} {x : Hp} {ar : Option Addr} {kr : Nat} {v4 v8 : Value} {br bc bn : Nat} {pb : Nat → Nat} {pa : Nat → Option Addr} {pk : Nat → Nat} {kn hd : Nat} {vf : Value} {F : List Int} {vk : Value} {K : List Nat} {role : Nat → Nat} (h : SAt B w b x ar kr v4 v8 br bc bn pb pa pk kn hd vf F vk K role) (v : Int) :
    SAt B (w.setCell ⟨b, 7, none⟩ (iv v)) b { x with sub := v } ar kr v4 v8 br bc bn pb pa pk kn hd vf F vk K role := by
  refine h.boxed (x' := { x with sub := v }) (Only.setCell (S := fun q => q = b) (Only.refl _ w) (p := ⟨b, 7, none⟩) rfl _) (h.sb.nb.set _ _) rfl rfl rfl (h.sb.bx.set7 v) (fun k hk => cell_other _ (.inr (by omega)))
set_option maxRecDepth 100000 in
set_option maxHeartbeats 600000 in
theorem mend_end {B : Nat} {w : World} {b : Nat} {x : Hp} {ar : Option Addr} {kr : Nat} {v4 v8 : Value} {br bc bn : Nat} {pb : Nat → Nat} {pa : Nat → Option Addr} {pk : Nat → Nat} {kn hd : Nat} {vf : Value} {F : List Int} {vk : Value} {K : List Nat} {role : Nat → Nat} (h : SAt B w b x ar kr v4 v8 br bc bn pb pa pk kn hd vf F vk K role) (hp : x.phase = 5) (he : x.hand = x.cells.length) (a : World) (ha : a.heap.size ≤ B) (hx : Ext a w) :
    Calls Tryz.prog 242 #[.agg #[.pointer (some ⟨b, 0, none⟩)]] w fun e w' => e = .returned (nowV (unit5 x).phase b) ∧ Hid (SAt B w' b (unit5 x) ar kr v4 v8 br bc bn pb pa pk kn hd vf F vk K role) ∧ Ext a w' := by
  have E := hide (show unit5 x = toPh x 6 x.cells.length by unfold unit5; rw [if_pos he])
  have H := hide h
  have HP := hide hp
  have XA := (Ext.refl w).alloc (.cells #[.pointer (some ⟨b, 0, none⟩)] 197)
  have QA := hide (atHand_none x.hand b x.cells.length kn (some ⟨bn, 0, none⟩) _ (XA.keep h.sb.bx.2.2.2.2.2.2.1) (XA.keep h.sb.n13) (by simpa using he))
  have XA2 := hide XA
  have hbw : b < w.heap.size := h.sb.nb.1
  clear h hp he XA
  go_enter Tryz.func242, Tryz.ntmps242
  go_wp2_with fail
  refine (unhide QA).mono ?_
  rintro e w1 ⟨rfl, x1⟩
  have r0 : w1.cell? ⟨w.heap.size, 0, none⟩ = some (.pointer (some ⟨b, 0, none⟩)) := x1.keep (by simp [go_sem])
  have X1 := hide ((unhide XA2).trans x1)
  go_wp2_with fail
  refine (turn_5 ((unhide H).ext (unhide X1)) (unhide HP) a ha (hx.trans (unhide X1))).mono ?_
  rintro e w2 ⟨rfl, h2, x2⟩
  go_wp2_with fail
  go_ret
  exact ⟨by rw [unhide E]; rfl, by rw [unhide E]; exact unhide h2, x2⟩
set_option maxRecDepth 100000 in
set_option maxHeartbeats 600000 in
theorem mend_next {B : Nat} {w : World} {b : Nat} {x : Hp} {ar : Option Addr} {kr : Nat} {v4 v8 : Value} {br bc bn : Nat} {pb : Nat → Nat} {pa : Nat → Option Addr} {pk : Nat → Nat} {kn hd : Nat} {vf : Value} {F : List Int} {vk : Value} {K : List Nat} {role : Nat → Nat} (h : SAt B w b x ar kr v4 v8 br bc bn pb pa pk kn hd vf F vk K role) (n8 : x.cells.length ≤ 8000) (hp : x.phase = 5) (i : Nat) (hi : x.hand = (i : Int)) (hin : i < x.cells.length) (k : Nat) (hk : x.sub = (k : Int)) (hkl : ¬ k < (x.c i).prs.length) (a : World) (ha : a.heap.size ≤ B) (hx : Ext a w) :
    Calls Tryz.prog 242 #[.agg #[.pointer (some ⟨b, 0, none⟩)]] w fun e w' => e = .returned (nowV (unit5 x).phase b) ∧ Hid (SAt B w' b (unit5 x) ar kr v4 v8 br bc bn pb pa pk kn hd vf F vk K role) ∧ Ext a w' := by
  have ei : x.hand.toNat = i := by omega
  have E := hide (show unit5 x = { x with hand := (i : Int) + 1, sub := 0 } by unfold unit5; rw [if_neg (by omega), ei, if_neg (by omega), hi])
  have EP := hide (show (unit5 x).phase = 5 by rw [unhide E]; exact hp)
  have H := hide h
  have XA := (Ext.refl w).alloc (.cells #[.pointer (some ⟨b, 0, none⟩)] 197)
  have c6 := h.sb.bx.2.2.2.2.2.2.1
  rw [hi] at c6
  have QA := hide (atHand_some b x.cells.length kn bn i _ (XA.keep c6) (XA.keep h.sb.n13) hin)
  have XA2 := hide XA
  have hbw : b < w.heap.size := h.sb.nb.1
  have lo := h.sb.lo.1
  have HI := hide (And.intro hi hk)
  have kk : ¬ (k : Int) < ((x.c i).prs.length : Int) := by omega
  clear h hp XA ei hi c6 hk
  go_enter Tryz.func242, Tryz.ntmps242
  go_wp2_with fail
  refine (unhide QA).mono ?_
  rintro e w1 ⟨rfl, x1⟩
  have r0 : w1.cell? ⟨w.heap.size, 0, none⟩ = some (.pointer (some ⟨b, 0, none⟩)) := x1.keep (by simp [go_sem])
  have X1 := hide ((unhide XA2).trans x1)
  have H1 := hide ((unhide H).ext (unhide X1))
  have m1 := ((unhide H1).sb.nd i hin).2
  have p7 := (unhide H1).rw.p7 i hin
  have c6 : w1.cell? ⟨b, 6, none⟩ = some (iv i) := by have := (unhide H1).sb.bx.2.2.2.2.2.2.1; rw [(unhide HI).1] at this; exact this
  have c7 : w1.cell? ⟨b, 7, none⟩ = some (iv k) := by have := (unhide H1).sb.bx.2.2.2.2.2.2.2.1; rw [(unhide HI).2] at this; exact this
  have f6 := (unhide H1).sb.nb.2 6
  have f7 := (unhide H1).sb.nb.2 7
  have hb1 : b < w1.heap.size := cell_lt c6
  have hb2 : w.heap.size < w1.heap.size := cell_lt r0
  have nbw : ¬ b = w.heap.size := by omega
  have nwb : ¬ w.heap.size = b := by omega
  have FN := hide (show ∀ W, Ext w1 W → SAt B ((W.setCell ⟨b, 6, none⟩ (iv ((i : Int) + 1))).setCell ⟨b, 7, none⟩ (iv 0)) b { x with hand := (i : Int) + 1, sub := 0 } ar kr v4 v8 br bc bn pb pa pk kn hd vf F vk K role ∧ Ext a ((W.setCell ⟨b, 6, none⟩ (iv ((i : Int) + 1))).setCell ⟨b, 7, none⟩ (iv 0)) from fun W xw => ⟨(((unhide H1).ext xw).hand _).subs 0, (((hx.trans (unhide X1)).trans xw).setCell (p := ⟨b, 6, none⟩) (show a.heap.size ≤ b by omega) _).setCell (p := ⟨b, 7, none⟩) (show a.heap.size ≤ b by omega) _⟩)
  clear x1 XA2 QA
  go_wp2_with fail
  go_quiet (fail)
  go_wp2_with fail
  go_ret
  exact ⟨by rw [unhide EP]; rfl, by rw [unhide E]; exact (unhide FN _ ((Ext.refl w1).drewN _)).1, (unhide FN _ ((Ext.refl w1).drewN _)).2⟩
end Go.Proofs.YtkabcfhemljnbaaGreat
