import Derived.Test.YtkabcfhemljnbaaGreatPr
import Derived.Deep.AppendLies
import Derived.Deep.RegionLaw
namespace Go.Proofs.YtkabcfhemljnbaaGreat
open Go.RowKit
attribute [local go_sem ↓] Go.wp_at_zero Go.wp_at_succ

theorem infoNodeS : (Tryz.prog.info? 103).map (fun i => (i.zero, i.size, i.bytes)) = some (some (.pointer none), 1, 8) := by kernel_rfl
theorem SAt.white {B : Nat} {w : World} {b : Nat} {x : Hp} {ar : Option Addr} {kr : Nat} {v4 v8 : Value} {br bc bn : Nat} {pb : Nat → Nat} {pa : Nat → Option Addr} {pk : Nat → Nat} {kn hd : Nat} {vf : Value} {F : List Int} {vk : Value} {K : List Nat} {role : Nat → Nat} (h : SAt B w b x ar kr v4 v8 br bc bn pb pa pk kn hd vf F vk K role) (i : Nat) (hi : i < x.cells.length) : SAt B (w.setCell ⟨bc, i * 8 + 5, none⟩ (iv 0)) b { x with cells := x.cells.set i (whiteC (x.c i)) } ar kr v4 v8 br bc bn pb pa pk kn hd vf F vk K role := by
  have hn : 0 < x.cells.length := by omega
  refine h.setc hi rfl (Only.setCell (S := fun q => q = bc) (Only.refl _ w) (p := ⟨bc, i * 8 + 5, none⟩) rfl _) ?_ (fun k hk => cell_other _ (.inr (by omega))) ((h.rw.nc hn).1.set _ _)
  obtain ⟨a0, a1, a2, a3, a4, a5, a6⟩ := h.rw.s i hi
  refine ⟨?_, ?_, ?_, ?_, ?_, World.cell?_setCell_same _ _ _ a5, ?_⟩
  · rw [cell_other _ (.inr (by omega))]; exact a0
  · rw [cell_other _ (.inr (by omega))]; exact a1
  · rw [cell_other _ (.inr (by omega))]; exact a2
  · rw [cell_other _ (.inr (by omega))]; exact a3
  · rw [cell_other _ (.inr (by omega))]; exact a4
  · rw [cell_other _ (.inr (by omega))]; exact a6
set_option maxRecDepth 100000 in
set_option maxHeartbeats 600000 in
theorem sweep_keep {B : Nat} {w : World} {b : Nat} {x : Hp} {ar : Option Addr} {kr : Nat} {v4 v8 : Value} {br bc bn : Nat} {pb : Nat → Nat} {pa : Nat → Option Addr} {pk : Nat → Nat} {kn hd : Nat} {vf : Value} {F : List Int} {vk : Value} {K : List Nat} {role : Nat → Nat} (h : SAt B w b x ar kr v4 v8 br bc bn pb pa pk kn hd vf F vk K role) (n8 : x.cells.length ≤ 8000) (hp : x.phase = 3) (i : Nat) (hi : x.hand = (i : Int)) (hin : i < x.cells.length) (hs : ((x.c i).st == 1) = true) (hc : ((x.c i).color == 0) = false) (hK : K.length ≤ 8000) (a : World) (ha : a.heap.size ≤ B) (hx : Ext a w) :
    Calls Tryz.prog 236 #[.agg #[.pointer (some ⟨b, 0, none⟩)]] w fun e w' => e = .returned (nowV (unit3 x).phase b) ∧ Hid (∃ vk' role', SAt B w' b (unit3 x) ar kr v4 v8 br bc bn pb pa pk kn hd vf F vk' (K ++ [i]) role') ∧ Ext a w' := by
  have ei : x.hand.toNat = i := by omega
  have E := hide (show unit3 x = { x with cells := x.cells.set i (whiteC (x.c i)), hand := (i : Int) + 1 } by
    unfold unit3
    rw [if_neg (by omega), ei, if_neg (by simp [whB, hc]), hi])
  have EP := hide (show (unit3 x).phase = 3 by rw [unhide E]; exact hp)
  have H := hide h
  obtain ⟨i0, hi0, hy0, hy1, hy2⟩ := info_parts infoNodeS
  have XA := (Ext.refl w).alloc (.cells #[.pointer (some ⟨b, 0, none⟩)] 195)
  have c6 := h.sb.bx.2.2.2.2.2.2.1
  rw [hi] at c6
  have QA := hide (atHand_some b x.cells.length kn bn i _ (XA.keep c6) (XA.keep h.sb.n13) hin)
  have XA2 := hide XA
  have hbw : b < w.heap.size := h.sb.nb.1
  have lo := h.sb.lo.1
  have hn : 0 < x.cells.length := by omega
  have HI := hide hi
  have WH := hide (show whB (x.c i) = false by simp [whB, hc])
  have HBC := hide (h.rw.nc hn)
  clear h hp XA hi c6 ei hc
  go_enter Tryz.func236, Tryz.ntmps236
  go_wp2_with fail
  refine (unhide QA).mono ?_
  rintro e w1 ⟨rfl, x1⟩
  have r0 : w1.cell? ⟨w.heap.size, 0, none⟩ = some (.pointer (some ⟨b, 0, none⟩)) := x1.keep (by simp [go_sem])
  have X1 := hide ((unhide XA2).trans x1)
  have H1 := hide ((unhide H).ext (unhide X1))
  have m1 := ((unhide H1).sb.nd i hin).2
  have p0 := ((unhide H1).rw.s i hin).1
  have p5 := ((unhide H1).rw.s i hin).2.2.2.2.2.1
  have fc := ((unhide H1).rw.nc hn).1.2 (i * 8 + 5)
  have QS := hide (swhite_any (x.c i) bn i bc w1 m1 ((unhide H1).rw.s i hin))
  rw [unhide WH] at QS
  clear x1 XA2 QA
  go_wp2_with fail
  refine (unhide QS).mono ?_
  rintro e w2 ⟨rfl, hw2⟩
  subst hw2
  have G2 := hide ((unhide H1).white i hin)
  obtain ⟨W2, hW2⟩ : ∃ W, W = w2.setCell ⟨bc, i * 8 + 5, none⟩ (iv 0) := ⟨_, rfl⟩
  rw [← hW2] at G2
  have X2 := hide (show Ext a W2 by rw [hW2]; exact (hx.trans (unhide X1)).setCell (p := ⟨bc, i * 8 + 5, none⟩) (Nat.le_trans ha (unhide HBC).2) _)
  have s0 : W2.cell? ⟨w.heap.size, 0, none⟩ = some (.pointer (some ⟨b, 0, none⟩)) := by
    rw [hW2, cell_other _ (.inl (by have := (unhide HBC).1.1; omega))]
    exact r0
  have k17 := (unhide G2).sb.k0
  have hs2 : w.heap.size < W2.heap.size := cell_lt s0
  have hbW : b < W2.heap.size := cell_lt k17
  have hbc2 : bc < w2.heap.size := cell_lt p5
  obtain ⟨avk, kvk, hvk⟩ : ∃ a k, vk = .slice a K.length k := ⟨_, _, (own_form (unhide G2).sb.kp).1⟩
  subst hvk
  have f17 := (unhide G2).sb.nb.2 4017
  have hB : B ≤ W2.heap.size := by have := (unhide G2).sb.lo.1; omega
  have OW := hide (unhide G2).sb.kp
  have nsb : ¬ w.heap.size = b := by omega
  have nbs : ¬ b = w.heap.size := by omega
  go_wp2_with fail
  rw [← hW2]
  have NK := hide (show ∀ q, (Value.slice avk K.length kvk).ownBlock = some q → q < w.heap.size from fun q hq => ((unhide H).sb.kp.lt q hq).2)
  have GSB := hide (show ∀ q, (Value.slice avk K.length kvk).ownBlock = some q → q ≠ b from fun q hq e => by have h1 := (unhide G2).sp.k q hq; have h2 := (unhide G2).sp.b; rw [e] at h1; omega)
  clear hW2 m1 p0 p5 fc r0 hbc2
  have OD := hide (show ∀ o, (W2.drew.alloc o).ownsRow B 103 1 (.slice avk K.length kvk) K.length (K.map (ndp bn)) ∧ ((W2.alloc o).drew).ownsRow B 103 1 (.slice avk K.length kvk) K.length (K.map (ndp bn)) from fun o => ⟨ownsRow_of_block (unhide OW) (fun q hq => ((Ext.refl W2).drew.alloc o).block q ((unhide OW).lt q hq).2), ownsRow_of_block (unhide OW) (fun q hq => ((Ext.refl W2).alloc o).drew.block q ((unhide OW).lt q hq).2)⟩)
  go_region_law (refine step_append_lies _ rfl _ _ 107 rfl B 103 i0 (.pointer none) 1 8 Tryz.underlying107 hi0 hy0 hy1 hy2 rfl (by decide) (.slice avk K.length kvk) K.length (K.map (ndp bn)) (by first | rfl | simp [Act.eval, Act.put]) (by first | exact (unhide OD _).1 | exact (unhide OD _).2 | exact (unhide OW).alloc _) _ 1 1 [ndp bn i] (by first | rfl | simp [Act.eval, Act.put]; rfl) rfl (by intro j u hj; match j, hj with | 0, hj => simp at hj; subst hj; simp [Addr.add, go_sem]) (by intro u hu; simp at hu; subst hu; rfl) (by decide) (by unfold maxLen; omega) (by omega) (by simp; omega) _ rfl ?_; intro g cap w5 hown hgrow hat hglt; have xb := Ext.trans ((Ext.refl W2).alloc (.cells #[ndp bn i] 103)) ((Ext.refl (W2.alloc (.cells #[ndp bn i] 103))).drew); have R := hide (((unhide G2).ext xb).push hgrow hown (by simpa using hat)); have eb : w5.heap[b]? = W2.heap[b]? := (hgrow.block b (Nat.lt_of_lt_of_le hbW xb.size) (fun e => unhide GSB b e.symm rfl)).trans (xb.block b hbW); have es : w5.heap[w.heap.size]? = W2.heap[w.heap.size]? := (hgrow.block w.heap.size (Nat.lt_of_lt_of_le hs2 xb.size) (fun e => Nat.lt_irrefl _ (unhide NK _ e.symm))).trans (xb.block w.heap.size hs2); have t0 := (World.cell?_of_block (a := ⟨w.heap.size, 0, none⟩) es).trans s0; have e17 := (World.cell?_of_block (a := ⟨b, 4017, none⟩) eb).trans k17; have g17 := (World.frozen?_of_block (a := ⟨b, 4017, none⟩) eb).trans f17; have hb5 : b < w5.heap.size := cell_lt e17; have hs5 : w.heap.size < w5.heap.size := cell_lt t0; have X5 := hide (show Ext a (w5.setCell ⟨b, 4017, none⟩ (.slice (some ⟨g, 0, none⟩) (K.length + 1) cap)) from (grown_ext ((unhide X2).trans xb) ((unhide OD _).2) ha hgrow).setCell (p := ⟨b, 4017, none⟩) (Nat.le_trans ha lo) _); clear hown hgrow hat xb eb es)
  all_goals
    have c6 : (w5.setCell ⟨b, 4017, none⟩ (.slice (some ⟨g, 0, none⟩) (K.length + 1) cap)).cell? ⟨b, 6, none⟩ = some (iv i) := by have := (unhide R).sb.bx.2.2.2.2.2.2.1; exact this.trans (by rw [unhide HI])
    have f6 := (unhide R).sb.nb.2 6
    have t1 : (w5.setCell ⟨b, 4017, none⟩ (.slice (some ⟨g, 0, none⟩) (K.length + 1) cap)).cell? ⟨w.heap.size, 0, none⟩ = some (.pointer (some ⟨b, 0, none⟩)) := by rw [cell_other _ (.inl nbs)]; exact t0
    have FN := hide ((unhide R).hand ((i : Int) + 1))
    have XN := hide ((unhide X5).setCell (p := ⟨b, 6, none⟩) (show a.heap.size ≤ b by omega) (iv ((i : Int) + 1)))
    go_wp2_with fail
    go_ret
    exact ⟨by rw [unhide EP]; rfl, by rw [unhide E]; exact ⟨_, _, unhide FN⟩, unhide XN⟩
end Go.Proofs.YtkabcfhemljnbaaGreat
