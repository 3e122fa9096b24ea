import Derived.Test.YtkabcfhemljnbaaGreatPg
import Derived.Test.YtkabcfhemljnbaaGreatLj
namespace Go.Proofs.YtkabcfhemljnbaaGreat
open Go.RowKit
attribute [local go_sem ↓] Go.wp_at_zero Go.wp_at_succ

/-! The ring's first, and what is behind it. -/
theorem rfirst_none (b bn hd : Nat) (w : World) (h : RAt w b bn hd []) :
    Calls Tryz.prog 234 #[.pointer (some ⟨b, 15, none⟩)] w fun e w' => e = .returned (.pointer none) ∧ Ext w w' := by
  have r1 := h.r1
  simp only [List.length_nil] at r1
  clear h
  go_enter Tryz.func234, Tryz.ntmps234
  go_wp2_with fail
  go_ret
  exact ⟨rfl, Ext.refl _⟩
set_option maxRecDepth 100000 in
theorem rfirst_some (b bn hd : Nat) (g : Int) (G : List Int) (w : World) (h : RAt w b bn hd (g :: G)) :
    Calls Tryz.prog 234 #[.pointer (some ⟨b, 15, none⟩)] w fun e w' => e = .returned (ndp bn g.toNat) ∧ Ext w w' := by
  have r0 := h.r0
  have r1 := h.r1
  have hl := h.hl
  have h0 := h.h0
  have rg := h.rg 0 (by simp)
  have e : (hd + 0) % 4000 = hd := by omega
  rw [e] at rg
  simp only [List.getElem_cons_zero] at rg
  have c0 : (((g :: G).length : Nat) : Int) = (G.length : Int) + 1 := by simp
  rw [c0] at r1
  have nz : (((G.length : Int) + 1) == 0) = false := by simp; omega
  have d0 : (0:Int) ≤ (hd:Int) := by omega
  have d1 : (hd:Int) < 4000 := by omega
  clear h e c0 hl
  go_enter Tryz.func234, Tryz.ntmps234
  go_wp2_with fail
  go_quiet (fail)
  go_wp2_with fail
  go_ret
  exact ⟨rfl, (Ext.refl _).drewN _⟩
theorem RAt.dropped {w : World} {b bn hd m : Nat} {g : Int} {G : List Int} (h : RAt w b bn hd (g :: G)) (hm : m = (hd + 1) % 4000) :
    RAt ((w.setCell ⟨b, 4015, none⟩ (iv m)).setCell ⟨b, 4016, none⟩ (iv G.length)) b bn m G := by
  have hl := h.hl
  simp at hl
  refine ⟨by rw [hm]; exact Nat.mod_lt _ (by omega), by omega, ?_, ?_, fun k hk => ?_, fun j hj => ?_⟩
  · rw [cell_other _ (.inr (by omega))]; exact World.cell?_setCell_same _ _ _ h.r0
  · have : (w.setCell ⟨b, 4015, none⟩ (iv m)).cell? ⟨b, 4016, none⟩ = some (iv (g :: G).length) := by rw [cell_other _ (.inr (by omega))]; exact h.r1
    exact World.cell?_setCell_same _ _ _ this
  · have hk2 : (m + k) % 4000 < 4000 := Nat.mod_lt _ (by omega)
    rw [cell_other _ (.inr (by omega)), cell_other _ (.inr (by omega))]
    have := h.rg (k + 1) (by simpa using hk)
    have e : (hd + (k + 1)) % 4000 = (m + k) % 4000 := by rw [hm]; omega
    rw [e] at this
    simpa using this
  · obtain ⟨v, hv⟩ := h.ro j hj
    exact ⟨v, by rw [cell_other _ (.inr (by omega)), cell_other _ (.inr (by omega))]; exact hv⟩
set_option maxRecDepth 100000 in
set_option maxHeartbeats 600000 in
theorem rdrop_any (b bn hd : Nat) (g : Int) (G : List Int) (w : World) (h : RAt w b bn hd (g :: G)) (hn : Nf1 b w) :
    Calls Tryz.prog 230 #[.pointer (some ⟨b, 15, none⟩)] w fun e w' => e = .returned (.tuple #[]) ∧ Hid (RAt w' b bn ((hd + 1) % 4000) G ∧ Only (fun q => q = b) w w' ∧ Nf1 b w' ∧ ∀ o, (o < 15 ∨ o = 4017) → w'.cell? ⟨b, o, none⟩ = w.cell? ⟨b, o, none⟩) := by
  have r0 := h.r0
  have r1 := h.r1
  have hl := h.hl
  have h0 := h.h0
  have c0 : (((g :: G).length : Nat) : Int) = (G.length : Int) + 1 := by simp
  rw [c0] at r1
  have hl2 : G.length + 1 ≤ 4000 := by simpa using hl
  have f0 := hn.2 4015
  have f1 := hn.2 4016
  obtain ⟨m, hm⟩ : ∃ m, m = (hd + 1) % 4000 := ⟨_, rfl⟩
  have hr : ((hd : Int) + 1).tmod 4000 = (m : Int) := by have := ring_idx (hd + 1); rw [← hm] at this; simpa using this
  have FN := hide (show RAt ((w.setCell ⟨b, 4015, none⟩ (iv m)).setCell ⟨b, 4016, none⟩ (iv G.length)) b bn m G ∧ Only (fun q => q = b) w ((w.setCell ⟨b, 4015, none⟩ (iv m)).setCell ⟨b, 4016, none⟩ (iv G.length)) ∧ Nf1 b ((w.setCell ⟨b, 4015, none⟩ (iv m)).setCell ⟨b, 4016, none⟩ (iv G.length)) ∧ ∀ o, (o < 15 ∨ o = 4017) → ((w.setCell ⟨b, 4015, none⟩ (iv m)).setCell ⟨b, 4016, none⟩ (iv G.length)).cell? ⟨b, o, none⟩ = w.cell? ⟨b, o, none⟩ from
    ⟨h.dropped hm, Only.setCell (S := fun q => q = b) (Only.setCell (S := fun q => q = b) (Only.refl _ w) (p := ⟨b, 4015, none⟩) rfl _) (p := ⟨b, 4016, none⟩) rfl _, (hn.set _ _).set _ _, fun o ho => by rw [cell_other _ (.inr (by omega)), cell_other _ (.inr (by omega))]⟩)
  rw [← hm]
  clear h c0 hl hm hn
  go_enter Tryz.func230, Tryz.ntmps230
  go_wp2_with fail
  go_end0
  exact ⟨rfl, unhide FN⟩
/-- the first of the ring is dropped -/
theorem SAt.rdrop {B : Nat} {w w' : World} {b : Nat} {x : Hp} {ar : Option Addr} {kr : Nat} {v4 v8 : Value} {br bc bn : Nat} {pb : Nat → Nat} {pa : Nat → Option Addr} {pk : Nat → Nat} {kn hd : Nat} {vf : Value} {F : List Int} {vk : Value} {K : List Nat} {role : Nat → Nat} (h : SAt B w b x ar kr v4 v8 br bc bn pb pa pk kn hd vf F vk K role) {hd' : Nat} {G : List Int} (r : RAt w' b bn hd' G ∧ Only (fun q => q = b) w w' ∧ Nf1 b w' ∧ ∀ o, (o < 15 ∨ o = 4017) → w'.cell? ⟨b, o, none⟩ = w.cell? ⟨b, o, none⟩) : SAt B w' b { x with gray := G } ar kr v4 v8 br bc bn pb pa pk kn hd' vf F vk K role := h.ring r.1 r.2.1 r.2.2.1 r.2.2.2
end Go.Proofs.YtkabcfhemljnbaaGreat

namespace Go.Proofs.YtkabcfhemljnbaaGreat
open Go.RowKit
attribute [local go_sem ↓] Go.wp_at_zero Go.wp_at_succ

theorem SAt.black {B : Nat} {w : World} {b : Nat} {x : Hp} {ar : Option Addr} {kr : Nat} {v4 v8 : Value} {br bc bn : Nat} {pb : Nat → Nat} {pa : Nat → Option Addr} {pk : Nat → Nat} {kn hd : Nat} {vf : Value} {F : List Int} {vk : Value} {K : List Nat} {role : Nat → Nat} (h : SAt B w b x ar kr v4 v8 br bc bn pb pa pk kn hd vf F vk K role) (i : Nat) (hi : i < x.cells.length) : SAt B (w.setCell ⟨bc, i * 8 + 5, none⟩ (iv 2)) b { x with cells := x.cells.set i (blackC (x.c i)) } ar kr v4 v8 br bc bn pb pa pk kn hd vf F vk K role := by
  have hn : 0 < x.cells.length := by omega
  refine h.setc hi rfl (Only.setCell (S := fun q => q = bc) (Only.refl _ w) (p := ⟨bc, i * 8 + 5, none⟩) rfl _) ?_ (fun k hk => cell_other _ (.inr (by omega))) ((h.rw.nc hn).1.set _ _)
  obtain ⟨a0, a1, a2, a3, a4, a5, a6⟩ := h.rw.s i hi
  refine ⟨?_, ?_, ?_, ?_, ?_, World.cell?_setCell_same _ _ _ a5, ?_⟩
  · rw [cell_other _ (.inr (by omega))]; exact a0
  · rw [cell_other _ (.inr (by omega))]; exact a1
  · rw [cell_other _ (.inr (by omega))]; exact a2
  · rw [cell_other _ (.inr (by omega))]; exact a3
  · rw [cell_other _ (.inr (by omega))]; exact a4
  · rw [cell_other _ (.inr (by omega))]; exact a6
set_option maxRecDepth 100000 in
set_option maxHeartbeats 600000 in
theorem mark_black {B : Nat} {w : World} {b : Nat} {x : Hp} {ar : Option Addr} {kr : Nat} {v4 v8 : Value} {br bc bn : Nat} {pb : Nat → Nat} {pa : Nat → Option Addr} {pk : Nat → Nat} {kn hd : Nat} {vf : Value} {F : List Int} {vk : Value} {K : List Nat} {role : Nat → Nat} (h : SAt B w b x ar kr v4 v8 br bc bn pb pa pk kn hd vf F vk K role) (n8 : x.cells.length ≤ 8000) (hp : x.phase = 2) (i : Nat) (G : List Int) (hg : x.gray = (i : Int) :: G) (hin : i < x.cells.length) (hks : ¬ x.sub < ((x.c i).prs.length : Int)) (a : World) (ha : a.heap.size ≤ B) (hx : Ext a w) :
    Calls Tryz.prog 233 #[.agg #[.pointer (some ⟨b, 0, none⟩)]] w fun e w' => e = .returned (nowV (unit2 x).phase b) ∧ Hid (SAt B w' b (unit2 x) ar kr v4 v8 br bc bn pb pa pk kn ((hd + 1) % 4000) vf F vk K role) ∧ Ext a w' := by
  have ei : ((i : Int)).toNat = i := by omega
  have E := hide (show unit2 x = { x with cells := x.cells.set i (blackC (x.c i)), gray := G, sub := 0 } by
    unfold unit2
    rw [hg]
    simp only [ei, if_neg hks])
  have EP := hide (show (unit2 x).phase = 2 by rw [unhide E]; exact hp)
  have H := hide h
  have XA := (Ext.refl w).alloc (.cells #[.pointer (some ⟨b, 0, none⟩)] 194)
  have RG := hide (show RAt w b bn hd ((i : Int) :: G) by have := h.sb.rg; rw [hg] at this; exact this)
  have QA := hide (rfirst_some b bn hd i G _ ((unhide RG).block (XA.block b h.sb.nb.1)))
  have XA2 := hide XA
  have hbw : b < w.heap.size := h.sb.nb.1
  have lo := h.sb.lo.1
  have HG := hide hg
  have hn : 0 < x.cells.length := by omega
  clear h hp XA hg
  go_enter Tryz.func233, Tryz.ntmps233
  go_wp2_with fail
  refine (unhide QA).mono ?_
  rintro e w1 ⟨rfl, x1⟩
  rw [ei]
  have r0 : w1.cell? ⟨w.heap.size, 0, none⟩ = some (.pointer (some ⟨b, 0, none⟩)) := x1.keep (by simp [go_sem])
  have X1 := hide ((unhide XA2).trans x1)
  have H1 := hide ((unhide H).ext (unhide X1))
  have m1 := ((unhide H1).sb.nd i hin).2
  have p5 := ((unhide H1).rw.s i hin).2.2.2.2.2.1
  have p7 := (unhide H1).rw.p7 i hin
  have c7 := (unhide H1).sb.bx.2.2.2.2.2.2.2.1
  have f7 := (unhide H1).sb.nb.2 7
  have fc := ((unhide H1).rw.nc hn).1.2 (i * 8 + 5)
  have hb1 : b < w1.heap.size := cell_lt c7
  have hb2 : w.heap.size < w1.heap.size := cell_lt r0
  have hbc : bc < w1.heap.size := cell_lt p5
  have nbw : ¬ b = w.heap.size := by omega
  have nwb : ¬ w.heap.size = b := by omega
  have HBC := hide ((unhide H).rw.nc hn)
  have NBC := hide (show ¬ b = bc from fun e => by have h1 := (unhide H1).sp.b; have h2 := (unhide H1).sp.c hn; rw [e] at h1; omega)
  clear x1 XA2 QA ei
  go_wp2_with fail
  go_quiet (fail)
  have G2 := hide (((unhide H1).ext ((Ext.refl w1).drewN nq)).black i hin)
  obtain ⟨W2, hW2⟩ : ∃ W, W = (w1.drewN nq).setCell ⟨bc, i * 8 + 5, none⟩ (iv 2) := ⟨_, rfl⟩
  rw [← hW2] at G2
  have X2 := hide (show Ext a W2 by rw [hW2]; exact ((hx.trans (unhide X1)).drewN _).setCell (p := ⟨bc, i * 8 + 5, none⟩) (Nat.le_trans ha (unhide HBC).2) _)
  have s0 : W2.cell? ⟨w.heap.size, 0, none⟩ = some (.pointer (some ⟨b, 0, none⟩)) := by
    rw [hW2, cell_other _ (.inl (by have := (unhide HBC).1.1; omega))]
    exact ((Ext.refl w1).drewN nq).keep r0
  have RG2 := hide (show RAt W2 b bn hd ((i : Int) :: G) by have := (unhide G2).sb.rg; rw [← unhide HG]; exact this)
  go_wp2_with fail
  rw [← hW2]
  refine (rdrop_any b bn hd i G _ (unhide RG2) (unhide G2).sb.nb).mono ?_
  rintro e w3 ⟨rfl, hr3⟩
  have G3 := hide ((unhide G2).rdrop (unhide hr3))
  have o3 := (unhide hr3).2.1
  have hs2 : w.heap.size < W2.heap.size := cell_lt s0
  have t0 : w3.cell? ⟨w.heap.size, 0, none⟩ = some (.pointer (some ⟨b, 0, none⟩)) := (World.cell?_of_block (a := ⟨w.heap.size, 0, none⟩) (o3.block w.heap.size hs2 (by omega))).trans s0
  have X3 := hide (o3.ext (unhide X2) (fun q hq e => by omega))
  have d7 := (unhide G3).sb.bx.2.2.2.2.2.2.2.1
  have g7 := (unhide G3).sb.nb.2 7
  have hb3 : b < w3.heap.size := cell_lt d7
  have hs3 : w.heap.size < w3.heap.size := cell_lt t0
  have FN := hide ((unhide G3).subs 0)
  have XN := hide ((unhide X3).setCell (p := ⟨b, 7, none⟩) (show a.heap.size ≤ b by omega) (iv 0))
  clear hW2 o3 hr3 m1 p5 p7 c7 f7 fc r0 s0 hb1 hb2 hbc hs2
  go_wp2_with fail
  go_ret
  exact ⟨by rw [unhide EP]; rfl, by rw [unhide E]; exact unhide FN, unhide XN⟩
end Go.Proofs.YtkabcfhemljnbaaGreat

namespace Go.Proofs.YtkabcfhemljnbaaGreat
open Go.RowKit
attribute [local go_sem ↓] Go.wp_at_zero Go.wp_at_succ

/-! A word is followed, and what it leads to is shaded. -/
def fptr (bn : Nat) (y : Wd) : Value := if (y.k == 2) = true then ndp bn y.a.toNat else .pointer none
theorem wfollow_any {B : Nat} {w : World} {b : Nat} {x : Hp} {ar : Option Addr} {kr : Nat} {v4 v8 : Value} {br bc bn : Nat} {pb : Nat → Nat} {pa : Nat → Option Addr} {pk : Nat → Nat} {kn hd : Nat} {vf : Value} {F : List Int} {vk : Value} {K : List Nat} {role : Nat → Nat} (h : SAt B w b x ar kr v4 v8 br bc bn pb pa pk kn hd vf F vk K role) (r2 : R2 x) (y : Wd) (hy : Good1 x y) (hf : Formed y x.cells.length) :
    Calls Tryz.prog 106 #[.pointer (some ⟨b, 0, none⟩), y.v] w fun e w' => e = .returned (fptr bn y) ∧ Ext w w' := by
  unfold fptr
  cases q : (y.k == 2)
  · rw [if_neg (by simp)]
    exact follow_none y b w q
  · rw [if_pos rfl]
    have hk : y.k = 2 := by simpa using q
    have g := hy hk
    obtain ⟨k, n, a⟩ := y
    simp only at hk g
    subst hk
    unfold Formed at hf
    simp only at hf
    obtain ⟨i, rfl⟩ : ∃ i : Nat, a = (i : Int) := ⟨a.toNat, by omega⟩
    obtain rfl : n = 0 := by omega
    have ei : ((i : Int)).toNat = i := by omega
    simp only [ei] at g ⊢
    have L : lead x i = i := by unfold lead; rw [if_neg (by rw [g.2]; simp)]
    have := sfollow_some h r2 i g.1
    rw [L] at this
    exact this
theorem sshade_nil (b : Nat) (w : World) : Calls Tryz.prog 76 #[.pointer (some ⟨b, 0, none⟩), .pointer none] w fun e w' => e = .returned (.tuple #[]) ∧ w' = w := by
  go_enter Tryz.func76, Tryz.ntmps76
  go_wp2_with fail
  try simp only [Exit.inBlock, Exit.then]
  refine bodyPost_ret (results_none rfl _ _ _) rfl ?_
  exact ⟨rfl, rfl⟩
theorem wshade_any {B : Nat} {w : World} {b : Nat} {x : Hp} {ar : Option Addr} {kr : Nat} {v4 v8 : Value} {br bc bn : Nat} {pb : Nat → Nat} {pa : Nat → Option Addr} {pk : Nat → Nat} {kn hd : Nat} {vf : Value} {F : List Int} {vk : Value} {K : List Nat} {role : Nat → Nat} (h : SAt B w b x ar kr v4 v8 br bc bn pb pa pk kn hd vf F vk K role) (y : Wd) (hy : Good1 x y) (gf : ∀ i, i < x.cells.length → shadeB x i = true → x.gray.length < 4000) (a : World) (ha : a.heap.size ≤ B) (hx : Ext a w) :
    Calls Tryz.prog 76 #[.pointer (some ⟨b, 0, none⟩), fptr bn y] w fun e w' => e = .returned (.tuple #[]) ∧ Hid (SAt B w' b (shadeW x y) ar kr v4 v8 br bc bn pb pa pk kn hd vf F vk K role) ∧ Ext a w' ∧ Hid (∀ q, q < w.heap.size → q ≠ b → (0 < x.cells.length → q ≠ bc) → w'.heap[q]? = w.heap[q]?) := by
  unfold fptr shadeW
  cases q : (y.k == 2)
  · rw [if_neg (by simp), if_neg (by simp)]
    refine (sshade_nil b w).mono ?_
    rintro e w' ⟨rfl, rfl⟩
    exact ⟨rfl, h, hx, fun _ _ _ _ => rfl⟩
  · rw [if_pos rfl, if_pos rfl]
    have hk : y.k = 2 := by simpa using q
    have g := (hy hk).1
    refine (sshade_fr y.a.toNat w h g (gf _ g) a ha hx).mono ?_
    rintro e w' ⟨h1, h2, h3, h4⟩
    exact ⟨h1, h2, h3, fun q hq hb hc => unhide h4 q hq hb (hc (by omega))⟩
end Go.Proofs.YtkabcfhemljnbaaGreat
