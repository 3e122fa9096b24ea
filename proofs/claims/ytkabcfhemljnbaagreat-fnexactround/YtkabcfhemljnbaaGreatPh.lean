import Derived.Test.YtkabcfhemljnbaaGreatPg
import Derived.Deep.RegionWith
import Derived.Deep.DeepCutAuto
namespace Go.Proofs.YtkabcfhemljnbaaGreat
open Go.RowKit
attribute [local go_sem ↓] Go.wp_at_zero Go.wp_at_succ

set_option maxRecDepth 100000 in
set_option maxHeartbeats 4000000 in
theorem mend_pair {B : Nat} {w : World} {b : Nat} {x : Hp} {ar : Option Addr} {kr : Nat} {v4 v8 : Value} {br bc bn : Nat} {pb : Nat → Nat} {pa : Nat → Option Addr} {pk : Nat → Nat} {kn hd : Nat} {vf : Value} {F : List Int} {vk : Value} {K : List Nat} {role : Nat → Nat} (h : SAt B w b x ar kr v4 v8 br bc bn pb pa pk kn hd vf F vk K role) (hp : x.phase = 5) (i : Nat) (hi : x.hand = (i : Int)) (hin : i < x.cells.length) (k : Nat) (hk : x.sub = (k : Int)) (hkl : k < (x.c i).prs.length) (q2 : R2 x) (F1 : Formed ((x.c i).p k).key x.cells.length) (F2 : Formed ((x.c i).p k).val x.cells.length) (a : World) (ha : a.heap.size ≤ B) (hx : Ext a w) :
    Calls Tryz.prog 242 #[.agg #[.pointer (some ⟨b, 0, none⟩)]] w fun e w' => e = .returned (nowV (unit5 x).phase b) ∧ Hid (SAt B w' b (unit5 x) ar kr v4 v8 br bc bn pb pa pk kn hd vf F vk K role) ∧ Ext a w' := by
  have ei : x.hand.toNat = i := by omega
  have E := hide (show unit5 x = { x with cells := x.cells.set i (mendC x (x.c i) k), sub := (k : Int) + 1 } by
    have ek : x.sub.toNat = k := by omega
    unfold unit5; rw [if_neg (by omega), ei, if_pos (by omega), ek, hk])
  have EP := hide (show (unit5 x).phase = 5 by rw [unhide E]; exact hp)
  have H := hide h
  have XA := (Ext.refl w).alloc (.cells #[.pointer (some ⟨b, 0, none⟩)] 197)
  have c6 := h.sb.bx.2.2.2.2.2.2.1
  rw [hi] at c6
  have QA := hide (atHand_some b x.cells.length kn bn i _ (XA.keep c6) (XA.keep h.sb.n13) hin)
  have XA2 := hide XA
  have hbw : b < w.heap.size := h.sb.nb.1
  have lo := h.sb.lo.1
  have HI := hide (And.intro hi hk)
  have kk : (k : Int) < ((x.c i).prs.length : Int) := by omega
  have k0 : (0:Int) ≤ (k:Int) := by omega
  have p200 : (x.c i).prs.length ≤ 200 := by
    have := q2.1 i hin
    unfold CellOk MovedOk UsedOk Bare at this
    omega
  have FF := hide (And.intro q2 (And.intro F1 F2))
  clear q2 F1 F2
  clear h hp XA ei hi c6 hk
  go_enter Tryz.func242, Tryz.ntmps242
  go_wp2_with fail
  refine (unhide QA).mono ?_
  rintro e w1 ⟨rfl, x1⟩
  have r0 : w1.cell? ⟨w.heap.size, 0, none⟩ = some (.pointer (some ⟨b, 0, none⟩)) := x1.keep (by simp [go_sem])
  have X1 := hide ((unhide XA2).trans x1)
  have H1 := hide ((unhide H).ext (unhide X1))
  have m1 := ((unhide H1).sb.nd i hin).2
  have p7 := (unhide H1).rw.p7 i hin
  have c6 : w1.cell? ⟨b, 6, none⟩ = some (iv i) := by have := (unhide H1).sb.bx.2.2.2.2.2.2.1; rw [(unhide HI).1] at this; exact this
  have c7 : w1.cell? ⟨b, 7, none⟩ = some (iv k) := by have := (unhide H1).sb.bx.2.2.2.2.2.2.2.1; rw [(unhide HI).2] at this; exact this
  have f6 := (unhide H1).sb.nb.2 6
  have f7 := (unhide H1).sb.nb.2 7
  have hb1 : b < w1.heap.size := cell_lt c6
  have hb2 : w.heap.size < w1.heap.size := cell_lt r0
  have nbw : ¬ b = w.heap.size := by omega
  have nwb : ¬ w.heap.size = b := by omega
  rw [((unhide H).rw.pl i hin (by omega)).1] at p7
  obtain ⟨y0, y1, y2, y3, y4, y5'⟩ := (unhide H1).rw.p i hin k hkl
  have fp := ((unhide H1).rw.pl i hin (by omega)).2.1.2
  have hpb : pb i < w1.heap.size := cell_lt y0
  clear x1 XA2 QA
  go_wp2_with fail
  go_quiet (fail)
  obtain ⟨m1', rfl⟩ : ∃ m, m = nq := ⟨_, rfl⟩
  go_wp2_with fail
  go_quiet (fail)
  go_wp2_with fail
  obtain ⟨W2, hW2⟩ : ∃ W, W = (w1.drewN m1').drewN nq := ⟨_, rfl⟩
  have X2 : Ext w1 W2 := by rw [hW2]; exact ((Ext.refl w1).drewN _).drewN _
  rw [← hW2]
  clear hW2
  have H2 := hide ((unhide H1).ext X2)
  have R0 := hide (X2.keep r0)
  have XX2 := hide (hx.trans ((unhide X1).trans X2))
  obtain ⟨z0, z1, z2, z3, z4, z5⟩ := (unhide H2).rw.p i hin k hkl
  have hs2 : w.heap.size < W2.heap.size := cell_lt (unhide R0)
  have s0 := unhide R0
  have hbW : b < W2.heap.size := Nat.lt_of_lt_of_le hb1 X2.size
  have hpW : pb i < W2.heap.size := cell_lt z0
  obtain ⟨k1, hk1⟩ : ∃ r, r = resW x ((x.c i).p k).key := ⟨_, rfl⟩
  obtain ⟨k2, hk2⟩ : ∃ r, r = resW x ((x.c i).p k).val := ⟨_, rfl⟩
  have RK := hide (And.intro hk1 hk2)
  have FN := hide (show ∀ W, Ext W2 W → SAt B (pairO W (pb i) (k * 6) ⟨k1, k2⟩) b { x with cells := x.cells.set i (mendC x (x.c i) k) } ar kr v4 v8 br bc bn pb pa pk kn hd vf F vk K role ∧ Ext a (pairO W (pb i) (k * 6) ⟨k1, k2⟩) ∧ (pairO W (pb i) (k * 6) ⟨k1, k2⟩).cell? ⟨w.heap.size, 0, none⟩ = some (.pointer (some ⟨b, 0, none⟩)) from fun W xw => by
    have g0 := (unhide H2).ext xw
    have g1 := g0.setp i hin k hkl ⟨k1, k2⟩ (pairO_only W (pb i) (k * 6) ⟨k1, k2⟩) (pairO_nf (g0.rw.pl i hin (by omega)).2.1 _ _) (pairO_at W (pb i) (k * 6) ⟨k1, k2⟩ _ (g0.rw.p i hin k hkl)) (fun j hj => pairO_other W (pb i) (k * 6) ⟨k1, k2⟩ j hj)
    have e : ({ x.c i with prs := (x.c i).prs.set k ⟨k1, k2⟩ } : Cl) = mendC x (x.c i) k := by unfold mendC; rw [(unhide RK).1, (unhide RK).2]
    rw [e] at g1
    have hpB := ((unhide H2).rw.pl i hin (by omega)).2.2.2
    have hpw : pb i < w.heap.size := ((unhide H).rw.pl i hin (by omega)).2.1.1
    have c0 := xw.keep (unhide R0)
    exact ⟨g1, (pairO_only W (pb i) (k * 6) ⟨k1, k2⟩).ext ((unhide XX2).trans xw) (fun q hq e => by omega), (World.cell?_of_block (a := ⟨w.heap.size, 0, none⟩) ((pairO_only W (pb i) (k * 6) ⟨k1, k2⟩).block w.heap.size (cell_lt c0) (by omega))).trans c0⟩)
  unfold pairO at FN
  have NB := hide (show ¬ b = pb i from fun e => by have h1 := (unhide H2).sp.b; have h2 := (unhide H2).sp.p i hin (by omega); rw [e] at h1; omega)
  clear hk1 hk2 y0 y1 y2 y3 y4 y5' c6 c7 f6 f7 m1 p7 r0 hb1 hb2 hpb fp
  go_cut [] (fun wx => Hid (SAt B wx b { x with cells := x.cells.set i (mendC x (x.c i) k) } ar kr v4 v8 br bc bn pb pa pk kn hd vf F vk K role) ∧ Hid (Ext a wx) ∧ Hid (wx.cell? ⟨w.heap.size, 0, none⟩ = some (.pointer (some ⟨b, 0, none⟩))))
  case first =>
    go_region_with (first | (have _ := LK; go_at_call 243; refine (sres_any ((unhide H3).ext (Ext.refl w3)) (unhide FF).1 ((x.c i).p k).val (unhide FF).2.2).mono ?_; rintro e w4 ⟨rfl, x4⟩; rw [← (unhide RK).2]; have x34 := Ext.trans (unhide X3) x4; have u0 := x34.keep z0; have u1 := x34.keep z1; have u2 := x34.keep z2; have u3 := x34.keep z3; have u4 := x34.keep z4; have u5 := x34.keep z5; have t0 := x34.keep s0; have uf := fun m => ((bcell x34).2 (pb i) m hpW).trans (((unhide H2).rw.pl i hin (by omega)).2.1.2 m); have X4 := hide x34; clear x4 x34) | (go_at_call 243; refine (sres_any ((unhide H2).ext (Ext.refl W2).drew) (unhide FF).1 ((x.c i).p k).key (unhide FF).2.1).mono ?_; rintro e w3 ⟨rfl, x3⟩; rw [← (unhide RK).1]; have LK := True.intro; have x23 := Ext.trans (Ext.refl W2).drew x3; have X3 := hide x23; have H3 := hide ((unhide H2).ext x23); have v0 := x23.keep z0; have v1 := x23.keep z1; have v2 := x23.keep z2; have v3 := x23.keep z3; have v4' := x23.keep z4; have v5 := x23.keep z5; have q0 := x23.keep s0; clear x3 x23))
    all_goals
      go_wp2_with fail
      go_meet
      exact unhide FN _ (unhide X4)
  case rest =>
    obtain ⟨g3, xa3, s3⟩ := hcut
    have t0 := unhide s3
    have d7 : wc.cell? ⟨b, 7, none⟩ = some (iv k) := by have := (unhide g3).sb.bx.2.2.2.2.2.2.2.1; rw [← (unhide HI).2]; exact this
    have g7 := (unhide g3).sb.nb.2 7
    have hbc : b < wc.heap.size := cell_lt d7
    have hsc : w.heap.size < wc.heap.size := cell_lt t0
    have FM := hide ((unhide g3).subs ((k : Int) + 1))
    have XM := hide ((unhide xa3).setCell (p := ⟨b, 7, none⟩) (show a.heap.size ≤ b by omega) (iv ((k : Int) + 1)))
    clear s3 g3 xa3 s0 hs2 hbW hpW z0 z1 z2 z3 z4 z5
    go_wp2_with fail
    go_ret
    exact ⟨by rw [unhide EP]; rfl, by rw [unhide E]; exact unhide FM, unhide XM⟩
end Go.Proofs.YtkabcfhemljnbaaGreat
