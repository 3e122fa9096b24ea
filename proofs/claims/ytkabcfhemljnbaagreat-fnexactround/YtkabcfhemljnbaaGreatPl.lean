import Derived.Test.YtkabcfhemljnbaaGreatPk
import Derived.Deep.RegionWith
import Derived.Deep.DeepCutAuto
namespace Go.Proofs.YtkabcfhemljnbaaGreat
open Go.RowKit
attribute [local go_sem ↓] Go.wp_at_zero Go.wp_at_succ

set_option maxRecDepth 100000 in
set_option maxHeartbeats 600000 in
theorem mark_pair {B : Nat} {w : World} {b : Nat} {x : Hp} {ar : Option Addr} {kr : Nat} {v4 v8 : Value} {br bc bn : Nat} {pb : Nat → Nat} {pa : Nat → Option Addr} {pk : Nat → Nat} {kn hd : Nat} {vf : Value} {F : List Int} {vk : Value} {K : List Nat} {role : Nat → Nat} (h : SAt B w b x ar kr v4 v8 br bc bn pb pa pk kn hd vf F vk K role) (s : Snd x) (hp : x.phase = 2) (i : Nat) (G : List Int) (hg : x.gray = (i : Int) :: G) (hin : i < x.cells.length) (k : Nat) (hk : x.sub = (k : Int)) (hkl : k < (x.c i).prs.length) (a : World) (ha : a.heap.size ≤ B) (hx : Ext a w) :
    Calls Tryz.prog 233 #[.agg #[.pointer (some ⟨b, 0, none⟩)]] w fun e w' => e = .returned (nowV (unit2 x).phase b) ∧ Hid (SAt B w' b (unit2 x) ar kr v4 v8 br bc bn pb pa pk kn hd vf F vk K role) ∧ Ext a w' := by
  have ei : ((i : Int)).toNat = i := by omega
  have E := hide (show unit2 x = { shadeW (shadeW x ((x.c i).p k).key) ((x.c i).p k).val with sub := (k : Int) + 1 } by
    have ek : x.sub.toNat = k := by omega
    unfold unit2
    rw [hg]
    simp only [ei, if_pos (show x.sub < ((x.c i).prs.length : Int) by omega), ek]
    rw [hk])
  have EP := hide (show (unit2 x).phase = 2 by rw [unhide E]; exact ((shadeW_same _ _).2.2.1.trans (shadeW_same _ _).2.2.1).trans hp)
  have H := hide h
  have p200 := s.ok.p200 i hin
  have n8 := s.ok.n8
  have HG := hide (s.good_pair (.inr hp) i k hin hkl)
  have FM := hide (show Formed ((x.c i).p k).key x.cells.length ∧ Formed ((x.c i).p k).val x.cells.length from by
    have h1 := ((s.r4.2 i hin).2 k hkl).2 (fun d => by have := d.1; omega)
    exact ⟨h1.1.1, h1.2.1⟩)
  have S := hide s
  have XA := (Ext.refl w).alloc (.cells #[.pointer (some ⟨b, 0, none⟩)] 194)
  have RG := hide (show RAt w b bn hd ((i : Int) :: G) by have := h.sb.rg; rw [hg] at this; exact this)
  have QA := hide (rfirst_some b bn hd i G _ ((unhide RG).block (XA.block b h.sb.nb.1)))
  have XA2 := hide XA
  have hbw : b < w.heap.size := h.sb.nb.1
  have lo := h.sb.lo.1
  have hn : 0 < x.cells.length := by omega
  have HK := hide hk
  have kk : (k : Int) < ((x.c i).prs.length : Int) := by omega
  have k0 : (0:Int) ≤ (k:Int) := by omega
  clear h hp XA hg hk s
  go_enter Tryz.func233, Tryz.ntmps233
  go_wp2_with fail
  refine (unhide QA).mono ?_
  rintro e w1 ⟨rfl, x1⟩
  rw [ei]
  have r0 : w1.cell? ⟨w.heap.size, 0, none⟩ = some (.pointer (some ⟨b, 0, none⟩)) := x1.keep (by simp [go_sem])
  have X1 := hide ((unhide XA2).trans x1)
  have H1 := hide ((unhide H).ext (unhide X1))
  have m1 := ((unhide H1).sb.nd i hin).2
  have p7 := (unhide H1).rw.p7 i hin
  rw [((unhide H).rw.pl i hin (by omega)).1] at p7
  have c7 : w1.cell? ⟨b, 7, none⟩ = some (iv k) := by have := (unhide H1).sb.bx.2.2.2.2.2.2.2.1; rw [unhide HK] at this; exact this
  obtain ⟨y0, y1, y2, y3, y4, yy5⟩ := (unhide H1).rw.p i hin k hkl
  have hb1 : b < w1.heap.size := cell_lt c7
  have hb2 : w.heap.size < w1.heap.size := cell_lt r0
  have hbn : bn < w1.heap.size := cell_lt m1
  have hbc : bc < w1.heap.size := cell_lt p7
  have hpb : pb i < w1.heap.size := cell_lt y0
  have zn := fun n j => dalloc_new w1 n #[.int .i64 0, .int .i64 0, .int .i64 0, .int .i64 0, .int .i64 0, .int .i64 0] 123 j
  have zf := fun n j => dalloc_fr w1 n #[.int .i64 0, .int .i64 0, .int .i64 0, .int .i64 0, .int .i64 0, .int .i64 0] 123 j
  have zo := fun n o b j (h : b < w1.heap.size) => dalloc_old w1 n o b j h
  clear x1 XA2 QA ei
  go_wp2_with fail
  go_quiet (fail)
  obtain ⟨m2, rfl⟩ : ∃ m, m = nq := ⟨_, rfl⟩
  go_wp2_with fail
  go_region
  all_goals
    obtain ⟨W2, hW2⟩ : ∃ W, W = pairW ((w1.drewN (m2 + 1)).alloc (.cells #[.int .i64 0, .int .i64 0, .int .i64 0, .int .i64 0, .int .i64 0, .int .i64 0] 123)) w1.heap.size ((x.c i).p k) := ⟨_, rfl⟩
    have PB := pair_box w1 (m2 + 1) ((x.c i).p k) 123
    rw [← hW2] at PB
    unfold pairW at hW2
    rw [← hW2]
    clear hW2 zn zf zo y0 y1 y2 y3 y4 yy5 m1 p7 c7 hbn hpb
    obtain ⟨x2, pp0, pp1, pp2, pp3, pp4, pp5⟩ := PB
    have H2 := hide ((unhide H1).ext x2)
    have X2 := hide ((unhide X1).trans x2)
    have s0 := x2.keep r0
    have hs : w1.heap.size < W2.heap.size := cell_lt pp0
    clear r0
    obtain ⟨z, hz⟩ : ∃ z, z = shadeW x ((x.c i).p k).key := ⟨_, rfl⟩
    have SZ := hide (show Snd z ∧ Good1 z ((x.c i).p k).val ∧ Formed ((x.c i).p k).val z.cells.length ∧ z.sub = (k : Int) by
      rw [hz]
      have e := shadeW_same x ((x.c i).p k).key
      exact ⟨(unhide S).shdW _ (unhide HG).1, (unhide HG).2.keep e.2.1 (shadeW_un x _ (unhide HG).1), by rw [e.2.1]; exact (unhide FM).2, e.2.2.2.2.trans (unhide HK)⟩)
    have HZ := hide hz
    have hs0 : w.heap.size < W2.heap.size := cell_lt s0
    have hbcw : bc < w.heap.size := ((unhide H).rw.nc hn).1.1
    clear hz
    go_wp2_with fail
    go_cut [] (fun wx => Hid (SAt B wx b z ar kr v4 v8 br bc bn pb pa pk kn hd vf F vk K role) ∧ Hid (Ext a wx) ∧ Hid (wx.cell? ⟨w.heap.size, 0, none⟩ = some (.pointer (some ⟨b, 0, none⟩)) ∧ wx.cell? ⟨w1.heap.size, 3, none⟩ = some (iv ((x.c i).p k).val.k) ∧ wx.cell? ⟨w1.heap.size, 4, none⟩ = some (iv ((x.c i).p k).val.n) ∧ wx.cell? ⟨w1.heap.size, 5, none⟩ = some (iv ((x.c i).p k).val.a)))
    case first =>
      go_region_with (first | (have _ := LA; go_at_call 76; refine (wshade_any (unhide H3) ((x.c i).p k).key (unhide HG).1 (fun j hj => (gray_fit (unhide S).ok).2 j hj) a ha (unhide X3)).mono ?_; rintro e w4 ⟨rfl, h4, x4, fr⟩; rw [← unhide HZ] at h4; have H4 := hide (unhide h4); have X4 := hide x4; have FR := hide (show ∀ q, q < w3.heap.size → q ≠ b → q ≠ bc → w4.heap[q]? = w3.heap[q]? from fun q h1 h2 h3 => unhide fr q h1 h2 (fun _ => h3)); clear h4 x4 fr) | (go_at_call 106; refine (wfollow_any ((unhide H2).ext (Ext.refl W2).drew) (unhide S).r2 ((x.c i).p k).key (unhide HG).1 (unhide FM).1).mono ?_; rintro e w3 ⟨rfl, x3⟩; have LA := True.intro; have x23 := Ext.trans (Ext.refl W2).drew x3; have H3 := hide ((unhide H2).ext x23); have X3 := hide (hx.trans ((unhide X2).trans x23)); have t0 := x23.keep s0; have t1 := x23.keep pp1; have t2 := x23.keep pp2; have t3 := x23.keep pp3; have t4 := x23.keep pp4; have t5 := x23.keep pp5; have ht1 : w.heap.size < w3.heap.size := cell_lt t0; have ht2 : w1.heap.size < w3.heap.size := cell_lt t3; clear x3 x23))
      all_goals
        go_wp2_with fail
        go_meet
        exact ⟨unhide H4, unhide X4, ⟨(World.cell?_of_block (a := ⟨w.heap.size, 0, none⟩) (unhide FR w.heap.size ht1 (by omega) (by omega))).trans t0, (World.cell?_of_block (a := ⟨w1.heap.size, 3, none⟩) (unhide FR w1.heap.size ht2 (by omega) (by omega))).trans t3, (World.cell?_of_block (a := ⟨w1.heap.size, 4, none⟩) (unhide FR w1.heap.size ht2 (by omega) (by omega))).trans t4, (World.cell?_of_block (a := ⟨w1.heap.size, 5, none⟩) (unhide FR w1.heap.size ht2 (by omega) (by omega))).trans t5⟩⟩
    case rest =>
      obtain ⟨g4, xa4, cl4⟩ := hcut
      obtain ⟨W4, hW4⟩ : ∃ W, W = wc := ⟨_, rfl⟩
      subst hW4
      have q0 := (unhide cl4).1
      have q3 := (unhide cl4).2.1
      have q4 := (unhide cl4).2.2.1
      have q5 := (unhide cl4).2.2.2
      have hq0 : w.heap.size < W4.heap.size := cell_lt q0
      have hq3 : w1.heap.size < W4.heap.size := cell_lt q3
      clear cl4 pp0 pp1 pp2 pp3 pp4 pp5 s0 hs hs0
      go_wp2_with fail
      go_cut [] (fun wx => Hid (SAt B wx b (shadeW z ((x.c i).p k).val) ar kr v4 v8 br bc bn pb pa pk kn hd vf F vk K role) ∧ Hid (Ext a wx) ∧ Hid (wx.cell? ⟨w.heap.size, 0, none⟩ = some (.pointer (some ⟨b, 0, none⟩))))
      case first =>
        go_region_with (first | (have _ := LA; go_at_call 76; refine (wshade_any (unhide H3) ((x.c i).p k).val (unhide SZ).2.1 (fun j hj => (gray_fit (unhide SZ).1.ok).2 j hj) a ha (unhide X3)).mono ?_; rintro e w4 ⟨rfl, h4, x4, fr⟩; have H4 := hide (unhide h4); have X4 := hide x4; have FR := hide (show ∀ q, q < w3.heap.size → q ≠ b → q ≠ bc → w4.heap[q]? = w3.heap[q]? from fun q h1 h2 h3 => unhide fr q h1 h2 (fun _ => h3)); clear h4 x4 fr) | (go_at_call 106; refine (wfollow_any ((unhide g4).ext (Ext.refl W4).drew) (unhide SZ).1.r2 ((x.c i).p k).val (unhide SZ).2.1 (unhide SZ).2.2.1).mono ?_; rintro e w3 ⟨rfl, x3⟩; have LA := True.intro; have x23 := Ext.trans (Ext.refl W4).drew x3; have H3 := hide ((unhide g4).ext x23); have X3 := hide ((unhide xa4).trans x23); have t0 := x23.keep q0; have t3 := x23.keep q3; have t4 := x23.keep q4; have t5 := x23.keep q5; have ht1 : w.heap.size < w3.heap.size := cell_lt t0; clear x3 x23))
        all_goals
          go_wp2_with fail
          go_meet
          exact ⟨unhide H4, unhide X4, (World.cell?_of_block (a := ⟨w.heap.size, 0, none⟩) (unhide FR w.heap.size ht1 (by omega) (by omega))).trans t0⟩
      case rest =>
        obtain ⟨g6, xa6, cl6⟩ := hcut
        have g0 := unhide cl6
        have d7 : wc.cell? ⟨b, 7, none⟩ = some (iv k) := by have := (unhide g6).sb.bx.2.2.2.2.2.2.2.1; rw [(shadeW_same _ _).2.2.2.2, (unhide SZ).2.2.2] at this; exact this
        have g7 := (unhide g6).sb.nb.2 7
        have hb6 : b < wc.heap.size := cell_lt d7
        have hs6 : w.heap.size < wc.heap.size := cell_lt g0
        have FN := hide ((unhide g6).subs ((k : Int) + 1))
        have XN := hide ((unhide xa6).setCell (p := ⟨b, 7, none⟩) (show a.heap.size ≤ b by omega) (iv ((k : Int) + 1)))
        clear q0 q3 q4 q5 hq0 hq3 cl6 g6 xa6
        go_wp2_with fail
        go_ret
        exact ⟨by rw [unhide EP]; rfl, by rw [unhide E, ← unhide HZ]; exact unhide FN, unhide XN⟩
end Go.Proofs.YtkabcfhemljnbaaGreat
