import Derived.Test.YtkabcfhemljnbaaGreatPr
import Derived.Deep.RegionWith
import Derived.Test.YtkabcfhemljnbaaGreatLj
namespace Go.Proofs.YtkabcfhemljnbaaGreat
open Go.RowKit
attribute [local go_sem ↓] Go.wp_at_zero Go.wp_at_succ

theorem SAt.usedTo {B : Nat} {w : World} {b : Nat} {x : Hp} {ar : Option Addr} {kr : Nat} {v4 v8 : Value} {br bc bn : Nat} {pb : Nat → Nat} {pa : Nat → Option Addr} {pk : Nat → Nat} {kn hd : Nat} {vf : Value} {F : List Int} {vk : Value} {K : List Nat} {role : Nat → Nat} (h : SAt B w b x ar kr v4 v8 br bc bn pb pa pk kn hd vf F vk K role) (u : Int) :
    SAt B (w.setCell ⟨b, 1, none⟩ (iv u)) b { x with used := u } ar kr v4 v8 br bc bn pb pa pk kn hd vf F vk K role := by
  refine h.boxed (x' := { x with used := u }) (Only.setCell (S := fun q => q = b) (Only.refl _ w) (p := ⟨b, 1, none⟩) rfl _) (h.sb.nb.set _ _) rfl rfl rfl (h.sb.bx.set1 u) (fun k hk => cell_other _ (.inr (by omega)))
set_option maxRecDepth 100000 in
set_option maxHeartbeats 600000 in
theorem sweep_white {B : Nat} {w : World} {b : Nat} {x : Hp} {ar : Option Addr} {kr : Nat} {v4 v8 : Value} {br bc bn : Nat} {pb : Nat → Nat} {pa : Nat → Option Addr} {pk : Nat → Nat} {kn hd : Nat} {vf : Value} {F : List Int} {vk : Value} {K : List Nat} {role : Nat → Nat} (h : SAt B w b x ar kr v4 v8 br bc bn pb pa pk kn hd vf F vk K role) (s : Snd x) (hp : x.phase = 3) (i : Nat) (hi : x.hand = (i : Int)) (hin : i < x.cells.length) (hs : whB (x.c i) = true) (ho : Ho F) (hl : F.length ≤ 100000) (a : World) (ha : a.heap.size ≤ B) (hx : Ext a w) :
    Calls Tryz.prog 236 #[.agg #[.pointer (some ⟨b, 0, none⟩)]] w fun e w' => e = .returned (nowV (unit3 x).phase b) ∧ Hid (∃ pa' pk' vf' F' role', SAt B w' b (unit3 x) ar kr v4 v8 br bc bn pb pa' pk' kn hd vf' F' vk K role' ∧ Ho F' ∧ F'.Perm ((i : Int) :: F)) ∧ Ext a w' := by
  have ei : x.hand.toNat = i := by omega
  have E := hide (show unit3 x = { x with used := x.used - (1 + (x.c i).prs.length), cells := x.cells.set i Cl0, hand := (i : Int) + 1 } by
    unfold unit3
    rw [if_neg (by omega), ei, if_pos hs, hi])
  have EP := hide (show (unit3 x).phase = 3 by rw [unhide E]; exact hp)
  have V := hide (show IntKind.i64.wrap (x.used - (1 + ((x.c i).prs.length : Int))) = x.used - (1 + ((x.c i).prs.length : Int)) by
    have hlp := s.ok.p200 i hin
    have hu1 : x.used ≤ 4000 := by have := s.r3.2; have := s.r1.room; omega
    have hu0 : 0 ≤ x.used := by have := s.r3.1; omega
    rw [IntKind.wrap_i64]; omega)
  have LP := hide (s.ok.p200 i hin)
  have H := hide h
  have n8 := s.ok.n8
  have XA := (Ext.refl w).alloc (.cells #[.pointer (some ⟨b, 0, none⟩)] 195)
  have c6 := h.sb.bx.2.2.2.2.2.2.1
  rw [hi] at c6
  have QA := hide (atHand_some b x.cells.length kn bn i _ (XA.keep c6) (XA.keep h.sb.n13) hin)
  have XA2 := hide XA
  have hbw : b < w.heap.size := h.sb.nb.1
  have lo := h.sb.lo.1
  have hn : 0 < x.cells.length := by omega
  have HI := hide hi
  have WH := hide hs
  have HBC := hide (h.rw.nc hn)
  have FOW := hide (show ∀ q, vf.ownBlock = some q → q < w.heap.size from fun q hq => (h.sb.fr.own.lt q hq).2)
  have HO := hide (And.intro ho hl)
  clear h hp XA hi c6 ei hs s ho hl
  go_enter Tryz.func236, Tryz.ntmps236
  go_wp2_with fail
  refine (unhide QA).mono ?_
  rintro e w1 ⟨rfl, x1⟩
  have r0 : w1.cell? ⟨w.heap.size, 0, none⟩ = some (.pointer (some ⟨b, 0, none⟩)) := x1.keep (by simp [go_sem])
  have X1 := hide ((unhide XA2).trans x1)
  have H1 := hide ((unhide H).ext (unhide X1))
  have m1 := ((unhide H1).sb.nd i hin).2
  have QS := hide (swhite_any (x.c i) bn i bc w1 m1 ((unhide H1).rw.s i hin))
  rw [unhide WH] at QS
  clear x1 XA2 QA
  go_wp2_with fail
  refine (unhide QS).mono ?_
  rintro e w2 ⟨rfl, hw2⟩
  subst hw2
  have c1 := (unhide H1).sb.bx.2.1
  have f1 := (unhide H1).sb.nb.2 1
  have hb1 : b < w2.heap.size := cell_lt c1
  have hs2 : w.heap.size < w2.heap.size := cell_lt r0
  have nsb : ¬ w.heap.size = b := by omega
  have nbs : ¬ b = w.heap.size := by omega
  clear m1 QS
  go_wp2_with fail
  go_region_with (go_at_call 113; refine (units_any (x.c i) bn (i * 2) bc (i * 8) (pa i) (pk i) _ ((unhide H1).ext (Ext.refl w2).drew |>.sb.nd i hin).2 ((unhide H1).ext (Ext.refl w2).drew |>.rw.p7 i hin) (by have := unhide LP; omega)).mono ?_; rintro e w3 ⟨rfl, hw3⟩; subst hw3)
  all_goals
    rw [unhide V]
    obtain ⟨W3, hW3⟩ : ∃ W, W = (w2.setCell ⟨b, 1, none⟩ (iv (x.used - (1 + ((x.c i).prs.length : Int))))).drew := ⟨_, rfl⟩
    have H3 := hide (show SAt B W3 b { x with used := x.used - (1 + ((x.c i).prs.length : Int)) } ar kr v4 v8 br bc bn pb pa pk kn hd vf F vk K role by rw [hW3]; exact ((unhide H1).usedTo _).ext (Ext.refl _).drew)
    have X3 := hide (show Ext a W3 by rw [hW3]; exact ((hx.trans (unhide X1)).setCell (p := ⟨b, 1, none⟩) (show a.heap.size ≤ b by omega) _).drew)
    have r3 : W3.cell? ⟨w.heap.size, 0, none⟩ = some (.pointer (some ⟨b, 0, none⟩)) := by rw [hW3, drew_cell, cell_other _ (.inl nbs)]; exact r0
    rw [← hW3]
    clear hW3 c1 f1 r0 hs2 hb1
    have hs3 : w.heap.size < W3.heap.size := cell_lt r3
    go_wp2_with fail
    refine (giveBack_any (unhide H3) i hin (unhide HO).1 (unhide HO).2 a ha (unhide X3)).mono ?_
    rintro e w4 ⟨rfl, g4, x4⟩
    obtain ⟨pa', pk', vf', F', role', H4, ho4, pm4⟩ := g4.1
    have r4 : w4.cell? ⟨w.heap.size, 0, none⟩ = some (.pointer (some ⟨b, 0, none⟩)) := (World.cell?_of_block (a := ⟨w.heap.size, 0, none⟩) (g4.2 w.heap.size hs3 nsb (by have := (unhide HBC).1.1; omega) (fun e => Nat.lt_irrefl _ (unhide FOW _ e)))).trans r3
    have c6 : w4.cell? ⟨b, 6, none⟩ = some (iv i) := by have := H4.sb.bx.2.2.2.2.2.2.1; exact this.trans (by rw [unhide HI])
    have f6 := H4.sb.nb.2 6
    have hb4 : b < w4.heap.size := cell_lt c6
    have hs4 : w.heap.size < w4.heap.size := cell_lt r4
    have FN := hide (And.intro (H4.hand ((i : Int) + 1)) (And.intro ho4 pm4))
    have XN := hide (x4.setCell (p := ⟨b, 6, none⟩) (show a.heap.size ≤ b by omega) (iv ((i : Int) + 1)))
    clear g4 H4 r3 hs3 ho4 pm4 x4
    go_wp2_with fail
    go_ret
    exact ⟨by rw [unhide EP]; rfl, by rw [unhide E]; exact ⟨_, _, _, _, _, unhide FN⟩, unhide XN⟩
end Go.Proofs.YtkabcfhemljnbaaGreat

namespace Go.Proofs.YtkabcfhemljnbaaGreat
open Go.RowKit
attribute [local go_sem ↓] Go.wp_at_zero Go.wp_at_succ

set_option maxRecDepth 100000 in
set_option maxHeartbeats 600000 in
theorem shut_end {B : Nat} {w : World} {b : Nat} {x : Hp} {ar : Option Addr} {kr : Nat} {v4 v8 : Value} {br bc bn : Nat} {pb : Nat → Nat} {pa : Nat → Option Addr} {pk : Nat → Nat} {kn hd : Nat} {vf : Value} {F : List Int} {vk : Value} {K : List Nat} {role : Nat → Nat} (h : SAt B w b x ar kr v4 v8 br bc bn pb pa pk kn hd vf F vk K role) (hp : x.phase = 6) (he : x.hand = 0) (hr : 0 ≤ x.rounds ∧ x.rounds ≤ 1000000000) (a : World) (ha : a.heap.size ≤ B) (hx : Ext a w) :
    Calls Tryz.prog 244 #[.agg #[.pointer (some ⟨b, 0, none⟩)]] w fun e w' => e = .returned (nowV (unit6 x).phase b) ∧ Hid (SAt B w' b (unit6 x) ar kr v4 v8 br bc bn pb pa pk kn hd vf F vk K role) ∧ Ext a w' := by
  have E := hide (show unit6 x = { toPh x 0 0 with rounds := if x.rounds < 1000000000 then x.rounds + 1 else x.rounds } by unfold unit6; rw [if_pos he]; rfl)
  have H := hide h
  have HP := hide hp
  have HR := hide hr
  have c6 := h.sb.bx.2.2.2.2.2.2.1
  rw [he] at c6
  have hbw : b < w.heap.size := h.sb.nb.1
  have XA2 := hide ((Ext.refl w).alloc (.cells #[.pointer (some ⟨b, 0, none⟩)] 198))
  clear h hp he hr
  go_enter Tryz.func244, Tryz.ntmps244
  go_wp2_with fail
  refine (turn_6 ((unhide H).ext (unhide XA2)) (unhide HP) (unhide HR) a ha (hx.trans (unhide XA2))).mono ?_
  rintro e w2 ⟨rfl, h2, x2⟩
  go_wp2_with fail
  go_ret
  exact ⟨by rw [unhide E]; rfl, by rw [unhide E]; exact unhide h2, x2⟩
set_option maxRecDepth 100000 in
set_option maxHeartbeats 600000 in
theorem shut_cell {B : Nat} {w : World} {b : Nat} {x : Hp} {ar : Option Addr} {kr : Nat} {v4 v8 : Value} {br bc bn : Nat} {pb : Nat → Nat} {pa : Nat → Option Addr} {pk : Nat → Nat} {kn hd : Nat} {vf : Value} {F : List Int} {vk : Value} {K : List Nat} {role : Nat → Nat} (h : SAt B w b x ar kr v4 v8 br bc bn pb pa pk kn hd vf F vk K role) (n8 : x.cells.length ≤ 8000) (hp : x.phase = 6) (i : Nat) (hi : x.hand = (i : Int) + 1) (hin : i < x.cells.length) (hk : x.cells.length ≤ kn) (ho : Ho F) (hl : F.length ≤ 100000) (a : World) (ha : a.heap.size ≤ B) (hx : Ext a w) :
    Calls Tryz.prog 244 #[.agg #[.pointer (some ⟨b, 0, none⟩)]] w fun e w' => e = .returned (nowV (unit6 x).phase b) ∧ Hid (∃ pa' pk' vf' F' role', SAt B w' b (unit6 x) ar kr v4 v8 br bc bn pb pa' pk' kn hd vf' F' vk K role' ∧ Ho F' ∧ (((x.c i).st = 2 ∧ F'.Perm ((i : Int) :: F)) ∨ ((x.c i).st ≠ 2 ∧ F' = F))) ∧ Ext a w' := by
  have EU := hide (show unit6 x = dropH (shutH x i) i by unfold unit6; rw [if_neg (by omega), show (x.hand - 1).toNat = i by omega])
  have EP := hide (show (unit6 x).phase = 6 by rw [unhide EU]; unfold dropH; split <;> (unfold shutH; exact hp))
  have hbw : b < w.heap.size := h.sb.nb.1
  have lo := h.sb.lo.1
  have hn : 0 < x.cells.length := by omega
  have H := hide h
  have XA := (Ext.refl w).alloc (.cells #[.pointer (some ⟨b, 0, none⟩)] 198)
  have XA2 := hide XA
  have c6 := h.sb.bx.2.2.2.2.2.2.1
  rw [hi] at c6
  have f6 := h.sb.nb.2 6
  have hi0 : ((i : Int) + 1 == 0) = false := by simp; omega
  have HBC := hide (h.rw.nc hn)
  have FOW := hide (show ∀ q, vf.ownBlock = some q → q < w.heap.size from fun q hq => (h.sb.fr.own.lt q hq).2)
  have HO := hide (And.intro ho hl)
  have nsb : ¬ w.heap.size = b := by omega
  have nbs : ¬ b = w.heap.size := by omega
  clear h hp hi XA ho hl
  go_enter Tryz.func244, Tryz.ntmps244
  go_wp2_with fail
  obtain ⟨W1, hW1⟩ : ∃ W, W = (w.setCell ⟨b, 6, none⟩ (iv i)).alloc (.cells #[.pointer (some ⟨b, 0, none⟩)] 198) := ⟨_, rfl⟩
  have H1 := hide (show SAt B W1 b { x with hand := (i : Int) } ar kr v4 v8 br bc bn pb pa pk kn hd vf F vk K role by rw [hW1]; exact ((unhide H).hand (i : Int)).ext ((Ext.refl _).alloc _))
  have X1 := hide (show Ext a W1 by rw [hW1]; exact (hx.setCell (p := ⟨b, 6, none⟩) (show a.heap.size ≤ b by omega) _).alloc _)
  have r1 : W1.cell? ⟨w.heap.size, 0, none⟩ = some (.pointer (some ⟨b, 0, none⟩)) := by
    rw [hW1]
    have : w.heap.size = (w.setCell ⟨b, 6, none⟩ (iv i)).heap.size := by simp [World.setCell]
    rw [this]; simp [go_sem]
  rw [← hW1]
  clear hW1 c6 f6
  refine (atHand_some b x.cells.length kn bn i _ (unhide H1).sb.bx.2.2.2.2.2.2.1 (unhide H1).sb.n13 hin).mono ?_
  rintro e w2 ⟨rfl, x2⟩
  have H2 := hide ((unhide H1).ext x2)
  have X2 := hide ((unhide X1).trans x2)
  have r2 := x2.keep r1
  obtain ⟨m0, m1⟩ := (unhide H2).sb.nd i hin
  have p0 : w2.cell? ⟨bc, i * 8, none⟩ = some (iv (x.c i).st) := ((unhide H2).rw.s i hin).1
  have hs2 : w.heap.size < w2.heap.size := cell_lt r2
  clear r1 x2 H1 X1
  cases q2 : ((x.c i).st == 2)
  · have ES := hide (show unit6 x = dropH { x with hand := (i : Int) } i by rw [unhide EU]; unfold shutH; rw [if_neg (by simpa using q2)])
    have NS := hide (show (x.c i).st ≠ 2 by simpa using q2)
    have n13 : w2.cell? ⟨b, 13, none⟩ = some (.slice (some ⟨bn, 0, none⟩) x.cells.length kn) := (unhide H2).sb.n13
    go_wp2_with fail
    clear q2
    by_cases hlast : i + 1 = x.cells.length
    · cases q0 : ((x.c i).st == 0)
      · skip
        have EF := hide (show unit6 x = { x with cells := x.cells, hand := (i : Int) } by rw [unhide ES]; unfold dropH; rw [if_neg (fun e => by have := e.2; simp at q0; exact q0 this)])
        have g1 : ((i : Int) == (x.cells.length : Int) - 1) = true := by simp; omega
        go_quiet (fail)
        go_wp2_with fail
        go_ret
        exact ⟨by rw [unhide EP]; rfl, by rw [unhide EF]; exact ⟨_, _, _, _, _, (unhide H2).ext ((Ext.refl _).drewN _), (unhide HO).1, Or.inr ⟨unhide NS, rfl⟩⟩, (unhide X2).drewN _⟩
      · skip
        have EF := hide (show unit6 x = { x with cells := (x.cells).take i, hand := (i : Int) } by rw [unhide ES]; unfold dropH; rw [if_pos ⟨by simpa using hlast, (show (x.c i).st = 0 by simpa using q0)⟩])
        have g1 : ((i : Int) == (x.cells.length : Int) - 1) = true := by simp; omega
        have k1 : (i : Int) ≤ (kn : Int) := by omega
        have k0 : (0 : Int) ≤ (i : Int) := by omega
        have f13 := (unhide H2).sb.nb.2 13
        have hbW : b < w2.heap.size := (unhide H2).sb.nb.1
        have FN := hide (show ∀ W', Ext w2 W' → SAt B (W'.setCell ⟨b, 13, none⟩ (.slice (some ⟨bn, 0, none⟩) i kn)) b { x with cells := (x.cells).take i, hand := (i : Int) } ar kr v4 v8 br bc bn pb pa pk kn hd vf F vk K role ∧ Ext a (W'.setCell ⟨b, 13, none⟩ (.slice (some ⟨bn, 0, none⟩) i kn)) from fun W' xw => ⟨((unhide H2).ext xw).drop i (by simpa using hlast), ((unhide X2).trans xw).setCell (p := ⟨b, 13, none⟩) (show a.heap.size ≤ b by omega) _⟩)
        clear hlast
        go_quiet (fail)
        obtain ⟨d1, hd1⟩ : ∃ m, m = nq := ⟨_, rfl⟩
        go_wp2_with fail
        go_region
        all_goals
          go_wp2_with fail
          go_ret
          first | exact ⟨by rw [unhide EP]; rfl, by rw [unhide EF]; exact ⟨_, _, _, _, _, ((unhide FN _ ((Ext.refl _).drewN _)).1).ext (Ext.refl _).drew, (unhide HO).1, Or.inr ⟨unhide NS, rfl⟩⟩, ((unhide FN _ ((Ext.refl _).drewN _)).2).drew⟩ | exact ⟨by rw [unhide EP]; rfl, by rw [unhide EF]; exact ⟨_, _, _, _, _, (unhide FN _ ((Ext.refl _).drewN _)).1, (unhide HO).1, Or.inr ⟨unhide NS, rfl⟩⟩, (unhide FN _ ((Ext.refl _).drewN _)).2⟩
    · skip
      have EF := hide (show unit6 x = { x with cells := x.cells, hand := (i : Int) } by rw [unhide ES]; unfold dropH; rw [if_neg (fun e => hlast (by simpa using e.1))])
      have g1 : ((i : Int) == (x.cells.length : Int) - 1) = false := by simp; omega
      go_quiet (fail)
      go_wp2_with fail
      go_ret
      exact ⟨by rw [unhide EP]; rfl, by rw [unhide EF]; exact ⟨_, _, _, _, _, (unhide H2).ext ((Ext.refl _).drewN _), (unhide HO).1, Or.inr ⟨unhide NS, rfl⟩⟩, (unhide X2).drewN _⟩
  · have ES := hide (show unit6 x = dropH { x with cells := x.cells.set i Cl0, hand := (i : Int) } i by rw [unhide EU]; unfold shutH; rw [if_pos (by simpa using q2)])
    have NS := hide (show (x.c i).st = 2 by simpa using q2)
    go_wp2_with fail
    refine (giveBack_any (unhide H2) i hin (unhide HO).1 (unhide HO).2 a ha (unhide X2)).mono ?_
    rintro e w3 ⟨rfl, g3, x3⟩
    obtain ⟨pa', pk', vf', F', role', h3, ho3, pm3⟩ := g3.1
    have r3 : w3.cell? ⟨w.heap.size, 0, none⟩ = some (.pointer (some ⟨b, 0, none⟩)) := (World.cell?_of_block (a := ⟨w.heap.size, 0, none⟩) (g3.2 w.heap.size hs2 nsb (by have := (unhide HBC).1.1; omega) (fun e => Nat.lt_irrefl _ (unhide FOW _ e)))).trans r2
    have H3 := hide (show SAt B w3 b { x with cells := x.cells.set i Cl0, hand := (i : Int) } ar kr v4 v8 br bc bn pb pa' pk' kn hd vf' F' vk K role' from h3)
    have X3 := hide x3
    have HP3 := hide (And.intro ho3 pm3)
    clear g3 x3 h3 ho3 pm3 m0 m1 p0 r2 hs2 H2 X2 q2
    have hl3 : (x.cells.set i Cl0).length = x.cells.length := by simp
    obtain ⟨m0, m1⟩ := (unhide H3).sb.nd i (by rw [hl3]; exact hin)
    have p0 : w3.cell? ⟨bc, i * 8, none⟩ = some (iv 0) := by
      have := ((unhide H3).rw.s i (by rw [hl3]; exact hin)).1
      exact this.trans (by simp [Hp.c, hin]; rfl)
    have n13 : w3.cell? ⟨b, 13, none⟩ = some (.slice (some ⟨bn, 0, none⟩) x.cells.length kn) := by have := (unhide H3).sb.n13; rw [hl3] at this; exact this
    have hs3 : w.heap.size < w3.heap.size := cell_lt r3
    clear hl3
    go_wp2_with fail
    by_cases hlast : i + 1 = x.cells.length
    · skip
      have EF := hide (show unit6 x = { x with cells := (x.cells.set i Cl0).take i, hand := (i : Int) } by rw [unhide ES]; unfold dropH; rw [if_pos ⟨by simpa using hlast, by simp [Hp.c, hin]; rfl⟩])
      have g1 : ((i : Int) == (x.cells.length : Int) - 1) = true := by simp; omega
      have k1 : (i : Int) ≤ (kn : Int) := by omega
      have k0 : (0 : Int) ≤ (i : Int) := by omega
      have f13 := (unhide H3).sb.nb.2 13
      have hbW : b < w3.heap.size := (unhide H3).sb.nb.1
      have FN := hide (show ∀ W', Ext w3 W' → SAt B (W'.setCell ⟨b, 13, none⟩ (.slice (some ⟨bn, 0, none⟩) i kn)) b { x with cells := (x.cells.set i Cl0).take i, hand := (i : Int) } ar kr v4 v8 br bc bn pb pa' pk' kn hd vf' F' vk K role' ∧ Ext a (W'.setCell ⟨b, 13, none⟩ (.slice (some ⟨bn, 0, none⟩) i kn)) from fun W' xw => ⟨((unhide H3).ext xw).drop i (by simpa using hlast), ((unhide X3).trans xw).setCell (p := ⟨b, 13, none⟩) (show a.heap.size ≤ b by omega) _⟩)
      clear hlast
      go_quiet (fail)
      obtain ⟨d1, hd1⟩ : ∃ m, m = nq := ⟨_, rfl⟩
      go_wp2_with fail
      go_region
      all_goals
        go_wp2_with fail
        go_ret
        first | exact ⟨by rw [unhide EP]; rfl, by rw [unhide EF]; exact ⟨_, _, _, _, _, ((unhide FN _ ((Ext.refl _).drewN _)).1).ext (Ext.refl _).drew, (unhide HP3).1, Or.inl ⟨unhide NS, (unhide HP3).2⟩⟩, ((unhide FN _ ((Ext.refl _).drewN _)).2).drew⟩ | exact ⟨by rw [unhide EP]; rfl, by rw [unhide EF]; exact ⟨_, _, _, _, _, (unhide FN _ ((Ext.refl _).drewN _)).1, (unhide HP3).1, Or.inl ⟨unhide NS, (unhide HP3).2⟩⟩, (unhide FN _ ((Ext.refl _).drewN _)).2⟩
    · skip
      have EF := hide (show unit6 x = { x with cells := x.cells.set i Cl0, hand := (i : Int) } by rw [unhide ES]; unfold dropH; rw [if_neg (fun e => hlast (by simpa using e.1))])
      have g1 : ((i : Int) == (x.cells.length : Int) - 1) = false := by simp; omega
      go_quiet (fail)
      go_wp2_with fail
      go_ret
      exact ⟨by rw [unhide EP]; rfl, by rw [unhide EF]; exact ⟨_, _, _, _, _, (unhide H3).ext ((Ext.refl _).drewN _), (unhide HP3).1, Or.inl ⟨unhide NS, (unhide HP3).2⟩⟩, (unhide X3).drewN _⟩
end Go.Proofs.YtkabcfhemljnbaaGreat
