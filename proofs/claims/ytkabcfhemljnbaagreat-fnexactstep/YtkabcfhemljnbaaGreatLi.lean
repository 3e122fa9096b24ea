import Derived.Test.YtkabcfhemljnbaaGreatLp
import Derived.Test.YtkabcfhemljnbaaGreatLj
import Derived.Deep.QuietTactic
namespace Go.Proofs.YtkabcfhemljnbaaGreat
open Go.RowKit
attribute [local go_sem ↓] Go.wp_at_zero Go.wp_at_succ

set_option maxRecDepth 100000 in
set_option maxHeartbeats 600000 in
theorem l3mend_any (B g : Nat) (x : Hp) (w : World) (h : GOk B w g x) (s : Snd x) (hp : x.phase = 5) (a : World) (ha : a.heap.size ≤ B) (hx : Ext a w) :
    Calls Tryz.prog 169 #[.pointer (some ⟨g, 0, none⟩)] w fun e w' => e = .returned (.tuple #[]) ∧ GOk B w' g (unit5 x) ∧ Ext a w' := by
  have hO := h
  obtain ⟨ar, kr, ac, kc, vg, br, bc, pb, pa, pk, role, h⟩ := h
  have HO := hide hO
  have c4 := h.bx.2.2.2.2.1
  have c6 := h.bx.2.2.2.2.2.2.1
  have c7 := h.bx.2.2.2.2.2.2.2.1
  have hgw : g < w.heap.size := cell_lt c4
  have lo := h.lo
  have n8 := s.ok.n8
  have hh := s.r1.hand
  have hs := s.r1.sub
  by_cases he : x.hand = x.cells.length
  · have E := hide (show unit5 x = toPh x 6 x.cells.length by unfold unit5; rw [if_pos he])
    have heb : (x.hand == (x.cells.length : Int)) = true := by simpa using he
    clear he h hO s
    go_enter Tryz.func169, Tryz.ntmps169
    go_wp2_with fail
    go_quiet (fail)
    go_wp2_with fail
    refine (l3phase_any B g x 6 x.cells.length _ ((unhide HO).ext ((Ext.refl w).drewN _)) a ha (hx.drewN _)).mono ?_
    rintro e w2 ⟨rfl, h2, x2⟩
    have H2 := hide h2
    clear h2
    go_wp2_with fail
    try simp only [Exit.inBlock, Exit.then]
    refine bodyPost_ret (results_none rfl _ _ _) rfl ?_
    exact ⟨rfl, by rw [unhide E]; exact unhide H2, x2⟩
  · obtain ⟨i, hi⟩ : ∃ i : Nat, x.hand = (i : Int) := ⟨x.hand.toNat, by omega⟩
    have hin : i < x.cells.length := by omega
    have ei : x.hand.toNat = i := by omega
    obtain ⟨k, hk⟩ : ∃ k : Nat, x.sub = (k : Int) := ⟨x.sub.toNat, by omega⟩
    have ek : x.sub.toNat = k := by omega
    have hp2 := s.ok.p200 i hin
    by_cases hl : k < (x.c i).prs.length
    · have E : unit5 x = { x with cells := x.cells.set i (mendC x (x.c i) k), sub := (k : Int) + 1 } := by
        unfold unit5
        rw [if_neg he, ei, if_pos (by omega), ek, hk]
      have nd : ¬ Doomed x i := fun d => by have := d.1; omega
      have P := ((s.r4.2 i hin).2 k hl).2 nd
      rw [E]
      exact l3mend_pair B g x w hO n8 a ha hx i hi hin k hk hl hp2 P.1.1 P.2.1
    · have E := hide (show unit5 x = { x with hand := x.hand + 1, sub := 0 } by
        unfold unit5
        rw [if_neg he, ei, if_neg (by omega)])
      have heb : (x.hand == (x.cells.length : Int)) = false := by simpa using he
      have hn : 0 < x.cells.length := by omega
      rw [h.hc hn] at c4
      have p7 := h.rw.p7 i hin
      have hbc : bc < w.heap.size := cell_lt p7
      have f6 := h.nf.2 6
      have f7 := h.nf.2 7
      rw [hi] at heb c6
      rw [hk] at c7
      have i0 : (0:Int) ≤ (i:Int) := by omega
      have i1 : (i:Int) < (x.cells.length:Int) := by omega
      have k1 : ¬ (k:Int) < ((x.c i).prs.length:Int) := by omega
      have FN := hide (show ∀ n, GOk B (((w.drewN n).setCell ⟨g, 6, none⟩ (iv ((i : Int) + 1))).setCell ⟨g, 7, none⟩ (iv 0)) g { x with hand := (i : Int) + 1, sub := 0 } ∧ Ext a (((w.drewN n).setCell ⟨g, 6, none⟩ (iv ((i : Int) + 1))).setCell ⟨g, 7, none⟩ (iv 0)) from fun n => ⟨((hO.ext ((Ext.refl w).drewN n)).set6 _).set7 0, ((hx.drewN n).setCell (p := ⟨g, 6, none⟩) (show a.heap.size ≤ g by omega) _).setCell (p := ⟨g, 7, none⟩) (show a.heap.size ≤ g by omega) _⟩)
      rw [hi] at E
      clear he h hO s hi hk ei ek hl hh hs
      go_enter Tryz.func169, Tryz.ntmps169
      go_wp2_with fail
      go_quiet (fail)
      obtain ⟨m1, rfl⟩ : ∃ m, m = nq := ⟨_, rfl⟩
      go_wp2_with fail
      go_quiet (fail)
      go_wp2_with fail
      go_end0
      exact ⟨rfl, by rw [unhide E]; exact (unhide FN _).1, (unhide FN _).2⟩
end Go.Proofs.YtkabcfhemljnbaaGreat

namespace Go.Proofs.YtkabcfhemljnbaaGreat
open Go.RowKit
attribute [local go_sem ↓] Go.wp_at_zero Go.wp_at_succ

set_option maxRecDepth 100000 in
set_option maxHeartbeats 600000 in
theorem l3mark_black (B g : Nat) (x : Hp) (w : World) (h : GOk B w g x) (s : Snd x) (a : World) (ha : a.heap.size ≤ B) (hx : Ext a w) (i : Nat) (G : List Int) (hg : x.gray = (i : Int) :: G) (hin : i < x.cells.length) (hks : ¬ x.sub < ((x.c i).prs.length : Int)) :
    Calls Tryz.prog 166 #[.pointer (some ⟨g, 0, none⟩)] w fun e w' => e = .returned (.tuple #[]) ∧ GOk B w' g { x with cells := x.cells.set i (blackC (x.c i)), gray := G, sub := 0 } ∧ Ext a w' := by
  obtain ⟨ar, kr, ac, kc, vg, br, bc, pb, pa, pk, role, h⟩ := h
  obtain ⟨ag, kg, rfl⟩ := h.gr.form
  have lg : x.gray.length = G.length + 1 := by rw [hg]; rfl
  have hn : 0 < x.cells.length := by omega
  have c4 := h.bx.2.2.2.2.1
  have c7 := h.bx.2.2.2.2.2.2.2.1
  have c8 := h.bx.2.2.2.2.2.2.2.2.1
  obtain ⟨gb, go, hag, hg0, _⟩ := h.gr.at 0 (by rw [hg]; simp)
  have eg : x.gray[0]'(by rw [hg]; simp) = (i : Int) := by simp [hg]
  rw [eg] at hg0
  simp only [Nat.add_zero] at hg0
  rw [h.hc hn] at c4
  rw [hag, lg] at c8 h
  have H := hide h
  have p5 := (h.rw.s i hin).2.2.2.2.2.1
  have p7 := h.rw.p7 i hin
  have hgw : g < w.heap.size := cell_lt c4
  have lo := h.lo
  have n8 := s.ok.n8
  have gl8 : G.length ≤ 8000 := by have := s.r1.gray; omega
  have f7 := h.nf.2 7
  have f8 := h.nf.2 8
  have f5 := (h.rw.nc hn).1.2 (i * 8 + 5)
  have i0 : (0:Int) ≤ (i:Int) := by omega
  have i1 : (i:Int) < (x.cells.length:Int) := by omega
  have g1 : (0:Int) < (G.length:Int) + 1 := by omega
  have g2 : (1:Int) ≤ (G.length:Int) + 1 := by omega
  have hbc : bc < w.heap.size := cell_lt p7
  have NGC := hide (show ¬ g = bc from fun e => by have h1 := h.sp.g; have h2 := h.sp.c hn; rw [e] at h1; omega)
  have ngc : ¬ g = bc := unhide NGC
  have ncg : ¬ bc = g := fun e => unhide NGC e.symm
  have HG := hide hg
  have hbB := (h.rw.nc hn).2
  have FIN := hide (show ∀ n v', (∀ W, Ext w W → Grw W B v' G) → v'.ownBlock = some gb → GOk B ((((w.drewN n).setCell ⟨bc, i * 8 + 5, none⟩ (iv 2)).setCell ⟨g, 8, none⟩ v').setCell ⟨g, 7, none⟩ (iv 0)) g { x with cells := x.cells.set i (blackC (x.c i)), gray := G, sub := 0 } ∧ Ext a ((((w.drewN n).setCell ⟨bc, i * 8 + 5, none⟩ (iv 2)).setCell ⟨g, 8, none⟩ v').setCell ⟨g, 7, none⟩ (iv 0)) from fun n v' hv ho => by
    have H2 := h.ext ((Ext.refl w).drewN n)
    have G3 : GAt B ((w.drewN n).setCell ⟨bc, i * 8 + 5, none⟩ (iv 2)) g { x with cells := x.cells.set i (blackC (x.c i)) } ar kr (some ⟨bc, 0, none⟩) kc (.slice (some ⟨gb, go, none⟩) (G.length + 1) kg) br bc pb pa pk role := by
      rw [← h.hc hn]
      refine H2.setc hin rfl (Only.setCell (S := fun q => q = bc) (Only.refl _ (w.drewN n)) (p := ⟨bc, i * 8 + 5, none⟩) rfl _) ?_ (fun k hk => cell_other _ (.inr (by omega))) ((H2.rw.nc hn).1.set _ _)
      obtain ⟨a0, a1, a2, a3, a4, a5, a6⟩ := H2.rw.s i hin
      refine ⟨?_, ?_, ?_, ?_, ?_, World.cell?_setCell_same _ _ _ a5, ?_⟩
      · rw [cell_other _ (.inr (by omega))]; exact a0
      · rw [cell_other _ (.inr (by omega))]; exact a1
      · rw [cell_other _ (.inr (by omega))]; exact a2
      · rw [cell_other _ (.inr (by omega))]; exact a3
      · rw [cell_other _ (.inr (by omega))]; exact a4
      · rw [cell_other _ (.inr (by omega))]; exact a6
    have r4 : role gb = 4 := h.sp.y gb rfl
    have hgb : gb ≠ bc := fun e => by have := h.sp.c hn; rw [← e] at this; omega
    have hv2 : Grw ((w.drewN n).setCell ⟨bc, i * 8 + 5, none⟩ (iv 2)) B v' G := (hv _ ((Ext.refl w).drewN n)).block (fun q hq => Below.heap_setCell _ _ _ _ (fun e => by rw [ho] at hq; injection hq with hq; exact hgb (hq.trans e)))
    refine ⟨(G3.gtail hv2 ho).set7 0, ?_⟩
    exact (((hx.drewN n).setCell (p := ⟨bc, i * 8 + 5, none⟩) (show a.heap.size ≤ bc by omega) _).setCell (p := ⟨g, 8, none⟩) (show a.heap.size ≤ g by omega) _).setCell (p := ⟨g, 7, none⟩) (show a.heap.size ≤ g by omega) _)
  have V0 := hide (show kg ≠ 1 → ∀ W, Ext w W → Grw W B (.slice (some ⟨gb, go + 1, none⟩) G.length (kg - 1)) G from fun _ W e => by
    have hgr := (h.ext e).gr
    rw [hg] at hgr
    exact hgr.tail)
  have V1 := hide (show kg = 1 → ∀ W, Ext w W → Grw W B (.slice (some ⟨gb, go, none⟩) G.length 0) G from fun ek W e => by
    have hgr := (h.ext e).gr
    rw [hg, ek] at hgr
    exact hgr.tail1)
  clear h eg hg lg hag s
  go_enter Tryz.func166, Tryz.ntmps166
  go_wp2_with fail
  go_quiet (fail)
  go_wp2_with fail
  · obtain ⟨k1, k2⟩ := unhide FIN nq _ (unhide V1 (by assumption)) rfl
    refine bodyPost_ret (results_none rfl _ _ _) rfl ?_
    exact ⟨rfl, k1, k2⟩
  · obtain ⟨k1, k2⟩ := unhide FIN nq _ (unhide V0 (by assumption)) rfl
    refine bodyPost_ret (results_none rfl _ _ _) rfl ?_
    exact ⟨rfl, k1, k2⟩
/-- behind j of the registers -/
def lkH (x : Hp) (j : Nat) : Hp := (x.regs.take j).foldl shadeW x
def grB (x : Hp) : Bool := !x.gray.isEmpty
theorem lkH_succ (x : Hp) (j : Nat) (h : j < x.regs.length) : lkH x (j + 1) = shadeW (lkH x j) x.regs[j] := by
  unfold lkH
  rw [List.take_succ_eq_append_getElem h, List.foldl_append]
  rfl
theorem lkH_all (x : Hp) : lkH x x.regs.length = lookH x := by unfold lkH lookH; rw [List.take_length]
theorem lkH_shd {x : Hp} (s : Snd x) (hp : x.phase = 2) (j : Nat) : Shd x (lkH x j) := by
  refine (Shd.fold (.inr hp) (x.regs.take j) x (fun y hy => ?_) (Shd.refl s)).1
  obtain ⟨i, hi, e⟩ := List.mem_iff_getElem.1 (List.mem_of_mem_take hy)
  rw [← e]
  exact s.good_reg i hi
theorem ssh_gr {z : Hp} {y : Wd} (b : Bool) (hb : grB z = b) : (sshB z y = true → grB (sshH z y) = true) ∧ (sshB z y = false → grB (sshH z y) = b) := by
  refine ⟨fun h => ?_, fun h => ?_⟩
  · unfold sshH; rw [if_pos h]; simp [grB]
  · unfold sshH; rw [h]; simpa using hb
set_option maxRecDepth 100000 in
set_option maxHeartbeats 600000 in
theorem l3mark_look (B g : Nat) (x : Hp) (w : World) (h : GOk B w g x) (s : Snd x) (hp : x.phase = 2) (a : World) (ha : a.heap.size ≤ B) (hx : Ext a w) (hg : x.gray = []) :
    Calls Tryz.prog 166 #[.pointer (some ⟨g, 0, none⟩)] w fun e w' => e = .returned (.tuple #[]) ∧ GOk B w' g (unit2 x) ∧ Ext a w' := by
  obtain ⟨ar, kr, ac, kc, vg, br, bc, pb, pa, pk, role, h⟩ := h
  obtain ⟨ag, kg, rfl⟩ := h.gr.form
  have lg : x.gray.length = 0 := by rw [hg]; rfl
  have c3 := h.bx.2.2.2.1
  have c8 := h.bx.2.2.2.2.2.2.2.2.1
  have H := hide h
  rw [lg] at c8
  have hgw : g < w.heap.size := cell_lt c3
  have lo := h.lo
  have n8 := s.ok.n8
  have S := hide s
  have r16 : x.regs.length ≤ 16 := by have := s.r1.regs; omega
  have r0 : 0 < x.regs.length := by have := s.r1.regs; omega
  rw [h.ha r0] at c3
  have G0 := hide (show grB (lkH x 0) = false by simp [lkH, grB, hg])
  have EU := hide (show unit2 x = if (lookH x).gray = [] then toPh (lookH x) 3 0 else lookH x by unfold unit2; rw [hg])
  have SH := hide (lkH_shd s hp)
  clear h lg hg hp
  go_enter Tryz.func166, Tryz.ntmps166
  go_wp2_with fail
  go_loopw [4, 85] (fun sm i wr => ∃ j, j ≤ x.regs.length ∧ i = .int .i64 (j : Nat) ∧ sm = .bool (grB (lkH x j)) ∧ Hid (∃ ag' kg' role', GAt B wr g (lkH x j) ar kr ac kc (.slice ag' (lkH x j).gray.length kg') br bc pb pa pk role') ∧ Ext a wr) (fun _ i _ => x.regs.length - (intOf i).toNat)
  case atStart => exact ⟨0, Nat.zero_le _, rfl, by rw [unhide G0], ⟨_, _, _, unhide H⟩, hx⟩
  case round =>
    clear c3 c8
    obtain ⟨j, hj, rfl, rfl, hr, hxr⟩ := hrel
    by_cases hlt : j < x.regs.length
    · obtain ⟨ag', kg', role', hG⟩ := unhide hr
      have er : (lkH x j).regs = x.regs := (unhide SH j).regs
      obtain ⟨w0, w1, w2⟩ := hG.rw.r j (by rw [er]; exact hlt)
      have eq : (lkH x j).regs[j]'(by rw [er]; exact hlt) = x.regs[j] := by simp [er]
      rw [eq] at w0 w1 w2
      have hbr : br < wr.heap.size := cell_lt w0
      have Hj := hide hG
      have N1 := hide (show (lkH x j).cells.length ≤ 8000 ∧ (lkH x j).gray.length ≤ 8000 ∧ Good1 (lkH x j) x.regs[j] ∧ (x.regs[j].k = 2 → 0 ≤ x.regs[j].a ∧ x.regs[j].a < (lkH x j).cells.length) by
        have hs := (unhide SH j).s
        have h8 := hs.ok.n8
        have hgr := hs.r1.gray
        refine ⟨h8, by omega, ?_, fun hk => ?_⟩
        · have := hs.good_reg j (by rw [er]; exact hlt)
          rw [eq] at this; exact this
        · have := (hs.r4.1 j (by rw [er]; exact hlt)).1
          rw [eq] at this
          unfold Formed at this; omega)
      have NX := hide (show lkH x (j + 1) = sshH (lkH x j) x.regs[j] by rw [lkH_succ x j hlt, ssh_eq (unhide N1).2.2.1 (fun hk => ((unhide N1).2.2.2 hk).1)])
      have hj0 : (0:Int) ≤ (j:Int) := by omega
      have hj1 : (j:Int) < (x.regs.length:Int) := by omega
      clear hG er eq hr
      obtain ⟨b0, hb0⟩ : ∃ b, grB (lkH x j) = b := ⟨_, rfl⟩
      have SG := hide (ssh_gr (y := x.regs[j]) b0 hb0)
      rw [hb0]
      clear hb0
      go_wp2_with fail
      refine (l3shade_any x.regs[j] _ ((unhide Hj).ext ((Ext.refl wr).alloc _)) (unhide N1).2.2.2 (unhide N1).1 (unhide N1).2.1 a ha (hxr.alloc _) ?_).mono ?_
      · have := (unhide Hj).nf.1; simp; omega
      rintro e w3 ⟨rfl, h3, x3⟩
      rw [← unhide NX] at h3
      obtain ⟨r, hr⟩ : ∃ r, sshB (lkH x j) x.regs[j] = r := ⟨_, rfl⟩
      rw [← unhide NX, hr] at SG
      rw [hr]
      clear hr NX N1 w0 w1 w2
      cases r
      · have E1 := hide ((unhide SG).2 rfl)
        go_wp2_with fail
        go_roundw
        case rel => exact ⟨j + 1, by omega, by go_num, by rw [unhide E1], h3, x3⟩
        case measure => simp [intOf]; omega
      · have E1 := hide ((unhide SG).1 rfl)
        go_wp2_with fail
        go_roundw
        case rel => exact ⟨j + 1, by omega, by go_num, by rw [unhide E1], h3, x3⟩
        case measure => simp [intOf]; omega
    · have je : j = x.regs.length := by omega
      subst je
      rw [lkH_all] at hr ⊢
      have HL := hide (show GOk B wr g (lookH x) by
        obtain ⟨ag', kg', role', hG⟩ := unhide hr
        exact ⟨_, _, _, _, _, _, _, _, _, _, _, hG⟩)
      clear hr
      cases q : grB (lookH x)
      · have EF := hide (show unit2 x = toPh (lookH x) 3 0 by
          have : (lookH x).gray = [] := by simpa [grB] using q
          rw [unhide EU, if_pos this])
        go_wp2_with fail
        refine (l3phase_any B g (lookH x) 3 0 _ (unhide HL) a ha hxr).mono ?_
        rintro e w2 ⟨rfl, h2, x2⟩
        have H2 := hide h2
        clear h2
        go_wp2_with fail
        go_end0
        exact ⟨rfl, by rw [unhide EF]; exact unhide H2, x2⟩
      · have EF := hide (show unit2 x = lookH x by
          have : ¬ (lookH x).gray = [] := fun e => by simp [grB, e] at q
          rw [unhide EU, if_neg this])
        go_wp2_with fail
        go_end0
        exact ⟨rfl, by rw [unhide EF]; exact unhide HL, hxr⟩
/-- the model's unit of marking -/
theorem l3mark_any (B g : Nat) (x : Hp) (w : World) (h : GOk B w g x) (s : Snd x) (hp : x.phase = 2) (a : World) (ha : a.heap.size ≤ B) (hx : Ext a w) :
    Calls Tryz.prog 166 #[.pointer (some ⟨g, 0, none⟩)] w fun e w' => e = .returned (.tuple #[]) ∧ GOk B w' g (unit2 x) ∧ Ext a w' := by
  cases hg : x.gray with
  | nil => exact l3mark_look B g x w h s hp a ha hx hg
  | cons i0 G =>
    have hb := s.r5.2.2 i0 (by rw [hg]; exact List.mem_cons_self ..)
    obtain ⟨i, rfl⟩ : ∃ i : Nat, i0 = (i : Int) := ⟨i0.toNat, by omega⟩
    have ei : ((i : Int)).toNat = i := by omega
    have hin : i < x.cells.length := by omega
    by_cases hs : x.sub < ((x.c i).prs.length : Int)
    · obtain ⟨k, hk⟩ : ∃ k : Nat, x.sub = (k : Int) := ⟨x.sub.toNat, by have := s.r1.sub; omega⟩
      have e : unit2 x = { shadeW (shadeW x ((x.c i).p k).key) ((x.c i).p k).val with sub := (k : Int) + 1 } := by
        have ek : x.sub.toNat = k := by omega
        unfold unit2
        rw [hg]
        simp only [ei, if_pos hs, ek]
        rw [hk]
      rw [e]
      exact l3mark_pair B g x w h s hp a ha hx i G hg hin k hk (by omega)
    · have e : unit2 x = { x with cells := x.cells.set i (blackC (x.c i)), gray := G, sub := 0 } := by
        unfold unit2
        rw [hg]
        simp only [ei, if_neg hs]
      rw [e]
      exact l3mark_black B g x w h s a ha hx i G hg hin hs
end Go.Proofs.YtkabcfhemljnbaaGreat

namespace Go.Proofs.YtkabcfhemljnbaaGreat
open Go.RowKit
attribute [local go_sem ↓] Go.wp_at_zero Go.wp_at_succ

set_option maxRecDepth 100000 in
set_option maxHeartbeats 600000 in
theorem l3sweep_any (B g : Nat) (x : Hp) (w : World) (h : GOk B w g x) (s : Snd x) (a : World) (ha : a.heap.size ≤ B) (hx : Ext a w) :
    Calls Tryz.prog 167 #[.pointer (some ⟨g, 0, none⟩)] w fun e w' => e = .returned (.tuple #[]) ∧ GOk B w' g (unit3 x) ∧ Ext a w' := by
  obtain ⟨ar, kr, ac, kc, vg, br, bc, pb, pa, pk, role, h⟩ := h
  have HO := hide (show GOk B w g x from ⟨_, _, _, _, _, _, _, _, _, _, _, h⟩)
  have H := hide h
  have c4 := h.bx.2.2.2.2.1
  have c6 := h.bx.2.2.2.2.2.2.1
  have c1 := h.bx.2.1
  have hgw : g < w.heap.size := cell_lt c4
  have lo := h.lo
  have n8 := s.ok.n8
  have S := hide s
  have hh := s.r1.hand
  clear h
  by_cases he : x.hand = x.cells.length
  · have E := hide (show unit3 x = toPh x 4 0 by unfold unit3; rw [if_pos he])
    have heb : (x.hand == (x.cells.length : Int)) = true := by simpa using he
    clear he
    go_enter Tryz.func167, Tryz.ntmps167
    go_wp2_with fail
    go_quiet (fail)
    go_wp2_with fail
    refine (l3phase_any B g x 4 0 _ ((unhide HO).ext ((Ext.refl w).drewN _)) a ha (hx.drewN _)).mono ?_
    rintro e w2 ⟨rfl, h2, x2⟩
    have H2 := hide h2
    clear h2
    go_wp2_with fail
    try simp only [Exit.inBlock, Exit.then]
    refine bodyPost_ret (results_none rfl _ _ _) rfl ?_
    exact ⟨rfl, by rw [unhide E]; exact unhide H2, x2⟩
  · obtain ⟨i, hi⟩ : ∃ i : Nat, x.hand = (i : Int) := ⟨x.hand.toNat, by omega⟩
    have hin : i < x.cells.length := by omega
    have V := hide (show wrap64 (1 + ((x.c i).prs.length : Int)) = 1 + ((x.c i).prs.length : Int) ∧ wrap64 (x.used - (1 + ((x.c i).prs.length : Int))) = x.used - (1 + ((x.c i).prs.length : Int)) by
      have hlp := s.ok.p200 i hin
      have hu1 : x.used ≤ 4000 := by have := s.r3.2; have := s.r1.room; omega
      have hu0 : 0 ≤ x.used := by have := s.r3.1; omega
      exact ⟨wrap_fit _ (by omega) (by omega), wrap_fit _ (by omega) (by omega)⟩)
    have heb : (x.hand == (x.cells.length : Int)) = false := by simpa using he
    rw [hi] at heb c6
    have hn : 0 < x.cells.length := by omega
    rw [(unhide H).hc hn] at c4
    obtain ⟨p0, p1, p2, p3, p4, p5, p6⟩ := (unhide H).rw.s i hin
    have p7 := (unhide H).rw.p7 i hin
    have hbc : bc < w.heap.size := cell_lt p0
    have NGC := hide (show ¬ g = bc from fun e => by have h1 := (unhide H).sp.g; have h2 := (unhide H).sp.c hn; rw [e] at h1; omega)
    have i0 : (0:Int) ≤ (i:Int) := by omega
    have i1 : (i:Int) < (x.cells.length:Int) := by omega
    have ei : x.hand.toNat = i := by omega
    have EU := hide (show unit3 x = if whB (x.c i) = true then { x with used := x.used - (1 + (x.c i).prs.length), cells := x.cells.set i Cl0, hand := x.hand + 1 } else { x with cells := x.cells.set i (whiteC (x.c i)), hand := x.hand + 1 } by unfold unit3; rw [if_neg he, ei])
    have HI := hide hi
    have zn := fun n j => dalloc_new w n #[.int .i64 0, .int .i64 0, .int .i64 0, .int .i64 0, .int .i64 0, .int .i64 0, .int .i64 0, .slice none 0 0] 86 j
    have zf := fun n j => dalloc_fr w n #[.int .i64 0, .int .i64 0, .int .i64 0, .int .i64 0, .int .i64 0, .int .i64 0, .int .i64 0, .slice none 0 0] 86 j
    have zo := fun n o b j (h : b < w.heap.size) => dalloc_old w n o b j h
    clear he hi ei hh
    go_enter Tryz.func167, Tryz.ntmps167
    go_wp2_with fail
    go_quiet (fail)
    go_wp2_with fail
    go_region
    all_goals
      obtain ⟨W2, hW2⟩ : ∃ W, W = (((((((((w.drewN (nq + 1)).alloc (.cells #[.int .i64 0, .int .i64 0, .int .i64 0, .int .i64 0, .int .i64 0, .int .i64 0, .int .i64 0, .slice none 0 0] 86)).setCell ⟨w.heap.size, 0, none⟩ (.int .i64 (x.c i).st)).setCell ⟨w.heap.size, 1, none⟩ (.int .i64 (x.c i).kind)).setCell ⟨w.heap.size, 2, none⟩ (.int .i64 (x.c i).weak)).setCell ⟨w.heap.size, 3, none⟩ (.int .i64 (x.c i).last)).setCell ⟨w.heap.size, 4, none⟩ (.int .i64 (x.c i).born)).setCell ⟨w.heap.size, 5, none⟩ (.int .i64 (x.c i).color)).setCell ⟨w.heap.size, 6, none⟩ (.int .i64 (x.c i).to)).setCell ⟨w.heap.size, 7, none⟩ (.slice (pa i) (x.c i).prs.length (pk i)) := ⟨_, rfl⟩
      have X2 : Ext w W2 := by
        rw [hW2]
        exact (((((((((Ext.refl w).drewN (nq + 1)).alloc _).setCell (Nat.le_refl _) _).setCell (Nat.le_refl _) _).setCell (Nat.le_refl _) _).setCell (Nat.le_refl _) _).setCell (Nat.le_refl _) _).setCell (Nat.le_refl _) _).setCell (Nat.le_refl _) _ |>.setCell (Nat.le_refl _) _
      have l0 : W2.cell? ⟨w.heap.size, 0, none⟩ = some (iv (x.c i).st) := by
        rw [hW2, cell_other _ (.inr (by omega)), cell_other _ (.inr (by omega)), cell_other _ (.inr (by omega)), cell_other _ (.inr (by omega)), cell_other _ (.inr (by omega)), cell_other _ (.inr (by omega)), cell_other _ (.inr (by omega))]
        exact World.cell?_setCell_same _ _ _ (by rw [zn]; rfl)
      have l5 : W2.cell? ⟨w.heap.size, 5, none⟩ = some (iv (x.c i).color) := by
        rw [hW2, cell_other _ (.inr (by omega)), cell_other _ (.inr (by omega))]
        exact World.cell?_setCell_same _ _ _ (by rw [cell_other _ (.inr (by omega)), cell_other _ (.inr (by omega)), cell_other _ (.inr (by omega)), cell_other _ (.inr (by omega)), cell_other _ (.inr (by omega)), zn]; rfl)
      have l7 : W2.cell? ⟨w.heap.size, 7, none⟩ = some (.slice (pa i) (x.c i).prs.length (pk i)) := by
        rw [hW2]
        exact World.cell?_setCell_same _ _ _ (by rw [cell_other _ (.inr (by omega)), cell_other _ (.inr (by omega)), cell_other _ (.inr (by omega)), cell_other _ (.inr (by omega)), cell_other _ (.inr (by omega)), cell_other _ (.inr (by omega)), cell_other _ (.inr (by omega)), zn]; rfl)
      rw [← hW2]
      clear hW2 zn zf zo p0 p1 p2 p3 p4 p6 p7
      have H2 := hide ((unhide H).ext X2)
      have d6 := X2.keep c6
      have d4 := X2.keep c4
      have d1 := X2.keep c1
      have d5 := X2.keep p5
      have hgW : g < W2.heap.size := cell_lt d6
      have f6 : W2.frozen? ⟨g, 6, none⟩ = false := (unhide H2).nf.2 6
      have f1 : W2.frozen? ⟨g, 1, none⟩ = false := (unhide H2).nf.2 1
      have fc := ((unhide H2).rw.nc hn).1.2
      have ngc : ¬ g = bc := unhide NGC
      have ncg : ¬ bc = g := fun e => unhide NGC e.symm
      clear c1 c4 c6 p5
      have G3 := hide (show GOk B (W2.setCell ⟨bc, i * 8 + 5, none⟩ (iv 0)) g { x with cells := x.cells.set i (whiteC (x.c i)) } by
        refine ⟨_, _, _, _, _, _, _, _, _, _, _, (unhide H2).setc hin rfl (Only.setCell (S := fun q => q = bc) (Only.refl _ W2) (p := ⟨bc, i * 8 + 5, none⟩) rfl _) ?_ (fun k hk => cell_other _ (.inr (by omega))) (((unhide H2).rw.nc hn).1.set _ _)⟩
        obtain ⟨a0, a1, a2, a3, a4, a5, a6⟩ := (unhide H2).rw.s i hin
        refine ⟨?_, ?_, ?_, ?_, ?_, World.cell?_setCell_same _ _ _ a5, ?_⟩
        · rw [cell_other _ (.inr (by omega))]; exact a0
        · rw [cell_other _ (.inr (by omega))]; exact a1
        · rw [cell_other _ (.inr (by omega))]; exact a2
        · rw [cell_other _ (.inr (by omega))]; exact a3
        · rw [cell_other _ (.inr (by omega))]; exact a4
        · rw [cell_other _ (.inr (by omega))]; exact a6)
      have G4 := hide (((unhide G3).set6 ((i : Int) + 1)).ext (Ext.refl _).drew)
      clear G3
      have hbB := ((unhide H2).rw.nc hn).2
      have X3 := hide (((hx.trans X2).setCell (p := ⟨bc, i * 8 + 5, none⟩) (show a.heap.size ≤ bc from Nat.le_trans ha hbB) (iv 0)).setCell (p := ⟨g, 6, none⟩) (show a.heap.size ≤ g by omega) (iv ((i : Int) + 1)) |>.drew)
      cases q1 : ((x.c i).st == 1)
      · have EF := hide (show unit3 x = { x with cells := x.cells.set i (whiteC (x.c i)), hand := x.hand + 1 } by rw [unhide EU, if_neg (by simp [whB, q1])])
        rw [unhide HI] at EF
        go_wp2_with fail
        go_region
        all_goals
          go_wp2_with fail
          go_end0
          exact ⟨rfl, by rw [unhide EF]; exact unhide G4, unhide X3⟩
      · cases q2 : ((x.c i).color == 0)
        · have EF := hide (show unit3 x = { x with cells := x.cells.set i (whiteC (x.c i)), hand := x.hand + 1 } by rw [unhide EU, if_neg (by simp [whB, q2])])
          rw [unhide HI] at EF
          go_wp2_with fail
          go_region
          all_goals
            go_wp2_with fail
            go_end0
            exact ⟨rfl, by rw [unhide EF]; exact unhide G4, unhide X3⟩
        · have EF := hide (show unit3 x = { x with used := x.used - (1 + (x.c i).prs.length), cells := x.cells.set i Cl0, hand := x.hand + 1 } by rw [unhide EU, if_pos (by simp [whB, q1, q2])])
          rw [unhide HI] at EF
          clear G4 X3
          go_wp2_with fail
          go_region
          all_goals
            rw [(unhide V).1, (unhide V).2]
            obtain ⟨W3, hW3⟩ : ∃ W, W = (W2.setCell ⟨g, 1, none⟩ (iv (x.used - (1 + (x.c i).prs.length)))).drew := ⟨_, rfl⟩
            have H3 := hide (show GAt B W3 g { x with used := x.used - (1 + (x.c i).prs.length) } ar kr ac kc vg br bc pb pa pk role by
              rw [hW3]
              exact ((unhide H2).boxed (x' := { x with used := x.used - (1 + (x.c i).prs.length) }) (Only.setCell (S := fun q => q = g) (Only.refl _ W2) (p := ⟨g, 1, none⟩) rfl _) ((unhide H2).nf.set _ _) rfl rfl rfl ((unhide H2).bx.set1 _)).ext (Ext.refl _).drew)
            have X3 : Ext a W3 := by rw [hW3]; exact ((hx.trans X2).setCell (p := ⟨g, 1, none⟩) (show a.heap.size ≤ g by omega) _).drew
            rw [← hW3]
            clear hW3 V l0 l5 l7 d1 d4 d5 d6 f6 f1 fc X2
            have e4 := (unhide H3).bx.2.2.2.2.1
            rw [(unhide H2).hc hn] at e4
            have e6 : W3.cell? ⟨g, 6, none⟩ = some (iv i) := by rw [← unhide HI]; exact (unhide H3).bx.2.2.2.2.2.2.1
            obtain ⟨e0, e1, e2, e3, ee4, e5, ee6⟩ := (unhide H3).rw.s i hin
            have e7 := (unhide H3).rw.p7 i hin
            have f6 : W3.frozen? ⟨g, 6, none⟩ = false := (unhide H3).nf.2 6
            have fc := ((unhide H3).rw.nc hn).1.2
            have G4 := hide ((((unhide H3).wipe i hin 0 0).set6 ((i : Int) + 1)).ext (Ext.refl _).drew)
            have X4 := hide (show Ext a (((wipeW W3 bc (i * 8) 0 0).setCell ⟨g, 6, none⟩ (iv ((i : Int) + 1))).drew) from (((wipe_only W3 bc (i * 8) 0 0).ext X3 (fun q hq e => by have := ((unhide H3).rw.nc hn).2; omega)).setCell (p := ⟨g, 6, none⟩) (show a.heap.size ≤ g by omega) _).drew)
            unfold wipeW at G4 X4
            go_wp2_with fail
            go_region
            all_goals
              go_wp2_with fail
              go_end0
              exact ⟨rfl, by rw [unhide EF]; exact unhide G4, unhide X4⟩
end Go.Proofs.YtkabcfhemljnbaaGreat
