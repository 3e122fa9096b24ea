import Derived.Test.YtkabcfhemljnbaaGreatLj
import Derived.Test.YtkabcfhemljnbaaGreatPl
import Derived.Test.YtkabcfhemljnbaaGreatLsD
import Derived.Deep.RegionWith
import Derived.Test.YtkabcfhemljnbaaGreatPxp
namespace Go.Proofs.YtkabcfhemljnbaaGreat
open Go.RowKit
attribute [local go_sem ↓] Go.wp_at_zero Go.wp_at_succ

set_option maxRecDepth 100000 in
set_option maxHeartbeats 600000 in
theorem l3mark_black (B g : Nat) (x : Hp) (w : World) (h : GOk B w g x) (s : Snd x) (a : World) (ha : a.heap.size ≤ B) (hx : Ext a w) (i : Nat) (G : List Int) (hg : x.gray = (i : Int) :: G) (hin : i < x.cells.length) (hks : ¬ x.sub < ((x.c i).prs.length : Int)) :
    Calls Tryz.prog 166 #[.pointer (some ⟨g, 0, none⟩)] w fun e w' => e = .returned (.tuple #[]) ∧ GOk B w' g { x with cells := x.cells.set i (blackC (x.c i)), gray := G, sub := 0 } ∧ Ext a w' := by
  obtain ⟨ar, kr, ac, kc, vg, br, bc, pb, pa, pk, role, h⟩ := h
  obtain ⟨ag, kg, rfl⟩ := h.gr.form
  have lg : x.gray.length = G.length + 1 := by rw [hg]; rfl
  have hn : 0 < x.cells.length := by omega
  have c4 := h.bx.2.2.2.2.1
  have c7 := h.bx.2.2.2.2.2.2.2.1
  have c8 := h.bx.2.2.2.2.2.2.2.2.1
  obtain ⟨gb, go, hag, hg0, _⟩ := h.gr.at 0 (by rw [hg]; simp)
  have eg : x.gray[0]'(by rw [hg]; simp) = (i : Int) := by simp [hg]
  rw [eg] at hg0
  simp only [Nat.add_zero] at hg0
  rw [h.hc hn] at c4
  rw [hag, lg] at c8 h
  have H := hide h
  have p5 := (h.rw.s i hin).2.2.2.2.2.1
  have p7 := h.rw.p7 i hin
  have hgw : g < w.heap.size := cell_lt c4
  have lo := h.lo
  have n8 := s.ok.n8
  have gl8 : G.length ≤ 8000 := by have := s.r1.gray; omega
  have f7 := h.nf.2 7
  have f8 := h.nf.2 8
  have f5 := (h.rw.nc hn).1.2 (i * 8 + 5)
  have i0 : (0:Int) ≤ (i:Int) := by omega
  have i1 : (i:Int) < (x.cells.length:Int) := by omega
  have g1 : (0:Int) < (G.length:Int) + 1 := by omega
  have g2 : (1:Int) ≤ (G.length:Int) + 1 := by omega
  have hbc : bc < w.heap.size := cell_lt p7
  have NGC := hide (show ¬ g = bc from fun e => by have h1 := h.sp.g; have h2 := h.sp.c hn; rw [e] at h1; omega)
  have ngc : ¬ g = bc := unhide NGC
  have ncg : ¬ bc = g := fun e => unhide NGC e.symm
  have HG := hide hg
  have hbB := (h.rw.nc hn).2
  have FIN := hide (show ∀ n v', (∀ W, Ext w W → Grw W B v' G) → v'.ownBlock = some gb → GOk B ((((w.drewN n).setCell ⟨bc, i * 8 + 5, none⟩ (iv 2)).setCell ⟨g, 8, none⟩ v').setCell ⟨g, 7, none⟩ (iv 0)) g { x with cells := x.cells.set i (blackC (x.c i)), gray := G, sub := 0 } ∧ Ext a ((((w.drewN n).setCell ⟨bc, i * 8 + 5, none⟩ (iv 2)).setCell ⟨g, 8, none⟩ v').setCell ⟨g, 7, none⟩ (iv 0)) from fun n v' hv ho => by
    have H2 := h.ext ((Ext.refl w).drewN n)
    have G3 : GAt B ((w.drewN n).setCell ⟨bc, i * 8 + 5, none⟩ (iv 2)) g { x with cells := x.cells.set i (blackC (x.c i)) } ar kr (some ⟨bc, 0, none⟩) kc (.slice (some ⟨gb, go, none⟩) (G.length + 1) kg) br bc pb pa pk role := by
      rw [← h.hc hn]
      refine H2.setc hin rfl (Only.setCell (S := fun q => q = bc) (Only.refl _ (w.drewN n)) (p := ⟨bc, i * 8 + 5, none⟩) rfl _) ?_ (fun k hk => cell_other _ (.inr (by omega))) ((H2.rw.nc hn).1.set _ _)
      obtain ⟨a0, a1, a2, a3, a4, a5, a6⟩ := H2.rw.s i hin
      refine ⟨?_, ?_, ?_, ?_, ?_, World.cell?_setCell_same _ _ _ a5, ?_⟩
      · rw [cell_other _ (.inr (by omega))]; exact a0
      · rw [cell_other _ (.inr (by omega))]; exact a1
      · rw [cell_other _ (.inr (by omega))]; exact a2
      · rw [cell_other _ (.inr (by omega))]; exact a3
      · rw [cell_other _ (.inr (by omega))]; exact a4
      · rw [cell_other _ (.inr (by omega))]; exact a6
    have r4 : role gb = 4 := h.sp.y gb rfl
    have hgb : gb ≠ bc := fun e => by have := h.sp.c hn; rw [← e] at this; omega
    have hv2 : Grw ((w.drewN n).setCell ⟨bc, i * 8 + 5, none⟩ (iv 2)) B v' G := (hv _ ((Ext.refl w).drewN n)).block (fun q hq => Below.heap_setCell _ _ _ _ (fun e => by rw [ho] at hq; injection hq with hq; exact hgb (hq.trans e)))
    refine ⟨(G3.gtail hv2 ho).set7 0, ?_⟩
    exact (((hx.drewN n).setCell (p := ⟨bc, i * 8 + 5, none⟩) (show a.heap.size ≤ bc by omega) _).setCell (p := ⟨g, 8, none⟩) (show a.heap.size ≤ g by omega) _).setCell (p := ⟨g, 7, none⟩) (show a.heap.size ≤ g by omega) _)
  have V0 := hide (show kg ≠ 1 → ∀ W, Ext w W → Grw W B (.slice (some ⟨gb, go + 1, none⟩) G.length (kg - 1)) G from fun _ W e => by
    have hgr := (h.ext e).gr
    rw [hg] at hgr
    exact hgr.tail)
  have V1 := hide (show kg = 1 → ∀ W, Ext w W → Grw W B (.slice (some ⟨gb, go, none⟩) G.length 0) G from fun ek W e => by
    have hgr := (h.ext e).gr
    rw [hg, ek] at hgr
    exact hgr.tail1)
  clear h eg hg lg hag s
  go_enter Tryz.func166, Tryz.ntmps166
  go_wp2_with fail
  go_quiet (fail)
  go_wp2_with fail
  · obtain ⟨k1, k2⟩ := unhide FIN nq _ (unhide V1 (by assumption)) rfl
    refine bodyPost_ret (results_none rfl _ _ _) rfl ?_
    exact ⟨rfl, k1, k2⟩
  · obtain ⟨k1, k2⟩ := unhide FIN nq _ (unhide V0 (by assumption)) rfl
    refine bodyPost_ret (results_none rfl _ _ _) rfl ?_
    exact ⟨rfl, k1, k2⟩
/-- behind j of the registers -/
def lkH (x : Hp) (j : Nat) : Hp := (x.regs.take j).foldl shadeW x
def grB (x : Hp) : Bool := !x.gray.isEmpty
theorem lkH_succ (x : Hp) (j : Nat) (h : j < x.regs.length) : lkH x (j + 1) = shadeW (lkH x j) x.regs[j] := by
  unfold lkH
  rw [List.take_succ_eq_append_getElem h, List.foldl_append]
  rfl
theorem lkH_all (x : Hp) : lkH x x.regs.length = lookH x := by unfold lkH lookH; rw [List.take_length]
theorem lkH_shd {x : Hp} (s : Snd x) (hp : x.phase = 2) (j : Nat) : Shd x (lkH x j) := by
  refine (Shd.fold (.inr hp) (x.regs.take j) x (fun y hy => ?_) (Shd.refl s)).1
  obtain ⟨i, hi, e⟩ := List.mem_iff_getElem.1 (List.mem_of_mem_take hy)
  rw [← e]
  exact s.good_reg i hi
theorem ssh_gr {z : Hp} {y : Wd} (b : Bool) (hb : grB z = b) : (sshB z y = true → grB (sshH z y) = true) ∧ (sshB z y = false → grB (sshH z y) = b) := by
  refine ⟨fun h => ?_, fun h => ?_⟩
  · unfold sshH; rw [if_pos h]; simp [grB]
  · unfold sshH; rw [h]; simpa using hb
set_option maxRecDepth 100000 in
set_option maxHeartbeats 600000 in
theorem l3mark_look (B g : Nat) (x : Hp) (w : World) (h : GOk B w g x) (s : Snd x) (hp : x.phase = 2) (a : World) (ha : a.heap.size ≤ B) (hx : Ext a w) (hg : x.gray = []) :
    Calls Tryz.prog 166 #[.pointer (some ⟨g, 0, none⟩)] w fun e w' => e = .returned (.tuple #[]) ∧ GOk B w' g (unit2 x) ∧ Ext a w' := by
  obtain ⟨ar, kr, ac, kc, vg, br, bc, pb, pa, pk, role, h⟩ := h
  obtain ⟨ag, kg, rfl⟩ := h.gr.form
  have lg : x.gray.length = 0 := by rw [hg]; rfl
  have c3 := h.bx.2.2.2.1
  have c8 := h.bx.2.2.2.2.2.2.2.2.1
  have H := hide h
  rw [lg] at c8
  have hgw : g < w.heap.size := cell_lt c3
  have lo := h.lo
  have n8 := s.ok.n8
  have S := hide s
  have r16 : x.regs.length ≤ 16 := by have := s.r1.regs; omega
  have r0 : 0 < x.regs.length := by have := s.r1.regs; omega
  rw [h.ha r0] at c3
  have G0 := hide (show grB (lkH x 0) = false by simp [lkH, grB, hg])
  have EU := hide (show unit2 x = if (lookH x).gray = [] then toPh (lookH x) 3 0 else lookH x by unfold unit2; rw [hg])
  have SH := hide (lkH_shd s hp)
  clear h lg hg hp
  go_enter Tryz.func166, Tryz.ntmps166
  go_wp2_with fail
  go_loopw [4, 85] (fun sm i wr => ∃ j, j ≤ x.regs.length ∧ i = .int .i64 (j : Nat) ∧ sm = .bool (grB (lkH x j)) ∧ Hid (∃ ag' kg' role', GAt B wr g (lkH x j) ar kr ac kc (.slice ag' (lkH x j).gray.length kg') br bc pb pa pk role') ∧ Ext a wr) (fun _ i _ => x.regs.length - (intOf i).toNat)
  case atStart => exact ⟨0, Nat.zero_le _, rfl, by rw [unhide G0], ⟨_, _, _, unhide H⟩, hx⟩
  case round =>
    clear c3 c8
    obtain ⟨j, hj, rfl, rfl, hr, hxr⟩ := hrel
    by_cases hlt : j < x.regs.length
    · obtain ⟨ag', kg', role', hG⟩ := unhide hr
      have er : (lkH x j).regs = x.regs := (unhide SH j).regs
      obtain ⟨w0, w1, w2⟩ := hG.rw.r j (by rw [er]; exact hlt)
      have eq : (lkH x j).regs[j]'(by rw [er]; exact hlt) = x.regs[j] := by simp [er]
      rw [eq] at w0 w1 w2
      have hbr : br < wr.heap.size := cell_lt w0
      have Hj := hide hG
      have N1 := hide (show (lkH x j).cells.length ≤ 8000 ∧ (lkH x j).gray.length ≤ 8000 ∧ Good1 (lkH x j) x.regs[j] ∧ (x.regs[j].k = 2 → 0 ≤ x.regs[j].a ∧ x.regs[j].a < (lkH x j).cells.length) by
        have hs := (unhide SH j).s
        have h8 := hs.ok.n8
        have hgr := hs.r1.gray
        refine ⟨h8, by omega, ?_, fun hk => ?_⟩
        · have := hs.good_reg j (by rw [er]; exact hlt)
          rw [eq] at this; exact this
        · have := (hs.r4.1 j (by rw [er]; exact hlt)).1
          rw [eq] at this
          unfold Formed at this; omega)
      have NX := hide (show lkH x (j + 1) = sshH (lkH x j) x.regs[j] by rw [lkH_succ x j hlt, ssh_eq (unhide N1).2.2.1 (fun hk => ((unhide N1).2.2.2 hk).1)])
      have hj0 : (0:Int) ≤ (j:Int) := by omega
      have hj1 : (j:Int) < (x.regs.length:Int) := by omega
      clear hG er eq hr
      obtain ⟨b0, hb0⟩ : ∃ b, grB (lkH x j) = b := ⟨_, rfl⟩
      have SG := hide (ssh_gr (y := x.regs[j]) b0 hb0)
      rw [hb0]
      clear hb0
      go_wp2_with fail
      refine (l3shade_any x.regs[j] _ ((unhide Hj).ext ((Ext.refl wr).alloc _)) (unhide N1).2.2.2 (unhide N1).1 (unhide N1).2.1 a ha (hxr.alloc _) ?_).mono ?_
      · have := (unhide Hj).nf.1; simp; omega
      rintro e w3 ⟨rfl, h3, x3⟩
      rw [← unhide NX] at h3
      obtain ⟨r, hr⟩ : ∃ r, sshB (lkH x j) x.regs[j] = r := ⟨_, rfl⟩
      rw [← unhide NX, hr] at SG
      rw [hr]
      clear hr NX N1 w0 w1 w2
      cases r
      · have E1 := hide ((unhide SG).2 rfl)
        go_wp2_with fail
        go_roundw
        case rel => exact ⟨j + 1, by omega, by go_num, by rw [unhide E1], h3, x3⟩
        case measure => simp [intOf]; omega
      · have E1 := hide ((unhide SG).1 rfl)
        go_wp2_with fail
        go_roundw
        case rel => exact ⟨j + 1, by omega, by go_num, by rw [unhide E1], h3, x3⟩
        case measure => simp [intOf]; omega
    · have je : j = x.regs.length := by omega
      subst je
      rw [lkH_all] at hr ⊢
      have HL := hide (show GOk B wr g (lookH x) by
        obtain ⟨ag', kg', role', hG⟩ := unhide hr
        exact ⟨_, _, _, _, _, _, _, _, _, _, _, hG⟩)
      clear hr
      cases q : grB (lookH x)
      · have EF := hide (show unit2 x = toPh (lookH x) 3 0 by
          have : (lookH x).gray = [] := by simpa [grB] using q
          rw [unhide EU, if_pos this])
        go_wp2_with fail
        refine (l3phase_any B g (lookH x) 3 0 _ (unhide HL) a ha hxr).mono ?_
        rintro e w2 ⟨rfl, h2, x2⟩
        have H2 := hide h2
        clear h2
        go_wp2_with fail
        go_end0
        exact ⟨rfl, by rw [unhide EF]; exact unhide H2, x2⟩
      · have EF := hide (show unit2 x = lookH x by
          have : ¬ (lookH x).gray = [] := fun e => by simp [grB, e] at q
          rw [unhide EU, if_neg this])
        go_wp2_with fail
        go_end0
        exact ⟨rfl, by rw [unhide EF]; exact unhide HL, hxr⟩
/-- the model's unit of marking -/
theorem l3mark_any (B g : Nat) (x : Hp) (w : World) (h : GOk B w g x) (s : Snd x) (hp : x.phase = 2) (a : World) (ha : a.heap.size ≤ B) (hx : Ext a w) :
    Calls Tryz.prog 166 #[.pointer (some ⟨g, 0, none⟩)] w fun e w' => e = .returned (.tuple #[]) ∧ GOk B w' g (unit2 x) ∧ Ext a w' := by
  cases hg : x.gray with
  | nil => exact l3mark_look B g x w h s hp a ha hx hg
  | cons i0 G =>
    have hb := s.r5.2.2 i0 (by rw [hg]; exact List.mem_cons_self ..)
    obtain ⟨i, rfl⟩ : ∃ i : Nat, i0 = (i : Int) := ⟨i0.toNat, by omega⟩
    have ei : ((i : Int)).toNat = i := by omega
    have hin : i < x.cells.length := by omega
    by_cases hs : x.sub < ((x.c i).prs.length : Int)
    · obtain ⟨k, hk⟩ : ∃ k : Nat, x.sub = (k : Int) := ⟨x.sub.toNat, by have := s.r1.sub; omega⟩
      have e : unit2 x = { shadeW (shadeW x ((x.c i).p k).key) ((x.c i).p k).val with sub := (k : Int) + 1 } := by
        have ek : x.sub.toNat = k := by omega
        unfold unit2
        rw [hg]
        simp only [ei, if_pos hs, ek]
        rw [hk]
      rw [e]
      exact l3mark_pair B g x w h s hp a ha hx i G hg hin k hk (by omega)
    · have e : unit2 x = { x with cells := x.cells.set i (blackC (x.c i)), gray := G, sub := 0 } := by
        unfold unit2
        rw [hg]
        simp only [ei, if_neg hs]
      rw [e]
      exact l3mark_black B g x w h s a ha hx i G hg hin hs
end Go.Proofs.YtkabcfhemljnbaaGreat

namespace Go.Proofs.YtkabcfhemljnbaaGreat
open Go.RowKit
attribute [local go_sem ↓] Go.wp_at_zero Go.wp_at_succ

set_option maxRecDepth 100000 in
set_option maxHeartbeats 600000 in
theorem look_any {B : Nat} {w : World} {b : Nat} {x : Hp} {ar : Option Addr} {kr : Nat} {v4 v8 : Value} {br bc bn : Nat} {pb : Nat → Nat} {pa : Nat → Option Addr} {pk : Nat → Nat} {kn hd : Nat} {vf : Value} {F : List Int} {vk : Value} {K : List Nat} {role : Nat → Nat} (h : SAt B w b x ar kr v4 v8 br bc bn pb pa pk kn hd vf F vk K role) (s : Snd x) (hp : x.phase = 2) (hg : x.gray = []) (a : World) (ha : a.heap.size ≤ B) (hx : Ext a w) :
    Calls Tryz.prog 235 #[.agg #[.pointer (some ⟨b, 0, none⟩)]] w fun e w' => e = .returned (nowV (unit2 x).phase b) ∧ Hid (SAt B w' b (unit2 x) ar kr v4 v8 br bc bn pb pa pk kn hd vf F vk K role) ∧ Ext a w' := by
  have EU := hide (show unit2 x = if (lookH x).gray = [] then toPh (lookH x) 3 0 else lookH x by unfold unit2; rw [hg])
  have H := hide h
  have S := hide s
  have SH := hide (lkH_shd s hp)
  have HP := hide hp
  have XA := (Ext.refl w).alloc (.cells #[.pointer (some ⟨b, 0, none⟩)] 194)
  have r0 : 0 < x.regs.length := by have := s.r1.regs; omega
  have r16 : x.regs.length ≤ 16 := by have := s.r1.regs; omega
  have n8 := s.ok.n8
  have c3 := h.sb.bx.2.2.2.1
  rw [h.sb.ha r0] at c3
  have hbw : b < w.heap.size := h.sb.nb.1
  have lo := h.sb.lo.1
  have HS := hide (h.ext XA)
  have XS := hide (hx.trans XA)
  have d3 := XA.keep c3
  have NWC := hide (show 0 < x.cells.length → w.heap.size ≠ bc from fun hl e => by have := (h.rw.nc hl).1.1; omega)
  have M0 := hide (show (w.alloc (.cells #[.pointer (some ⟨b, 0, none⟩)] 194)).cell? ⟨w.heap.size, 0, none⟩ = some (.pointer (some ⟨b, 0, none⟩)) by simp [go_sem])
  clear h hp hg s c3 XA
  go_enter Tryz.func235, Tryz.ntmps235
  go_wp2_with fail
  go_loopw [13] (fun i wr => ∃ j : Nat, j ≤ x.regs.length ∧ i = .int .i64 j ∧ Hid (SAt B wr b (lkH x j) ar kr v4 v8 br bc bn pb pa pk kn hd vf F vk K role) ∧ Hid (Ext a wr) ∧ Hid (wr.cell? ⟨w.heap.size, 0, none⟩ = some (.pointer (some ⟨b, 0, none⟩)))) (fun i _ => x.regs.length - (intOf i).toNat)
  case atStart => exact ⟨0, Nat.zero_le _, rfl, unhide HS, unhide XS, unhide M0⟩
  case round =>
    clear HS XS d3
    obtain ⟨j, hj, rfl, hG, hxr, hm0⟩ := hrel
    by_cases hlt : j < x.regs.length
    · have er : (lkH x j).regs = x.regs := (unhide SH j).regs
      obtain ⟨e0, e1, e2⟩ := (unhide hG).rw.r j (by rw [er]; exact hlt)
      have eq : (lkH x j).regs[j]'(by rw [er]; exact hlt) = x.regs[j] := by simp [er]
      rw [eq] at e0 e1 e2
      have hbr : br < wr.heap.size := cell_lt e0
      have N1 := hide (show Snd (lkH x j) ∧ Good1 (lkH x j) x.regs[j] ∧ Formed x.regs[j] (lkH x j).cells.length by
        have hs := (unhide SH j).s
        refine ⟨hs, ?_, ?_⟩
        · have := hs.good_reg j (by rw [er]; exact hlt)
          rw [eq] at this; exact this
        · have := (hs.r4.1 j (by rw [er]; exact hlt)).1
          rw [eq] at this; exact this)
      have NX := hide (lkH_succ x j hlt)
      have hj0 : (0:Int) ≤ (j:Int) := by omega
      have hj1 : (j:Int) < (x.regs.length:Int) := by omega
      have XA := (Ext.refl wr).alloc (.cells #[iv x.regs[j].k, iv x.regs[j].n, iv x.regs[j].a] 90)
      have H2 := hide ((unhide hG).ext XA)
      have X2 := hide ((unhide hxr).trans XA)
      have s0 := XA.keep (unhide hm0)
      have BCW := hide (show 0 < x.cells.length → w.heap.size ≠ bc from unhide NWC)
      clear er eq hG hxr hm0 XA
      go_wp2_with fail
      go_region_with (first | (have _ := LA; go_at_call 76; refine (wshade_any (unhide H3) x.regs[j] (unhide N1).2.1 (fun q hq => (gray_fit (unhide N1).1.ok).2 q hq) a ha (unhide X3)).mono ?_; rintro e w4 ⟨rfl, h4, x4, fr⟩; rw [← unhide NX] at h4; have H4 := hide (unhide h4); have X4 := hide x4; have FR := hide (show ∀ q, q < w3.heap.size → q ≠ b → (0 < x.cells.length → q ≠ bc) → w4.heap[q]? = w3.heap[q]? from fun q h1 h2 h3 => unhide fr q h1 h2 (fun h4 => h3 (by rw [(unhide SH j).len] at h4; exact h4))); clear h4 x4 fr) | (go_at_call 106; refine (wfollow_any ((unhide H2).ext (Ext.refl _).drew) (unhide N1).1.r2 x.regs[j] (unhide N1).2.1 (unhide N1).2.2).mono ?_; rintro e w3 ⟨rfl, x3⟩; have LA := True.intro; have x23 := Ext.trans (Ext.refl _).drew x3; have H3 := hide ((unhide H2).ext x23); have X3 := hide ((unhide X2).trans x23); have t0 := x23.keep s0; have ht1 : w.heap.size < w3.heap.size := cell_lt t0; clear x3 x23))
      all_goals
        have CL := hide (show w4.cell? ⟨w.heap.size, 0, none⟩ = some (.pointer (some ⟨b, 0, none⟩)) from (World.cell?_of_block (a := ⟨w.heap.size, 0, none⟩) (unhide FR w.heap.size ht1 (by omega) (unhide BCW))).trans t0)
        go_wp2_with fail
        go_roundw
        case rel => exact ⟨j + 1, by omega, by go_num, unhide H4, unhide X4, unhide CL⟩
        case measure => simp [intOf]; omega
    · have je : j = x.regs.length := by omega
      subst je
      rw [lkH_all] at hG
      have g0 := unhide hm0
      have SL := hide (show Snd (lookH x) ∧ (lookH x).phase = 2 by
        have := unhide SH x.regs.length
        rw [lkH_all] at this
        exact ⟨this.s, this.phase.trans (unhide HP)⟩)
      have hs0 : w.heap.size < wr.heap.size := cell_lt g0
      cases hgr : (lookH x).gray with
      | nil =>
        have EF := hide (show unit2 x = toPh (lookH x) (2 + 1) 0 by rw [unhide EU, if_pos hgr]; rfl)
        have RG := hide (show RAt wr b bn hd [] by have := (unhide hG).sb.rg; rw [hgr] at this; exact this)
        clear hgr
        go_wp2_with fail
        refine (rfirst_none b bn hd _ (unhide RG)).mono ?_
        rintro e w3 ⟨rfl, x3⟩
        have k0 := x3.keep g0
        have H3 := hide ((unhide hG).ext x3)
        have X3 := hide ((unhide hxr).trans x3)
        clear x3 g0 hs0
        go_wp2_with fail
        refine (turn_low (unhide H3) 2 (unhide SL).2 rfl rfl (by omega) a ha (unhide X3)).mono ?_
        rintro e w4 ⟨rfl, h4, x4⟩
        go_wp2_with fail
        go_ret
        exact ⟨by rw [unhide EF]; rfl, by rw [unhide EF]; exact unhide h4, x4⟩
      | cons g G =>
        have EF := hide (show unit2 x = lookH x by rw [unhide EU, if_neg (by rw [hgr]; simp)])
        have EP := hide (show (unit2 x).phase = 2 by rw [unhide EF]; exact (unhide SL).2)
        have RG := hide (show RAt wr b bn hd (g :: G) by have := (unhide hG).sb.rg; rw [hgr] at this; exact this)
        clear hgr
        go_wp2_with fail
        refine (rfirst_some b bn hd g G _ (unhide RG)).mono ?_
        rintro e w3 ⟨rfl, x3⟩
        have k0 := x3.keep g0
        have H3 := hide ((unhide hG).ext x3)
        have X3 := hide ((unhide hxr).trans x3)
        have hs3 : w.heap.size < w3.heap.size := cell_lt k0
        clear x3 g0 hs0
        go_wp2_with fail
        go_ret
        exact ⟨by rw [unhide EP]; rfl, by rw [unhide EF]; exact unhide H3, unhide X3⟩
end Go.Proofs.YtkabcfhemljnbaaGreat

namespace Go.Proofs.YtkabcfhemljnbaaGreat
open Go.RowKit
attribute [local go_sem ↓] Go.wp_at_zero Go.wp_at_succ

set_option maxRecDepth 100000 in
set_option maxHeartbeats 600000 in
theorem mark_look {B : Nat} {w : World} {b : Nat} {x : Hp} {ar : Option Addr} {kr : Nat} {v4 v8 : Value} {br bc bn : Nat} {pb : Nat → Nat} {pa : Nat → Option Addr} {pk : Nat → Nat} {kn hd : Nat} {vf : Value} {F : List Int} {vk : Value} {K : List Nat} {role : Nat → Nat} (h : SAt B w b x ar kr v4 v8 br bc bn pb pa pk kn hd vf F vk K role) (s : Snd x) (hp : x.phase = 2) (hg : x.gray = []) (a : World) (ha : a.heap.size ≤ B) (hx : Ext a w) :
    Calls Tryz.prog 233 #[.agg #[.pointer (some ⟨b, 0, none⟩)]] w fun e w' => e = .returned (nowV (unit2 x).phase b) ∧ Hid (SAt B w' b (unit2 x) ar kr v4 v8 br bc bn pb pa pk kn hd vf F vk K role) ∧ Ext a w' := by
  have H := hide h
  have XA := (Ext.refl w).alloc (.cells #[.pointer (some ⟨b, 0, none⟩)] 194)
  have RG := hide (show RAt w b bn hd [] by have := h.sb.rg; rw [hg] at this; exact this)
  have QA := hide (rfirst_none b bn hd _ ((unhide RG).block (XA.block b h.sb.nb.1)))
  have QL := hide (fun W (e : Ext w W) => look_any (h.ext e) s hp hg a ha (hx.trans e))
  have XA2 := hide XA
  have hbw : b < w.heap.size := h.sb.nb.1
  clear h hp hg XA s
  go_enter Tryz.func233, Tryz.ntmps233
  go_wp2_with fail
  refine (unhide QA).mono ?_
  rintro e w1 ⟨rfl, x1⟩
  have r0 : w1.cell? ⟨w.heap.size, 0, none⟩ = some (.pointer (some ⟨b, 0, none⟩)) := x1.keep (by simp [go_sem])
  have X1 := hide ((unhide XA2).trans x1)
  go_wp2_with fail
  refine (unhide QL _ (unhide X1)).mono ?_
  rintro e w2 ⟨rfl, h2, x2⟩
  go_wp2_with fail
  go_ret
  exact ⟨rfl, unhide h2, x2⟩
end Go.Proofs.YtkabcfhemljnbaaGreat

namespace Go.Proofs.YtkabcfhemljnbaaGreat
open Go.RowKit
attribute [local go_sem ↓] Go.wp_at_zero Go.wp_at_succ

/-- what giving a place back leaves behind -/
def Gave (B : Nat) (w w' : World) (b : Nat) (y : Hp) (ar : Option Addr) (kr : Nat) (v4 v8 : Value) (br bc bn : Nat) (pb : Nat → Nat) (kn hd : Nat) (vf : Value) (F : List Int) (vk : Value) (K : List Nat) (i : Nat) : Prop :=
  (∃ pa' pk' vf' F' role', SAt B w' b y ar kr v4 v8 br bc bn pb pa' pk' kn hd vf' F' vk K role' ∧ Ho F' ∧ F'.Perm ((i : Int) :: F)) ∧ ∀ q, q < w.heap.size → q ≠ b → q ≠ bc → vf.ownBlock ≠ some q → w'.heap[q]? = w.heap[q]?
set_option maxRecDepth 100000 in
set_option maxHeartbeats 600000 in
theorem giveBack_any {B : Nat} {w : World} {b : Nat} {x : Hp} {ar : Option Addr} {kr : Nat} {v4 v8 : Value} {br bc bn : Nat} {pb : Nat → Nat} {pa : Nat → Option Addr} {pk : Nat → Nat} {kn hd : Nat} {vf : Value} {F : List Int} {vk : Value} {K : List Nat} {role : Nat → Nat} (h : SAt B w b x ar kr v4 v8 br bc bn pb pa pk kn hd vf F vk K role) (i : Nat) (hi : i < x.cells.length) (ho : Ho F) (hl : F.length ≤ 100000) (a : World) (ha : a.heap.size ≤ B) (hx : Ext a w) :
    Calls Tryz.prog 237 #[.pointer (some ⟨b, 0, none⟩), ndp bn i] w fun e w' => e = .returned (.tuple #[]) ∧ Gave B w w' b { x with cells := x.cells.set i Cl0 } ar kr v4 v8 br bc bn pb kn hd vf F vk K i ∧ Ext a w' := by
  have hn : 0 < x.cells.length := by omega
  have H := hide h
  obtain ⟨m0, m1⟩ := h.sb.nd i hi
  obtain ⟨e0, e1, e2, e3, e4, e5, e6⟩ := h.rw.s i hi
  have e7 := h.rw.p7 i hi
  have fc := (h.rw.nc hn).1.2
  have NBC := hide (show ¬ bn = bc from fun e => by have h1 := h.sp.n; have h2 := h.sp.c hn; rw [e] at h1; omega)
  have nbc : ¬ bn = bc := unhide NBC
  have ncb : ¬ bc = bn := fun e => unhide NBC e.symm
  have hbc : bc < w.heap.size := cell_lt e0
  have hbn : bn < w.heap.size := cell_lt m0
  have G2 := hide (h.wiped i hi 0 0)
  have X2 := hide ((wipe_only w bc (i * 8) 0 0).ext hx (fun q hq e => by have := (h.rw.nc hn).2; omega))
  have HO := hide (And.intro ho hl)
  have M0 := hide ((World.cell?_of_block (a := ⟨bn, i * 2, none⟩) ((wipe_only w bc (i * 8) 0 0).block bn hbn nbc)).trans m0)
  obtain ⟨W2, hW2⟩ : ∃ W, W = wipeW w bc (i * 8) 0 0 := ⟨_, rfl⟩
  rw [← hW2] at G2 X2 M0
  have O2 := hide (show Only (fun q => q = bc) w W2 by rw [hW2]; exact wipe_only w bc (i * 8) 0 0)
  unfold wipeW at hW2
  clear h ho hl
  go_enter Tryz.func237, Tryz.ntmps237
  go_wp2_with fail
  rw [← hW2]
  clear hW2 m0 m1 e0 e1 e2 e3 e4 e5 e6 e7 fc
  have k0 := unhide M0
  have hB : B ≤ W2.heap.size := by have := (unhide G2).sb.lo.2.1; have := (unhide G2).sb.lo.2.2; omega
  go_region_with (go_at_call 143; refine (put_ls _ B b 14 vf F i ((unhide G2).sb.fr.ext (Ext.refl W2).drew) (by simpa using hB) (unhide HO).1 (unhide HO).2).mono ?_; rintro e w3 ⟨rfl, v3, L3, l3, o3, p3, q3⟩; have Q3 := hide q3; have R3 := hide (And.intro l3 (And.intro o3 p3)); clear l3 o3 p3 q3)
  all_goals
    have NF := hide (show Nf1 b w3 from ⟨Nat.lt_of_lt_of_le (unhide G2).sb.nb.1 (by have := (unhide Q3).size; simpa using this), fun j => ((unhide Q3).hfr j).trans (((unhide G2).sb.nb.ext (Ext.refl W2).drew).2 j)⟩)
    have G3 := hide (((unhide G2).ext (Ext.refl W2).drew).freed (unhide R3).1 (unhide Q3) (unhide NF))
    have FN := hide (show Gave B w w3 b { x with cells := x.cells.set i Cl0 } ar kr v4 v8 br bc bn pb kn hd vf F vk K i by
      obtain ⟨role', g⟩ := unhide G3
      refine ⟨⟨_, _, v3, L3, role', g, (unhide R3).2.1, (unhide R3).2.2⟩, fun q hq h1 h2 h3 => ?_⟩
      have hq2 : q < W2.heap.size := Nat.lt_of_lt_of_le hq (unhide O2).size
      exact ((unhide Q3).block q (by simpa using hq2) h1 h3).trans ((unhide O2).block q hq h2))
    have XN := hide ((unhide Q3).ext (unhide X2).drew (by have := (unhide G2).sb.lo.1; omega) (fun k hk => by have := ((unhide G2).sb.fr.own.lt k hk).1; omega))
    go_wp2_with fail
    go_end0
    exact ⟨rfl, unhide FN, unhide XN⟩
end Go.Proofs.YtkabcfhemljnbaaGreat

namespace Go.Proofs.YtkabcfhemljnbaaGreat
open Go.RowKit
attribute [local go_sem ↓] Go.wp_at_zero Go.wp_at_succ

set_option maxRecDepth 100000 in
set_option maxHeartbeats 600000 in
theorem sweep_end {B : Nat} {w : World} {b : Nat} {x : Hp} {ar : Option Addr} {kr : Nat} {v4 v8 : Value} {br bc bn : Nat} {pb : Nat → Nat} {pa : Nat → Option Addr} {pk : Nat → Nat} {kn hd : Nat} {vf : Value} {F : List Int} {vk : Value} {K : List Nat} {role : Nat → Nat} (h : SAt B w b x ar kr v4 v8 br bc bn pb pa pk kn hd vf F vk K role) (hp : x.phase = 3) (he : x.hand = x.cells.length) (a : World) (ha : a.heap.size ≤ B) (hx : Ext a w) :
    Calls Tryz.prog 236 #[.agg #[.pointer (some ⟨b, 0, none⟩)]] w fun e w' => e = .returned (nowV (unit3 x).phase b) ∧ Hid (SAt B w' b (unit3 x) ar kr v4 v8 br bc bn pb pa pk kn hd vf F vk K role) ∧ Ext a w' := by
  have E := hide (show unit3 x = toPh x (3 + 1) 0 by unfold unit3; rw [if_pos he]; rfl)
  have H := hide h
  have HP := hide hp
  have XA := (Ext.refl w).alloc (.cells #[.pointer (some ⟨b, 0, none⟩)] 195)
  have QA := hide (atHand_none x.hand b x.cells.length kn (some ⟨bn, 0, none⟩) _ (XA.keep h.sb.bx.2.2.2.2.2.2.1) (XA.keep h.sb.n13) (by simpa using he))
  have XA2 := hide XA
  have hbw : b < w.heap.size := h.sb.nb.1
  clear h hp he XA
  go_enter Tryz.func236, Tryz.ntmps236
  go_wp2_with fail
  refine (unhide QA).mono ?_
  rintro e w1 ⟨rfl, x1⟩
  have r0 : w1.cell? ⟨w.heap.size, 0, none⟩ = some (.pointer (some ⟨b, 0, none⟩)) := x1.keep (by simp [go_sem])
  have X1 := hide ((unhide XA2).trans x1)
  go_wp2_with fail
  refine (turn_low ((unhide H).ext (unhide X1)) 3 (unhide HP) rfl rfl (by omega) a ha (hx.trans (unhide X1))).mono ?_
  rintro e w2 ⟨rfl, h2, x2⟩
  go_wp2_with fail
  go_ret
  exact ⟨by rw [unhide E]; rfl, by rw [unhide E]; exact unhide h2, x2⟩
theorem unit3_free {x : Hp} (s : Snd x) (i : Nat) (hi : x.hand = (i : Int)) (hin : i < x.cells.length) (hs : (x.c i).st ≠ 1) : unit3 x = { x with hand := (i : Int) + 1 } := by
  have ei : x.hand.toNat = i := by omega
  have h0 : whiteC (x.c i) = x.c i := by
    have hc : (x.c i).color = 0 := by
      rcases s.r2.1 i hin with ⟨_, b, _⟩ | ⟨_, b⟩ | ⟨a, _⟩
      · exact b.2.2.2.2.1
      · exact b.1.2.2.2.2.1
      · exact absurd a hs
    unfold whiteC
    rw [← hc]
  have h1 : x.cells.set i (x.c i) = x.cells := by
    rw [← Hp.c_eq x i hin]; simp
  unfold unit3
  rw [if_neg (by omega), ei, if_neg (by simp [whB]; intro e; exact absurd e hs), h0, h1, hi]
set_option maxRecDepth 100000 in
set_option maxHeartbeats 600000 in
theorem sweep_free {B : Nat} {w : World} {b : Nat} {x : Hp} {ar : Option Addr} {kr : Nat} {v4 v8 : Value} {br bc bn : Nat} {pb : Nat → Nat} {pa : Nat → Option Addr} {pk : Nat → Nat} {kn hd : Nat} {vf : Value} {F : List Int} {vk : Value} {K : List Nat} {role : Nat → Nat} (h : SAt B w b x ar kr v4 v8 br bc bn pb pa pk kn hd vf F vk K role) (s : Snd x) (hp : x.phase = 3) (i : Nat) (hi : x.hand = (i : Int)) (hin : i < x.cells.length) (hs : ((x.c i).st == 1) = false) (a : World) (ha : a.heap.size ≤ B) (hx : Ext a w) :
    Calls Tryz.prog 236 #[.agg #[.pointer (some ⟨b, 0, none⟩)]] w fun e w' => e = .returned (nowV (unit3 x).phase b) ∧ Hid (SAt B w' b (unit3 x) ar kr v4 v8 br bc bn pb pa pk kn hd vf F vk K role) ∧ Ext a w' := by
  have E := hide (unit3_free s i hi hin (by simpa using hs))
  have EP := hide (show (unit3 x).phase = 3 by rw [unhide E]; exact hp)
  have H := hide h
  have n8 := s.ok.n8
  have XA := (Ext.refl w).alloc (.cells #[.pointer (some ⟨b, 0, none⟩)] 195)
  have c6 := h.sb.bx.2.2.2.2.2.2.1
  rw [hi] at c6
  have QA := hide (atHand_some b x.cells.length kn bn i _ (XA.keep c6) (XA.keep h.sb.n13) hin)
  have XA2 := hide XA
  have hbw : b < w.heap.size := h.sb.nb.1
  have lo := h.sb.lo.1
  have HI := hide hi
  have WH := hide (show whB (x.c i) = false by simp [whB, hs])
  clear h hp XA s hi c6
  go_enter Tryz.func236, Tryz.ntmps236
  go_wp2_with fail
  refine (unhide QA).mono ?_
  rintro e w1 ⟨rfl, x1⟩
  have r0 : w1.cell? ⟨w.heap.size, 0, none⟩ = some (.pointer (some ⟨b, 0, none⟩)) := x1.keep (by simp [go_sem])
  have X1 := hide ((unhide XA2).trans x1)
  have H1 := hide ((unhide H).ext (unhide X1))
  have m1 := ((unhide H1).sb.nd i hin).2
  have p0 := ((unhide H1).rw.s i hin).1
  have QS := hide (swhite_any (x.c i) bn i bc w1 m1 ((unhide H1).rw.s i hin))
  rw [unhide WH] at QS
  clear x1 XA2 QA
  go_wp2_with fail
  refine (unhide QS).mono ?_
  rintro e w2 ⟨rfl, hw2⟩
  subst hw2
  have c6 : w2.cell? ⟨b, 6, none⟩ = some (iv i) := by have := (unhide H1).sb.bx.2.2.2.2.2.2.1; rw [unhide HI] at this; exact this
  have f6 := (unhide H1).sb.nb.2 6
  have hb1 : b < w2.heap.size := cell_lt c6
  have hb2 : w.heap.size < w2.heap.size := cell_lt r0
  have FN := hide ((unhide H1).hand ((i : Int) + 1))
  have XN := hide ((hx.trans (unhide X1)).setCell (p := ⟨b, 6, none⟩) (show a.heap.size ≤ b by omega) (iv ((i : Int) + 1)))
  go_wp2_with fail
  go_ret
  exact ⟨by rw [unhide EP]; rfl, by rw [unhide E]; exact unhide FN, unhide XN⟩
end Go.Proofs.YtkabcfhemljnbaaGreat
