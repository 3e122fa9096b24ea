import Derived.Test.YtkabcfhemljnbaaGreatSg
import Derived.Deep.RegionLaw
import Derived.Deep.AppendLies
namespace Go.Proofs.YtkabcfhemljnbaaGreat
open Go.RowKit
attribute [local go_sem ↓] Go.wp_at_zero Go.wp_at_succ

set_option maxRecDepth 100000 in
set_option maxHeartbeats 4000000 in
theorem l2shape_any (x : Hp) (b : Nat) (w : World) {ar : Option Addr} {kr : Nat} {ac : Option Addr} {kc : Nat} {ag : Option Addr} {kg : Nat} (h : HAt w b x ar kr ac kc ag kg) (ok : OkIs x 0) :
    Calls Tryz.prog 66 #[.pointer (some ⟨b, 0, none⟩)] w fun e w' => ∃ vr vn, Hid (e = .returned (.agg #[vr, vn])) ∧ Hid (∃ N, IsW x N ∧ ∀ W, Only (fun q => q < w.heap.size) w' W → SlW W vr (gR x N) ∧ SlN W vn (gL x N)) ∧ Ext w w' := by
  have r2 := ok.all.2.1
  have r4 := ok.all.2.2.2
  have hn8 := ok.n8
  have h200 := ok.p200
  have hR100 : x.regs.length ≤ 100 := by have : x.regs.length = 16 := ok.all.1.regs; omega
  have xg := (Ext.refl w).alloc (.cells #[.slice none 0 0, .slice none 0 0] 43)
  have HH := hide h
  have Q2 := hide r2
  have Q4 := hide r4
  obtain ⟨iw, hiw, hw0, hw1, hw2⟩ := info_parts infoWords
  clear h r2 r4 ok
  go_enter Tryz.func66, Tryz.ntmps66
  go_wp2_with fail
  refine (l2reach_ord x b _ ((unhide HH).ext xg) (unhide Q2) (unhide Q4) hn8).mono ?_
  rintro e w1 ⟨v, O, N, rfl, hs, hord, x1⟩
  have X1 := xg.trans x1
  have WN := hide (unhide hord).2.1
  have OI := hide (show OrdIs x O by rw [(unhide hord).1]; exact ord_is (unhide Q2) (unhide Q4) (unhide hord).2.1)
  have EO := hide (unhide hord).1
  obtain ⟨ad, cap, hv, hgl⟩ := hs.form
  rw [zs_len] at hv hgl
  subst hv
  have RW := hide (Rw1.mk hs.own)
  clear hs hord
  go_wp2_with fail
  refine (l2wants_ord x b _ ((unhide HH).ext X1) hn8).mono ?_
  rintro e w2 ⟨vw, M, rfl, hrw, ⟨hpm, hsr⟩, x2⟩
  obtain ⟨N2, hM, hN2⟩ := wants_nat (unhide Q2) hpm hsr
  obtain rfl : N = N2 := (unhide WN).uniq (unhide Q2) hN2
  subst hM
  obtain ⟨adw, capw, hvw, hgw⟩ := hrw.form
  rw [zs_len] at hvw hgw
  subst hvw
  have RM := hide hrw
  have X2 := X1.trans x2
  have c4 := ((unhide HH).ext X2).c4
  have hOn : O.length ≤ 8000 := by have := len_le (unhide OI).nd (fun i hi => (((unhide OI).r i hi).good (unhide Q2) (unhide Q4)).1); omega
  have hNn : N.length ≤ 8000 := by have := len_le (unhide WN).nd (fun i hi => (((unhide WN).m i).1 hi).1); omega
  have hmk := mkIntU x.cells.length (by omega) w2
  have S0 := hide (WhP.start w2 x.cells.length O 3)
  clear hrw hpm hsr hN2
  go_wp2_with fail
  go_loopw [35] (fun i wr => ∃ k : Nat, k ≤ O.length ∧ i = .int .i64 k ∧ Hid (WhP wr w2.heap.size x.cells.length k O ∧ Ext w2 wr)) (fun i _ => O.length - (intOf i).toNat)
  case atStart => exact ⟨0, Nat.zero_le _, rfl, unhide S0, (Ext.refl w2).alloc _⟩
  case round =>
    clear S0 c4 hmk
    obtain ⟨k, hk, rfl, hinv⟩ := hrel
    by_cases hlt : k < O.length
    · obtain ⟨g, rfl⟩ := hgl (by omega)
      obtain ⟨a1, a2, a3⟩ := ((unhide RW).ext (x2.trans (unhide hinv).2)).cell k (by rw [zs_len]; exact hlt)
      rw [it_zs hlt] at a1
      have hjn := (((unhide OI).r O[k] (List.getElem_mem hlt)).good (unhide Q2) (unhide Q4)).1
      obtain ⟨vv, cv, _, fv⟩ := (unhide hinv).1.1 O[k] hjn
      have R := hide (And.intro (WhP.step (unhide hinv).1 (unhide OI).nd hlt) ((unhide hinv).2.setCell (p := ⟨w2.heap.size, O[k], none⟩) (Nat.le_refl _) (iv (k : Nat))))
      have k0 : (0:Int) ≤ (k:Int) := by omega
      have k1 : (k:Int) < (O.length:Int) := by omega
      obtain ⟨j, ej⟩ : ∃ j, j = O[k] := ⟨_, rfl⟩
      rw [← ej] at a1 cv fv hjn R
      have j0 : (0:Int) ≤ (j:Int) := by omega
      have j1 : (j:Int) < (x.cells.length:Int) := by omega
      clear a2 a3 ej hinv
      go_wp2_with fail
      go_roundw
      case rel => exact ⟨k + 1, by omega, by go_num, unhide R⟩
      case measure => simp [intOf]; omega
    · have hk2 : k = O.length := by omega
      subst hk2
      have WH := hide (unhide hinv).1.at
      have Y3 := (unhide hinv).2
      obtain ⟨w3, hw3⟩ : ∃ W, W = wr := ⟨_, rfl⟩
      subst hw3
      have c3 := (((unhide HH).ext X2).ext (Y3.alloc (.cells #[.slice none 0 0, .slice none 0 0] 43))).c3
      have G0 := hide (show (w3.alloc (.cells #[.slice none 0 0, .slice none 0 0] 43)).cell? ⟨w3.heap.size, 0, none⟩ = some (.slice none 0 0) ∧ (w3.alloc (.cells #[.slice none 0 0, .slice none 0 0] 43)).cell? ⟨w3.heap.size, 1, none⟩ = some (.slice none 0 0) ∧ (∀ o, (w3.alloc (.cells #[.slice none 0 0, .slice none 0 0] 43)).frozen? ⟨w3.heap.size, o, none⟩ = false) from ⟨by simp [go_sem], by simp [go_sem], fun o => by simp [go_sem]⟩)
      clear hinv hlt hk
      go_wp2_with fail
      go_loopw [50] (fun i wr => ∃ (k : Nat) (v : Value), k ≤ x.regs.length ∧ i = .int .i64 k ∧ Hid (wr.ownsRow (w3.heap.size + 1) 90 3 v k (((x.regs.map (nw x O)).take k).flatMap fW)) ∧ Hid (wr.cell? ⟨w3.heap.size, 0, none⟩ = some v ∧ wr.cell? ⟨w3.heap.size, 1, none⟩ = some (.slice none 0 0) ∧ (∀ o, wr.frozen? ⟨w3.heap.size, o, none⟩ = false)) ∧ Hid (Ext w3 wr)) (fun i _ => x.regs.length - (intOf i).toNat)
      case atStart => exact ⟨0, _, Nat.zero_le _, rfl, World.ownsRow_nil _ _ _ _, unhide G0, (Ext.refl w3).alloc _⟩
      case round =>
        clear G0 c3
        obtain ⟨k, v, hk, rfl, hown, hgc, hex⟩ := hrel
        have X3 := (X2.trans Y3).trans (unhide hex)
        by_cases hlt : k < x.regs.length
        · obtain ⟨b', o, rfl, p0, p1, p2⟩ := ((unhide HH).ext X3).R k hlt
          have hb' : b' < wr.heap.size := cell_lt p0
          have g0 := (unhide hgc).1
          have g2 := (unhide hgc).2.2 0
          have hbg : w3.heap.size < wr.heap.size := cell_lt g0
          have hk0 : (0:Int) ≤ (k:Int) := by omega
          have hk1 : (k:Int) < (x.regs.length:Int) := by omega
          have xa := (Ext.refl wr).alloc (.cells #[iv x.regs[k].k, iv x.regs[k].n, iv x.regs[k].a] 90)
          have MY := hide (may_reg (unhide Q2) (unhide Q4) k hlt)
          have XA := X3.trans xa
          have YA := (unhide hex).trans xa
          have ETK := hide (show (x.regs.map (nw x O)).take (k + 1) = (x.regs.map (nw x O)).take k ++ [nw x O x.regs[k]] by rw [List.take_succ_eq_append_getElem (by simpa using hlt), List.getElem_map])
          have nq : ¬ wr.heap.size = w3.heap.size := by omega
          have nq2 : ¬ w3.heap.size = wr.heap.size := by omega
          have hvb : ∀ q, v.ownBlock = some q → w3.heap.size + 1 ≤ q ∧ q < wr.heap.size := fun q e => (unhide hown).lt q e
          go_wp2_with fail
          go_region_law (first
            | (refine step_append_lies _ rfl _ _ 30 rfl (w3.heap.size + 1) 90 iw (.agg #[iv 0, iv 0, iv 0]) 3 24 Tryz.underlying30 hiw hw0 hw1 hw2 rfl (by decide) v k (((x.regs.map (nw x O)).take k).flatMap fW) (by first | rfl | simp [Act.eval, Act.put]) ((unhide O4).alloc _) _ 1 1 (fW (nw x O x.regs[k])) (by first | rfl | simp [Act.eval, Act.put]; rfl) rfl (by
                intro j u hj
                match j, hj with
                | 0, hj => simp [fW] at hj; subst hj; simp [Addr.add, go_sem]
                | 1, hj => simp [fW] at hj; subst hj; simp [Addr.add, go_sem]
                | 2, hj => simp [fW] at hj; subst hj; simp [Addr.add, go_sem]) (by intro u hu; simp [fW] at hu; rcases hu with e | e | e <;> subst e <;> rfl) (by decide) (by unfold maxLen; omega) (by omega) (by simp; omega) _ rfl ?_; intro gb cap5 w5 hown5 hgrow hat hglt; have nb : ∀ q, q < w4.heap.size → v.ownBlock ≠ some q → w5.heap[q]? = w4.heap[q]? := fun q hq hv => (hgrow.block q (by simp; omega) (fun e => hv e.symm)).trans (Below.heap_alloc w4 _ q hq); have t0 := (World.cell?_of_block (a := ⟨wr.heap.size, 0, none⟩) (nb wr.heap.size hs4 (fun e => by have := (hvb _ e).2; omega))).trans s0; have t1 := (World.cell?_of_block (a := ⟨wr.heap.size, 1, none⟩) (nb wr.heap.size hs4 (fun e => by have := (hvb _ e).2; omega))).trans s1; have t2 := (World.cell?_of_block (a := ⟨wr.heap.size, 2, none⟩) (nb wr.heap.size hs4 (fun e => by have := (hvb _ e).2; omega))).trans s2; have e0 := (World.cell?_of_block (a := ⟨w3.heap.size, 0, none⟩) (nb w3.heap.size hs5 (fun e => by have := (hvb _ e).1; omega))).trans d0; have ef := (World.frozen?_of_block (a := ⟨w3.heap.size, 0, none⟩) (nb w3.heap.size hs5 (fun e => by have := (hvb _ e).1; omega))).trans (((bcell z4).2 w3.heap.size 0 hbg).trans g2))
            | (go_simp; go_wp2_with (go_at_call 114; refine (l2named_any x x.regs[k] b w2.heap.size O _ ((unhide HH).ext XA.drew) ((unhide WH).ext YA.drew) (unhide MY) ((unhide OI).g k hlt)).mono ?_; rintro e w4 ⟨rfl, hq4⟩; have y4 := Ext.trans ((Ext.refl _).drew) hq4; have z4 := xa.trans y4; have s0 : w4.cell? ⟨wr.heap.size, 0, none⟩ = some (iv x.regs[k].k) := y4.keep (by simp [go_sem]); have s1 : w4.cell? ⟨wr.heap.size, 1, none⟩ = some (iv x.regs[k].n) := y4.keep (by simp [go_sem]); have s2 : w4.cell? ⟨wr.heap.size, 2, none⟩ = some (iv x.regs[k].a) := y4.keep (by simp [go_sem]); have d0 := z4.keep g0; have O4 := hide (ownsRow_of_block (unhide hown) (fun q hq => z4.block q (hvb q hq).2)); have hs4 : wr.heap.size < w4.heap.size := cell_lt s0; have hs5 : w3.heap.size < w4.heap.size := cell_lt d0; clear hq4)))
          all_goals
            have zA := z4.alloc (.cells #[iv (nw x O x.regs[k]).k, iv (nw x O x.regs[k]).n, iv (nw x O x.regs[k]).a] 90)
            have BP := hide (box_push (o := 0) (u := .slice (some ⟨gb, 0, none⟩) (k + 1) cap5) (bg := w3.heap.size) (Nat.lt_succ_self _) ((unhide hex).trans zA) ((unhide O4).alloc _) (Nat.le_refl _) (Nat.lt_of_lt_of_le hbg zA.size) hgrow hown5)
            have ZA := hide zA
            clear hown5 hgrow t0 t1 t2 e0 ef nb s0 s1 s2 d0 zA z4 y4 hat hglt
            go_wp2_with fail
            go_roundw
            case rel =>
              refine ⟨k + 1, _, hlt, by go_num, ?_, ⟨(unhide BP).2.2.2.2.1 v ((unhide ZA).keep g0), ((unhide BP).2.2.1 1 (by omega)).trans ((unhide ZA).keep (unhide hgc).2.1), fun o' => ((unhide BP).2.2.2.1 o').trans (((bcell (unhide ZA)).2 _ o' hbg).trans ((unhide hgc).2.2 o'))⟩, (unhide BP).2.1⟩
              rw [unhide ETK, List.flatMap_append]
              refine hide ?_
              simpa using (unhide BP).1
            case measure => simp [intOf]; omega
        · have hk2 : k = x.regs.length := by omega
          subst hk2
          have OW := hide (show wr.ownsRow (w3.heap.size + 1) 90 3 v (x.regs.map (nw x O)).length ((x.regs.map (nw x O)).flatMap fW) by have e0 : (x.regs.map (nw x O)).take x.regs.length = x.regs.map (nw x O) := List.take_of_length_le (by simp); have := unhide hown; rw [e0] at this; rw [List.length_map]; exact this)
          have RG := hide (show SlW wr v (x.regs.map (nw x O)) from ownW (by have e0 : (x.regs.map (nw x O)).take x.regs.length = x.regs.map (nw x O) := List.take_of_length_le (by simp); have := unhide hown; rw [e0] at this; rw [List.length_map]; exact this) (by rw [List.length_map]; omega))
          have hbg : w3.heap.size < wr.heap.size := cell_lt (unhide hgc).1
          have GV := hide (unhide hgc).1
          have N0 := hide (show NS x O N w3 wr wr (.slice none 0 0) 0 [] from ⟨World.ownsRow_nil _ _ _ _, by simp, fun z hz => by simp at hz, rfl, (unhide hgc).2.1, (unhide hgc).2.2, Only.refl _ _, unhide hex, hbg⟩)
          obtain ⟨w6, hw6⟩ : ∃ W, W = wr := ⟨_, rfl⟩
          subst hw6
          have vb := hide (fun q e => (unhide hown).lt q e)
          clear hown hgc hex hlt hk X3
          obtain ⟨iq, hiq, hq0, hq1, hq2⟩ := info_parts infoPairs
          obtain ⟨io, hio, ho0, ho1, ho2⟩ := info_parts infoNodesS
          go_wp2_with fail
          go_loopw [66] (fun i wr => ∃ (k : Nat) (vn : Value) (L : List (Nd × Value)), k ≤ O.length ∧ i = .int .i64 k ∧ Hid (NS x O N w3 w6 wr vn k L)) (fun i _ => O.length - (intOf i).toNat)
          case atStart => exact ⟨0, _, _, Nat.zero_le _, rfl, unhide N0⟩
          case round =>
            clear N0
            obtain ⟨wn, hwn⟩ : ∃ W, W = wr := ⟨_, rfl⟩
            subst hwn
            obtain ⟨k, vn, L, hk, rfl, hns⟩ := hrel
            by_cases hlt : k < O.length
            · obtain ⟨g, rfl⟩ := hgl (by omega)
              have EX := hide ((X2.trans Y3).trans (unhide hns).ex)
              have a1 := (((unhide RW).ext ((x2.trans Y3).trans (unhide hns).ex)).cell k (by rw [zs_len]; exact hlt)).1
              rw [it_zs hlt] at a1
              have GD := hide (((unhide OI).r O[k] (List.getElem_mem hlt)).good (unhide Q2) (unhide Q4))
              have hjn := (unhide GD).1
              have MO := hide (List.getElem_mem hlt)
              have K1 := hide (show ∀ z : Nd × Value, z.1 = nodeOf x O N O[k] → z.1 = nodeOf x O N O[k] from fun _ h => h)
              obtain ⟨j, ej⟩ : ∃ j, j = O[k] := ⟨_, rfl⟩
              have EJ := hide ej
              rw [← ej] at a1 GD hjn MO
              clear ej K1
              obtain ⟨bc, oc, ap, kp, rfl, CA⟩ := ((unhide HH).ext (unhide EX)).cell j hjn
              have C4 := ((unhide HH).ext (unhide EX)).c4
              have hl200 := h200 j hjn
              have k0 : (0:Int) ≤ (k:Int) := by omega
              have k1 : (k:Int) < (O.length:Int) := by omega
              have j0 : (0:Int) ≤ (j:Int) := by omega
              have j1 : (j:Int) < (x.cells.length:Int) := by omega
              have hbc : bc < wn.heap.size := cell_lt CA.p0
              have p0 := CA.p0
              have p1 := CA.p1
              have p2 := CA.p2
              have p3 := CA.p3
              have p4 := CA.p4
              have p5 := CA.p5
              have p6 := CA.p6
              have p7 := CA.p7
              have CP := hide CA.P
              clear CA
              go_wp2_with fail
              have B0 := hide (show NB wn _ (x.c j) ap kp (rkJ N 0 j) (.slice none 0 0) by rw [rkJ_zero]; exact NB.start wn (x.c j) ap kp 86 143)
              clear p0 p1 p2 p3 p4 p5 p6 p7 a1 C4
              go_loopw [86] (fun i W => ∃ m : Nat, m ≤ N.length ∧ i = .int .i64 m ∧ Hid (NB wn W (x.c j) ap kp (rkJ N m j) (.slice none 0 0))) (fun i _ => N.length - (intOf i).toNat)
              case atStart => exact ⟨0, Nat.zero_le _, rfl, unhide B0⟩
              case round =>
                clear B0
                obtain ⟨m, hm, rfl, hnb⟩ := hrel
                by_cases hmt : m < N.length
                · obtain ⟨gw, rfl⟩ := hgw (by omega)
                  have b1 := (((unhide RM).ext ((Y3.trans (unhide hns).ex).trans (unhide hnb).ex)).cell m (by rw [zs_len]; exact hmt)).1
                  rw [it_zs hmt] at b1
                  have m0 : (0:Int) ≤ (m:Int) := by omega
                  have m1 : (m:Int) < (N.length:Int) := by omega
                  by_cases hit : N[m] = j
                  · rw [hit] at b1
                    have R := hide (show NB wn _ (x.c j) ap kp (rkJ N (m + 1) j) (.slice none 0 0) by rw [rkJ_hit (unhide WN).nd hmt hit]; exact (unhide hnb).rank)
                    have n3 := (unhide hnb).n3
                    have f3 := (unhide hnb).f 3
                    go_wp2_with fail
                    go_roundw
                    case rel => exact ⟨m + 1, hmt, by go_num, unhide R⟩
                    case measure => simp [intOf]; omega
                  · have R := hide (show NB wn wr (x.c j) ap kp (rkJ N (m + 1) j) (.slice none 0 0) by rw [rkJ_miss hmt hit]; exact unhide hnb)
                    obtain ⟨jm, ejm⟩ : ∃ q, q = N[m] := ⟨_, rfl⟩
                    rw [← ejm] at b1 hit
                    have hit2 : ¬ (jm : Int) = (j : Int) := by omega
                    have hit3 : ((jm : Int) == (j : Int)) = false := by simpa using hit2
                    clear ejm
                    go_wp2_with fail
                    go_roundw
                    case rel => exact ⟨m + 1, hmt, by go_num, unhide R⟩
                    case measure => simp [intOf]; omega
                · have hm2 : m = N.length := by omega
                  subst hm2
                  obtain ⟨w7, hw7⟩ : ∃ W, W = wr := ⟨_, rfl⟩
                  subst hw7
                  have q7 := (unhide hnb).p7
                  have P0 := hide (show w7.ownsRow w7.heap.size 123 6 (.slice none 0 0) 0 (((((x.c j).prs.map (np x O))).take 0).flatMap fP) from World.ownsRow_nil _ _ _ _)
                  have h7 : wn.heap.size + 1 < w7.heap.size := cell_lt (unhide hnb).n0
                  clear hmt hm
                  go_wp2_with fail
                  go_loopw [101] (fun i W => ∃ (p : Nat) (v : Value), p ≤ (x.c j).prs.length ∧ i = .int .i64 p ∧ Hid (W.ownsRow w7.heap.size 123 6 v p ((((x.c j).prs.map (np x O)).take p).flatMap fP)) ∧ Hid (NB wn W (x.c j) ap kp (rkJ N N.length j) v) ∧ w7.heap.size ≤ W.heap.size) (fun i _ => (x.c j).prs.length - (intOf i).toNat)
                  case atStart => exact ⟨0, _, Nat.zero_le _, rfl, unhide P0, unhide hnb, Nat.le_refl _⟩
                  case round =>
                    clear P0 q7 hnb
                    obtain ⟨p, vp, hp, rfl, hown, hnb, hsz⟩ := hrel
                    by_cases hpt : p < (x.c j).prs.length
                    · obtain ⟨bp, op, rfl, q0, q1, q2, q3, q4, q5⟩ := (unhide CP) p hpt
                      have q0 := (unhide hnb).ex.keep q0
                      have q1 := (unhide hnb).ex.keep q1
                      have q2 := (unhide hnb).ex.keep q2
                      have q3 := (unhide hnb).ex.keep q3
                      have q4 := (unhide hnb).ex.keep q4
                      have q5 := (unhide hnb).ex.keep q5
                      have MP := hide (may_pair (unhide Q2) (unhide Q4) j p (unhide GD) hpt)
                      have MI := hide ((unhide OI).p j (unhide MO) p hpt hpt)
                      have ETP := hide (show ((x.c j).prs.map (np x O)).take (p + 1) = ((x.c j).prs.map (np x O)).take p ++ [np x O ((x.c j).p p)] by rw [List.take_succ_eq_append_getElem (by simpa using hpt), List.getElem_map, Cl.p_eq _ _ hpt])
                      obtain ⟨y, ey⟩ : ∃ y, y = (x.c j).p p := ⟨_, rfl⟩
                      rw [← ey] at q0 q1 q2 q3 q4 q5 MP MI ETP
                      clear ey
                      have p0 : (0:Int) ≤ (p:Int) := by omega
                      have p1 : (p:Int) < ((x.c j).prs.length:Int) := by omega
                      have hbp : bp < wr.heap.size := cell_lt q0
                      have n4 := (unhide hnb).n4
                      have f4 := (unhide hnb).f 4
                      have hbn : wn.heap.size + 1 < wr.heap.size := cell_lt n4
                      have xa := (Ext.refl wr).alloc (.cells #[iv y.key.k, iv y.key.n, iv y.key.a, iv y.val.k, iv y.val.n, iv y.val.a] 123)
                      have EA := hide ((((X2.trans Y3).trans (unhide hns).ex).trans (unhide hnb).ex).trans xa)
                      have YA := hide (((unhide hns).ex.trans (unhide hnb).ex).trans xa)
                      have nq : ¬ wr.heap.size = wn.heap.size + 1 := by omega
                      have nq2 : ¬ wn.heap.size + 1 = wr.heap.size := by omega
                      have W7 := hide (show w7.heap.size ≤ wr.heap.size from hsz)
                      have hvb : ∀ q, vp.ownBlock = some q → w7.heap.size ≤ q ∧ q < wr.heap.size := fun q e => (unhide hown).lt q e
                      go_wp2_with fail
                      go_region_law (first
                        | (refine step_append_lies _ rfl _ _ 84 rfl w7.heap.size 123 iq (.agg #[iv 0, iv 0, iv 0, iv 0, iv 0, iv 0]) 6 48 Tryz.underlying84 hiq hq0 hq1 hq2 rfl (by decide) vp p ((((x.c j).prs.map (np x O)).take p).flatMap fP) (by first | rfl | simp [Act.eval, Act.put]) ((unhide O9).alloc _) _ 1 1 (fP (np x O y)) (by first | rfl | simp [Act.eval, Act.put]; rfl) rfl (by
                            intro i u hi
                            match i, hi with
                            | 0, hi => simp [fP] at hi; subst hi; simp [Addr.add, go_sem, np]
                            | 1, hi => simp [fP] at hi; subst hi; simp [Addr.add, go_sem, np]
                            | 2, hi => simp [fP] at hi; subst hi; simp [Addr.add, go_sem, np]
                            | 3, hi => simp [fP] at hi; subst hi; simp [Addr.add, go_sem, np]
                            | 4, hi => simp [fP] at hi; subst hi; simp [Addr.add, go_sem, np]
                            | 5, hi => simp [fP] at hi; subst hi; simp [Addr.add, go_sem, np]) (by intro u hu; simp [fP] at hu; rcases hu with e | e | e | e | e | e <;> subst e <;> rfl) (by decide) (by unfold maxLen; omega) (by omega) (by have := (unhide Z9).size; have := unhide W7; simp; omega) _ rfl ?_; intro gb cap5 w5 hown5 hgrow hat hglt; have e0 := (World.cell?_of_block (a := ⟨wn.heap.size + 1, 4, none⟩) ((hgrow.block (wn.heap.size + 1) (by simp; omega) (fun e => by have := (hvb _ e.symm).1; omega)).trans (Below.heap_alloc w9 _ _ hs9))).trans d9; have ef := (World.frozen?_of_block (a := ⟨wn.heap.size + 1, 4, none⟩) ((hgrow.block (wn.heap.size + 1) (by simp; omega) (fun e => by have := (hvb _ e.symm).1; omega)).trans (Below.heap_alloc w9 _ _ hs9))).trans (((bcell (unhide Z9)).2 _ 4 hbn).trans f4))
                        | (go_simp; go_wp2_with (first
                          | (go_at_call 114; refine (l2named_any x y.val b w2.heap.size O w8 ((unhide HH).ext (unhide E8)) ((unhide WH).ext (unhide Y8)) (unhide MP).2 (unhide MI).2).mono ?_; rintro e w9 ⟨rfl, hq9⟩; have d9 := hq9.keep d8; have Z9 := hide ((unhide Z8).trans hq9); have hs9 : wn.heap.size + 1 < w9.heap.size := cell_lt d9; have O9 := hide (ownsRow_of_block (unhide hown) (fun q hq => (unhide Z9).block q (hvb q hq).2)); clear hq9)
                          | (go_at_call 114; refine (l2named_any x y.key b w2.heap.size O _ ((unhide HH).ext (unhide EA).drew) ((unhide WH).ext (unhide YA).drew) (unhide MP).1 (unhide MI).1).mono ?_; rintro e w8 ⟨rfl, hq8⟩; have y8 := Ext.trans ((Ext.refl _).drew) hq8; have s3 : w8.cell? ⟨wr.heap.size, 3, none⟩ = some (iv y.val.k) := y8.keep (by simp [go_sem]); have s4 : w8.cell? ⟨wr.heap.size, 4, none⟩ = some (iv y.val.n) := y8.keep (by simp [go_sem]); have s5 : w8.cell? ⟨wr.heap.size, 5, none⟩ = some (iv y.val.a) := y8.keep (by simp [go_sem]); have d8 := (xa.trans y8).keep n4; have Z8 := hide (xa.trans y8); have E8 := hide ((unhide EA).trans y8); have Y8 := hide ((unhide YA).trans y8); clear hq8 y8))))
                      all_goals
                        have zA := (unhide Z9).alloc (.cells #[iv (nw x O y.key).k, iv (nw x O y.key).n, iv (nw x O y.key).a, iv (nw x O y.val).k, iv (nw x O y.val).n, iv (nw x O y.val).a] 123)
                        have BP := hide (NB.push ((unhide hnb).ext zA) ((unhide O9).alloc _) h7 hgrow hown5)
                        have hsz9 : w7.heap.size ≤ (w5.setCell ⟨wn.heap.size + 1, 4, none⟩ (.slice (some ⟨gb, 0, none⟩) (p + 1) cap5)).heap.size := by have := hgrow.size; have := zA.size; simp only [World.setCell, Array.size_modify]; omega
                        clear hown5 hgrow hat hglt zA
                        go_wp2_with fail
                        go_roundw
                        case rel =>
                          refine ⟨p + 1, _, hpt, by go_num, ?_, (unhide BP).2, hsz9⟩
                          rw [unhide ETP, List.flatMap_append]
                          refine hide ?_
                          simpa using (unhide BP).1
                        case measure => simp [intOf]; omega
                    · have hp2 : p = (x.c j).prs.length := by omega
                      subst hp2
                      have c1 := ((unhide hns).ext (unhide hnb).ex).c1
                      have cf := ((unhide hns).ext (unhide hnb).ex).fz 1
                      have n0 := (unhide hnb).n0
                      have n1 := (unhide hnb).n1
                      have n2 := (unhide hnb).n2
                      have n3 := (unhide hnb).n3
                      have n4 := (unhide hnb).n4
                      have hbn : wn.heap.size + 1 < wr.heap.size := cell_lt n4
                      have hbg2 : w3.heap.size < wr.heap.size := cell_lt c1
                      have ZN := hide (show (nodeOf x O N j, vp).1 = nodeOf x O N O[k] from congrArg (nodeOf x O N) (unhide EJ))
                      have HP := hide (show wr.ownsRow w7.heap.size 123 6 (nodeOf x O N j, vp).2 (nodeOf x O N j, vp).1.prs.length ((nodeOf x O N j, vp).1.prs.flatMap fP) by
                        have := unhide hown
                        rw [List.take_of_length_le (by simp)] at this
                        simpa [nodeOf] using this)
                      have NS1 := hide ((unhide hns).ext (unhide hnb).ex)
                      have LL := hide (show L.length = k by have := congrArg List.length (unhide hns).eq; simpa [Nat.min_eq_left hk] using this)
                      have h67 : w6.heap.size ≤ w7.heap.size := by have := (unhide hns).on.size; omega
                      have h6r : w6.heap.size ≤ wr.heap.size := by omega
                      have hvn : ∀ q, vn.ownBlock = some q → q < w7.heap.size := fun q e => by have := ((unhide hns).own.lt q e).2; omega
                      have V1 := hide (show vp.oneCell' = true by rcases (unhide hown).2 with ⟨h0, _⟩ | ⟨_, _, _, h0, _⟩ <;> rw [h0] <;> rfl)
                      clear hpt hp
                      go_wp2_with (at_builtin; refine wpList_append_lies _ rfl _ _ 41 rfl w6.heap.size 143 io (.agg #[iv 0, iv 0, iv 0, iv 0, .slice none 0 0]) 5 56 Tryz.underlying41 hio ho0 ho1 ho2 rfl (by decide) vn k (L.flatMap fN) rfl ((unhide NS1).own.alloc _) _ 1 1 (fN (nodeOf x O N j, vp)) rfl rfl ?c1 ?c2 (by decide) ?c3 ?c4 ?c5 _ rfl ?_)
                      case c1 =>
                        intro i u hi
                        match i, hi with
                        | 0, hi => simp [fN] at hi; subst hi; simp [go_sem, nodeOf]
                        | 1, hi => simp [fN] at hi; subst hi; simp [go_sem, nodeOf]
                        | 2, hi => simp [fN] at hi; subst hi; simp [go_sem, nodeOf]
                        | 3, hi => simp [fN] at hi; subst hi; simp [go_sem, nodeOf]
                        | 4, hi => simp [fN] at hi; subst hi; simp [go_sem]
                      case c2 => intro u hu; simp [fN] at hu; rcases hu with e | e | e | e | e <;> subst e <;> first | rfl | exact unhide V1
                      case c3 => unfold maxLen; omega
                      case c4 => omega
                      case c5 => first | exact h6r | omega | (simp; omega)
                      intro gb cap5 w5 hown5 hgrow hat hglt
                      have xb := (Ext.refl wr).alloc (.cells #[iv (x.c j).kind, iv (x.c j).weak, iv (x.c j).last, iv (rkJ N N.length j), vp] 143)
                      have PU := hide (NS.push (g := gb) ((unhide NS1).ext xb) hlt (unhide ZN) hgrow hown5 rfl (by simpa using hat) (ownsRow_of_block (unhide HP) (fun q hq => xb.block q ((unhide HP).lt q hq).2)) h67 hvn)
                      have d1 := (World.cell?_of_block (a := ⟨w3.heap.size, 1, none⟩) (hgrow.block w3.heap.size (Nat.lt_of_lt_of_le hbg2 xb.size) (fun e => by have := ((unhide NS1).own.lt _ e.symm).1; have := (unhide NS1).lt; omega))).trans (xb.keep c1)
                      have df := (World.frozen?_of_block (a := ⟨w3.heap.size, 1, none⟩) (hgrow.block w3.heap.size (Nat.lt_of_lt_of_le hbg2 xb.size) (fun e => by have := ((unhide NS1).own.lt _ e.symm).1; have := (unhide NS1).lt; omega))).trans (((bcell xb).2 _ 1 hbg2).trans cf)
                      clear hown5 hgrow hat xb
                      go_wp2_with fail
                      go_roundw
                      case rel => exact ⟨k + 1, _, _, hlt, by go_num, unhide PU⟩
                      case measure => simp [intOf]; omega
            · have hk2 : k = O.length := by omega
              subst hk2
              have hns' := unhide hns
              have c0 := hns'.c0.trans (unhide GV)
              have c1 := hns'.c1
              have NL := hide (show SlN wn vn (O.map (nodeOf x O N)) by
                have ll : L.length = O.length := by have := congrArg List.length hns'.eq; simpa using this
                have e1 : L.map (·.1) = O.map (nodeOf x O N) := by rw [hns'.eq, List.take_of_length_le (Nat.le_refl _)]
                rw [← e1]
                exact ownN (by rw [ll]; exact hns'.own) (by omega) (fun z hz => ownP (hns'.prs z hz).1 (by
                  have hz1 : z.1 ∈ O.map (nodeOf x O N) := by rw [← e1]; exact List.mem_map.2 ⟨z, hz, rfl⟩
                  obtain ⟨i, hi, ei⟩ := List.mem_map.1 hz1
                  rw [← ei]
                  have := h200 i (((unhide OI).r i hi).good (unhide Q2) (unhide Q4)).1
                  simp only [nodeOf, List.length_map]; omega)))
              have hz3 : w.heap.size < w3.heap.size := by have h1 := x1.size; simp at h1; have := x2.size; have := Y3.size; omega
              have FIN := hide (show ∀ W, Only (fun q => q ≤ w.heap.size) wn W → SlW W v (x.regs.map (nw x O)) ∧ SlN W vn (O.map (nodeOf x O N)) from fun W hW => by
                have cw : ∀ q, w3.heap.size < q → q < w6.heap.size → W.heap[q]? = w6.heap[q]? := fun q h1 h2 => (hW.block q (Nat.lt_of_lt_of_le h2 hns'.on.size) (by omega)).trans (hns'.on.block q h2 (by omega))
                have cn : ∀ q, w6.heap.size ≤ q → q < wn.heap.size → W.heap[q]? = wn.heap[q]? := fun q h1 h2 => hW.block q h2 (by have := hns'.lt; omega)
                refine ⟨ownW (ownsRow_of_block (unhide OW) (fun q hq => cw q ((unhide OW).lt q hq).1 ((unhide OW).lt q hq).2)) (by rw [List.length_map]; omega), ?_⟩
                have ll : L.length = O.length := by have := congrArg List.length hns'.eq; simpa using this
                have e1 : L.map (·.1) = O.map (nodeOf x O N) := by rw [hns'.eq, List.take_of_length_le (Nat.le_refl _)]
                have hW1 := ownsRow_of_block hns'.own (fun q hq => cn q (hns'.own.lt q hq).1 (hns'.own.lt q hq).2)
                rw [← e1]
                exact ownN (by rw [ll]; exact hW1) (by omega) (fun z hz => ownP (ownsRow_of_block (hns'.prs z hz).1 (fun q hq => cn q ((hns'.prs z hz).1.lt q hq).1 ((hns'.prs z hz).1.lt q hq).2)) (by
                  have hz1 : z.1 ∈ O.map (nodeOf x O N) := by rw [← e1]; exact List.mem_map.2 ⟨z, hz, rfl⟩
                  obtain ⟨i, hi, ei⟩ := List.mem_map.1 hz1
                  rw [← ei]
                  have := h200 i (((unhide OI).r i hi).good (unhide Q2) (unhide Q4)).1
                  simp only [nodeOf, List.length_map]; omega)))
              have EXX := hide ((X2.trans Y3).trans hns'.ex)
              obtain ⟨vra, vrc, rfl, _, _⟩ := unhide RG
              obtain ⟨vna, vnc, rfl, _, _⟩ := unhide NL
              have EG := (((x1.trans x2).trans Y3).trans hns'.ex)
              have r0 := EG.keep (b := w.heap.size) (o := 0) (v := .slice none 0 0) (by simp [go_sem])
              have r1 := EG.keep (b := w.heap.size) (o := 1) (v := .slice none 0 0) (by simp [go_sem])
              have rf0 : wn.frozen? ⟨w.heap.size, 0, none⟩ = false := ((bcell EG).2 w.heap.size 0 (by simp)).trans (by simp [go_sem])
              have rf1 : wn.frozen? ⟨w.heap.size, 1, none⟩ = false := ((bcell EG).2 w.heap.size 1 (by simp)).trans (by simp [go_sem])
              have hzw : w.heap.size < wn.heap.size := cell_lt r0
              clear hns' EG
              go_wp2_with fail
              refine bodyPost_ret (v := .agg #[.slice vra (x.regs.map (nw x O)).length vrc, .slice vna (O.map (nodeOf x O N)).length vnc]) (by simp [results, Tryz.results66, go_sem, r0, r1]) rfl ⟨_, _, rfl, ?_⟩
              refine (fun (F : Only (fun q => q = w.heap.size) wn _) => ⟨⟨N, unhide WN, fun W hW => by rw [gR, gL, ← unhide EO]; exact unhide FIN W ((F.mono (fun q e => Nat.le_of_eq e)).trans (hW.mono (fun q e => Nat.le_of_lt e)))⟩, F.ext (unhide EXX) (fun q hq e => by omega)⟩) ?_
              repeat (first | refine Only.setCell ?_ (by simp) _ | exact Only.refl _ _)
end Go.Proofs.YtkabcfhemljnbaaGreat
