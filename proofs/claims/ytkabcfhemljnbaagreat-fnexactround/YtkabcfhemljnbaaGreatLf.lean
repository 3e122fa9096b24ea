import Derived.Test.YtkabcfhemljnbaaGreatLc
import Derived.Deep.RegionWith
import Derived.Deep.RegionLaw
import Derived.Deep.QuietTactic
namespace Go.Proofs.YtkabcfhemljnbaaGreat
open Go.RowKit
attribute [local go_sem ↓] Go.wp_at_zero Go.wp_at_succ

set_option maxRecDepth 100000 in
set_option maxHeartbeats 4000000 in
theorem l1copy_any (x : Hp) (w : World) {ar : Option Addr} {kr : Nat} {ac : Option Addr} {kc : Nat} {ag : Option Addr} {kg : Nat} (hR : SlW w (.slice ar x.regs.length kr) x.regs) (hC : SlC w (.slice ac x.cells.length kc) x.cells) (hG : SlI w (.slice ag x.gray.length kg) x.gray) (h0 : 0 < x.regs.length) (n1 : x.regs.length ≤ 100) (n2 : x.cells.length ≤ 8000) (n3 : ∀ q, q < x.cells.length → (x.c q).prs.length ≤ 200) (n4 : x.gray.length ≤ 8000) :
    Calls Tryz.prog 72 #[x.v (.slice ar x.regs.length kr) (.slice ac x.cells.length kc) (.slice ag x.gray.length kg)] w fun e w' => ∃ g, e = .returned (.pointer (some ⟨g, 0, none⟩)) ∧ Hid (∃ ar kr ac kc vg br bc pb pa pk role, GAt w.heap.size w' g x ar kr ac kc vg br bc pb pa pk role) ∧ Ext w w' := by
  have xa := (Ext.refl w).alloc (.cells #[iv x.room, iv x.used, iv x.born, .slice ar x.regs.length kr, .slice ac x.cells.length kc, iv x.phase, iv x.hand, iv x.sub, .slice ag x.gray.length kg, iv x.per, iv x.start, iv x.rounds, iv x.forced] 33)
  obtain ⟨w3, hw3⟩ : ∃ W, W = w.alloc (.cells #[iv x.room, iv x.used, iv x.born, .slice ar x.regs.length kr, .slice ac x.cells.length kc, iv x.phase, iv x.hand, iv x.sub, .slice ag x.gray.length kg, iv x.per, iv x.start, iv x.rounds, iv x.forced] 33) := ⟨_, rfl⟩
  have hs3 : w3.heap.size = w.heap.size + 1 := by rw [hw3]; simp
  have X3 : Ext w w3 := by rw [hw3]; exact xa
  have SR := hide (SlW.ext X3 hR)
  have SC := hide (SlC.ext X3 hC)
  have SG := hide (SlI.ext X3 hG)
  have BH := hide (show HBox w3 w.heap.size x (.slice ar x.regs.length kr) (.slice ac x.cells.length kc) (.slice ag x.gray.length kg) by rw [hw3]; exact HBox.new w x _ _ _ _)
  have G0 := hide (show HBox (w3.alloc (.cells #[iv x.room, iv x.used, iv x.born, .slice none 0 0, .slice ac x.cells.length kc, iv x.phase, iv x.hand, iv x.sub, .slice ag x.gray.length kg, iv x.per, iv x.start, iv x.rounds, iv x.forced] 33)) w3.heap.size x (.slice none 0 0) (.slice ac x.cells.length kc) (.slice ag x.gray.length kg) ∧ (∀ o, (w3.alloc (.cells #[iv x.room, iv x.used, iv x.born, .slice none 0 0, .slice ac x.cells.length kc, iv x.phase, iv x.hand, iv x.sub, .slice ag x.gray.length kg, iv x.per, iv x.start, iv x.rounds, iv x.forced] 33)).frozen? ⟨w3.heap.size, o, none⟩ = false) from ⟨HBox.new w3 x _ _ _ _, fun o => by simp [go_sem]⟩)
  obtain ⟨iw, hiw, hw0, hw1, hw2⟩ := info_parts infoWords
  obtain ⟨iq, hiq, hq0, hq1, hq2⟩ := info_parts infoPairs
  obtain ⟨ic, hic, hc0, hc1, hc2⟩ := info_parts infoCells
  obtain ⟨ii, hii, hi0, hi1, hi2⟩ := info_parts infoInts
  clear hR hC hG xa
  go_enter Tryz.func72, Tryz.ntmps72
  go_wp2_with fail
  rw [← hw3, ← hs3]
  have HS3 := hide hs3
  have hlt3 : w.heap.size < w3.heap.size := by omega
  clear hw3 hs3
  go_loopw [18] (fun i wr => ∃ (k : Nat) (av : Option Addr) (kv : Nat), k ≤ x.regs.length ∧ i = .int .i64 k ∧ Hid (wr.ownsRow (w3.heap.size + 1) 90 3 (.slice av k kv) k ((x.regs.take k).flatMap fW)) ∧ Hid (HBox wr w3.heap.size x (.slice av k kv) (.slice ac x.cells.length kc) (.slice ag x.gray.length kg) ∧ (∀ o, wr.frozen? ⟨w3.heap.size, o, none⟩ = false)) ∧ Hid (Ext w3 wr)) (fun i _ => x.regs.length - (intOf i).toNat)
  case atStart => exact ⟨0, none, 0, Nat.zero_le _, rfl, World.ownsRow_nil _ _ _ _, unhide G0, (Ext.refl w3).alloc _⟩
  case round =>
    clear G0
    obtain ⟨k, av, kv, hk, rfl, hown, hgc, hex⟩ := hrel
    by_cases hlt : k < x.regs.length
    · obtain ⟨b', o, har, p0, p1, p2⟩ : ∃ b' o, ar = some ⟨b', o, none⟩ ∧ WdAt w3 b' (o + k * 3) x.regs[k] := by
        obtain ⟨ad, cap, e, _, hx⟩ := unhide SR
        simp only [Value.slice.injEq] at e
        rw [e.1]; exact hx k hlt
      subst har
      have p0 := (unhide hex).keep p0
      have p1 := (unhide hex).keep p1
      have p2 := (unhide hex).keep p2
      have hb' : b' < wr.heap.size := cell_lt p0
      have g3 := (unhide hgc).1.2.2.2.1
      have f3 := (unhide hgc).2 3
      have hbg : w3.heap.size < wr.heap.size := cell_lt g3
      have hk0 : (0:Int) ≤ (k:Int) := by omega
      have hk1 : (k:Int) < (x.regs.length:Int) := by omega
      have ETK := hide (show x.regs.take (k + 1) = x.regs.take k ++ [x.regs[k]] by rw [List.take_succ_eq_append_getElem hlt])
      obtain ⟨y, ey⟩ : ∃ y, y = x.regs[k] := ⟨_, rfl⟩
      rw [← ey] at p0 p1 p2 ETK
      clear ey
      go_wp2_with (at_builtin; refine wpList_append_lies _ rfl _ _ 30 rfl (w3.heap.size + 1) 90 iw (.agg #[iv 0, iv 0, iv 0]) 3 24 Tryz.underlying30 hiw hw0 hw1 hw2 rfl (by decide) _ k ((x.regs.take k).flatMap fW) rfl (((unhide hown).alloc _).alloc _) _ 1 1 (fW y) rfl rfl ?c1 ?c2 (by decide) ?c3 ?c4 ?c5 _ rfl ?_)
      case c1 =>
        intro j u hj
        match j, hj with
        | 0, hj => simp [fW] at hj; subst hj; simp [go_sem]
        | 1, hj => simp [fW] at hj; subst hj; simp [go_sem]
        | 2, hj => simp [fW] at hj; subst hj; simp [go_sem]
      case c2 => intro u hu; simp [fW] at hu; rcases hu with e | e | e <;> subst e <;> first | rfl
      case c3 => unfold maxLen; omega
      case c4 => omega
      case c5 => simp; omega
      intro gb cap5 w5 hown5 hgrow hat hglt
      have xb := ((Ext.refl wr).alloc (.cells #[iv y.k, iv y.n, iv y.a] 90)).alloc (.cells #[iv y.k, iv y.n, iv y.a] 90)
      have BP := hide (box_push (o := 3) (u := .slice (some ⟨gb, 0, none⟩) (k + 1) cap5) (bg := w3.heap.size) (Nat.lt_succ_self _) ((unhide hex).trans xb) (((unhide hown).alloc _).alloc _) (Nat.le_refl _) (Nat.lt_of_lt_of_le hbg xb.size) hgrow hown5)
      have eb : w5.heap[w3.heap.size]? = wr.heap[w3.heap.size]? := (hgrow.block w3.heap.size (Nat.lt_of_lt_of_le hbg xb.size) (fun e => by have := ((unhide hown).lt _ e.symm).1; omega)).trans (xb.block _ hbg)
      have g5 := (World.cell?_of_block (a := ⟨w3.heap.size, 3, none⟩) eb).trans g3
      have f5 := (World.frozen?_of_block (a := ⟨w3.heap.size, 3, none⟩) eb).trans f3
      have HB := hide (((unhide hgc).1.block eb).set3 (.slice (some ⟨gb, 0, none⟩) (k + 1) cap5))
      have FZ := hide (show ∀ o, (w5.setCell ⟨w3.heap.size, 3, none⟩ (.slice (some ⟨gb, 0, none⟩) (k + 1) cap5)).frozen? ⟨w3.heap.size, o, none⟩ = false from fun o => by rw [World.frozen?_setCell]; exact (World.frozen?_of_block (a := ⟨w3.heap.size, o, none⟩) eb).trans ((unhide hgc).2 o))
      clear hown5 hgrow hat xb eb
      go_wp2_with fail
      go_roundw
      case rel =>
        refine ⟨k + 1, some ⟨gb, 0, none⟩, cap5, hlt, by go_num, ?_, ⟨unhide HB, unhide FZ⟩, (unhide BP).2.1⟩
        rw [unhide ETK, List.flatMap_append]
        refine hide ?_
        simpa using (unhide BP).1
      case measure => simp [intOf]; omega
    · have hk2 : k = x.regs.length := by omega
      subst hk2
      have OW := hide (show wr.ownsRow (w3.heap.size + 1) 90 3 (.slice av x.regs.length kv) x.regs.length (x.regs.flatMap fW) by have := unhide hown; rw [List.take_length] at this; exact this)
      obtain ⟨w6, hw6⟩ : ∃ W, W = wr := ⟨_, rfl⟩
      subst hw6
      have g4 := (unhide hgc).1.2.2.2.2.1
      have f4 := (unhide hgc).2 4
      have hbg : w3.heap.size < w6.heap.size := cell_lt g4
      have b4 := (unhide hex).keep (unhide BH).2.2.2.2.1
      have hne1 : ¬ w3.heap.size = w.heap.size := by omega
      have hne2 : ¬ w.heap.size = w3.heap.size := by omega
      have C0 := hide (show CS x w3 w6 (w6.setCell ⟨w3.heap.size, 4, none⟩ (.slice none 0 0)) (.slice av x.regs.length kv) (.slice none 0 0) (.slice ag x.gray.length kg) 0 [] from
        ⟨World.ownsRow_nil _ _ _ _, by simp, fun z hz => by simp at hz, fun i j hi => by simp at hi, (unhide hgc).1.set4 _, fun o => by rw [World.frozen?_setCell]; exact (unhide hgc).2 o, Only.setCell (S := fun q => q = w3.heap.size) (Only.refl _ w6) (p := ⟨w3.heap.size, 4, none⟩) rfl _, (unhide hex).setCell (Nat.le_refl _) _, hbg⟩)
      have X6 := hide (unhide hex)
      have V6 := hide (fun q e => ((unhide OW).lt q e).2)
      clear hown hgc hex hlt hk
      go_wp2_with fail
      clear g4 f4 b4
      go_loopw [33] (fun i wr => ∃ (k : Nat) (avc : Option Addr) (kvc : Nat) (L : List (Cl × Value)), k ≤ x.cells.length ∧ i = .int .i64 k ∧ Hid (CS x w3 w6 wr (.slice av x.regs.length kv) (.slice avc k kvc) (.slice ag x.gray.length kg) k L)) (fun i _ => x.cells.length - (intOf i).toNat)
      case atStart => exact ⟨0, none, 0, [], Nat.zero_le _, rfl, unhide C0⟩
      case round =>
        clear C0
        obtain ⟨wn, hwn⟩ : ∃ W, W = wr := ⟨_, rfl⟩
        subst hwn
        obtain ⟨k, avc, kvc, L, hk, rfl, hcs⟩ := hrel
        by_cases hlt : k < x.cells.length
        · obtain ⟨bc, oc, hac, hbc3, vp0, p0, p1, p2, p3, p4, p5, p6, p7, hP⟩ : ∃ bc oc, ac = some ⟨bc, oc, none⟩ ∧ bc < w3.heap.size ∧ ClAt w3 bc (oc + k * 8) (x.c k) := by
            obtain ⟨ad, cap, e, _, hx⟩ := unhide SC
            obtain ⟨b2, o2, e2, q⟩ := hx k hlt
            rw [Hp.c_eq x k hlt] at q
            simp only [Value.slice.injEq] at e
            exact ⟨b2, o2, e.1.trans e2, let ⟨_, p0, _⟩ := q; cell_lt p0, q⟩
          subst hac
          obtain ⟨ap, kp, rfl, _, hPx⟩ := hP
          have CP := hide hPx
          have X := (unhide hcs).ex
          have p0 := X.keep p0
          have p1 := X.keep p1
          have p2 := X.keep p2
          have p3 := X.keep p3
          have p4 := X.keep p4
          have p5 := X.keep p5
          have p6 := X.keep p6
          have p7 := X.keep p7
          have hl200 := n3 k hlt
          have hk0 : (0:Int) ≤ (k:Int) := by omega
          have hk1 : (k:Int) < (x.cells.length:Int) := by omega
          have hbc : bc < wn.heap.size := cell_lt p0
          clear hPx X
          go_wp2_with fail
          have B0 := hide (CB.start wn (x.c k) ap kp 86 86)
          have hsz2 : ((wn.alloc (.cells #[iv (x.c k).st, iv (x.c k).kind, iv (x.c k).weak, iv (x.c k).last, iv (x.c k).born, iv (x.c k).color, iv (x.c k).to, .slice ap (x.c k).prs.length kp] 86)).alloc (.cells #[iv (x.c k).st, iv (x.c k).kind, iv (x.c k).weak, iv (x.c k).last, iv (x.c k).born, iv (x.c k).color, iv (x.c k).to, .slice none 0 0] 86)).heap.size = wn.heap.size + 2 := by simp
          have HZ2 := hide hsz2
          clear p0 p1 p2 p3 p4 p5 p6 p7 hsz2
          go_loopw [42] (fun i wr => ∃ (p : Nat) (avp : Option Addr) (kvp : Nat), p ≤ (x.c k).prs.length ∧ i = .int .i64 p ∧ Hid (wr.ownsRow (wn.heap.size + 2) 123 6 (.slice avp p kvp) p (((x.c k).prs.take p).flatMap fP)) ∧ Hid (CB wn wr (x.c k) ap kp (.slice avp p kvp)) ∧ wn.heap.size + 2 ≤ wr.heap.size) (fun i _ => (x.c k).prs.length - (intOf i).toNat)
          case atStart => exact ⟨0, none, 0, Nat.zero_le _, rfl, World.ownsRow_nil _ _ _ _, unhide B0, by rw [unhide HZ2]; exact Nat.le_refl _⟩
          case round =>
            clear B0
            obtain ⟨p, avp, kvp, hp, rfl, hown, hcb, hsz⟩ := hrel
            by_cases hpt : p < (x.c k).prs.length
            · obtain ⟨bp, op, hap, q0, q1, q2, q3, q4, q5⟩ := unhide CP p hpt
              subst hap
              have XX := (unhide hcs).ex.trans (unhide hcb).ex
              have q0 := XX.keep q0
              have q1 := XX.keep q1
              have q2 := XX.keep q2
              have q3 := XX.keep q3
              have q4 := XX.keep q4
              have q5 := XX.keep q5
              have ETP := hide (show (x.c k).prs.take (p + 1) = (x.c k).prs.take p ++ [(x.c k).prs[p]] by rw [List.take_succ_eq_append_getElem hpt])
              obtain ⟨y, ey⟩ : ∃ y, y = (x.c k).prs[p] := ⟨_, rfl⟩
              rw [← ey] at q0 q1 q2 q3 q4 q5 ETP
              clear ey XX
              have hp0 : (0:Int) ≤ (p:Int) := by omega
              have hp1 : (p:Int) < ((x.c k).prs.length:Int) := by omega
              have hbp : bp < wr.heap.size := cell_lt q0
              have n7 := (unhide hcb).n7
              have f7 := (unhide hcb).f 7
              have hbn : wn.heap.size + 1 < wr.heap.size := cell_lt n7
              go_wp2_with (at_builtin; refine wpList_append_lies _ rfl _ _ 84 rfl (wn.heap.size + 2) 123 iq (.agg #[iv 0, iv 0, iv 0, iv 0, iv 0, iv 0]) 6 48 Tryz.underlying84 hiq hq0 hq1 hq2 rfl (by decide) _ p (((x.c k).prs.take p).flatMap fP) rfl (((unhide hown).alloc _).alloc _) _ 1 1 (fP y) rfl rfl ?c1 ?c2 (by decide) ?c3 ?c4 ?c5 _ rfl ?_)
              case c1 =>
                intro j u hj
                match j, hj with
                | 0, hj => simp [fP] at hj; subst hj; simp [go_sem]
                | 1, hj => simp [fP] at hj; subst hj; simp [go_sem]
                | 2, hj => simp [fP] at hj; subst hj; simp [go_sem]
                | 3, hj => simp [fP] at hj; subst hj; simp [go_sem]
                | 4, hj => simp [fP] at hj; subst hj; simp [go_sem]
                | 5, hj => simp [fP] at hj; subst hj; simp [go_sem]
              case c2 => intro u hu; simp [fP] at hu; rcases hu with e | e | e | e | e | e <;> subst e <;> first | rfl
              case c3 => unfold maxLen; omega
              case c4 => omega
              case c5 => simp; omega
              intro gb cap5 w5 hown5 hgrow hat hglt
              have xb := ((Ext.refl wr).alloc (.cells #[iv y.key.k, iv y.key.n, iv y.key.a, iv y.val.k, iv y.val.n, iv y.val.a] 123)).alloc (.cells #[iv y.key.k, iv y.key.n, iv y.key.a, iv y.val.k, iv y.val.n, iv y.val.a] 123)
              have BP := hide (CB.push ((unhide hcb).ext xb) (((unhide hown).alloc _).alloc _) (by omega) hgrow hown5)
              have eb : w5.heap[wn.heap.size + 1]? = wr.heap[wn.heap.size + 1]? := (hgrow.block (wn.heap.size + 1) (Nat.lt_of_lt_of_le hbn xb.size) (fun e => by have := ((unhide hown).lt _ e.symm).1; omega)).trans (xb.block _ hbn)
              have g5 := (World.cell?_of_block (a := ⟨wn.heap.size + 1, 7, none⟩) eb).trans n7
              have f5 := (World.frozen?_of_block (a := ⟨wn.heap.size + 1, 7, none⟩) eb).trans f7
              have hsz9 : wn.heap.size + 2 ≤ (w5.setCell ⟨wn.heap.size + 1, 7, none⟩ (.slice (some ⟨gb, 0, none⟩) (p + 1) cap5)).heap.size := by have h1 := hgrow.size; simp at h1; simp only [World.setCell, Array.size_modify]; omega
              clear hown5 hgrow hat xb eb
              go_wp2_with fail
              go_roundw
              case rel =>
                refine ⟨p + 1, some ⟨gb, 0, none⟩, cap5, hpt, by go_num, ?_, (unhide BP).2, hsz9⟩
                rw [unhide ETP, List.flatMap_append]
                refine hide ?_
                simpa using (unhide BP).1
              case measure => simp [intOf]; omega
            · have hp2 : p = (x.c k).prs.length := by omega
              subst hp2
              have CS1 := hide ((unhide hcs).ext (unhide hcb).ex)
              have c4 := (unhide CS1).bx.2.2.2.2.1
              have cf := (unhide CS1).fz 4
              obtain ⟨s0, s1, s2, s3, s4, s5, s6⟩ := (unhide hcb).n
              simp only [Nat.zero_add] at s1 s2 s3 s4 s5 s6
              have s7 := (unhide hcb).n7
              have hbn : wn.heap.size + 1 < wr.heap.size := cell_lt s7
              have hbg2 : w3.heap.size < wr.heap.size := cell_lt c4
              have HP := hide (show wr.ownsRow (wn.heap.size + 2) 123 6 (x.c k, Value.slice avp (x.c k).prs.length kvp).2 (x.c k, Value.slice avp (x.c k).prs.length kvp).1.prs.length ((x.c k, Value.slice avp (x.c k).prs.length kvp).1.prs.flatMap fP) by
                have := unhide hown
                rw [List.take_length] at this
                exact this)
              have ZN := hide (show (x.c k, Value.slice avp (x.c k).prs.length kvp).1 = x.cells[k] from (Hp.c_eq x k hlt).symm)
              have h67 : w6.heap.size ≤ wn.heap.size + 2 := by have := (unhide hcs).on.size; omega
              have h6r : w6.heap.size ≤ wr.heap.size := by omega
              have hvn := hide (show ∀ q, (Value.slice avc k kvc).ownBlock = some q → q < wn.heap.size + 2 from fun q e => by have := ((unhide hcs).own.lt q e).2; omega)
              have hvp := hide (show ∀ y, y ∈ L → ∀ q, y.2.ownBlock = some q → q < wn.heap.size + 2 from fun y hy q e => by have := (((unhide hcs).prs y hy).1.lt q e).2; omega)
              have nq : ¬ wn.heap.size + 1 = w3.heap.size := by have := (unhide hcs).on.size; omega
              have nq2 : ¬ w3.heap.size = wn.heap.size + 1 := by have := (unhide hcs).on.size; omega
              clear hpt hp
              go_wp2_with (at_builtin; refine wpList_append_lies _ rfl _ _ 31 rfl w6.heap.size 86 ic (.agg #[iv 0, iv 0, iv 0, iv 0, iv 0, iv 0, iv 0, .slice none 0 0]) 8 80 Tryz.underlying31 hic hc0 hc1 hc2 rfl (by decide) _ k (L.flatMap fC) rfl ((unhide CS1).own.alloc _) _ 1 1 (fC (x.c k, Value.slice avp (x.c k).prs.length kvp)) rfl rfl ?c1 ?c2 (by decide) ?c3 ?c4 ?c5 _ rfl ?_)
              case c1 =>
                intro j u hj
                match j, hj with
                | 0, hj => simp [fC] at hj; subst hj; simp [go_sem]
                | 1, hj => simp [fC] at hj; subst hj; simp [go_sem]
                | 2, hj => simp [fC] at hj; subst hj; simp [go_sem]
                | 3, hj => simp [fC] at hj; subst hj; simp [go_sem]
                | 4, hj => simp [fC] at hj; subst hj; simp [go_sem]
                | 5, hj => simp [fC] at hj; subst hj; simp [go_sem]
                | 6, hj => simp [fC] at hj; subst hj; simp [go_sem]
                | 7, hj => simp [fC] at hj; subst hj; simp [go_sem]
              case c2 => intro u hu; simp [fC] at hu; rcases hu with e | e | e | e | e | e | e | e <;> subst e <;> first | rfl
              case c3 => unfold maxLen; omega
              case c4 => omega
              case c5 => first | exact h6r | omega | (simp; omega)
              intro gb cap5 w5 hown5 hgrow hat hglt
              have xb := (Ext.refl wr).alloc (.cells #[iv (x.c k).st, iv (x.c k).kind, iv (x.c k).weak, iv (x.c k).last, iv (x.c k).born, iv (x.c k).color, iv (x.c k).to, .slice avp (x.c k).prs.length kvp] 86)
              have PU := hide (CS.push (g := gb) ((unhide CS1).ext xb) hlt (unhide ZN) hgrow hown5 rfl (by simpa using hat) (ownsRow_of_block (unhide HP) (fun q hq => xb.block q ((unhide HP).lt q hq).2)) h67 (unhide hvn) (unhide hvp))
              have eb : w5.heap[w3.heap.size]? = wr.heap[w3.heap.size]? := (hgrow.block w3.heap.size (Nat.lt_of_lt_of_le hbg2 xb.size) (fun e => by have := ((unhide CS1).own.lt _ e.symm).1; have := (unhide CS1).lt; omega)).trans (xb.block _ hbg2)
              have d4 := (World.cell?_of_block (a := ⟨w3.heap.size, 4, none⟩) eb).trans c4
              have df := (World.frozen?_of_block (a := ⟨w3.heap.size, 4, none⟩) eb).trans cf
              clear hown5 hgrow hat xb eb
              go_wp2_with fail
              go_roundw
              case rel => exact ⟨k + 1, some ⟨gb, 0, none⟩, cap5, _, hlt, by go_num, unhide PU⟩
              case measure => simp [intOf]; omega
        · have hk2 : k = x.cells.length := by omega
          subst hk2
          have CSE := hide (unhide hcs)
          have OWn := hide (show wn.ownsRow (w3.heap.size + 1) 90 3 (.slice av x.regs.length kv) x.regs.length (x.regs.flatMap fW) from ownsRow_of_block (unhide OW) (fun q hq => (unhide CSE).on.block q ((unhide OW).lt q hq).2 (by have := ((unhide OW).lt q hq).1; omega)))
          have g8 := (unhide CSE).bx.2.2.2.2.2.2.2.2.1
          have f8 := (unhide CSE).fz 8
          have hbgn : w3.heap.size < wn.heap.size := cell_lt g8
          have b8 := (unhide CSE).ex.keep (unhide BH).2.2.2.2.2.2.2.2.1
          have Q0 := hide (show HBox (wn.setCell ⟨w3.heap.size, 8, none⟩ (.slice none 0 0)) w3.heap.size x (.slice av x.regs.length kv) (.slice avc x.cells.length kvc) (.slice none 0 0) ∧ Nf1 w3.heap.size (wn.setCell ⟨w3.heap.size, 8, none⟩ (.slice none 0 0)) ∧ Only (fun q => q = w3.heap.size) wn (wn.setCell ⟨w3.heap.size, 8, none⟩ (.slice none 0 0)) from ⟨(unhide CSE).bx.set8 _, Nf1.set ⟨hbgn, (unhide CSE).fz⟩ _ _, Only.setCell (S := fun q => q = w3.heap.size) (Only.refl _ wn) (p := ⟨w3.heap.size, 8, none⟩) rfl _⟩)
          clear hcs hk hlt
          go_wp2_with fail
          clear g8 f8 b8
          go_loopw [64] (fun i wr => ∃ (k : Nat) (avg : Option Addr) (kvg : Nat), k ≤ x.gray.length ∧ i = .int .i64 k ∧ Hid (wr.ownsRow wn.heap.size 3 1 (.slice avg k kvg) k ((x.gray.take k).map iv)) ∧ Hid (HBox wr w3.heap.size x (.slice av x.regs.length kv) (.slice avc x.cells.length kvc) (.slice avg k kvg) ∧ Nf1 w3.heap.size wr ∧ Only (fun q => q = w3.heap.size) wn wr)) (fun i _ => x.gray.length - (intOf i).toNat)
          case atStart => exact ⟨0, none, 0, Nat.zero_le _, rfl, World.ownsRow_nil _ _ _ _, unhide Q0⟩
          case round =>
            clear Q0
            obtain ⟨k, avg, kvg, hk, rfl, hown, hbx⟩ := hrel
            have XR : Ext w3 wr := (unhide hbx).2.2.ext (unhide CSE).ex (fun q hq e => by omega)
            by_cases hlt : k < x.gray.length
            · obtain ⟨bg, og, hag, p0⟩ : ∃ bg og, ag = some ⟨bg, og, none⟩ ∧ InAt w3 bg (og + k * 1) x.gray[k] := by
                obtain ⟨ad, cap, e, _, hx⟩ := unhide SG
                simp only [Value.slice.injEq] at e
                rw [e.1]; exact hx k hlt
              subst hag
              have p0 := XR.keep p0
              rw [Nat.mul_one] at p0
              have g8 := (unhide hbx).1.2.2.2.2.2.2.2.2.1
              have f8 := (unhide hbx).2.1.2 8
              have hbg2 : w3.heap.size < wr.heap.size := cell_lt g8
              have hwn := (unhide hbx).2.2.size
              have hk0 : (0:Int) ≤ (k:Int) := by omega
              have hk1 : (k:Int) < (x.gray.length:Int) := by omega
              have ETK := hide (show x.gray.take (k + 1) = x.gray.take k ++ [x.gray[k]] by rw [List.take_succ_eq_append_getElem hlt])
              obtain ⟨y, ey⟩ : ∃ y, y = x.gray[k] := ⟨_, rfl⟩
              rw [← ey] at p0 ETK
              clear ey
              go_wp2_with (at_builtin; refine wpList_append_lies _ rfl _ _ 24 rfl wn.heap.size 3 ii (iv 0) 1 8 Tryz.underlying24 hii hi0 hi1 hi2 rfl (by decide) _ k ((x.gray.take k).map iv) rfl ((unhide hown).alloc _) _ 1 1 [iv y] rfl rfl ?c1 ?c2 (by decide) ?c3 ?c4 ?c5 _ rfl ?_)
              case c1 =>
                intro j u hj
                match j, hj with
                | 0, hj => simp at hj; subst hj; simp [go_sem]
              case c2 => intro u hu; simp at hu; subst hu; rfl
              case c3 => unfold maxLen; omega
              case c4 => omega
              case c5 => simp; omega
              intro gb cap5 w5 hown5 hgrow hat hglt
              have xb := (Ext.refl wr).alloc (.cells #[iv y] 3)
              have eb : w5.heap[w3.heap.size]? = wr.heap[w3.heap.size]? := (hgrow.block w3.heap.size (Nat.lt_of_lt_of_le hbg2 xb.size) (fun e => by have := ((unhide hown).lt _ e.symm).1; omega)).trans (xb.block _ hbg2)
              have g5 := (World.cell?_of_block (a := ⟨w3.heap.size, 8, none⟩) eb).trans g8
              have f5 := (World.frozen?_of_block (a := ⟨w3.heap.size, 8, none⟩) eb).trans f8
              have OW5 := hide (ownsRow_of_block (w' := w5.setCell ⟨w3.heap.size, 8, none⟩ (.slice (some ⟨gb, 0, none⟩) (k + 1) cap5)) hown5 (fun q hq => Below.heap_setCell _ _ _ _ (fun e => by have h1 := (hown5.lt q hq).1; have e : q = w3.heap.size := e; omega)))
              have HB := hide (show HBox (w5.setCell ⟨w3.heap.size, 8, none⟩ (.slice (some ⟨gb, 0, none⟩) (k + 1) cap5)) w3.heap.size x (.slice av x.regs.length kv) (.slice avc x.cells.length kvc) (.slice (some ⟨gb, 0, none⟩) (k + 1) cap5) ∧ Nf1 w3.heap.size (w5.setCell ⟨w3.heap.size, 8, none⟩ (.slice (some ⟨gb, 0, none⟩) (k + 1) cap5)) ∧ Only (fun q => q = w3.heap.size) wn (w5.setCell ⟨w3.heap.size, 8, none⟩ (.slice (some ⟨gb, 0, none⟩) (k + 1) cap5)) from
                ⟨((unhide hbx).1.block eb).set8 _, (nf1_block (unhide hbx).2.1 eb (Nat.le_trans xb.size hgrow.size)).set _ _, by
                  have on := (unhide hbx).2.2
                  refine Only.setCell (S := fun q => q = w3.heap.size) ?_ (p := ⟨w3.heap.size, 8, none⟩) rfl _
                  refine ⟨hgrow.os.trans on.os, hgrow.tape.trans on.tape, hgrow.output.trans on.output, Nat.le_trans on.size (Nat.le_trans xb.size hgrow.size), fun q hq hne => ?_⟩
                  have hq2 : q < wr.heap.size := Nat.lt_of_lt_of_le hq on.size
                  exact ((hgrow.block q (Nat.lt_of_lt_of_le hq2 xb.size) (fun e => by have := ((unhide hown).lt q e.symm).1; omega)).trans (xb.block q hq2)).trans (on.block q hq hne)⟩)
              clear hown5 hgrow hat xb eb
              go_wp2_with fail
              go_roundw
              case rel =>
                refine ⟨k + 1, some ⟨gb, 0, none⟩, cap5, hlt, by go_num, ?_, unhide HB⟩
                rw [unhide ETK, List.map_append]
                refine hide ?_
                simpa using unhide OW5
              case measure => simp [intOf]; omega
            · have hk2 : k = x.gray.length := by omega
              subst hk2
              have FIN := hide (show ∃ ar kr ac kc vg br bc pb pa pk role, GAt w.heap.size wr w3.heap.size x ar kr ac kc vg br bc pb pa pk role from by
                obtain ⟨br, bc, pb, pa, pk, role, h⟩ := GAt.start (B := w.heap.size) (unhide CSE) (unhide OWn) (unhide V6) h0 (by omega) (unhide hbx).2.2 (unhide hbx).1 (unhide hbx).2.1 (by have := unhide hown; rw [List.take_length] at this; exact this)
                exact ⟨_, _, _, _, _, br, bc, pb, pa, pk, role, h⟩)
              clear hown hbx
              go_wp2_with fail
              go_ret
              exact ⟨_, rfl, unhide FIN, X3.trans XR⟩
end Go.Proofs.YtkabcfhemljnbaaGreat

namespace Go.Proofs.YtkabcfhemljnbaaGreat
open Go.RowKit
attribute [local go_sem ↓] Go.wp_at_zero Go.wp_at_succ

/-! spec.l3shade. -/
def sshB (x : Hp) (y : Wd) : Bool := mkB x && (y.k == 2 && (x.c y.a.toNat).color == 0)
def sshH (x : Hp) (y : Wd) : Hp := if sshB x y = true then { x with cells := x.cells.set y.a.toNat (grayC (x.c y.a.toNat)), gray := x.gray ++ [y.a] } else x
theorem GAt.setc {B : Nat} {w w' : World} {g : Nat} {x : Hp} {ar : Option Addr} {kr : Nat} {ac : Option Addr} {kc : Nat} {vg : Value} {br bc : Nat} {pb : Nat → Nat} {pa : Nat → Option Addr} {pk : Nat → Nat} {role : Nat → Nat} {i : Nat} {c' : Cl} (h : GAt B w g x ar kr ac kc vg br bc pb pa pk role) (hi : i < x.cells.length) (hp : c'.prs = (x.c i).prs) (o : Only (fun q => q = bc) w w') (hs : S7 w' bc (i * 8) c') (ho : ∀ k, (k < i * 8 ∨ i * 8 + 7 ≤ k) → w'.cell? ⟨bc, k, none⟩ = w.cell? ⟨bc, k, none⟩) (nf : Nf1 bc w') :
    GAt B w' g { x with cells := x.cells.set i c' } ar kr ac kc vg br bc pb pa pk role := by
  have hn : 0 < x.cells.length := by omega
  have far : ∀ q, q < w.heap.size → role q ≠ 3 → w'.heap[q]? = w.heap[q]? := fun q hq hr => o.block q hq (fun e => hr (by rw [e]; exact h.sp.c hn))
  have hl : ({ x with cells := x.cells.set i c' } : Hp).cells.length = x.cells.length := by simp
  have hc := Hp.c_set x i c' hi
  have hpr : ∀ q, (({ x with cells := x.cells.set i c' } : Hp).c q).prs = (x.c q).prs := fun q => by
    rw [hc q]; by_cases e : q = i
    · rw [if_pos e, hp, e]
    · rw [if_neg e]
  have fg := far g h.nf.1 (by rw [h.sp.g]; omega)
  have pf : ∀ q, q < x.cells.length → 0 < (x.c q).prs.length → w'.heap[pb q]? = w.heap[pb q]? := fun q hq hl => far (pb q) (h.rw.pl q hq hl).2.1.1 (by rw [h.sp.p q hq hl]; omega)
  refine ⟨?_, nf1_block h.nf fg o.size, h.lo, h.ha, fun _ => h.hc hn, ⟨fun k hk => ?_, fun q hq => ?_, fun q hq => ?_, fun q hq k hk => ?_, fun q hq hlq => ?_, fun hr => ⟨nf1_block (h.rw.nr hr).1 (far br (h.rw.nr hr).1.1 (by rw [h.sp.r hr]; omega)) o.size, (h.rw.nr hr).2⟩, fun _ => ⟨nf, (h.rw.nc hn).2⟩, fun _ => h.rw.d hn, fun q q' hq hq' hne h1 h2 => ?_⟩, h.gr.block (fun q hq => far q (h.gr.lt q hq).2 (by rw [h.sp.y q hq]; omega)), ⟨h.sp.g, h.sp.r, fun _ => h.sp.c hn, h.sp.y, fun q hq hlq => ?_⟩, by rw [hl]; exact h.kl⟩
  · rw [hl]; exact (h.bx.block fg)
  · exact (h.rw.r k hk).of fun j _ => World.cell?_of_block (a := ⟨br, _, none⟩) (far br (h.rw.nr (by have : k < x.regs.length := hk; omega)).1.1 (by rw [h.sp.r (by have : k < x.regs.length := hk; omega)]; omega))
  · rw [hl] at hq
    rw [hc q]
    by_cases e : q = i
    · subst e; rw [if_pos rfl]; exact hs
    · rw [if_neg e]; exact (h.rw.s q hq).of fun j hj => ho _ (by omega)
  · rw [hl] at hq
    rw [hpr q, ho _ (by omega)]; exact h.rw.p7 q hq
  · rw [hl] at hq
    have e2 : (({ x with cells := x.cells.set i c' } : Hp).c q).p k = (x.c q).p k := by simp only [Cl.p, hpr q]
    rw [hpr q] at hk
    rw [e2]
    exact (h.rw.p q hq k hk).of fun j _ => World.cell?_of_block (a := ⟨pb q, _, none⟩) (pf q hq (by omega))
  · rw [hl] at hq; rw [hpr q] at hlq
    obtain ⟨a1, a2, a3⟩ := h.rw.pl q hq hlq
    exact ⟨a1, nf1_block a2 (pf q hq hlq) o.size, a3⟩
  · rw [hl] at hq hq'; rw [hpr] at h1 h2; exact h.rw.dp q q' hq hq' hne h1 h2
  · rw [hl] at hq; rw [hpr q] at hlq; exact h.sp.p q hq hlq
/-- something was appended to the gray ones -/
theorem GAt.push {B : Nat} {W w5 : World} {g : Nat} {x : Hp} {ar : Option Addr} {kr : Nat} {ac : Option Addr} {kc : Nat} {vg : Value} {br bc : Nat} {pb : Nat → Nat} {pa : Nat → Option Addr} {pk : Nat → Nat} {role : Nat → Nat} {i : Int} {gb go cap : Nat} (h : GAt B W g x ar kr ac kc vg br bc pb pa pk role) (hg : W.grownBy w5 vg.ownBlock) (h5 : Grw w5 B (.slice (some ⟨gb, go, none⟩) (x.gray.length + 1) cap) (x.gray ++ [i])) (hat : vg.ownBlock = some gb ∨ gb = W.heap.size) :
    GAt B (w5.setCell ⟨g, 8, none⟩ (.slice (some ⟨gb, go, none⟩) (x.gray.length + 1) cap)) g { x with gray := x.gray ++ [i] } ar kr ac kc (.slice (some ⟨gb, go, none⟩) (x.gray.length + 1) cap) br bc pb pa pk (fun q => if q = gb then 4 else role q) := by
  have hgb : ∀ q, q < W.heap.size → role q ≠ 4 → q ≠ gb := fun q hq hr e => by
    rcases hat with a | a
    · exact hr (by rw [e]; exact h.sp.y gb a)
    · omega
  have far : ∀ q, q < W.heap.size → role q ≠ 4 → w5.heap[q]? = W.heap[q]? := fun q hq hr => hg.block q hq (fun e => hr (h.sp.y q e.symm))
  have hb := h.nf.1
  have rb : role g ≠ 4 := by rw [h.sp.g]; omega
  have fb := far g hb rb
  have nbg := hgb g hb rb
  have far2 : ∀ q, q < W.heap.size → role q ≠ 4 → q ≠ g → (w5.setCell ⟨g, 8, none⟩ (.slice (some ⟨gb, go, none⟩) (x.gray.length + 1) cap)).heap[q]? = W.heap[q]? := fun q hq hr hne => (Below.heap_setCell _ _ _ _ hne).trans (far q hq hr)
  have hsz : W.heap.size ≤ (w5.setCell ⟨g, 8, none⟩ (.slice (some ⟨gb, go, none⟩) (x.gray.length + 1) cap)).heap.size := by have := hg.size; simpa [World.setCell] using this
  have rw2 := h.rw.same hsz (fun hl => far2 br (h.rw.nr hl).1.1 (by rw [h.sp.r hl]; omega) (fun e => by have h1 := h.sp.r hl; have h2 := h.sp.g; rw [e] at h1; omega)) (fun hl => far2 bc (h.rw.nc hl).1.1 (by rw [h.sp.c hl]; omega) (fun e => by have h1 := h.sp.c hl; have h2 := h.sp.g; rw [e] at h1; omega)) (fun q hq hl => far2 (pb q) (h.rw.pl q hq hl).2.1.1 (by rw [h.sp.p q hq hl]; omega) (fun e => by have h1 := h.sp.p q hq hl; have h2 := h.sp.g; rw [e] at h1; omega))
  refine ⟨(h.bx.block fb).set8 _, (nf1_block h.nf fb hg.size).set _ _, h.lo, h.ha, h.hc, ⟨rw2.r, rw2.s, rw2.p7, rw2.p, rw2.pl, rw2.nr, rw2.nc, rw2.d, rw2.dp⟩, ?_, ⟨?_, fun hl => ?_, fun hl => ?_, fun q hq => ?_, fun q hq hl => ?_⟩, h.kl⟩
  · exact h5.block (w' := w5.setCell ⟨g, 8, none⟩ (.slice (some ⟨gb, go, none⟩) (x.gray.length + 1) cap)) (fun q hq => Below.heap_setCell _ _ _ _ (fun e => nbg (by simp [Value.ownBlock] at hq; rw [hq]; exact e.symm)))
  · rw [if_neg nbg]; exact h.sp.g
  · rw [if_neg (hgb br (h.rw.nr hl).1.1 (by rw [h.sp.r hl]; omega))]; exact h.sp.r hl
  · rw [if_neg (hgb bc (h.rw.nc hl).1.1 (by rw [h.sp.c hl]; omega))]; exact h.sp.c hl
  · simp [Value.ownBlock] at hq; rw [if_pos hq.symm]
  · rw [if_neg (hgb (pb q) (h.rw.pl q hq hl).2.1.1 (by rw [h.sp.p q hq hl]; omega))]; exact h.sp.p q hq hl

theorem l3marking_any (x : Hp) (b : Nat) (w : World) (c5 : w.cell? ⟨b, 5, none⟩ = some (iv x.phase)) :
    Calls Tryz.prog 120 #[.pointer (some ⟨b, 0, none⟩)] w fun e w' => e = .returned (.bool (mkB x)) ∧ w' = w := by
  cases q : (x.phase == 1)
  · have E := hide (show mkB x = (x.phase == 2) by simp [mkB, q])
    go_enter Tryz.func120, Tryz.ntmps120
    go_wp2_with fail
    go_ret
    exact ⟨by rw [unhide E]; rfl, rfl⟩
  · have E := hide (show mkB x = true by simp [mkB, q])
    go_enter Tryz.func120, Tryz.ntmps120
    go_wp2_with fail
    go_ret
    exact ⟨by rw [unhide E]; rfl, rfl⟩
end Go.Proofs.YtkabcfhemljnbaaGreat

namespace Go.Proofs.YtkabcfhemljnbaaGreat
open Go.RowKit
attribute [local go_sem ↓] Go.wp_at_zero Go.wp_at_succ

theorem drewN_block (w : World) (n k : Nat) : (w.drewN n).heap[k]? = w.heap[k]? := by
  rcases Nat.lt_or_ge k w.heap.size with h | h
  · exact ((Ext.refl w).drewN n).block k h
  · rw [Array.getElem?_eq_none h, Array.getElem?_eq_none (by have : (w.drewN n).heap.size = w.heap.size := (by simp); omega)]
set_option maxRecDepth 100000 in
set_option maxHeartbeats 4000000 in
theorem l3shade_fr {B : Nat} {g : Nat} {x : Hp} {ar : Option Addr} {kr : Nat} {ac : Option Addr} {kc : Nat} {ag : Option Addr} {kg : Nat} {br bc : Nat} {pb : Nat → Nat} {pa : Nat → Option Addr} {pk : Nat → Nat} {role : Nat → Nat} (y : Wd) (w : World) (h : GAt B w g x ar kr ac kc (.slice ag x.gray.length kg) br bc pb pa pk role) (hy : y.k = 2 → 0 ≤ y.a ∧ y.a < x.cells.length) (n2 : x.cells.length ≤ 8000) (n4 : x.gray.length ≤ 8000) (a : World) (ha : a.heap.size ≤ B) (hx : Ext a w) (hB : B ≤ w.heap.size) :
    Calls Tryz.prog 73 #[.pointer (some ⟨g, 0, none⟩), y.v] w fun e w' => e = .returned (.bool (sshB x y)) ∧ Hid (∃ ag' kg' role', GAt B w' g (sshH x y) ar kr ac kc (.slice ag' (sshH x y).gray.length kg') br bc pb pa pk role') ∧ Ext a w' ∧ Hid (∀ q, q < w.heap.size → q ≠ g → q ≠ bc → (∀ b o n, ag = some ⟨b, o, n⟩ → b ≠ q) → w'.heap[q]? = w.heap[q]?) := by
  obtain ⟨w1, hw1⟩ : ∃ W, W = w.alloc (.cells #[iv y.k, iv y.n, iv y.a] 90) := ⟨_, rfl⟩
  have xa : Ext w w1 := by rw [hw1]; exact (Ext.refl w).alloc _
  have FR1 := hide (show ∀ n q, q < w.heap.size → (w1.drewN n).heap[q]? = w.heap[q]? from fun n q hq => (xa.trans ((Ext.refl w1).drewN n)).block q hq)
  have H := hide (h.ext xa)
  have hgw : g < w.heap.size := cell_lt h.bx.1
  have X1 := hide (hx.trans xa)
  have d5 := (unhide H).bx.2.2.2.2.2.1
  have y0 : w1.cell? ⟨w.heap.size, 0, none⟩ = some (iv y.k) := by rw [hw1]; simp [go_sem]
  have y2 : w1.cell? ⟨w.heap.size, 2, none⟩ = some (iv y.a) := by rw [hw1]; simp [go_sem]
  have hw1s : w.heap.size < w1.heap.size := cell_lt y0
  have MK := hide (fun n r (hr : mkB x = r) => show Calls Tryz.prog 120 #[.pointer (some ⟨g, 0, none⟩)] (w1.drewN n) (fun e w' => e = .returned (.bool r) ∧ w' = w1.drewN n) from hr ▸ l3marking_any x g (w1.drewN n) (((Ext.refl w1).drewN n).keep d5))
  cases q1 : mkB x
  · have E := hide (show sshB x y = false ∧ sshH x y = x by simp [sshH, sshB, q1])
    clear h d5
    go_enter Tryz.func73, Tryz.ntmps73
    go_wp2_with fail
    rw [← hw1]
    clear hw1
    go_quiet ((go_at_call 120; exact Calls.quiet_of_same (unhide MK _ _ q1)))
    go_wp2_with fail
    go_ret
    exact ⟨by rw [(unhide E).1]; rfl, by rw [(unhide E).2]; exact ⟨_, _, _, (unhide H).ext ((Ext.refl w1).drewN _)⟩, (unhide X1).drewN _, fun q hq _ _ _ => unhide FR1 _ q hq⟩
  · cases q2 : (y.k == 2)
    · have E := hide (show sshB x y = false ∧ sshH x y = x by simp [sshH, sshB, q2])
      have q2n : (y.k != 2) = true := by simpa using q2
      clear h d5
      go_enter Tryz.func73, Tryz.ntmps73
      go_wp2_with fail
      rw [← hw1]
      clear hw1
      go_quiet ((go_at_call 120; exact Calls.quiet_of_same (unhide MK _ _ q1)))
      go_wp2_with fail
      go_ret
      exact ⟨by rw [(unhide E).1]; rfl, by rw [(unhide E).2]; exact ⟨_, _, _, (unhide H).ext ((Ext.refl w1).drewN _)⟩, (unhide X1).drewN _, fun q hq _ _ _ => unhide FR1 _ q hq⟩
    · have q2n : (y.k != 2) = false := by simpa using q2
      obtain ⟨i, hi⟩ : ∃ i : Nat, y.a = (i : Int) := ⟨y.a.toNat, by have := (hy (by simpa using q2)).1; omega⟩
      have hin : i < x.cells.length := by have := (hy (by simpa using q2)).2; omega
      have hn : 0 < x.cells.length := by omega
      have hi2 : y.a.toNat = i := by omega
      rw [hi] at y2
      have d4 := (unhide H).bx.2.2.2.2.1
      rw [(unhide H).hc hn] at d4
      have s5 := ((unhide H).rw.s i hin).2.2.2.2.2.1
      have f5 := ((unhide H).rw.nc hn).1.2 (i * 8 + 5)
      have hbc : bc < w1.heap.size := cell_lt s5
      have hbcw : bc < w.heap.size := (h.rw.nc hn).1.1
      have i0 : (0:Int) ≤ (i:Int) := by omega
      have i1 : (i:Int) < (x.cells.length:Int) := by omega
      cases q3 : ((x.c i).color == 0)
      · have E := hide (show sshB x y = false ∧ sshH x y = x by simp [sshH, sshB, hi2, q3])
        have q3n : ((x.c i).color != 0) = true := by simpa using q3
        clear h d5 hi hi2
        go_enter Tryz.func73, Tryz.ntmps73
        go_wp2_with fail
        rw [← hw1]
        clear hw1
        go_quiet ((go_at_call 120; exact Calls.quiet_of_same (unhide MK _ _ q1)))
        go_wp2_with fail
        go_ret
        exact ⟨by rw [(unhide E).1]; rfl, by rw [(unhide E).2]; exact ⟨_, _, _, (unhide H).ext ((Ext.refl w1).drewN _)⟩, (unhide X1).drewN _, fun q hq _ _ _ => unhide FR1 _ q hq⟩
      · have q3n : ((x.c i).color != 0) = false := by simpa using q3
        have E := hide (show sshB x y = true ∧ sshH x y = { x with cells := x.cells.set i (grayC (x.c i)), gray := x.gray ++ [(i : Int)] } by
          have hb : sshB x y = true := by simp [sshB, hi2, q1, q2, q3]
          refine ⟨hb, ?_⟩
          unfold sshH
          rw [if_pos hb, hi2, hi])
        clear h d5 hi hi2
        go_enter Tryz.func73, Tryz.ntmps73
        go_wp2_with fail
        rw [← hw1]
        clear hw1
        go_quiet ((go_at_call 120; exact Calls.quiet_of_same (unhide MK _ _ q1)))
        go_wp2_with fail
        go_region
        all_goals
          go_wp2_with fail
          obtain ⟨w2, hw2⟩ : ∃ W, W = (w1.drewN (nq + 1)).setCell ⟨bc, i * 8 + 5, none⟩ (.int .i64 1) := ⟨_, rfl⟩
          have HD := hide ((unhide H).ext ((Ext.refl w1).drewN (nq + 1)))
          have G2 := hide (show GAt B w2 g { x with cells := x.cells.set i (grayC (x.c i)) } ar kr ac kc (.slice ag x.gray.length kg) br bc pb pa pk role by
            rw [hw2]
            refine (unhide HD).setc hin rfl (Only.setCell (S := fun q => q = bc) (Only.refl _ (w1.drewN (nq + 1))) (p := ⟨bc, i * 8 + 5, none⟩) rfl _) ?_ (fun k hk => cell_other _ (.inr (by omega))) (((unhide HD).rw.nc hn).1.set _ _)
            obtain ⟨a0, a1, a2, a3, a4, a5, a6⟩ := (unhide HD).rw.s i hin
            refine ⟨?_, ?_, ?_, ?_, ?_, World.cell?_setCell_same _ _ _ a5, ?_⟩
            · rw [cell_other _ (.inr (by omega))]; exact a0
            · rw [cell_other _ (.inr (by omega))]; exact a1
            · rw [cell_other _ (.inr (by omega))]; exact a2
            · rw [cell_other _ (.inr (by omega))]; exact a3
            · rw [cell_other _ (.inr (by omega))]; exact a4
            · rw [cell_other _ (.inr (by omega))]; exact a6)
          have X2 : Ext a w2 := by rw [hw2]; exact ((unhide X1).drewN _).setCell (show a.heap.size ≤ bc from Nat.le_trans ha ((unhide H).rw.nc hn).2) _
          have z2 : w2.cell? ⟨w.heap.size, 2, none⟩ = some (iv i) := by
            rw [hw2, cell_other _ (.inl (by omega))]
            exact ((Ext.refl w1).drewN (nq + 1)).keep y2
          have c8 := (unhide G2).bx.2.2.2.2.2.2.2.2.1
          have f8 := (unhide G2).nf.2 8
          have hg2 : g < w2.heap.size := cell_lt c8
          have hB2 : B ≤ w2.heap.size := by have h1 : w2.heap.size = w1.heap.size := (by rw [hw2]; simp [World.setCell]); omega
          have ng1 : ¬ g = w.heap.size := by omega
          have ng2 : ¬ w.heap.size = g := by omega
          obtain ⟨ii, hii, hi0, hi1, hi2⟩ := info_parts infoInts
          have FR2 := hide (show ∀ q, q < w.heap.size → q ≠ bc → w2.heap[q]? = w.heap[q]? ∧ q < w2.heap.size from fun q hq hne => ⟨by rw [hw2, Below.heap_setCell _ _ _ _ hne]; exact unhide FR1 _ q hq, by have h1 : w2.heap.size = w1.heap.size := (by rw [hw2]; simp [World.setCell]); omega⟩)
          rw [← hw2]
          clear hw2 HD
          have GRX := hide (show ∀ W, Ext w2 W → Grw W B (.slice ag x.gray.length kg) x.gray from fun W e => (unhide G2).gr.block (fun q hq => e.block q ((unhide G2).gr.lt q hq).2))
          go_region_law (refine step_app1 _ rfl _ _ 24 rfl ii (iv 0) B (.slice ag x.gray.length kg) x.gray Tryz.underlying24 hii hi0 hi1 hi2 rfl (by first | rfl | simp [Act.eval, Act.put]) (by first | exact unhide GRX _ ((Ext.refl w2).alloc _) | exact unhide GRX _ ((Ext.refl w2).alloc _).drew | exact unhide GRX _ ((Ext.refl w2).drew.alloc _)) _ 1 i (by first | rfl | simp [Act.eval, Act.put]; rfl) (by simp [go_sem]) (by omega) (by simp; omega) ?_; intro gb go cap w3 hown hgrow hat hglt; have xb := Ext.trans ((Ext.refl w2).alloc (.cells #[iv i] 3)) ((Ext.refl (w2.alloc (.cells #[iv i] 3))).drew); have R := hide (((unhide G2).ext xb).push hgrow hown (by simpa using hat)); have eb : w3.heap[g]? = w2.heap[g]? := (hgrow.block g (by simp; omega) (fun e => by have h1 := (unhide G2).sp.y _ e.symm; have h2 := (unhide G2).sp.g; omega)).trans (xb.block g hg2); have e8 := (World.cell?_of_block (a := ⟨g, 8, none⟩) eb).trans c8; have ff8 := (World.frozen?_of_block (a := ⟨g, 8, none⟩) eb).trans f8; have X3 := hide (show Ext a (w3.setCell ⟨g, 8, none⟩ (.slice (some ⟨gb, go, none⟩) (x.gray.length + 1) cap)) from (Below.trans (X2.trans xb) ⟨hgrow.os, hgrow.tape, hgrow.output, hgrow.size, fun k hk => hgrow.block k (Nat.lt_of_lt_of_le hk (X2.trans xb).size) (fun e => by have := ((unhide G2).gr.lt k e.symm).1; omega)⟩).setCell (Nat.le_trans ha (unhide G2).lo) _); have FR3 := hide (show ∀ q, q < w.heap.size → q ≠ g → q ≠ bc → (∀ b o n, ag = some ⟨b, o, n⟩ → b ≠ q) → (w3.setCell ⟨g, 8, none⟩ (.slice (some ⟨gb, go, none⟩) (x.gray.length + 1) cap)).heap[q]? = w.heap[q]? from fun q hq h1 h2 h3 => (Below.heap_setCell _ _ _ _ h1).trans ((hgrow.block q (by have := (unhide FR2 q hq h2).2; simp; omega) (fun e => by cases ag with | none => simp [Value.ownBlock] at e | some ad => obtain ⟨b, o, n⟩ := ad; simp [Value.ownBlock] at e; exact h3 b o n rfl e.symm)).trans ((xb.block q (unhide FR2 q hq h2).2).trans (unhide FR2 q hq h2).1))); clear hown hgrow hat eb xb)
          all_goals
            go_wp2_with fail
            go_ret
            exact ⟨by rw [(unhide E).1]; rfl, by rw [(unhide E).2]; exact ⟨some ⟨gb, go, none⟩, cap, _, by rw [List.length_append]; exact unhide R⟩, unhide X3, unhide FR3⟩
theorem l3shade_any {B : Nat} {g : Nat} {x : Hp} {ar : Option Addr} {kr : Nat} {ac : Option Addr} {kc : Nat} {ag : Option Addr} {kg : Nat} {br bc : Nat} {pb : Nat → Nat} {pa : Nat → Option Addr} {pk : Nat → Nat} {role : Nat → Nat} (y : Wd) (w : World) (h : GAt B w g x ar kr ac kc (.slice ag x.gray.length kg) br bc pb pa pk role) (hy : y.k = 2 → 0 ≤ y.a ∧ y.a < x.cells.length) (n2 : x.cells.length ≤ 8000) (n4 : x.gray.length ≤ 8000) (a : World) (ha : a.heap.size ≤ B) (hx : Ext a w) (hB : B ≤ w.heap.size) :
    Calls Tryz.prog 73 #[.pointer (some ⟨g, 0, none⟩), y.v] w fun e w' => e = .returned (.bool (sshB x y)) ∧ Hid (∃ ag' kg' role', GAt B w' g (sshH x y) ar kr ac kc (.slice ag' (sshH x y).gray.length kg') br bc pb pa pk role') ∧ Ext a w' :=
  (l3shade_fr y w h hy n2 n4 a ha hx hB).mono fun _ _ ⟨h1, h2, h3, _⟩ => ⟨h1, h2, h3⟩
end Go.Proofs.YtkabcfhemljnbaaGreat
