import Derived.Test.YtkabcfhemljnbaaGreatGx
import Derived.Test.YtkabcfhemljnbaaGreatRes
import Derived.Deep.RegionWith
import Derived.Deep.DeepCutAuto
namespace Go.Proofs.YtkabcfhemljnbaaGreat
open Go.RowKit
attribute [local go_sem ↓] Go.wp_at_zero Go.wp_at_succ

/-- the used cells among the first k that the sweep has left -/
def keptTo (x : Hp) (k : Nat) : List Nat := (List.range k).filter (fun i => (x.c i).st == 1 && sweptB x i)
theorem keptTo_no {x : Hp} {k : Nat} (h : ((x.c k).st == 1 && sweptB x k) = false) : keptTo x (k + 1) = keptTo x k := by
  unfold keptTo; rw [List.range_succ, List.filter_append, List.filter_cons_of_neg (by simp [h]), List.filter_nil, List.append_nil]
theorem keptTo_yes {x : Hp} {k : Nat} (h : ((x.c k).st == 1 && sweptB x k) = true) : keptTo x (k + 1) = keptTo x k ++ [k] := by
  unfold keptTo; rw [List.range_succ, List.filter_append, List.filter_cons_of_pos (by simpa using h), List.filter_nil]
theorem keptTo_len (x : Hp) (k : Nat) : (keptTo x k).length ≤ k := by
  have := List.length_filter_le (fun i => (x.c i).st == 1 && sweptB x i) (List.range k)
  simpa [keptTo] using this
theorem slI_nth {w : World} {xs : List Int} {ad : Option Addr} {n cap : Nat} (h : SlI w (.slice ad n cap) xs) (k : Nat) (hk : k < xs.length) : ∃ b o, ad = some ⟨b, o, none⟩ ∧ InAt w b (o + k * 1) xs[k] := by
  obtain ⟨ad2, cap2, e, _, hx⟩ := h
  simp only [Value.slice.injEq] at e
  rw [e.1]; exact hx k hk
theorem infoNodeQ : (Tryz.prog.info? 103).map (fun i => (i.zero, i.size, i.bytes)) = some (some (.pointer none), 1, 8) := by kernel_rfl
/-- a store of the heap x, from B on -/
def SOwn (B : Nat) (w : World) (s : Nat) (x : Hp) : Prop := ∃ ar kr a4 n4 k4 a8 n8 k8 br bc bn pb pa pk kn hd vf F vk role, SAt B w s x ar kr (.slice a4 n4 k4) (.slice a8 n8 k8) br bc bn pb pa pk kn hd vf F vk (keptTo x x.cells.length) role ∧ Ho F ∧ F.Perm (frees x x.cells.length) ∧ 2 * x.room ≤ (kn : Int)

set_option maxRecDepth 100000 in
set_option maxHeartbeats 4000000 in
theorem owned_any (x : Hp) (b : Nat) (w : World) {ar : Option Addr} {kr : Nat} {ac : Option Addr} {kc : Nat} {ag : Option Addr} {kg : Nat} {an : Option Addr} {kn : Nat} (h : VAt w b x ar kr ac kc ag kg an kn) (r1 : R1 x) (r2 : R2 x) (r5 : R5 x) (hg4 : x.gray.length ≤ 4000) :
    Calls Tryz.prog 75 #[.pointer (some ⟨b, 0, none⟩)] w fun e w' => ∃ s, e = .returned (.pointer (some ⟨s, 0, none⟩)) ∧ Hid (SOwn w.heap.size w' s x) ∧ Ext w w' := by
  have hn8 : x.cells.length ≤ 8000 := by have := r1.room; have := r1.cells; omega
  have n1 : x.regs.length ≤ 1048576 := by rw [r1.regs]; omega
  have h200 := prs200 r2
  have SR := hide (show SlW w (.slice ar x.regs.length kr) x.regs from ⟨ar, kr, rfl, h.H.lr, h.H.R⟩)
  have SC := hide (show SlC w (.slice ac x.cells.length kc) x.cells from ⟨ac, kc, rfl, h.H.lc, fun i hi => by obtain ⟨b', o, e, q⟩ := h.H.C i hi; rw [← Hp.c_eq x i hi] at q; exact ⟨b', o, e, q⟩⟩)
  have SG := hide (show SlI w (.slice ag x.gray.length kg) x.gray from ⟨ag, kg, rfl, h.H.lg, h.H.G⟩)
  have HH := hide h
  have c0 := h.H.c0
  have c1 := h.H.c1
  have c2 := h.H.c2
  have c3 := h.H.c3
  have c4 := h.H.c4
  have c5 := h.H.c5
  have c6 := h.H.c6
  have c7 := h.H.c7
  have c8 := h.H.c8
  have c9 := h.H.c9
  have c10 := h.H.c10
  have c11 := h.H.c11
  have c12 := h.H.c12
  have Q1 := hide r1
  have G5 := hide r5.2.2
  have C8 := hide c8
  have C0 := hide c0
  have hr0 : 0 < x.regs.length := by rw [r1.regs]; omega
  obtain ⟨i0, hi0, hy0, hy1, hy2⟩ := info_parts infoNodeQ
  clear h r1 r2 r5
  go_enter Tryz.func75, Tryz.ntmps75
  go_wp2_with fail
  refine (copied_any x ag x.gray.length kg w (unhide SR) (unhide SC) n1 hn8 h200).mono ?_
  rintro e w1 ⟨vr, vc, rfl, hown, x1⟩
  obtain ⟨br, bc, pb, pa, pk, ar1, kr1, ac1, kc1, rfl, har, rfl, hac, hrw⟩ := unhide hown
  have RW := hide hrw
  have HAR := hide har
  have HAC := hide hac
  clear hown hrw har hac c0 c1 c2 c3 c4 c5 c6 c7 c8 c9 c10 c11 c12
  go_wp2_with fail
  refine (open_own x _ ((unhide RW).slW kr1 (unhide HAR) n1) ((unhide RW).slC kc1 (unhide HAC) (by omega) h200) (SlI.ext x1 (unhide SG))).mono ?_
  rintro e w2 ⟨b2, rfl, x2, hor⟩
  obtain ⟨bx, bn, vf, F, hop⟩ : ∃ bx bn vf F, Opn w1 w2 x bx b2 bn x.cells.length x.cells.length ar1 kr1 ac1 kc1 ag kg vf F := by
    rcases unhide hor with ⟨hn, _⟩ | ⟨_, q⟩
    · exact absurd (unhide Q1) hn
    · exact q
  have OP := hide hop
  have d0 := hop.c 0 _ rfl
  have d1 := hop.c 1 _ rfl
  have d2 := hop.c 2 _ rfl
  have d3 := hop.c 3 _ rfl
  have d4 := hop.c 4 _ rfl
  have d5 := hop.c 5 _ rfl
  have d6 := hop.c 6 _ rfl
  have d7 := hop.c 7 _ rfl
  have d8 := hop.c 8 _ rfl
  have d9 := hop.c 9 _ rfl
  have d10 := hop.c 10 _ rfl
  have d11 := hop.c 11 _ rfl
  have d12 := hop.c 12 _ rfl
  have d13 := hop.n13
  obtain ⟨avf, kvf, hvf⟩ : ∃ a k, vf = .slice a F.length k := ⟨_, _, (own_form hop.f.own).1⟩
  subst hvf
  have d14 := hop.f.hd
  obtain ⟨role0, hst⟩ := SAt.start (T := 109) (unhide OP) (unhide RW) x1.size (unhide HAR) (unhide HAC) hr0 (stZ_at Tryz.zeroCells109 (iv x.room) (iv x.used) (iv x.born) (.slice ar1 x.regs.length kr1) (.slice ac1 x.cells.length kc1) (iv x.phase) (iv x.hand) (iv x.sub) (.slice ag x.gray.length kg) (iv x.per) (iv x.start) (iv x.rounds) (iv x.forced) (.slice (some ⟨bn, 0, none⟩) x.cells.length x.cells.length) (.slice avf F.length kvf) zeroStore.1 zeroStore.2.1 zeroStore.2.2.1 zeroStore.2.2.2)
  have ST := hide hst
  have e8 : w2.cell? ⟨b, 8, none⟩ = some (.slice ag x.gray.length kg) := x2.keep (x1.keep (unhide C8))
  have hb2 : b < w2.heap.size := cell_lt e8
  clear hor hop hst
  go_wp2_with fail
  obtain ⟨W3, hW3⟩ : ∃ W, W = w2.alloc (.cells (((((((((((((((Tryz.zeroCells109.setIfInBounds 0 (iv x.room)).setIfInBounds 1 (iv x.used)).setIfInBounds 2 (iv x.born)).setIfInBounds 3 (.slice ar1 x.regs.length kr1)).setIfInBounds 4 (.slice ac1 x.cells.length kc1)).setIfInBounds 5 (iv x.phase)).setIfInBounds 6 (iv x.hand)).setIfInBounds 7 (iv x.sub)).setIfInBounds 8 (.slice ag x.gray.length kg)).setIfInBounds 9 (iv x.per)).setIfInBounds 10 (iv x.start)).setIfInBounds 11 (iv x.rounds)).setIfInBounds 12 (iv x.forced)).setIfInBounds 13 (.slice (some ⟨bn, 0, none⟩) x.cells.length x.cells.length)).setIfInBounds 14 (.slice avf F.length kvf)) 109) := ⟨_, rfl⟩
  have ST3 := hide (show SAt w.heap.size W3 w2.heap.size { x with gray := [] } ar1 kr1 (.slice ac1 x.cells.length kc1) (.slice ag x.gray.length kg) br bc bn pb pa pk x.cells.length 0 (.slice avf F.length kvf) F (.slice none 0 0) [] role0 by rw [hW3]; exact unhide ST)
  have X3 : Ext w W3 := by rw [hW3]; exact (x1.trans x2).alloc _
  rw [← hW3]
  have FF := hide (And.intro (unhide OP).fo (unhide OP).fp)
  clear hW3 ST OP d0 d1 d2 d3 d4 d5 d6 d7 d8 d9 d10 d11 d12 d13 d14 e8 hb2
  have n13 := (unhide ST3).sb.n13
  have e0 : W3.cell? ⟨b, 0, none⟩ = some (iv x.room) := X3.keep (unhide C0)
  have e8 : W3.cell? ⟨b, 8, none⟩ = some (.slice ag x.gray.length kg) := X3.keep (unhide C8)
  obtain ⟨m, hm⟩ : ∃ m : Nat, 2 * x.room - (x.cells.length : Int) = (m : Int) := ⟨(2 * x.room - (x.cells.length : Int)).toNat, by have := (unhide Q1).cells; omega⟩
  have HM := hide (show x.cells.length + m ≤ 8000 by have := (unhide Q1).room; omega)
  have HM2 := hide (show 2 * x.room = ((x.cells.length + m : Nat) : Int) by omega)
  have hbs : w2.heap.size < W3.heap.size := (unhide ST3).sb.nb.1
  have NBS := hide (show ¬ b = w2.heap.size from fun e => by have h1 := (unhide ST3).sb.lo.1; have h8 : b < w.heap.size := cell_lt (unhide C8); omega)
  have hbb : b < W3.heap.size := cell_lt e0
  have V12 := hide (show IntKind.i64.wrap (IntKind.i64.wrap (2 * x.room) - (x.cells.length : Int)) = (m : Int) by
    have hr := (unhide Q1).room
    have e1 : IntKind.i64.wrap (2 * x.room) = 2 * x.room := by rw [IntKind.wrap_i64]; omega
    rw [e1, IntKind.wrap_i64]; omega)
  clear hm
  go_wp2_with fail
  go_cut [] (fun wx => ∃ bn2 kn2, Hid (∃ role', SAt w.heap.size wx w2.heap.size { x with gray := [] } ar1 kr1 (.slice ac1 x.cells.length kc1) (.slice ag x.gray.length kg) br bc bn2 pb pa pk kn2 0 (.slice avf F.length kvf) F (.slice none 0 0) [] role') ∧ Hid (Ext w wx) ∧ Hid (2 * x.room ≤ (kn2 : Int)))
  case first =>
    go_region_with (go_at_call 122; rw [unhide V12]; refine (grow_any ((unhide ST3).ext (Ext.refl W3).drew) rfl (by have := X3.size; simpa using this) m (unhide HM)).mono ?_; rintro e w4 ⟨bn2, kn2, rfl, hs4, hc4⟩; have q13 := (unhide hc4).1; have qf := (unhide hc4).2.1; have SS4 := hide (unhide hs4); have KN4 := hide (show 2 * x.room ≤ (kn2 : Int) by have h1 := unhide HM2; have h2 : x.cells.length + m ≤ kn2 := (unhide hc4).2.2.2; omega); have X4 := hide (show Ext w (w4.setCell ⟨w2.heap.size, 13, none⟩ (.slice (some ⟨bn2, 0, none⟩) x.cells.length kn2)) from (X3.drew.trans (unhide hc4).2.2.1).setCell (unhide ST3).sb.lo.1 _); have f8 := (X3.drew.trans (unhide hc4).2.2.1).keep (unhide C8); have hw4 : w2.heap.size < w4.heap.size := cell_lt q13; have hbw : b < w4.heap.size := cell_lt f8; have nbs : ¬ b = w2.heap.size := unhide NBS; have nsb : ¬ w2.heap.size = b := fun e => unhide NBS e.symm; clear hs4 hc4)
    all_goals
      go_wp2_with fail
      go_meet
      exact ⟨bn2, kn2, unhide SS4, unhide X4, unhide KN4⟩
  case rest =>
    obtain ⟨bn2, kn2, hst, hex, hkn⟩ := hcut
    obtain ⟨role0, hst⟩ := unhide hst
    clear n13 e0 e8 hbs hbb NBS X3 ST3 V12 HM
    have ST3 := hide hst
    have X3 := hide (unhide hex)
    have e8 := (unhide X3).keep (unhide C8)
    have hbb : b < wc.heap.size := cell_lt e8
    clear hst hex
    go_wp2_with fail
    go_loopw [47] (fun i wr => ∃ (k : Nat), k ≤ x.gray.length ∧ i = .int .i64 k ∧ Hid (SAt w.heap.size wr w2.heap.size { x with gray := x.gray.take k } ar1 kr1 (.slice ac1 x.cells.length kc1) (.slice ag x.gray.length kg) br bc bn2 pb pa pk kn2 0 (.slice avf F.length kvf) F (.slice none 0 0) [] role0) ∧ Hid (Ext w wr)) (fun i _ => x.gray.length - (intOf i).toNat)
    case atStart => exact ⟨0, Nat.zero_le _, rfl, unhide ST3, unhide X3⟩
    case round =>
      clear ST3
      obtain ⟨k, hk, rfl, hst, hex⟩ := hrel
      by_cases hlt : k < x.gray.length
      · obtain ⟨bg, og, hag3, hg1⟩ := slI_nth (unhide SG) k hlt
        subst hag3
        have hg2 := (unhide hex).keep hg1
        obtain ⟨j, hj⟩ : ∃ j : Nat, x.gray[k] = (j : Int) := ⟨x.gray[k].toNat, by have := (unhide G5 x.gray[k] (List.getElem_mem hlt)).1; omega⟩
        have hjn : j < x.cells.length := by have := (unhide G5 x.gray[k] (List.getElem_mem hlt)).2; omega
        rw [hj, Nat.mul_one] at hg2
        have n13 := (unhide hst).sb.n13
        have j0 : (0:Int) ≤ (j:Int) := by omega
        have j1 : (j:Int) < (x.cells.length:Int) := by omega
        have k0 : (0:Int) ≤ (k:Int) := by omega
        have k1 : (k:Int) < (x.gray.length:Int) := by omega
        have HJ := hide (show x.gray.take (k + 1) = x.gray.take k ++ [(j : Int)] by rw [List.take_succ_eq_append_getElem hlt, hj])
        have hl4 : (x.gray.take k).length < 4000 := by rw [List.length_take]; omega
        clear hg1 hj
        go_wp2_with fail
        go_region_with (go_at_call 123; refine (rput_any w2.heap.size bn2 0 j (x.gray.take k) _ ((unhide hst).ext ((Ext.refl wr).drew)).sb.rg ((unhide hst).ext ((Ext.refl wr).drew)).sb.nb hl4).mono ?_; rintro e w5 ⟨rfl, hr5, ho5, hn5, hc5⟩; have R := hide (((unhide hst).ext ((Ext.refl wr).drew)).ring hr5 ho5 hn5 (fun o ho => hc5 o (by omega))); have XX := hide (ho5.ext (unhide hex).drew (fun q hq e => by have := (unhide hst).sb.lo.1; omega)); clear hr5 ho5 hn5 hc5)
        all_goals
          go_wp2_with fail
          go_roundw
          case rel => exact ⟨k + 1, by omega, by go_num, by rw [unhide HJ]; exact unhide R, unhide XX⟩
          case measure => simp [intOf]; omega
      · have hk2 : k = x.gray.length := by omega
        subst hk2
        have S4 := hide (show SAt w.heap.size wr w2.heap.size x ar1 kr1 (.slice ac1 x.cells.length kc1) (.slice ag x.gray.length kg) br bc bn2 pb pa pk kn2 0 (.slice avf F.length kvf) F (.slice none 0 0) (keptTo x 0) role0 by have := unhide hst; rw [List.take_length] at this; exact this)
        have n13 := (unhide S4).sb.n13
        obtain ⟨w4, hw4⟩ : ∃ W, W = wr := ⟨_, rfl⟩
        subst hw4
        have X4 := hide (unhide hex)
        clear hst hex hlt hk
        go_wp2_with fail
        clear n13
        go_loopw [69] (fun i wr => ∃ (k : Nat) (avk : Option Addr) (kvk : Nat) (role : Nat → Nat), k ≤ x.cells.length ∧ i = .int .i64 k ∧ Hid (SAt w.heap.size wr w2.heap.size x ar1 kr1 (.slice ac1 x.cells.length kc1) (.slice ag x.gray.length kg) br bc bn2 pb pa pk kn2 0 (.slice avf F.length kvf) F (.slice avk (keptTo x k).length kvk) (keptTo x k) role) ∧ Hid (Ext w wr)) (fun i _ => x.cells.length - (intOf i).toNat)
        case atStart => exact ⟨0, none, 0, role0, Nat.zero_le _, rfl, unhide S4, unhide X4⟩
        case round =>
          clear S4
          obtain ⟨k, avk, kvk, role, hk, rfl, hst, hex⟩ := hrel
          by_cases hlt : k < x.cells.length
          · have n13 := (unhide hst).sb.n13
            obtain ⟨m0, m1⟩ := (unhide hst).sb.nd k hlt
            have s0 := ((unhide hst).rw.s k hlt).1
            have k0 : (0:Int) ≤ (k:Int) := by omega
            have k1 : (k:Int) < (x.cells.length:Int) := by omega
            have hkl := keptTo_len x k
            cases q1 : ((x.c k).st == 1)
            · have R := hide (show SAt w.heap.size wr w2.heap.size x ar1 kr1 (.slice ac1 x.cells.length kc1) (.slice ag x.gray.length kg) br bc bn2 pb pa pk kn2 0 (.slice avf F.length kvf) F (.slice avk (keptTo x (k + 1)).length kvk) (keptTo x (k + 1)) role by rw [keptTo_no (by simp [q1])]; exact unhide hst)
              go_wp2_with fail
              go_roundw
              case rel => exact ⟨k + 1, avk, kvk, role, by omega, by go_num, unhide R, unhide hex⟩
              case measure => simp [intOf]; omega
            · go_wp2_with fail
              refine (swept_any x w2.heap.size bn2 k _ (unhide hst).sb.bx.2.2.2.2.2.1 (unhide hst).sb.bx.2.2.2.2.2.2.1 m0).mono ?_
              rintro e w5 ⟨rfl, q5⟩
              have H5 := hide ((unhide hst).ext q5)
              have X5 := hide ((unhide hex).trans q5)
              cases q2 : sweptB x k
              · have R := hide (show SAt w.heap.size w5 w2.heap.size x ar1 kr1 (.slice ac1 x.cells.length kc1) (.slice ag x.gray.length kg) br bc bn2 pb pa pk kn2 0 (.slice avf F.length kvf) F (.slice avk (keptTo x (k + 1)).length kvk) (keptTo x (k + 1)) role by rw [keptTo_no (by simp [q2])]; exact unhide H5)
                clear n13 m0 m1 s0 hst hex
                go_wp2_with fail
                go_roundw
                case rel => exact ⟨k + 1, avk, kvk, role, by omega, by go_num, unhide R, unhide X5⟩
                case measure => simp [intOf]; omega
              · have KY := hide (keptTo_yes (x := x) (k := k) (by simp [q1, q2]))
                have k17 := (unhide H5).sb.k0
                have f17 := (unhide H5).sb.nb.2 4017
                have hbs : w2.heap.size < w5.heap.size := (unhide H5).sb.nb.1
                have hB : w.heap.size ≤ w5.heap.size := (unhide X5).size
                clear n13 m0 m1 s0 hst hex
                go_wp2_with (at_builtin; refine wpList_append_lies _ rfl _ _ 107 rfl w.heap.size 103 i0 (.pointer none) 1 8 Tryz.underlying107 hi0 hy0 hy1 hy2 rfl (by decide) _ (keptTo x k).length ((keptTo x k).map (ndp bn2)) rfl ((unhide H5).sb.kp.alloc _) _ 1 1 [ndp bn2 k] rfl rfl ?c1 ?c2 (by decide) ?c3 ?c4 ?c5 _ rfl ?_)
                case c1 =>
                  intro j u hj
                  match j, hj with
                  | 0, hj => simp at hj; subst hj; simp [Addr.add, go_sem]
                case c2 => intro u hu; simp at hu; subst hu; rfl
                case c3 => unfold maxLen; omega
                case c4 => omega
                case c5 => simp; omega
                intro g cap w6 hown hgrow hat hglt
                have xb := (Ext.refl w5).alloc (.cells #[ndp bn2 k] 103)
                have R := hide (((unhide H5).ext xb).push (i := k) hgrow hown (by simpa using hat))
                have e17 := (World.cell?_of_block (a := ⟨w2.heap.size, 4017, none⟩) (hgrow.block w2.heap.size (Nat.lt_of_lt_of_le hbs xb.size) (fun e => by have h1 := (unhide H5).sp.k _ e.symm; have h2 := (unhide H5).sp.b; omega))).trans (xb.keep k17)
                have g17 := (World.frozen?_of_block (a := ⟨w2.heap.size, 4017, none⟩) (hgrow.block w2.heap.size (Nat.lt_of_lt_of_le hbs xb.size) (fun e => by have h1 := (unhide H5).sp.k _ e.symm; have h2 := (unhide H5).sp.b; omega))).trans (((bcell xb).2 _ 4017 hbs).trans f17)
                have X6 := hide (show Ext w (w6.setCell ⟨w2.heap.size, 4017, none⟩ (.slice (some ⟨g, 0, none⟩) ((keptTo x k).length + 1) cap)) from (grown_ext ((unhide X5).trans xb) ((unhide H5).sb.kp.alloc _) (Nat.le_refl _) hgrow).setCell (unhide H5).sb.lo.1 _)
                clear hown hgrow hat xb k17 f17
                go_wp2_with fail
                go_roundw
                case rel => exact ⟨k + 1, some ⟨g, 0, none⟩, cap, _, by omega, by go_num, by rw [unhide KY, List.length_append]; exact unhide R, unhide X6⟩
                case measure => simp [intOf]; omega
          · have hk2 : k = x.cells.length := by omega
            subst hk2
            have FIN := hide (show SOwn w.heap.size wr w2.heap.size x from ⟨_, _, _, _, _, _, _, _, _, _, _, _, _, _, _, _, _, _, _, _, unhide hst, (unhide FF).1, (unhide FF).2, unhide hkn⟩)
            clear hst
            go_wp2_with fail
            go_ret
            exact ⟨_, rfl, unhide FIN, unhide hex⟩
end Go.Proofs.YtkabcfhemljnbaaGreat
