import Derived.Test.YtkabcfhemljnbaaGreatPxp
import Derived.Deep.RegionWith
import Derived.Deep.DeepCutAuto
namespace Go.Proofs.YtkabcfhemljnbaaGreat
open Go.RowKit
attribute [local go_sem ↓] Go.wp_at_zero Go.wp_at_succ

/-- a word is written into a register -/
theorem word_fn {B : Nat} {w : World} {b : Nat} {x : Hp} {ar : Option Addr} {kr : Nat} {v4 v8 : Value} {br bc bn : Nat} {pb : Nat → Nat} {pa : Nat → Option Addr} {pk : Nat → Nat} {kn hd : Nat} {vf : Value} {F : List Int} {vk : Value} {K : List Nat} {role : Nat → Nat} (h : SAt B w b x ar kr v4 v8 br bc bn pb pa pk kn hd vf F vk K role) (j : Nat) (hj : j < x.regs.length) (y : Wd) (hr : 0 < x.regs.length) (a : World) (hx : Ext a w) (hb : a.heap.size ≤ br) :
    ∀ W, Ext w W → SAt B (wordO W br (j * 3) y) b { x with regs := x.regs.set j y } ar kr v4 v8 br bc bn pb pa pk kn hd vf F vk K role ∧ Ext a (wordO W br (j * 3) y) ∧ (∀ d o v, d ≠ br → w.cell? ⟨d, o, none⟩ = some v → (wordO W br (j * 3) y).cell? ⟨d, o, none⟩ = some v) ∧ ∀ q, q < w.heap.size → q ≠ br → (wordO W br (j * 3) y).heap[q]? = w.heap[q]? := fun W xW => by
  have g1 := h.ext xW
  have ow := wordO_only W br (j * 3) y
  refine ⟨g1.setr j hj y ow (wordO_nf (g1.rw.nr hr).1 _ _) (wordO_at W br (j * 3) y _ (g1.rw.r j hj)) (fun m hm => wordO_other W br (j * 3) y m hm), ow.ext (hx.trans xW) (fun q hq e => by omega), fun d o v hd hv => ?_, fun q h1 h2 => ?_⟩
  · exact (World.cell?_of_block (a := ⟨d, o, none⟩) (ow.block d (Nat.lt_of_lt_of_le (cell_lt hv) xW.size) hd)).trans (xW.keep hv)
  · exact (ow.block q (Nat.lt_of_lt_of_le h1 xW.size) h2).trans (xW.block q h1)
set_option maxRecDepth 100000 in
set_option maxHeartbeats 1000000 in
theorem carry_any {B : Nat} {w : World} {b : Nat} {x : Hp} {ar : Option Addr} {kr : Nat} {v4 v8 : Value} {br bc bn : Nat} {pb : Nat → Nat} {pa : Nat → Option Addr} {pk : Nat → Nat} {kn hd : Nat} {vf : Value} {F : List Int} {vk : Value} {K : List Nat} {role : Nat → Nat} (h : SAt B w b x ar kr v4 v8 br bc bn pb pa pk kn hd vf F vk K role) (s : Snd x) (t f : Nat) (htf : t ≠ f) (ht : t < x.cells.length) (hf : f < x.cells.length) (a : World) (ha : a.heap.size ≤ B) (hx : Ext a w) :
    Calls Tryz.prog 240 #[.agg #[.pointer (some ⟨b, 0, none⟩)], ndp bn f, ndp bn t] w fun e w' => e = .returned (.tuple #[]) ∧ Hid (∃ pb' pa' pk' role', SAt B w' b (moveH x t f) ar kr v4 v8 br bc bn pb' pa' pk' kn hd vf F vk K role' ∧ ∀ q, q < w.heap.size → q ≠ br → q ≠ bc → w'.heap[q]? = w.heap[q]?) ∧ Ext a w' := by
  have H := hide h
  have S := hide s
  have XA := (Ext.refl w).alloc (.cells #[.pointer (some ⟨b, 0, none⟩)] 196)
  have r0 : 0 < x.regs.length := by have := s.r1.regs; omega
  have r16 : x.regs.length ≤ 16 := by have := s.r1.regs; omega
  have n8 := s.ok.n8
  have c3 := h.sb.bx.2.2.2.1
  rw [h.sb.ha r0] at c3
  have hbw : b < w.heap.size := h.sb.nb.1
  have lo := h.sb.lo.1
  have HS := hide (h.ext XA)
  have XS := hide (hx.trans XA)
  have d3 := XA.keep c3
  have M0 := hide (show (w.alloc (.cells #[.pointer (some ⟨b, 0, none⟩)] 196)).cell? ⟨w.heap.size, 0, none⟩ = some (.pointer (some ⟨b, 0, none⟩)) by simp [go_sem])
  have BRW := hide (show br < w.heap.size ∧ B ≤ br from ⟨(h.rw.nr r0).1.1, (h.rw.nr r0).2⟩)
  have HBW := hide (show bc < w.heap.size from (h.rw.nc (by omega)).1.1)
  clear h s c3 XA
  go_enter Tryz.func240, Tryz.ntmps240
  go_wp2_with fail
  go_loopw [16] (fun i wr => ∃ j : Nat, j ≤ x.regs.length ∧ i = .int .i64 j ∧ Hid (SAt B wr b (rgR x t f j) ar kr v4 v8 br bc bn pb pa pk kn hd vf F vk K role) ∧ Hid (Ext a wr ∧ wr.cell? ⟨w.heap.size, 0, none⟩ = some (.pointer (some ⟨b, 0, none⟩)) ∧ ∀ q, q < w.heap.size → q ≠ br → wr.heap[q]? = w.heap[q]?)) (fun i _ => x.regs.length - (intOf i).toNat)
  case atStart => exact ⟨0, Nat.zero_le _, rfl, by rw [rgR_zero]; exact unhide HS, unhide XS, unhide M0, fun q hq _ => Below.heap_alloc w _ q hq⟩
  case round =>
    clear HS XS d3 M0
    obtain ⟨j, hj, rfl, hG, hxr⟩ := hrel
    by_cases hlt : j < x.regs.length
    · obtain ⟨hl, er⟩ := rgR_at x t f j hlt
      obtain ⟨e0, e1, e2⟩ := (unhide hG).rw.r j hl
      rw [er] at e0 e1 e2
      have hbr : br < wr.heap.size := cell_lt e0
      have FM := hide ((unhide S).r4.1 j hlt).1
      have hj0 : (0:Int) ≤ (j:Int) := by omega
      have hj1 : (j:Int) < (x.regs.length:Int) := by omega
      have m0 := (unhide hxr).2.1
      have hs0 : w.heap.size < wr.heap.size := cell_lt m0
      have SU := hide (rgR_succ x t f j hlt)
      have SS := hide (rgR_same x t f j hlt)
      obtain ⟨⟨yk, yn, ya⟩, hr⟩ : ∃ r, r = x.regs[j] := ⟨_, rfl⟩
      rw [← hr] at e0 e1 e2 FM SU SS
      clear hr er
      simp only at e0 e1 e2
      have XB := (Ext.refl wr).alloc (.cells #[iv yk, iv yn, iv ya] 90)
      have d0 := XB.keep m0
      have c13 := XB.keep (unhide hG).sb.n13
      have XB2 := hide XB
      clear XB
      cases q : (yk == 2)
      · have qn : ¬ yk = 2 := by simpa using q
        have en : ∀ W, (binOp .eql 103 (.pointer none) (ndp bn f)).run Tryz.prog W = .ok (.bool false) W := fun W => ptr_nil bn (f * 2) W
        have NX := hide (show rgR x t f (j + 1) = rgR x t f j from unhide SS (by unfold mvW; rw [if_neg (fun h => qn h.1)]))
        go_wp2_with fail
        go_region_with (go_at_call 155; refine (find_none ⟨yk, yn, ya⟩ b _ q).mono ?_; rintro e w3 ⟨rfl, x3⟩; have X3 := hide (Ext.trans (unhide XB2) (Ext.trans (Ext.refl _).drew x3)); clear x3)
        all_goals
          have R := hide (show SAt B w3 b (rgR x t f (j + 1)) ar kr v4 v8 br bc bn pb pa pk kn hd vf F vk K role by rw [unhide NX]; exact (unhide hG).ext (unhide X3))
          have RX := hide (show Ext a w3 ∧ w3.cell? ⟨w.heap.size, 0, none⟩ = some (.pointer (some ⟨b, 0, none⟩)) ∧ ∀ q, q < w.heap.size → q ≠ br → w3.heap[q]? = w.heap[q]? from ⟨(unhide hxr).1.trans (unhide X3), (unhide X3).keep (unhide hxr).2.1, fun q h1 h2 => ((unhide X3).block q (by omega)).trans ((unhide hxr).2.2 q h1 h2)⟩)
          go_wp2_with fail
          go_roundw
          case rel => exact ⟨j + 1, by omega, by go_num, unhide R, unhide RX⟩
          case measure => simp [intOf]; omega
      · obtain rfl : yk = 2 := by simpa using q
        have fm : yn = 0 ∧ 0 ≤ ya ∧ ya < x.cells.length := by have := unhide FM; unfold Formed at this; simp only at this; omega
        obtain ⟨i, rfl⟩ : ∃ i : Nat, ya = (i : Int) := ⟨ya.toNat, by omega⟩
        obtain rfl : yn = 0 := fm.1
        have hi : i < x.cells.length := by omega
        by_cases hif : i = f
        · subst hif
          have en : ∀ W, (binOp .eql 103 (.pointer (some ⟨bn, i * 2, none⟩)) (ndp bn i)).run Tryz.prog W = .ok (.bool true) W := fun W => ptr_yes bn (i * 2) W
          have NX := hide (show ({ rgR x t i j with regs := (rgR x t i j).regs.set j ⟨2, 0, t⟩ } : Hp) = rgR x t i (j + 1) by have := unhide SU; unfold mvW at this; rw [if_pos ⟨rfl, rfl⟩] at this; exact this)
          go_wp2_with fail
          go_region_with (go_at_call 155; refine (find_some ⟨2, 0, (i : Int)⟩ b x.cells.length bn 0 kn i _ rfl ((Ext.refl _).drew.keep c13) hi).mono ?_; rintro e w3 ⟨rfl, x3⟩; rw [Nat.zero_add]; have X3 := hide (Ext.trans (unhide XB2) (Ext.trans (Ext.refl _).drew x3)); clear x3)
          all_goals
            have R3 := hide ((unhide hG).ext (unhide X3))
            have k0 := (unhide X3).keep m0
            have k3 : w3.cell? ⟨b, 3, none⟩ = some (.slice (some ⟨br, 0, none⟩) x.regs.length kr) := by
              have h3 := (unhide R3).sb.bx.2.2.2.1
              have hrl : (rgR x t i j).regs.length = x.regs.length := by simp [rgR]; omega
              rw [(unhide R3).sb.ha (by omega), hrl] at h3
              exact h3
            have g0 := (unhide X3).keep e0
            have g1 := (unhide X3).keep e1
            have g2 := (unhide X3).keep e2
            have hrl : 0 < (rgR x t i j).regs.length := by simp [rgR]; omega
            have gf := ((unhide R3).rw.nr hrl).1.2
            have hbr3 : br < w3.heap.size := cell_lt g0
            have hb3 : b < w3.heap.size := cell_lt k3
            have hs3 : w.heap.size < w3.heap.size := cell_lt k0
            have T0 := hide ((unhide R3).sb.nd t ht).1
            have FN := hide (word_fn (unhide R3) j hl ⟨2, 0, t⟩ hrl a ((unhide hxr).1.trans (unhide X3)) (by have := (unhide BRW).2; omega))
            rw [unhide NX] at FN
            unfold wordO at FN
            dsimp only at FN
            have FQ := hide (show ∀ q, q < w3.heap.size → q ≠ br → q < w.heap.size → w3.heap[q]? = w.heap[q]? from fun q h0 h2 h1 => ((unhide X3).block q (by omega)).trans ((unhide hxr).2.2 q h1 h2))
            clear e0 e1 e2 m0 d0 c13 hrl
            go_wp2_with fail
            go_region_with (go_at_call 241; refine (sword_any bn (t * 2) t _ ((Ext.refl _).drew.keep (unhide T0))).mono ?_; rintro e w4 ⟨rfl, x4⟩; have x34 := Ext.trans (Ext.refl w3).drew x4; have l0 := x34.keep k0; have l3 := x34.keep k3; have o0 := x34.keep g0; have o1 := x34.keep g1; have o2 := x34.keep g2; have of := fun m => ((bcell x34).2 br m hbr3).trans (gf m); have hb4 : br < w4.heap.size := cell_lt o0; have X4 := hide x34; clear x4 x34)
            all_goals
              go_wp2_with fail
              go_roundw
              case rel => exact ⟨j + 1, by omega, by go_num, (unhide FN w4 (unhide X4)).1, (unhide FN w4 (unhide X4)).2.1, (unhide FN w4 (unhide X4)).2.2.1 w.heap.size 0 _ (by have := (unhide BRW).1; omega) k0, fun q h1 h2 => ((unhide FN w4 (unhide X4)).2.2.2 q (by omega) h2).trans (unhide FQ q (by omega) h2 h1)⟩
              case measure => simp [intOf]; omega
        · have nif : ¬ i * 2 = f * 2 := by omega
          have en : ∀ W, (binOp .eql 103 (.pointer (some ⟨bn, i * 2, none⟩)) (ndp bn f)).run Tryz.prog W = .ok (.bool false) W := fun W => ptr_no bn (i * 2) (f * 2) W nif
          have NX := hide (show rgR x t f (j + 1) = rgR x t f j from unhide SS (by unfold mvW; rw [if_neg (fun h => by have := h.2; simp only at this; omega)]))
          go_wp2_with fail
          go_region_with (go_at_call 155; refine (find_some ⟨2, 0, (i : Int)⟩ b x.cells.length bn 0 kn i _ rfl ((Ext.refl _).drew.keep c13) hi).mono ?_; rintro e w3 ⟨rfl, x3⟩; rw [Nat.zero_add]; have X3 := hide (Ext.trans (unhide XB2) (Ext.trans (Ext.refl _).drew x3)); clear x3)
          all_goals
            have R := hide (show SAt B w3 b (rgR x t f (j + 1)) ar kr v4 v8 br bc bn pb pa pk kn hd vf F vk K role by rw [unhide NX]; exact (unhide hG).ext (unhide X3))
            have RX := hide (show Ext a w3 ∧ w3.cell? ⟨w.heap.size, 0, none⟩ = some (.pointer (some ⟨b, 0, none⟩)) ∧ ∀ q, q < w.heap.size → q ≠ br → w3.heap[q]? = w.heap[q]? from ⟨(unhide hxr).1.trans (unhide X3), (unhide X3).keep (unhide hxr).2.1, fun q h1 h2 => ((unhide X3).block q (by omega)).trans ((unhide hxr).2.2 q h1 h2)⟩)
            go_wp2_with fail
            go_roundw
            case rel => exact ⟨j + 1, by omega, by go_num, unhide R, unhide RX⟩
            case measure => simp [intOf]; omega
    · have je : j = x.regs.length := by omega
      subst je
      have hn : 0 < x.cells.length := by omega
      have HR := hide (unhide hG)
      obtain ⟨a0, a1, a2, a3, a4, a5, a6⟩ : S7 wr bc (f * 8) (x.c f) := (unhide HR).rw.s f hf
      have a7 : wr.cell? ⟨bc, f * 8 + 7, none⟩ = some (.slice (pa f) (x.c f).prs.length (pk f)) := (unhide HR).rw.p7 f hf
      obtain ⟨b0, b1, b2, b3, b4, b5, b6⟩ : S7 wr bc (t * 8) (x.c t) := (unhide HR).rw.s t ht
      have b7 : wr.cell? ⟨bc, t * 8 + 7, none⟩ = some (.slice (pa t) (x.c t).prs.length (pk t)) := (unhide HR).rw.p7 t ht
      have fc := ((unhide HR).rw.nc hn).1.2
      obtain ⟨nt0, nt1⟩ := (unhide HR).sb.nd t ht
      obtain ⟨nf0, nf1⟩ := (unhide HR).sb.nd f hf
      have hbc : bc < wr.heap.size := cell_lt a0
      have hbn : bn < wr.heap.size := cell_lt nt0
      have NBC := hide (show ¬ bn = bc from fun e => by have h1 := (unhide HR).sp.n; have h2 := (unhide HR).sp.c hn; rw [e] at h1; omega)
      have nbc : ¬ bn = bc := unhide NBC
      have ncb : ¬ bc = bn := fun e => unhide NBC e.symm
      have nof : ¬ f * 8 = t * 8 := by omega
      have XR := hide (unhide hxr).1
      have QR := hide (unhide hxr).2.2
      have HBC := hide ((unhide HR).rw.nc hn)
      have LTS := hide (show t < x.cells.length ∧ f < x.cells.length ∧ t ≠ f from ⟨ht, hf, htf⟩)
      have hsz : w.heap.size < wr.heap.size := cell_lt (unhide hxr).2.1
      have HB2 := hide (show bc < w.heap.size from (unhide HBW))
      clear hG hxr hj
      go_wp2_with fail
      go_region
      all_goals
        obtain ⟨W5, hW5⟩ : ∃ W, W = (cellW wr bc (t * 8) (x.c f) (.slice (pa f) (x.c f).prs.length (pk f))).drew := ⟨_, rfl⟩
        have W5E := hide (show W5 = cellW wr.drew bc (t * 8) (x.c f) (.slice (pa f) (x.c f).prs.length (pk f)) by rw [hW5, cellW_drew])
        have O5 := cellW_other wr.drew bc (t * 8) (x.c f) (.slice (pa f) (x.c f).prs.length (pk f))
        have N5 := (cellW_only wr.drew bc (t * 8) (x.c f) (.slice (pa f) (x.c f).prs.length (pk f))).block bn (by simpa using hbn) nbc
        have mt0 : W5.cell? ⟨bn, t * 2, none⟩ = some (iv t) := by rw [unhide W5E, World.cell?_of_block (a := ⟨bn, t * 2, none⟩) N5]; exact nt0
        have mf1 : W5.cell? ⟨bn, f * 2 + 1, none⟩ = some (.pointer (some ⟨bc, f * 8, none⟩)) := by rw [unhide W5E, World.cell?_of_block (a := ⟨bn, f * 2 + 1, none⟩) N5]; exact nf1
        have d0 : W5.cell? ⟨bc, f * 8, none⟩ = some (iv (x.c f).st) := by rw [unhide W5E, O5 _ (by omega)]; exact a0
        have d1 : W5.cell? ⟨bc, f * 8 + 1, none⟩ = some (iv (x.c f).kind) := by rw [unhide W5E, O5 _ (by omega)]; exact a1
        have d2 : W5.cell? ⟨bc, f * 8 + 2, none⟩ = some (iv (x.c f).weak) := by rw [unhide W5E, O5 _ (by omega)]; exact a2
        have d3 : W5.cell? ⟨bc, f * 8 + 3, none⟩ = some (iv (x.c f).last) := by rw [unhide W5E, O5 _ (by omega)]; exact a3
        have d4 : W5.cell? ⟨bc, f * 8 + 4, none⟩ = some (iv (x.c f).born) := by rw [unhide W5E, O5 _ (by omega)]; exact a4
        have d5 : W5.cell? ⟨bc, f * 8 + 5, none⟩ = some (iv (x.c f).color) := by rw [unhide W5E, O5 _ (by omega)]; exact a5
        have d6 : W5.cell? ⟨bc, f * 8 + 6, none⟩ = some (iv (x.c f).to) := by rw [unhide W5E, O5 _ (by omega)]; exact a6
        have d7 : W5.cell? ⟨bc, f * 8 + 7, none⟩ = some (.slice (pa f) (x.c f).prs.length (pk f)) := by rw [unhide W5E, O5 _ (by omega)]; exact a7
        have fc5 : ∀ j, W5.frozen? ⟨bc, j, none⟩ = false := by rw [unhide W5E]; exact (cellW_nf (w := wr.drew) (nf1_block (unhide HBC).1 rfl (by simp)) _ _ _).2
        have hb5 : bc < W5.heap.size := cell_lt d0
        have hn5 : bn < W5.heap.size := cell_lt mt0
        have G6 := hide (show ∃ pb' pa' pk' role', SAt B (wipeW W5 bc (f * 8) 2 t) b (moveH x t f) ar kr v4 v8 br bc bn pb' pa' pk' kn hd vf F vk K role' by
          rw [← rgR_all, unhide W5E]
          exact smove_world ((unhide HR).ext (Ext.refl wr).drew) t f (unhide LTS).2.2 (unhide LTS).1 (unhide LTS).2.1)
        have X6 := hide (show Ext a (wipeW W5 bc (f * 8) 2 t) by
          refine (wipe_only W5 bc (f * 8) 2 t).ext ?_ (fun q hq e => by have := (unhide HBC).2; omega)
          rw [unhide W5E]; exact (cellW_only wr.drew bc (t * 8) (x.c f) _).ext (unhide XR).drew (fun q hq e => by have := (unhide HBC).2; omega))
        have Q6 := hide (show ∀ q, q < w.heap.size → q ≠ br → q ≠ bc → (wipeW W5 bc (f * 8) 2 t).heap[q]? = w.heap[q]? from fun q h1 h2 h3 => by
          have hw : q < wr.drew.heap.size := by simpa using (show q < wr.heap.size by omega)
          rw [(wipe_only W5 bc (f * 8) 2 t).block q (by rw [unhide W5E]; exact Nat.lt_of_lt_of_le hw (cellW_only wr.drew bc (t * 8) (x.c f) _).size) h3, unhide W5E, (cellW_only wr.drew bc (t * 8) (x.c f) _).block q hw h3]
          exact unhide QR q h1 h2)
        unfold cellW at hW5
        rw [← hW5]
        clear hW5 O5 N5 a0 a1 a2 a3 a4 a5 a6 a7 b0 b1 b2 b3 b4 b5 b6 b7 fc hbc hbn nt0 nt1 nf0 nf1 nof
        obtain ⟨W6, hW6⟩ : ∃ W, W = wipeW W5 bc (f * 8) 2 t := ⟨_, rfl⟩
        rw [← hW6] at G6 X6 Q6
        unfold wipeW at hW6
        go_wp2_with fail
        go_region
        all_goals
          rw [← hW6]
          go_wp2_with fail
          go_end0
          obtain ⟨pb', pa', pk', role', g6⟩ := unhide G6
          exact ⟨rfl, ⟨pb', pa', pk', role', g6.ext (Ext.refl _).drew, unhide Q6⟩, (unhide X6).drew⟩
end Go.Proofs.YtkabcfhemljnbaaGreat
