import Derived.Test.YtddkhnclmeikfacGreatWh3
import Derived.Laws.StructEq
import Derived.Deep.RegionWith
import Derived.Deep.DeepCutAuto
import Derived.Test.YtddkhnclmeikfacGreatVd
import Derived.Test.YtddkhnclmeikfacGreatGx
namespace Go.Proofs.YtddkhnclmeikfacGreat
open Go.RowKit
attribute [local go_sem ↓] Go.wp_at_zero Go.wp_at_succ

theorem weakKeys_any (bn on bc oc : Nat) (wk : Int) (w : World) (m1 : w.cell? ⟨bn, on + 1, none⟩ = some (.pointer (some ⟨bc, oc, none⟩))) (p2 : w.cell? ⟨bc, oc + 2, none⟩ = some (iv wk)) :
    Calls Tryz.prog 208 #[.pointer (some ⟨bn, on, none⟩)] w fun e w' => e = .returned (.bool (wk == 1 || wk == 3)) ∧ Ext w w' := by
  cases t1 : (wk == 1)
  · cases t3 : (wk == 3)
    · go_enter Tryz.func208, Tryz.ntmps208
      go_wp2_with fail
      go_ret
      exact ⟨rfl, Ext.refl _⟩
    · go_enter Tryz.func208, Tryz.ntmps208
      go_wp2_with fail
      go_ret
      exact ⟨rfl, Ext.refl _⟩
  · go_enter Tryz.func208, Tryz.ntmps208
    go_wp2_with fail
    go_ret
    exact ⟨rfl, Ext.refl _⟩
theorem weakVals_any (bn on bc oc : Nat) (wk : Int) (w : World) (m1 : w.cell? ⟨bn, on + 1, none⟩ = some (.pointer (some ⟨bc, oc, none⟩))) (p2 : w.cell? ⟨bc, oc + 2, none⟩ = some (iv wk)) :
    Calls Tryz.prog 209 #[.pointer (some ⟨bn, on, none⟩)] w fun e w' => e = .returned (.bool (wk == 2 || wk == 3)) ∧ Ext w w' := by
  cases t1 : (wk == 2)
  · cases t3 : (wk == 3)
    · go_enter Tryz.func209, Tryz.ntmps209
      go_wp2_with fail
      go_ret
      exact ⟨rfl, Ext.refl _⟩
    · go_enter Tryz.func209, Tryz.ntmps209
      go_wp2_with fail
      go_ret
      exact ⟨rfl, Ext.refl _⟩
  · go_enter Tryz.func209, Tryz.ntmps209
    go_wp2_with fail
    go_ret
    exact ⟨rfl, Ext.refl _⟩

/-- a pair of nothing -/
def zp (p : Pr) : Bool := p.key.k == 0 && p.key.n == 0 && p.key.a == 0 && p.val.k == 0 && p.val.n == 0 && p.val.a == 0
theorem pair_eq (p : Pr) (w : World) : (Op.equalIn 10000 152 (.agg #[iv p.key.k, iv p.key.n, iv p.key.a, iv p.val.k, iv p.val.n, iv p.val.a]) (.agg #[iv 0, iv 0, iv 0, iv 0, iv 0, iv 0])).run Tryz.prog w = .ok (zp p) w := by
  rw [run_equalIn_struct w 9999 _ _ _ (by kernel_rfl) (by kernel_rfl)]
  simp [go_sem, zp]
  repeat' split
  all_goals simp_all
theorem pair_eq2 (p : Pr) (w : World) : (binOp .eql 152 (.agg #[iv p.key.k, iv p.key.n, iv p.key.a, iv p.val.k, iv p.val.n, iv p.val.a]) (.agg #[iv 0, iv 0, iv 0, iv 0, iv 0, iv 0])).run Tryz.prog w = .ok (.bool (zp p)) w := by
  rw [run_eql_struct, pair_eq]; rfl
theorem sk_of {c : Cl} (h : (c.weak == 1 || c.weak == 3) = false) : SK c := by simp at h; exact h
theorem sk_not {c : Cl} (h : (c.weak == 1 || c.weak == 3) = true) : ¬ SK c := fun k => by simp at h; unfold SK at k; omega
theorem sv_of {c : Cl} (h : (c.weak == 2 || c.weak == 3) = false) : SV c := by simp at h; exact h
theorem sv_not {c : Cl} (h : (c.weak == 2 || c.weak == 3) = true) : ¬ SV c := fun k => by simp at h; unfold SV at k; omega
theorem zp_cls {x : Hp} {M S : List Nat} {g : Nat → List (Option Nat)} {j l : Nat} (h : zp ((x.c j).p l) = true) (C : ClsTo x M S g none j l) : ClsTo x M S g none j (l + 1) := fun p h1 h2 => by
  by_cases e : p = l
  · subst e
    simp [zp] at h
    refine ⟨fun _ k => by omega, fun _ k => by omega⟩
  · exact C p h1 (by omega)

set_option maxRecDepth 100000 in
set_option maxHeartbeats 4000000 in
theorem hold_any (x : Hp) (a : World) (b bw r1 r2 bn on j : Nat) (v : Value) (f : Nat → Value) (g : Nat → List (Option Nat)) (Mt St : List Nat) (w : World) {ar : Option Addr} {kr : Nat} {ac : Nat → Option Addr} {kn : Nat} (hv : VNt a b x ar kr ac (some ⟨bn, on, none⟩) kn) (q2 : R2 x) (q4 : R4 x) (h200 : (x.c j).prs.length ≤ 200) (h : WkAt w a.heap.size bw b r1 bn on x.cells.length v Mt St) (ht : WtAt w a.heap.size bw r1 r2 bn on v f g) (hI : InvH x Mt St g none (some j)) (hj : j ∈ Mt) (hx : Ext a w) (hn8 : x.cells.length ≤ 8000) (hg : ∀ k, (g k).length ≤ 9000000) :
    Calls Tryz.prog 204 #[.pointer (some ⟨bw, 0, none⟩), ptr bn (on + j * 2)] w fun e w' => e = .returned (.tuple #[]) ∧ ∃ v' Mt' St' f' g', WkAt w' a.heap.size bw b r1 bn on x.cells.length v' Mt' St' ∧ WtAt w' a.heap.size bw r1 r2 bn on v' f' g' ∧ Hid (InvH x Mt' St' g' none none ∧ Grow (fun _ => True) Mt Mt' St St' ∧ ∀ k, (g' k).length ≤ (g k).length + 200) ∧ Hid (Ext a w') := by
  have hjn : j < x.cells.length := h.rg j hj
  have HJ := hide (hI.only j hj)
  have GD := hide ((hI.only j hj).good q2 q4)
  obtain ⟨bc, oc, ap, kp, e1, C⟩ := hv.H.cell j hjn
  obtain ⟨bn', on', bc', oc', e2, e3, m0, m1'⟩ := hv.N j hjn
  rw [e1] at e3
  cases e2; cases e3
  have p7 := hx.keep C.p7
  have m1 := hx.keep m1'
  have M1 := hide m1'
  have P2 := hide C.p2
  have lp := C.lp
  have HP := hide C.P
  have HV := hide hv
  have HW := hide h
  have HT := hide ht
  have HI := hide hI
  have Q2 := hide q2
  have Q4 := hide q4
  clear C m0 m1' h ht hI e1 hv q2 q4
  go_enter Tryz.func204, Tryz.ntmps204
  go_wp2_with fail
  go_loopw [15] (fun i wr => ∃ (l : Nat) (u : Value) (M S : List Nat) (f' : Nat → Value) (g' : Nat → List (Option Nat)), l ≤ (x.c j).prs.length ∧ i = .int .i64 l ∧ WkAt wr a.heap.size bw b r1 bn on x.cells.length u M S ∧ WtAt wr a.heap.size bw r1 r2 bn on u f' g' ∧ Hid (InvH x M S g' none (some j) ∧ ClsTo x M S g' none j l ∧ Grow (fun _ => True) Mt M St S ∧ ∀ k, (g' k).length ≤ (g k).length + l) ∧ Ext a wr) (fun i _ => (x.c j).prs.length - (intOf i).toNat)
  case atStart => exact ⟨0, v, Mt, St, f, g, Nat.zero_le _, rfl, unhide HW, unhide HT, ⟨unhide HI, (fun p _ h => by omega), Grow.refl, fun k => by omega⟩, hx⟩
  case round =>
    clear HW HT HI p7 m1 hx
    clear f v
    obtain ⟨l, u, M, S, f, g', hl, rfl, hw, htt, hinv, hbl⟩ := hrel
    have HW := hide hw
    have HT := hide htt
    have c0 := hw.c0
    have hbw : bw < wr.heap.size := hw.rlt.1
    by_cases hl2 : l < (x.c j).prs.length
    · obtain ⟨b2, o2, rfl, q0, q1, q2, q3, q4, q5⟩ := unhide HP l hl2
      have e0 := hbl.keep q0
      have e1 := hbl.keep q1
      have e2 := hbl.keep q2
      have e3 := hbl.keep q3
      have e4 := hbl.keep q4
      have e5 := hbl.keep q5
      have hb2 : b2 < wr.heap.size := cell_lt e0
      clear q0 q1 q2 q3 q4 q5 hw htt
      have hl0 : (0:Int) ≤ (l:Int) := by omega
      have hl1 : (l:Int) < ((x.c j).prs.length:Int) := by omega
      have xa := (Ext.refl wr).alloc (.cells #[.int .i64 ((x.c j).p l).key.k, .int .i64 ((x.c j).p l).key.n, .int .i64 ((x.c j).p l).key.a, .int .i64 ((x.c j).p l).val.k, .int .i64 ((x.c j).p l).val.n, .int .i64 ((x.c j).p l).val.a] 152)
      have MK := hide (may_pair (unhide Q2) (unhide Q4) j l (unhide GD) hl2)
      have PE := fun w => pair_eq ((x.c j).p l) w
      have PE2 := fun w => pair_eq2 ((x.c j).p l) w
      cases tz : zp ((x.c j).p l)
      rotate_left
      · simp only [tz] at PE PE2
        have R := hide (And.intro ((unhide HW).ext xa) (And.intro ((unhide HT).ext xa) (And.intro (zp_cls tz (unhide hinv).2.1) (hbl.trans xa))))
        clear tz
        go_wp2_with fail
        go_roundw
        case rel => exact ⟨l + 1, u, M, S, f, g', by omega, by go_num, (unhide R).1, (unhide R).2.1, ⟨(unhide hinv).1, (unhide R).2.2.1, (unhide hinv).2.2.1, fun k => by have := (unhide hinv).2.2.2 k; omega⟩, (unhide R).2.2.2⟩
        case measure => simp [intOf]; omega
      · simp only [tz] at PE PE2
        clear tz
        go_wp2_with fail
        go_cut [6] (fun s6 wx => ∃ o1, s6 = pv bn on o1 ∧ Hid (o1 = wo x ((x.c j).p l).key) ∧ Ext (wr.alloc (.cells #[.int .i64 ((x.c j).p l).key.k, .int .i64 ((x.c j).p l).key.n, .int .i64 ((x.c j).p l).key.a, .int .i64 ((x.c j).p l).val.k, .int .i64 ((x.c j).p l).val.n, .int .i64 ((x.c j).p l).val.a] 152)) wx)
        case first =>
          go_region_with (go_at_call 206; refine (follow_o x ((x.c j).p l).key b _ bn on ((unhide HV).ext (hbl.trans xa).drew) (unhide Q2) (unhide MK).1).mono ?_; rintro e w2 ⟨rfl, hq2⟩)
          all_goals
            go_wp2_with fail
            go_meet
            exact ⟨_, rfl, rfl, Ext.trans ((Ext.refl _).drew) hq2⟩
        case rest =>
        obtain ⟨o1, rfl, O1, hq2⟩ := hcut
        obtain ⟨w2, hw2⟩ : ∃ W, W = wc := ⟨_, rfl⟩
        subst hw2
        have x2 := xa.trans hq2
        have X2 := hbl.trans x2
        have v3 : w2.cell? ⟨wr.heap.size, 3, none⟩ = some (.int .i64 ((x.c j).p l).val.k) := hq2.keep (by simp [go_sem])
        have v4 : w2.cell? ⟨wr.heap.size, 4, none⟩ = some (.int .i64 ((x.c j).p l).val.n) := hq2.keep (by simp [go_sem])
        have v5 : w2.cell? ⟨wr.heap.size, 5, none⟩ = some (.int .i64 ((x.c j).p l).val.a) := hq2.keep (by simp [go_sem])
        have W2 := hide ((unhide HW).ext x2)
        have T2 := hide ((unhide HT).ext x2)
        have c0 := (unhide W2).c0
        clear PE PE2 e0 e1 e2 e3 e4 e5 hq2
        go_wp2_with fail
        refine (weakKeys_any bn (on + j * 2) bc oc (x.c j).weak _ (X2.keep (unhide M1)) (X2.keep (unhide P2))).mono ?_
        rintro e w3 ⟨rfl, hq3⟩
        cases tk : ((x.c j).weak == 1 || (x.c j).weak == 3)
        · have hsep : wr.heap.size < w3.heap.size := Nat.lt_of_lt_of_le (cell_lt v3) hq3.size
          have X3 := X2.trans hq3
          go_wp2_with fail
          refine (meet_opt a.heap.size bw b r1 bn on x.cells.length o1 u M S _ ((unhide W2).ext hq3) (fun i e => (wo_lt (unhide MK).1 i (by rw [← unhide O1]; exact e)).1) X3.size hn8).mono ?_
          rintro e w4 ⟨rfl, u4, M4, S4, hw4, hg4, hk4⟩
          have kb := hk4.block wr.heap.size hsep (by have := (unhide HW).rlt; omega) (by have := (unhide HW).rlt; omega) (fun e => by have := ((unhide HW).s.lt _ e).2; omega)
          have y3 := (World.cell?_of_block (a := ⟨wr.heap.size, 3, none⟩) kb).trans (hq3.keep v3)
          have y4 := (World.cell?_of_block (a := ⟨wr.heap.size, 4, none⟩) kb).trans (hq3.keep v4)
          have y5 := (World.cell?_of_block (a := ⟨wr.heap.size, 5, none⟩) kb).trans (hq3.keep v5)
          have X4 := ((unhide W2).ext hq3).kext hk4 X3
          have W4 := hide hw4
          have T4 := hide (((unhide T2).ext hq3).step hk4)
          have G4 := hide (unhide hg4).1
          have I4 := hide ((unhide hinv).1.grow (unhide hg4).1 (fun i e => by
            obtain ⟨_, k, rfl⟩ := wo_lt (unhide MK).1 i (by rw [← unhide O1]; exact e)
            exact Held.key j l (unhide HJ) hl2 (sk_of tk) k))
          have K4 := hide (show SK (x.c j) → ((x.c j).p l).key.k = 2 → tgt x ((x.c j).p l).key ∈ M4 from fun _ k => (unhide hg4).2 _ (by rw [unhide O1]; unfold wo; rw [if_pos k]))
          clear hw4 hg4 hk4 kb v3 v4 v5 hsep
          go_wp2_with fail
          refine (weakVals_any bn (on + j * 2) bc oc (x.c j).weak _ (X4.keep (unhide M1)) (X4.keep (unhide P2))).mono ?_
          rintro e w5 ⟨rfl, hq5⟩
          have X5 := X4.trans hq5
          cases tv : ((x.c j).weak == 2 || (x.c j).weak == 3)
          · have z3 := hq5.keep y3
            have z4 := hq5.keep y4
            have z5 := hq5.keep y5
            have d0 := hq5.keep (unhide W4).c0
            clear y3 y4 y5
            go_wp2_with fail
            go_region_with (first
              | (go_at_call 206; refine (follow_o x ((x.c j).p l).val b _ bn on ((unhide HV).ext X5.drew) (unhide Q2) (unhide MK).2).mono ?_; rintro e w6 ⟨rfl, hq6⟩; have X6 := X5.drew.trans hq6; have Y6 := Ext.trans ((Ext.refl w5).drew) hq6; obtain ⟨o2, ho2⟩ : ∃ o, o = wo x ((x.c j).p l).val := ⟨_, rfl⟩; rw [← ho2]; have O2 := hide ho2; clear ho2 hq6)
              | (go_at_call 268; refine (beside_any a bw b r1 r2 bn on x.cells.length o1 o2 u4 f g' M4 S4 _ (((unhide W4).ext hq5).ext Y6) (((unhide T4).ext hq5).ext Y6) (fun i e => (wo_lt (unhide MK).2 i (by rw [← unhide O2]; exact e)).1) X6 hn8 (fun k => by have := (unhide hinv).2.2.2 k; have := hg k; omega)).mono ?_; rintro e w7 ⟨rfl, u7, M7, S7, f7, g7, hw7, ht7, hb7, hx7⟩; have B7 := hide (show Bes (wo x ((x.c j).p l).key) (wo x ((x.c j).p l).val) M4 M7 S4 S7 g' g7 by rw [← unhide O1, ← unhide O2]; exact unhide hb7); have R := hide (show WkAt w7 a.heap.size bw b r1 bn on x.cells.length u7 M7 S7 ∧ WtAt w7 a.heap.size bw r1 r2 bn on u7 f7 g7 ∧ (InvH x M7 S7 g7 none (some j) ∧ ClsTo x M7 S7 g7 none j (l + 1) ∧ Grow (fun _ => True) Mt M7 St S7 ∧ ∀ k, (g7 k).length ≤ (g k).length + (l + 1)) ∧ Ext a w7 from ⟨hw7, ht7, ⟨(unhide I4).beside (unhide HJ) hl2 (sv_of tv) (unhide MK).2 (unhide B7), pair_done (unhide hinv).2.1 (unhide G4) (unhide K4) (.inr (unhide B7)) (unhide B7).grow, ((unhide hinv).2.2.1.trans ((unhide G4).mono (fun _ _ => trivial))).trans ((unhide B7).grow.mono (fun _ _ => trivial)), fun k => by have := (unhide B7).len k; have := (unhide hinv).2.2.2 k; omega⟩, unhide hx7⟩); clear hw7 ht7 hb7 hx7 B7))
            all_goals
              go_wp2_with fail
              go_roundw
              case rel => exact ⟨l + 1, u7, M7, S7, f7, g7, by omega, by go_num, (unhide R).1, (unhide R).2.1, (unhide R).2.2.1, (unhide R).2.2.2⟩
              case measure => simp [intOf]; omega
          · have R := hide (show WkAt w5 a.heap.size bw b r1 bn on x.cells.length u4 M4 S4 ∧ WtAt w5 a.heap.size bw r1 r2 bn on u4 f g' ∧ (InvH x M4 S4 g' none (some j) ∧ ClsTo x M4 S4 g' none j (l + 1) ∧ Grow (fun _ => True) Mt M4 St S4 ∧ ∀ k, (g' k).length ≤ (g k).length + (l + 1)) ∧ Ext a w5 from
              ⟨(unhide W4).ext hq5, (unhide T4).ext hq5, ⟨unhide I4, pair_done (unhide hinv).2.1 (unhide G4) (unhide K4) (.inl ⟨sv_not tv, rfl, rfl, rfl⟩) (Grow.refl (Q := fun _ => True)), (unhide hinv).2.2.1.trans ((unhide G4).mono (fun _ _ => trivial)), fun k => by have := (unhide hinv).2.2.2 k; omega⟩, X5⟩)
            clear y3 y4 y5
            go_wp2_with fail
            go_roundw
            case rel => exact ⟨l + 1, u4, M4, S4, f, g', by omega, by go_num, (unhide R).1, (unhide R).2.1, (unhide R).2.2.1, (unhide R).2.2.2⟩
            case measure => simp [intOf]; omega
        · have X4 := X2.trans hq3
          have y3 := hq3.keep v3
          have y4 := hq3.keep v4
          have y5 := hq3.keep v5
          have W4 := hide ((unhide W2).ext hq3)
          have T4 := hide ((unhide T2).ext hq3)
          have G4 := hide (show Grow (fun i => o1 = some i) M M S S from Grow.refl)
          have I4 := hide (unhide hinv).1
          have K4 := hide (show SK (x.c j) → ((x.c j).p l).key.k = 2 → tgt x ((x.c j).p l).key ∈ M from fun s _ => (sk_not tk s).elim)
          clear v3 v4 v5
          go_wp2_with fail
          refine (weakVals_any bn (on + j * 2) bc oc (x.c j).weak _ (X4.keep (unhide M1)) (X4.keep (unhide P2))).mono ?_
          rintro e w5 ⟨rfl, hq5⟩
          have X5 := X4.trans hq5
          cases tv : ((x.c j).weak == 2 || (x.c j).weak == 3)
          · have z3 := hq5.keep y3
            have z4 := hq5.keep y4
            have z5 := hq5.keep y5
            have d0 := hq5.keep (unhide W4).c0
            clear y3 y4 y5
            go_wp2_with fail
            go_region_with (first
              | (go_at_call 206; refine (follow_o x ((x.c j).p l).val b _ bn on ((unhide HV).ext X5.drew) (unhide Q2) (unhide MK).2).mono ?_; rintro e w6 ⟨rfl, hq6⟩; have X6 := X5.drew.trans hq6; have Y6 := Ext.trans ((Ext.refl w5).drew) hq6; obtain ⟨o2, ho2⟩ : ∃ o, o = wo x ((x.c j).p l).val := ⟨_, rfl⟩; rw [← ho2]; have O2 := hide ho2; clear ho2 hq6)
              | (go_at_call 268; refine (beside_any a bw b r1 r2 bn on x.cells.length o1 o2 u f g' M S _ (((unhide W4).ext hq5).ext Y6) (((unhide T4).ext hq5).ext Y6) (fun i e => (wo_lt (unhide MK).2 i (by rw [← unhide O2]; exact e)).1) X6 hn8 (fun k => by have := (unhide hinv).2.2.2 k; have := hg k; omega)).mono ?_; rintro e w7 ⟨rfl, u7, M7, S7, f7, g7, hw7, ht7, hb7, hx7⟩; have B7 := hide (show Bes (wo x ((x.c j).p l).key) (wo x ((x.c j).p l).val) M M7 S S7 g' g7 by rw [← unhide O1, ← unhide O2]; exact unhide hb7); have R := hide (show WkAt w7 a.heap.size bw b r1 bn on x.cells.length u7 M7 S7 ∧ WtAt w7 a.heap.size bw r1 r2 bn on u7 f7 g7 ∧ (InvH x M7 S7 g7 none (some j) ∧ ClsTo x M7 S7 g7 none j (l + 1) ∧ Grow (fun _ => True) Mt M7 St S7 ∧ ∀ k, (g7 k).length ≤ (g k).length + (l + 1)) ∧ Ext a w7 from ⟨hw7, ht7, ⟨(unhide I4).beside (unhide HJ) hl2 (sv_of tv) (unhide MK).2 (unhide B7), pair_done (unhide hinv).2.1 (unhide G4) (unhide K4) (.inr (unhide B7)) (unhide B7).grow, ((unhide hinv).2.2.1.trans ((unhide G4).mono (fun _ _ => trivial))).trans ((unhide B7).grow.mono (fun _ _ => trivial)), fun k => by have := (unhide B7).len k; have := (unhide hinv).2.2.2 k; omega⟩, unhide hx7⟩); clear hw7 ht7 hb7 hx7 B7))
            all_goals
              go_wp2_with fail
              go_roundw
              case rel => exact ⟨l + 1, u7, M7, S7, f7, g7, by omega, by go_num, (unhide R).1, (unhide R).2.1, (unhide R).2.2.1, (unhide R).2.2.2⟩
              case measure => simp [intOf]; omega
          · have R := hide (show WkAt w5 a.heap.size bw b r1 bn on x.cells.length u M S ∧ WtAt w5 a.heap.size bw r1 r2 bn on u f g' ∧ (InvH x M S g' none (some j) ∧ ClsTo x M S g' none j (l + 1) ∧ Grow (fun _ => True) Mt M St S ∧ ∀ k, (g' k).length ≤ (g k).length + (l + 1)) ∧ Ext a w5 from
              ⟨(unhide W4).ext hq5, (unhide T4).ext hq5, ⟨unhide I4, pair_done (unhide hinv).2.1 (unhide G4) (unhide K4) (.inl ⟨sv_not tv, rfl, rfl, rfl⟩) (Grow.refl (Q := fun _ => True)), (unhide hinv).2.2.1.trans ((unhide G4).mono (fun _ _ => trivial)), fun k => by have := (unhide hinv).2.2.2 k; omega⟩, X5⟩)
            clear y3 y4 y5
            go_wp2_with fail
            go_roundw
            case rel => exact ⟨l + 1, u, M, S, f, g', by omega, by go_num, (unhide R).1, (unhide R).2.1, (unhide R).2.2.1, (unhide R).2.2.2⟩
            case measure => simp [intOf]; omega
    · have hl3 : l = (x.c j).prs.length := by omega
      have R := hide (And.intro ((unhide hinv).1.shut (by have := (unhide hinv).2.1; rw [hl3] at this; exact this)) (And.intro (unhide hinv).2.2.1 (show ∀ k, (g' k).length ≤ (g k).length + 200 from fun k => by have := (unhide hinv).2.2.2 k; omega)))
      clear hw htt hl3 hinv
      go_wp2_with fail
      go_end0
      exact ⟨rfl, u, M, S, f, g', unhide HW, unhide HT, unhide R, hbl⟩
end Go.Proofs.YtddkhnclmeikfacGreat

namespace Go.Proofs.YtddkhnclmeikfacGreat
open Go.RowKit
attribute [local go_sem ↓] Go.wp_at_zero Go.wp_at_succ

/-! letGo's two closures. -/
theorem lost_tgt (x : Hp) (H : Nat → Bool) (y : Wd) : lostB x H y = (y.k == 2 && !H (tgt x y)) := by
  unfold lostB resW tgt lead2
  by_cases hk : y.k = 2
  · by_cases hs : (x.c y.a.toNat).st = 2
    · rw [if_pos ⟨hk, hs⟩]; simp [hk, hs]
    · rw [if_neg (fun h => hs h.2)]; simp [hk, hs]
  · have e : (y.k == 2) = false := by simpa using hk
    rw [if_neg (fun h => hk h.1), e]; rfl
/-- what the closures read: the store's box, the set, the nodes -/
structure LoAt (w : World) (b r bs bh : Nat) (x : Hp) (ac : Nat → Option Addr) (bn kn : Nat) (Mt : List Nat) : Prop where
  s : w.cell? ⟨bs, 0, none⟩ = some (.pointer (some ⟨b, 0, none⟩))
  h : w.cell? ⟨bh, 0, none⟩ = some (.map (some r))
  f : FwAt w b x ac (some ⟨bn, 0, none⟩) kn
  m : MapAt w r bn (Mt.map (fun i => i * 2))
  rl : r < w.heap.size
theorem LoAt.ext {w w' : World} {b r bs bh : Nat} {x : Hp} {ac : Nat → Option Addr} {bn kn : Nat} {Mt : List Nat} (h : LoAt w b r bs bh x ac bn kn Mt) (e : Ext w w') : LoAt w' b r bs bh x ac bn kn Mt :=
  ⟨e.keep h.s, e.keep h.h, h.f.ext e, h.m.block (e.block r h.rl), Nat.lt_of_lt_of_le h.rl e.size⟩
theorem mem_two {i : Nat} {Mt : List Nat} : i * 2 ∈ Mt.map (fun i => i * 2) ↔ i ∈ Mt := by
  simp only [List.mem_map]
  constructor
  · rintro ⟨j, hj, e⟩
    have : j = i := by omega
    rw [← this]; exact hj
  · intro h; exact ⟨i, h, rfl⟩
set_option maxRecDepth 100000 in
set_option maxHeartbeats 1000000 in
theorem lost_any (x : Hp) (y : Wd) (b r bs bh bn kn : Nat) (ac : Nat → Option Addr) (Mt : List Nat) (w : World) (h : LoAt w b r bs bh x ac bn kn Mt) (r2 : R2 x) (hy : MayMark x y) :
    Calls Tryz.prog 205 #[y.v, .pointer (some ⟨bs, 0, none⟩), .pointer (some ⟨bh, 0, none⟩)] w fun e w' => Hid (e = .returned (.bool (lostB x (fun i => decide (i ∈ Mt)) y))) ∧ Ext w w' := by
  have E := hide (lost_tgt x (fun i => decide (i ∈ Mt)) y)
  have L := hide h
  have c0 := h.s
  have c1 := h.h
  have hb1 : bh < w.heap.size := cell_lt c1
  have hb2 : bs < w.heap.size := cell_lt c0
  have HF := hide (fun (W : World) (e : Ext w W) => follow_any x y b W bn 0 (h.f.ext e) r2 hy)
  clear h
  have xa := (Ext.refl w).alloc (.cells #[iv y.k, iv y.n, iv y.a] 147)
  go_enter Tryz.func205, Tryz.ntmps205
  go_wp2_with fail
  go_region_with (go_at_call 206; refine (unhide HF _ (by first | exact xa | exact xa.drew | exact xa.drewN _)).mono ?_; rintro e w1 ⟨t, rfl, ht, q1⟩; have x1 := Ext.trans (show Ext w _ by first | exact xa | exact xa.drew | exact xa.drewN _) q1; clear q1)
  all_goals
    rcases ht with ⟨hk, rfl⟩ | ⟨hk, rfl⟩
    · have R := hide (show lostB x (fun i => decide (i ∈ Mt)) y = false by rw [unhide E]; simp [hk])
      clear hk
      go_wp2_with fail
      go_ret
      exact ⟨by show _ = _; rw [unhide R]; rfl, x1⟩
    · have R := hide (show lostB x (fun i => decide (i ∈ Mt)) y = !decide (tgt x y ∈ Mt) by rw [unhide E]; simp [hk])
      have L1 := hide ((unhide L).ext x1)
      have d1 := x1.keep c1
      have hb3 : bh < w1.heap.size := cell_lt d1
      simp only [Nat.zero_add]
      clear hk c0 c1
      go_wp2_with fail
      refine (has_any r bn (tgt x y * 2) _ _ (unhide L1).m).mono ?_
      rintro e w2 ⟨rfl, q2⟩
      have M := hide (show decide (tgt x y * 2 ∈ Mt.map (fun i => i * 2)) = decide (tgt x y ∈ Mt) by rw [decide_eq_decide]; exact mem_two)
      rw [unhide M]
      obtain ⟨dd, hdd⟩ : ∃ d, d = decide (tgt x y ∈ Mt) := ⟨_, rfl⟩
      have R3 := hide (show lostB x (fun i => decide (i ∈ Mt)) y = !dd by rw [unhide R, hdd])
      rw [← hdd]
      clear M R hdd
      go_wp2_with fail
      go_ret
      exact ⟨by show _ = _; rw [unhide R3]; rfl, x1.trans q2⟩
/-- what goes reads besides: the node's box, the box of lost, the cell's kind of weakness -/
structure GoAt (w : World) (b r bs bh bx bl : Nat) (x : Hp) (ac : Nat → Option Addr) (bn kn : Nat) (Mt : List Nat) (i : Nat) : Prop where
  lo : LoAt w b r bs bh x ac bn kn Mt
  n : w.cell? ⟨bx, 0, none⟩ = some (ndp bn i)
  l : w.cell? ⟨bl, 0, none⟩ = some (.func (.func 205) #[] #[.pointer (some ⟨bs, 0, none⟩), .pointer (some ⟨bh, 0, none⟩)])
  c : ∃ bc oc, ac i = some ⟨bc, oc, none⟩ ∧ w.cell? ⟨bn, i * 2 + 1, none⟩ = some (.pointer (some ⟨bc, oc, none⟩)) ∧ w.cell? ⟨bc, oc + 2, none⟩ = some (iv (x.c i).weak)
theorem GoAt.ext {w w' : World} {b r bs bh bx bl : Nat} {x : Hp} {ac : Nat → Option Addr} {bn kn : Nat} {Mt : List Nat} {i : Nat} (h : GoAt w b r bs bh bx bl x ac bn kn Mt i) (e : Ext w w') : GoAt w' b r bs bh bx bl x ac bn kn Mt i :=
  ⟨h.lo.ext e, e.keep h.n, e.keep h.l, let ⟨bc, oc, a, p, q⟩ := h.c; ⟨bc, oc, a, e.keep p, e.keep q⟩⟩
set_option maxRecDepth 100000 in
set_option maxHeartbeats 1000000 in
theorem goes_any (x : Hp) (p : Pr) (b r bs bh bx bl bn kn i : Nat) (ac : Nat → Option Addr) (Mt : List Nat) (w : World) (h : GoAt w b r bs bh bx bl x ac bn kn Mt i) (r2 : R2 x) (hk : MayMark x p.key) (hv : MayMark x p.val) :
    Calls Tryz.prog 207 #[p.v, .pointer (some ⟨bx, 0, none⟩), .pointer (some ⟨bl, 0, none⟩)] w fun e w' => Hid (e = .returned (.bool (goB x (fun i => decide (i ∈ Mt)) (x.c i) p))) ∧ Ext w w' := by
  obtain ⟨E, hE⟩ : ∃ E, E = goB x (fun i => decide (i ∈ Mt)) (x.c i) p := ⟨_, rfl⟩
  have EE := hide hE
  rw [← hE]
  clear hE
  have HG := hide h
  have LK := hide (fun (W : World) (e : Ext w W) => lost_any x p.key b r bs bh bn kn ac Mt W (h.lo.ext e) r2 hk)
  have LV := hide (fun (W : World) (e : Ext w W) => lost_any x p.val b r bs bh bn kn ac Mt W (h.lo.ext e) r2 hv)
  obtain ⟨bc, oc, _, m1, p2⟩ := h.c
  have WK := hide (fun (W : World) (e : Ext w W) => weakKeys_any bn (i * 2) bc oc (x.c i).weak W (e.keep m1) (e.keep p2))
  have WV := hide (fun (W : World) (e : Ext w W) => weakVals_any bn (i * 2) bc oc (x.c i).weak W (e.keep m1) (e.keep p2))
  have c0 := h.n
  have c1 := h.l
  have hb0 : bx < w.heap.size := cell_lt c0
  have hb1 : bl < w.heap.size := cell_lt c1
  clear h m1 p2
  obtain ⟨k1, hk1⟩ : ∃ k, k = ((x.c i).weak == 1 || (x.c i).weak == 3) := ⟨_, rfl⟩
  obtain ⟨k2, hk2⟩ : ∃ k, k = lostB x (fun i => decide (i ∈ Mt)) p.key := ⟨_, rfl⟩
  obtain ⟨k3, hk3⟩ : ∃ k, k = ((x.c i).weak == 2 || (x.c i).weak == 3) := ⟨_, rfl⟩
  obtain ⟨k4, hk4⟩ : ∃ k, k = lostB x (fun i => decide (i ∈ Mt)) p.val := ⟨_, rfl⟩
  rw [← hk1] at WK
  rw [← hk2] at LK
  rw [← hk3] at WV
  rw [← hk4] at LV
  have E2 := hide (show E = ((k1 && k2) || (k3 && k4)) by rw [unhide EE, hk1, hk2, hk3, hk4]; rfl)
  clear hk1 hk2 hk3 hk4 EE
  have xa := (Ext.refl w).alloc (.cells #[iv p.key.k, iv p.key.n, iv p.key.a, iv p.val.k, iv p.val.n, iv p.val.a] 152)
  go_enter Tryz.func207, Tryz.ntmps207
  go_wp2_with fail
  refine (unhide WK _ xa).mono ?_
  rintro e w1 ⟨rfl, q1⟩
  have v0 := q1.keep (b := w.heap.size) (o := 0) (v := iv p.key.k) (by simp [go_sem])
  have v1 := q1.keep (b := w.heap.size) (o := 1) (v := iv p.key.n) (by simp [go_sem])
  have v2 := q1.keep (b := w.heap.size) (o := 2) (v := iv p.key.a) (by simp [go_sem])
  have v3 := q1.keep (b := w.heap.size) (o := 3) (v := iv p.val.k) (by simp [go_sem])
  have v4 := q1.keep (b := w.heap.size) (o := 4) (v := iv p.val.n) (by simp [go_sem])
  have v5 := q1.keep (b := w.heap.size) (o := 5) (v := iv p.val.a) (by simp [go_sem])
  have x1 := xa.trans q1
  have d0 := x1.keep c0
  have d1 := x1.keep c1
  have hv1 : w.heap.size < w1.heap.size := cell_lt v0
  have hb2 : bl < w1.heap.size := cell_lt d1
  have hb4 : bx < w1.heap.size := cell_lt d0
  clear q1
  cases k1
  · go_wp2_with fail
    refine (unhide WV _ x1).mono ?_
    rintro e w3 ⟨rfl, q3⟩
    have x3 := Ext.trans x1 q3
    have v3 := q3.keep v3
    have v4 := q3.keep v4
    have v5 := q3.keep v5
    have d1 := x3.keep c1
    have hb3 : bl < w3.heap.size := cell_lt d1
    have hv3 : w.heap.size < w3.heap.size := cell_lt v3
    cases k3
    · have R := hide (show E = false by rw [unhide E2]; simp)
      go_wp2_with fail
      go_ret
      exact ⟨by show _ = _; rw [unhide R]; rfl, x3⟩
    · have R := hide (show E = k4 by rw [unhide E2]; simp)
      go_wp2_with fail
      refine (unhide LV _ x3).mono ?_
      rintro e w4 ⟨rfl, q4⟩
      go_wp2_with fail
      go_ret
      exact ⟨by show _ = _; rw [unhide R]; rfl, x3.trans q4⟩
  · go_wp2_with fail
    refine (unhide LK _ x1).mono ?_
    rintro e w2 ⟨rfl, q2⟩
    have x2 := x1.trans q2
    have g0 := x2.keep c0
    have u3 := q2.keep v3
    have u4 := q2.keep v4
    have u5 := q2.keep v5
    have hb5 : bx < w2.heap.size := cell_lt g0
    cases k2
    · go_wp2_with fail
      refine (unhide WV _ x2).mono ?_
      rintro e w3 ⟨rfl, q3⟩
      have x3 := Ext.trans x2 q3
      have v3 := q3.keep u3
      have v4 := q3.keep u4
      have v5 := q3.keep u5
      have d1 := x3.keep c1
      have hb3 : bl < w3.heap.size := cell_lt d1
      have hv3 : w.heap.size < w3.heap.size := cell_lt v3
      cases k3
      · have R := hide (show E = false by rw [unhide E2]; simp)
        go_wp2_with fail
        go_ret
        exact ⟨by show _ = _; rw [unhide R]; rfl, x3⟩
      · have R := hide (show E = k4 by rw [unhide E2]; simp)
        go_wp2_with fail
        refine (unhide LV _ x3).mono ?_
        rintro e w4 ⟨rfl, q4⟩
        go_wp2_with fail
        go_ret
        exact ⟨by show _ = _; rw [unhide R]; rfl, x3.trans q4⟩
    · have R := hide (show E = true by rw [unhide E2]; simp)
      go_wp2_with fail
      go_ret
      exact ⟨by show _ = _; rw [unhide R]; rfl, x2⟩
end Go.Proofs.YtddkhnclmeikfacGreat

namespace Go.Proofs.YtddkhnclmeikfacGreat
open Go.RowKit
attribute [local go_sem ↓] Go.wp_at_zero Go.wp_at_succ

/-! Pairs taken out of a row in place: slices.IndexFunc, slices.DeleteFunc. -/
def PRow (w : World) (g : Nat) (M : List Pr) : Prop := ∀ k (hk : k < M.length), PrAt w g (k * 6) M[k]
theorem PrAt.same {w w' : World} {g o : Nat} {p : Pr} (h : PrAt w g o p) (e : ∀ j, j < 6 → w'.cell? ⟨g, o + j, none⟩ = w.cell? ⟨g, o + j, none⟩) : PrAt w' g o p := by
  obtain ⟨h0, h1, h2, h3, h4, h5⟩ := h
  exact ⟨(e 0 (by omega)).trans h0, (e 1 (by omega)).trans h1, (e 2 (by omega)).trans h2, (e 3 (by omega)).trans h3, (e 4 (by omega)).trans h4, (e 5 (by omega)).trans h5⟩
theorem PRow.block {w w' : World} {g : Nat} {M : List Pr} (h : PRow w g M) (e : w'.heap[g]? = w.heap[g]?) : PRow w' g M := fun k hk => (h k hk).same fun _ _ => World.cell?_of_block (a := ⟨g, _, none⟩) e
theorem set_out (g : Nat) : ∀ (vs : List Value) (o j : Nat) (w : World), (j < o ∨ o + vs.length ≤ j) → (w.setCells g o vs).cell? ⟨g, j, none⟩ = w.cell? ⟨g, j, none⟩
  | [], _, _, _, _ => rfl
  | v :: r, o, j, w, h => by
    show ((w.setCell ⟨g, o, none⟩ v).setCells g (o + 1) r).cell? ⟨g, j, none⟩ = _
    simp only [List.length_cons] at h
    rw [set_out g r (o + 1) j _ (by omega)]
    exact cell_other _ (.inr (by omega))
theorem set_in (g : Nat) : ∀ (vs : List Value) (o k : Nat) (w : World), (∀ m, m < vs.length → ∃ u, w.cell? ⟨g, o + m, none⟩ = some u) → k < vs.length → (w.setCells g o vs).cell? ⟨g, o + k, none⟩ = vs[k]?
  | [], _, _, _, _, hk => by simp at hk
  | v :: r, o, 0, w, hm, _ => by
    show ((w.setCell ⟨g, o, none⟩ v).setCells g (o + 1) r).cell? ⟨g, o + 0, none⟩ = _
    rw [set_out g r (o + 1) (o + 0) _ (by omega)]
    obtain ⟨u, hu⟩ := hm 0 (by simp)
    exact World.cell?_setCell_same _ _ _ hu
  | v :: r, o, k + 1, w, hm, hk => by
    show ((w.setCell ⟨g, o, none⟩ v).setCells g (o + 1) r).cell? ⟨g, o + (k + 1), none⟩ = _
    have := set_in g r (o + 1) k (w.setCell ⟨g, o, none⟩ v) (fun m hm' => by
      obtain ⟨u, hu⟩ := hm (m + 1) (by simp; omega)
      refine ⟨u, ?_⟩
      rw [cell_other _ (.inr (by omega)), show o + 1 + m = o + (m + 1) by omega]
      exact hu) (by simpa using hk)
    rw [show o + 1 + k = o + (k + 1) by omega] at this
    rw [this]; rfl
theorem PrAt.some {w : World} {g o : Nat} {p : Pr} (h : PrAt w g o p) (m : Nat) (hm : m < 6) : ∃ u, w.cell? ⟨g, o + m, none⟩ = some u := by
  obtain ⟨h0, h1, h2, h3, h4, h5⟩ := h
  match m, hm with
  | 0, _ => exact ⟨_, h0⟩
  | 1, _ => exact ⟨_, h1⟩
  | 2, _ => exact ⟨_, h2⟩
  | 3, _ => exact ⟨_, h3⟩
  | 4, _ => exact ⟨_, h4⟩
  | 5, _ => exact ⟨_, h5⟩
theorem PRow.put {w : World} {g : Nat} {M : List Pr} (h : PRow w g M) (i : Nat) (hi : i < M.length) (y : Pr) : PRow (w.setCells g (i * 6) [iv y.key.k, iv y.key.n, iv y.key.a, iv y.val.k, iv y.val.n, iv y.val.a]) g (M.set i y) := fun k hk => by
  have hk' : k < M.length := by simpa using hk
  by_cases e : i = k
  · subst e
    have key : ∀ m, m < 6 → (w.setCells g (i * 6) [iv y.key.k, iv y.key.n, iv y.key.a, iv y.val.k, iv y.val.n, iv y.val.a]).cell? ⟨g, i * 6 + m, none⟩ = ([iv y.key.k, iv y.key.n, iv y.key.a, iv y.val.k, iv y.val.n, iv y.val.a] : List Value)[m]? := fun m hm => set_in g _ _ m w (fun m hm => (h i hi).some m (by simpa using hm)) (by simpa using hm)
    simp only [List.getElem_set_self]
    exact ⟨key 0 (by omega), key 1 (by omega), key 2 (by omega), key 3 (by omega), key 4 (by omega), key 5 (by omega)⟩
  · rw [List.getElem_set_ne e]
    exact (h k hk').same fun j hj => set_out g _ _ _ w (by simp only [List.length_cons, List.length_nil]; omega)
theorem PRow.cut {w : World} {g : Nat} {M : List Pr} (h : PRow w g M) (i : Nat) (vs : List Value) : PRow (w.setCells g (i * 6) vs) g (M.take i) := fun k hk => by
  have hk2 : k < i ∧ k < M.length := by simp at hk; omega
  rw [List.getElem_take]
  exact (h k hk2.2).same fun j hj => set_out g _ _ _ w (by omega)
/-- what stays of a list -/
def keepL (f : Pr → Bool) (xs : List Pr) : List Pr := xs.filter (fun p => !f p)
theorem keep_no (f : Pr → Bool) (xs : List Pr) (j : Nat) (hj : j < xs.length) (q : f xs[j] = true) : keepL f (xs.take (j + 1)) = keepL f (xs.take j) := by
  rw [List.take_succ_eq_append_getElem hj, keepL, List.filter_append]; simp [q, keepL]
theorem keep_yes (f : Pr → Bool) (xs : List Pr) (j : Nat) (hj : j < xs.length) (q : f xs[j] = false) : keepL f (xs.take (j + 1)) = keepL f (xs.take j) ++ [xs[j]] := by
  rw [List.take_succ_eq_append_getElem hj, keepL, List.filter_append]; simp [q, keepL]
theorem keep_same (f : Pr → Bool) (xs : List Pr) (h : ∀ j (hj : j < xs.length), f xs[j] = false) : keepL f xs = xs := by
  unfold keepL
  refine List.filter_eq_self.2 fun a ha => ?_
  obtain ⟨j, hj, e⟩ := List.getElem_of_mem ha
  rw [← e, h j hj]; rfl
/-- how far the deleting has come: i pairs kept of j looked at -/
structure DelP (f : Pr → Bool) (xs M : List Pr) (i j : Nat) : Prop where
  len : M.length = xs.length
  lt : i < j
  le : j ≤ xs.length
  tk : M.take i = keepL f (xs.take j)
  dr : M.drop j = xs.drop j
theorem DelP.start {f : Pr → Bool} {xs : List Pr} {i : Nat} (h : i < xs.length) (q : f xs[i] = true) (hn : ∀ j (hj : j < i), f (xs[j]'(by omega)) = false) : DelP f xs xs i (i + 1) := by
  refine ⟨rfl, by omega, by omega, ?_, rfl⟩
  rw [keep_no f xs i h q, keep_same f (xs.take i) (fun j hj => by simp at hj; rw [List.getElem_take]; exact hn j (by omega))]
theorem DelP.at {f : Pr → Bool} {xs M : List Pr} {i j : Nat} (h : DelP f xs M i j) (hj : j < xs.length) : ∃ hm : j < M.length, M[j] = xs[j] := by
  have hm : j < M.length := by rw [h.len]; exact hj
  refine ⟨hm, ?_⟩
  have e := congrArg (fun l => l[0]?) h.dr
  simp only [List.getElem?_drop, Nat.add_zero] at e
  rw [List.getElem?_eq_getElem hm, List.getElem?_eq_getElem hj] at e
  injection e
theorem DelP.no {f : Pr → Bool} {xs M : List Pr} {i j : Nat} (h : DelP f xs M i j) (hj : j < xs.length) (q : f xs[j] = true) : DelP f xs M i (j + 1) := by
  refine ⟨h.len, by have := h.lt; omega, by omega, by rw [keep_no f xs j hj q]; exact h.tk, ?_⟩
  have := congrArg (List.drop 1) h.dr
  simpa [List.drop_drop] using this
theorem DelP.yes {f : Pr → Bool} {xs M : List Pr} {i j : Nat} (h : DelP f xs M i j) (hj : j < xs.length) (q : f xs[j] = false) : DelP f xs (M.set i xs[j]) (i + 1) (j + 1) := by
  have hl := h.len
  have hlt := h.lt
  refine ⟨by simp [hl], by omega, by omega, ?_, ?_⟩
  · rw [keep_yes f xs j hj q, ← h.tk, List.take_set, List.take_succ_eq_append_getElem (by omega)]
    rw [List.set_append_right _ _ (by simp; omega)]
    simp [Nat.min_eq_left (show i ≤ M.length by omega)]
  · rw [List.drop_set_of_lt (by omega)]
    have := congrArg (List.drop 1) h.dr
    simpa [List.drop_drop] using this
theorem DelP.done {f : Pr → Bool} {xs M : List Pr} {i : Nat} (h : DelP f xs M i xs.length) : M.take i = keepL f xs ∧ i = (keepL f xs).length := by
  have e := h.tk
  rw [List.take_length] at e
  refine ⟨e, ?_⟩
  rw [← e, List.length_take, h.len]
  have := h.lt; omega
theorem keep_le (f : Pr → Bool) (xs : List Pr) : (keepL f xs).length ≤ xs.length := List.length_filter_le _ _
/-- where the first stands that goes -/
def FstP (f : Pr → Bool) (xs : List Pr) (r : Int) : Prop := (r = -1 ∧ ∀ j (h : j < xs.length), f xs[j] = false) ∨ ∃ i : Nat, ∃ h : i < xs.length, r = (i : Int) ∧ f xs[i] = true ∧ ∀ j (hj : j < i), f (xs[j]'(by omega)) = false
/-- the closure answers f, in all worlds that P knows -/
structure Ans2 (f : Pr → Bool) (xs : List Pr) (bx bl g : Nat) (P : World → Prop) : Prop where
  call : ∀ W, P W → ∀ k (hk : k < xs.length), Calls Tryz.prog 207 #[xs[k].v, .pointer (some ⟨bx, 0, none⟩), .pointer (some ⟨bl, 0, none⟩)] W fun e W' => Hid (e = .returned (.bool (f xs[k]))) ∧ Ext W W'
  ext : ∀ W W', P W → Ext W W' → P W'
  put : 0 < xs.length → ∀ W W', P W → Only (fun q => q = g) W W' → P W'
abbrev go2 (bx bl : Nat) : Value := .func (.func 207) #[] #[.pointer (some ⟨bx, 0, none⟩), .pointer (some ⟨bl, 0, none⟩)]
set_option maxRecDepth 100000 in
set_option maxHeartbeats 600000 in
theorem indexP_any (f : Pr → Bool) (xs : List Pr) (bx bl g : Nat) (P : World → Prop) (A : Ans2 f xs bx bl g P) (ad : Option Addr) (cap : Nat) (w : World) (hp : P w) (hr : PRow w g xs) (hg : g < w.heap.size ∨ xs.length = 0) (ha : 0 < xs.length → ad = some ⟨g, 0, none⟩) (hn : xs.length ≤ 200) :
    Calls Tryz.prog 271 #[.slice ad xs.length cap, go2 bx bl] w fun e w' => ∃ r : Int, Hid (e = .returned (.int .i64 r)) ∧ Hid (FstP f xs r) ∧ Ext w w' := by
  have HA := hide A
  have HP := hide hp
  have HR := hide hr
  clear A hp hr
  go_enter Tryz.func271, Tryz.ntmps271
  go_wp2_with fail
  go_loopw [8] (fun i wr => ∃ k : Nat, k ≤ xs.length ∧ i = .int .i64 k ∧ Hid (∀ j (hj : j < xs.length), j < k → f xs[j] = false) ∧ Ext w wr) (fun i _ => xs.length - (intOf i).toNat)
  case atStart => exact ⟨0, Nat.zero_le _, rfl, fun j _ h => by omega, Ext.refl _⟩
  case round =>
    obtain ⟨k, hk, rfl, hno, hbl⟩ := hrel
    by_cases hlt : k < xs.length
    · have ea := ha (by omega)
      subst ea
      obtain ⟨e0, e1, e2, e3, e4, e5⟩ := ((unhide HR).block (hbl.block g (by omega))) k hlt
      have C := hide ((unhide HA).call wr ((unhide HA).ext _ _ (unhide HP) hbl) k hlt)
      obtain ⟨y, hy⟩ : ∃ y, y = xs[k] := ⟨_, rfl⟩
      have HY := hide hy
      rw [← hy] at e0 e1 e2 e3 e4 e5 C
      clear hy
      have hk0 : (0:Int) ≤ (k:Int) := by omega
      have hk1 : (k:Int) < (xs.length:Int) := by omega
      go_wp2_with fail
      refine (unhide C).mono ?_
      rintro e w1 ⟨rfl, q1⟩
      cases t : f y
      · have N := hide (show ∀ j (hj : j < xs.length), j < k + 1 → f xs[j] = false from fun j hj hjk => by
          by_cases e : j = k
          · subst e; rw [← unhide HY]; exact t
          · exact unhide hno j hj (by omega))
        go_wp2_with fail
        go_roundw
        case rel => exact ⟨k + 1, by omega, by go_num, unhide N, hbl.trans q1⟩
        case measure => simp [intOf]; omega
      · have F := hide (show FstP f xs (k : Int) from .inr ⟨k, hlt, rfl, by rw [← unhide HY]; exact t, fun j hj => unhide hno j (by omega) hj⟩)
        go_wp2_with fail
        go_ret
        exact ⟨_, rfl, unhide F, hbl.trans q1⟩
    · have F := hide (show FstP f xs (-1) from .inl ⟨rfl, fun j hj => unhide hno j hj (by omega)⟩)
      go_wp2_with fail
      go_ret
      exact ⟨_, rfl, unhide F, hbl⟩
theorem zcell6_len (n : Nat) : (Builtin.zeroCells #[iv 0, iv 0, iv 0, iv 0, iv 0, iv 0] n).toList.length = n * 6 := by simp [Builtin.zeroCells]
theorem zcell6_one (n : Nat) : ∀ u, u ∈ (Builtin.zeroCells #[iv 0, iv 0, iv 0, iv 0, iv 0, iv 0] n).toList → u.oneCell' = true := fun u hu => by
  simp [Builtin.zeroCells] at hu
  obtain ⟨a, _, e⟩ := hu
  have : a % 6 < 6 := Nat.mod_lt _ (by omega)
  have h : a % 6 = 0 ∨ a % 6 = 1 ∨ a % 6 = 2 ∨ a % 6 = 3 ∨ a % 6 = 4 ∨ a % 6 = 5 := by omega
  rcases h with h | h | h | h | h | h <;> simp [h] at e <;> subst e <;> rfl
theorem clear_pairs (w : World) (ty : TypeId) (b o n c : Nat) (hn : 0 < n) (hc : ∀ j, j < n * 6 → (w.cell? ⟨b, o + j, none⟩).isSome = true) (hf : ∀ j, j < n * 6 → w.frozen? ⟨b, o + j, none⟩ = false) :
    (Builtin.clear_ #[148] ty #[.slice (some ⟨b, o, none⟩) n c]).run Tryz.prog w = .ok (.tuple #[]) (w.setCells b o (Builtin.zeroCells #[iv 0, iv 0, iv 0, iv 0, iv 0, iv 0] n).toList) := by
  have hl := zcell6_len n
  have hst := run_storeCells_cells (P := Tryz.prog) b o (Builtin.zeroCells #[iv 0, iv 0, iv 0, iv 0, iv 0, iv 0] n).toList 0 w (by rw [hl]; simpa using hc) (by rw [hl]; simpa using hf) (zcell6_one n)
  simp only [Nat.add_zero] at hst
  have hz : (Value.agg #[iv 0, iv 0, iv 0, iv 0, iv 0, iv 0]).cells = #[iv 0, iv 0, iv 0, iv 0, iv 0, iv 0] := by kernel_rfl
  obtain ⟨m, rfl⟩ : ∃ m, n = m + 1 := ⟨n - 1, by omega⟩
  simp [Builtin.clear_, run_underlying Tryz.underlying148, hz, hst]
end Go.Proofs.YtddkhnclmeikfacGreat
