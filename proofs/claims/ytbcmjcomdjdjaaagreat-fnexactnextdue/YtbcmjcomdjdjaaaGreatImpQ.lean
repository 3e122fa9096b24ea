import Derived.Test.YtbcmjcomdjdjaaaGreatImpO
namespace Go.Proofs.YtbcmjcomdjdjaaaGreat
open Go.RowKit
attribute [local go_sem ↓] Go.wp_at_zero Go.wp_at_succ

theorem markingB_iff {x : Hp} : markingB x = true ↔ Marking x := by simp [markingB, Marking]
theorem marking_is (x : Hp) (b : Nat) (s : Bool) (hs : markingB x = s) (w : World) (c5 : w.cell? ⟨b, 5, none⟩ = some (iv x.phase)) :
    Calls Tryz.prog 138 #[.pointer (some ⟨b, 0, none⟩)] w fun e w' => e = .returned (.bool s) ∧ w' = w := by
  rw [← hs]; exact marking_any x b w c5

def mayBlackB (x : Hp) (i : Nat) : Bool := markingB x || ((x.phase == 3) && decide (x.hand ≤ (i : Int)))
theorem mayBlackB_iff {x : Hp} {i : Nat} : mayBlackB x i = true ↔ MayBlack x i := by
  simp [mayBlackB, MayBlack, markingB_iff]

set_option maxHeartbeats 2000000 in
theorem mayBeBlack_any (x : Hp) (b bn q i : Nat) (w : World) (c5 : w.cell? ⟨b, 5, none⟩ = some (iv x.phase)) (c6 : w.cell? ⟨b, 6, none⟩ = some (iv x.hand)) (m0 : w.cell? ⟨bn, q, none⟩ = some (iv i)) :
    Calls Tryz.prog 137 #[.pointer (some ⟨b, 0, none⟩), .pointer (some ⟨bn, q, none⟩)] w fun e w' => e = .returned (.bool (mayBlackB x i)) ∧ Ext w w' := by
  have HM := hide (fun n s (hs : markingB x = s) => marking_is x b s hs (w.drewN n) (((Ext.refl w).drewN n).keep c5))
  cases t1 : markingB x
  · cases t2 : (x.phase == 3)
    · have E := hide (show mayBlackB x i = false by simp [mayBlackB, t1, t2])
      go_enter Tryz.func137, Tryz.ntmps137
      go_wp2_with fail
      go_quiet ((go_at_call 138; exact Calls.quiet_of_same (unhide HM _ _ t1)))
      go_wp2_with fail
      go_ret
      exact ⟨by rw [unhide E]; rfl, (Ext.refl w).drewN _⟩
    · by_cases t3 : x.hand ≤ (i : Int)
      · have E := hide (show mayBlackB x i = true by simp [mayBlackB, t2, t3])
        go_enter Tryz.func137, Tryz.ntmps137
        go_wp2_with fail
        go_quiet ((go_at_call 138; exact Calls.quiet_of_same (unhide HM _ _ t1)))
        go_wp2_with fail
        go_ret
        exact ⟨by rw [unhide E]; rfl, (Ext.refl w).drewN _⟩
      · have E := hide (show mayBlackB x i = false by simp [mayBlackB, t1]; omega)
        have t3b : decide (x.hand ≤ (i : Int)) = false := decide_eq_false t3
        clear t3
        go_enter Tryz.func137, Tryz.ntmps137
        go_wp2_with fail
        go_quiet ((go_at_call 138; exact Calls.quiet_of_same (unhide HM _ _ t1)))
        go_wp2_with fail
        go_ret
        exact ⟨by rw [unhide E]; rfl, (Ext.refl w).drewN _⟩
  · have E := hide (show mayBlackB x i = true by simp [mayBlackB, t1])
    go_enter Tryz.func137, Tryz.ntmps137
    go_wp2_with fail
    go_quiet ((go_at_call 138; exact Calls.quiet_of_same (unhide HM _ _ t1)))
    go_wp2_with fail
    go_ret
    exact ⟨by rw [unhide E]; rfl, (Ext.refl w).drewN _⟩

/-- Gray holds places of gray cells, and none twice -/
def GrayOk (x : Hp) : Prop := (∀ g, g ∈ x.gray → (0 ≤ g ∧ g < x.cells.length) ∧ (x.c g.toNat).color = 1) ∧ x.gray.Nodup

theorem it_gray (x : Hp) (k : Nat) (h : k < x.gray.length) : x.gray[k] = it x.gray k := it_eq _ _ h

set_option maxRecDepth 100000 in
set_option maxHeartbeats 4000000 in
theorem grayKept_any (x : Hp) (b : Nat) (w : World) {ar : Option Addr} {kr : Nat} {ac : Option Addr} {kc : Nat} {ag : Option Addr} {kg : Nat} {an : Option Addr} {kn : Nat} (h : VAt w b x ar kr ac kc ag kg an kn) (hn : x.gray.length ≤ 8000) :
    Calls Tryz.prog 139 #[.pointer (some ⟨b, 0, none⟩)] w fun e w' => ∃ r : Bool, Hid (e = .returned (.bool r)) ∧ (r = true ↔ GrayOk x) ∧ Ext w w' := by
  have c8 := h.H.c8
  have hb : b < w.heap.size := cell_lt c8
  have lc := h.H.lc
  have HV := hide h
  clear h
  go_enter Tryz.func139, Tryz.ntmps139
  go_wp2_with fail
  go_loopw [12] (fun i wr => ∃ (k : Nat) (v1 : Value) (L1 : List Int), k ≤ x.gray.length ∧ i = .int .i64 k ∧ Hid (∀ j, j < k → (0 ≤ it x.gray j ∧ it x.gray j < x.cells.length) ∧ (x.c (it x.gray j).toNat).color = 1) ∧ LsAt wr w.heap.size w.heap.size 0 v1 L1 ∧ Ho L1 ∧ L1.Perm (x.gray.take k) ∧ Ext w wr) (fun i _ => x.gray.length - (intOf i).toNat)
  case atStart => exact ⟨0, _, [], Nat.zero_le _, rfl, fun j hj => by omega, LsAt.nil (by simp [go_sem]) (by simp [go_sem]), Ho.nil, by simp, (Ext.refl w).alloc _⟩
  case round =>
    clear c8
    obtain ⟨k, v1, L1, hk, rfl, HA, ls, ho, hp, hbl⟩ := hrel
    have HLS := hide ls
    have HO := hide ho
    have HP := hide hp
    have hlen : L1.length ≤ 100000 := by have := hp.length_eq; simp at this; omega
    clear ls ho hp
    by_cases hlt : k < x.gray.length
    · have hv := (unhide HV).ext hbl
      obtain ⟨bg, og, rfl, pg⟩ := hv.H.G k hlt
      unfold InAt at pg
      rw [it_gray x k hlt] at pg
      have d13 := hv.n13
      have HV1 := hide hv
      have hk0 : (0:Int) ≤ (k:Int) := by omega
      have hk1 : (k:Int) < (x.gray.length:Int) := by omega
      obtain ⟨y, hy⟩ : ∃ z, it x.gray k = z := ⟨_, rfl⟩
      rw [hy] at pg
      have HY := hide hy
      have MEM := hide (show y ∈ x.gray by rw [← hy]; exact it_mem _ _ hlt)
      have hbs : w.heap.size ≤ wr.heap.size := hbl.size
      clear hv hy
      simp only [Nat.mul_one] at pg
      cases t1 : withinB y 0 ((x.cells.length : Int) - 1)
      · have N := hide (show ¬ GrayOk x from fun r => by have := withinB_false t1; have := (r.1 y (unhide MEM)).1; omega)
        go_wp2_with fail
        refine (within_is _ _ _ false t1 _).mono ?_
        rintro e w2 ⟨rfl, rfl⟩
        go_wp2_with fail
        go_ret
        exact ⟨false, rfl, ⟨fun f => by simp at f, fun r => (unhide N r).elim⟩, hbl⟩
      · obtain ⟨i, hi⟩ : ∃ i : Nat, y = (i : Int) := ⟨y.toNat, by have := withinB_true t1; omega⟩
        subst hi
        have hin : i < x.cells.length := by have := withinB_true t1; omega
        obtain ⟨bn, on, bc, oc, e1, e2, m0, m1⟩ := (unhide HV1).N i hin
        subst e1
        subst e2
        obtain ⟨bc2, oc2, ap, kp, e3, C⟩ := (unhide HV1).H.cell i hin
        cases e3
        have p5 := C.p5
        have hi0 : (0 : Int) ≤ (i : Int) := by omega
        have hi1 : (i : Int) < (x.cells.length : Int) := by omega
        clear C m0
        cases t2 : ((x.c i).color == 1)
        · have t2b : ((x.c i).color != 1) = true := by simpa using t2
          have N := hide (show ¬ GrayOk x from fun r => by have := (r.1 _ (unhide MEM)).2; simp at this t2; omega)
          go_wp2_with fail
          refine (within_is _ _ _ true t1 _).mono ?_
          rintro e w2 ⟨rfl, rfl⟩
          go_wp2_with fail
          go_ret
          exact ⟨false, rfl, ⟨fun f => by simp at f, fun r => (unhide N r).elim⟩, hbl⟩
        · have t2b : ((x.c i).color != 1) = false := by simpa using t2
          have OK := hide (show ∀ j, j < k + 1 → (0 ≤ it x.gray j ∧ it x.gray j < x.cells.length) ∧ (x.c (it x.gray j).toNat).color = 1 from fun j hj => by
            by_cases e : j = k
            · rw [e, unhide HY]; exact ⟨⟨hi0, hi1⟩, by simpa using t2⟩
            · exact unhide HA j (by omega))
          have TK := hide (show x.gray.take (k + 1) = x.gray.take k ++ [(i : Int)] by
            rw [← unhide HY, ← it_gray x k hlt]; exact (List.take_append_getElem hlt).symm)
          go_wp2_with fail
          refine (within_is _ _ _ true t1 _).mono ?_
          rintro e w2 ⟨rfl, rfl⟩
          go_wp2_with fail
          refine (put_ls _ w.heap.size w.heap.size 0 v1 L1 (i : Int) (unhide HLS) hbs (unhide HO) hlen).mono ?_
          rintro e w3 ⟨rfl, v3, L3, l3, o3, p3, q3⟩
          have R := hide (show LsAt w3 w.heap.size w.heap.size 0 v3 L3 ∧ Ho L3 ∧ L3.Perm (x.gray.take (k + 1)) ∧ Ext w w3 from
            ⟨l3, o3, by rw [unhide TK]; exact (p3.trans ((unhide HP).cons _)).trans (List.perm_append_singleton _ _).symm, q3.ext hbl (Nat.le_refl _) (fun k hk => ((unhide HLS).rlt k hk).1)⟩)
          clear l3 o3 p3 q3
          go_wp2_with fail
          go_roundw
          case rel => exact ⟨k + 1, v3, L3, by omega, by go_num, unhide OK, unhide R⟩
          case measure => simp [intOf]; omega
    · have hk2 : k = x.gray.length := by omega
      have P1 := hide (show L1.Nodup ↔ x.gray.Nodup by have := unhide HP; rw [hk2, List.take_length] at this; exact this.nodup_iff)
      have A1 := hide (show ∀ g, g ∈ x.gray → (0 ≤ g ∧ g < x.cells.length) ∧ (x.c g.toNat).color = 1 from fun g hg => by
        obtain ⟨j, hj, e⟩ := List.getElem_of_mem hg
        rw [it_gray x j hj] at e
        rw [← e]; exact unhide HA j (by omega))
      clear hk2
      go_wp2_with fail
      refine (drain_ls _ w.heap.size w.heap.size 0 v1 L1 (unhide HLS) (unhide HO) hlen).mono ?_
      rintro e w2 ⟨r, rfl, hr, v3, q3⟩
      have E2 := hide (q3.ext hbl (Nat.le_refl _) (fun k hk => ((unhide HLS).rlt k hk).1))
      have RR := hide (show r = true ↔ GrayOk x from ⟨fun e => ⟨unhide A1, (unhide P1).1 (hr.1 e)⟩, fun q => hr.2 ((unhide P1).2 q.2)⟩)
      clear q3 hr
      go_wp2_with fail
      go_ret
      exact ⟨r, rfl, unhide RR, unhide E2⟩

set_option maxRecDepth 100000 in
set_option maxHeartbeats 4000000 in
theorem colorsKept_any (x : Hp) (b : Nat) (w : World) {ar : Option Addr} {kr : Nat} {ac : Option Addr} {kc : Nat} {ag : Option Addr} {kg : Nat} {an : Option Addr} {kn : Nat} (h : VAt w b x ar kr ac kc ag kg an kn) (hn : x.gray.length ≤ 8000) (hc : x.cells.length ≤ 8000) :
    Calls Tryz.prog 100 #[.pointer (some ⟨b, 0, none⟩)] w fun e w' => ∃ r : Bool, Hid (e = .returned (.bool r)) ∧ (r = true ↔ R5 x) ∧ Ext w w' := by
  have n13 := h.n13
  have c8 := h.H.c8
  have HV := hide h
  clear h
  go_enter Tryz.func100, Tryz.ntmps100
  go_wp2_with fail
  go_loopw [3, 11] (fun s i wr => ∃ (k u : Nat), k ≤ x.cells.length ∧ i = .int .i64 k ∧ s = .int .i64 u ∧ u ≤ k ∧ Hid (u = (grays x k).length) ∧ Hid (∀ j, j < k → (x.c j).color = 2 → MayBlack x j) ∧ Ext w wr) (fun _ i _ => x.cells.length - (intOf i).toNat)
  case atStart => exact ⟨0, 0, Nat.zero_le _, rfl, rfl, Nat.le_refl _, rfl, fun j hj => by omega, Ext.refl _⟩
  case round =>
    clear n13
    obtain ⟨k, u, hk, rfl, rfl, huk, hu, HA, hbl⟩ := hrel
    by_cases hlt : k < x.cells.length
    · have hv := (unhide HV).ext hbl
      obtain ⟨bn, on, bc, oc, rfl, rfl, m0, m1⟩ := hv.N k hlt
      obtain ⟨bc2, oc2, ap, kp, e2, C⟩ := hv.H.cell k hlt
      cases e2
      have p5 := C.p5
      have d13 := hv.n13
      have HV1 := hide hv
      have hk0 : (0:Int) ≤ (k:Int) := by omega
      have hk1 : (k:Int) < (x.cells.length:Int) := by omega
      clear C hv
      have step : ((x.c k).color = 2 → MayBlack x k) → Hid (∀ j, j < k + 1 → (x.c j).color = 2 → MayBlack x j) := fun hc j hj => by
        by_cases e : j = k
        · rw [e]; exact hc
        · exact unhide HA j (by omega)
      have ST := hide step
      clear step
      cases s1 : ((x.c k).color == 1)
      · have U2 := hide (show u = (grays x (k + 1)).length by have := unhide hu; unfold grays at *; rw [valsTo_no _ _ _ (by simpa [isGray] using s1)]; exact this)
        cases s2 : ((x.c k).color == 2)
        · have OK := unhide ST (fun e => by rw [e] at s2; simp at s2)
          go_wp2_with fail
          go_roundw
          case rel => exact ⟨k + 1, u, by omega, by go_num, rfl, by omega, unhide U2, unhide OK, hbl⟩
          case measure => simp [intOf]; omega
        · go_wp2_with fail
          refine (mayBeBlack_any x b bn (on + k * 2) k _ (unhide HV1).H.c5 (unhide HV1).H.c6 m0).mono ?_
          rintro e w2 ⟨rfl, hq⟩
          have x2 := hbl.trans hq
          cases tb : mayBlackB x k
          · have N := hide (show ¬ R5 x from fun r => by
              have := ((R5_iff x).1 r).1 k hlt (by simpa using s2)
              rw [← mayBlackB_iff, tb] at this
              simp at this)
            go_wp2_with fail
            go_ret
            exact ⟨false, rfl, ⟨fun f => by simp at f, fun r => (unhide N r).elim⟩, x2⟩
          · have OK := unhide ST (fun _ => mayBlackB_iff.1 tb)
            go_wp2_with fail
            go_roundw
            case rel => exact ⟨k + 1, u, by omega, by go_num, rfl, by omega, unhide U2, unhide OK, x2⟩
            case measure => simp [intOf]; omega
      · have U2 := hide (show u + 1 = (grays x (k + 1)).length by have := unhide hu; unfold grays at *; rw [valsTo_yes _ _ _ (by simpa [isGray] using s1)]; simp; exact this)
        have OK := unhide ST (fun e => by rw [e] at s1; simp at s1)
        go_wp2_with fail
        go_roundw
        case rel => exact ⟨k + 1, u + 1, by omega, by go_num, by go_num, by omega, unhide U2, unhide OK, hbl⟩
        case measure => simp [intOf]; omega
    · have hk2 : k = x.cells.length := by omega
      have U := hide (show u = (grays x x.cells.length).length by have := unhide hu; rw [hk2] at this; exact this)
      have A1 := hide (show ∀ j, j < x.cells.length → (x.c j).color = 2 → MayBlack x j from fun j hj => unhide HA j (by omega))
      clear hk2 hu HA
      have h1 := (unhide HV).ext hbl
      have d8 := h1.H.c8
      have HV1 := hide h1
      clear h1
      go_wp2_with fail
      refine (marking_any x b _ (unhide HV1).H.c5).mono ?_
      rintro e w2 ⟨rfl, rfl⟩
      cases tm : markingB x
      · have NM := hide (show ¬ Marking x from fun m => by rw [← markingB_iff, tm] at m; simp at m)
        by_cases hu0 : 0 < u
        · have hu0b : (0 : Int) < (u : Int) := by omega
          have N := hide (show ¬ R5 x from fun r => by
            have := ((R5_iff x).1 r).2.1 (unhide NM)
            have := unhide U
            omega)
          go_wp2_with fail
          go_ret
          exact ⟨false, rfl, ⟨fun f => by simp at f, fun r => (unhide N r).elim⟩, hbl⟩
        · have hu0b : u = 0 := by omega
          subst hu0b
          cases tl : ((x.gray.length : Int) == 0)
          · have N := hide (show ¬ R5 x from fun r => by
              have := ((R5_iff x).1 r).2.2.1
              have := unhide U
              have tl2 := beq_eq_false_iff_ne.1 tl
              omega)
            go_wp2_with fail
            go_ret
            exact ⟨false, rfl, ⟨fun f => by simp at f, fun r => (unhide N r).elim⟩, hbl⟩
          · go_wp2_with fail
            refine (grayKept_any x b _ (unhide HV1) hn).mono ?_
            rintro e w3 ⟨r, rfl, hr, hq⟩
            have x3 := hbl.trans hq
            have RR := hide (show r = true ↔ R5 x by
              rw [R5_iff]
              refine ⟨fun e => ⟨unhide A1, fun _ => (unhide U).symm, ?_, (hr.1 e).1, (hr.1 e).2⟩, fun q => hr.2 ⟨q.2.2.2.1, q.2.2.2.2⟩⟩
              have := unhide U
              simp at tl
              rw [tl]; exact this)
            clear hr
            go_wp2_with fail
            go_ret
            exact ⟨r, rfl, unhide RR, x3⟩
      · have YM := hide (markingB_iff.1 tm)
        cases tl : ((x.gray.length : Int) == (u : Int))
        · have N := hide (show ¬ R5 x from fun r => by
            have := ((R5_iff x).1 r).2.2.1
            have := unhide U
            simp at tl
            omega)
          go_wp2_with fail
          go_ret
          exact ⟨false, rfl, ⟨fun f => by simp at f, fun r => (unhide N r).elim⟩, hbl⟩
        · go_wp2_with fail
          refine (grayKept_any x b _ (unhide HV1) hn).mono ?_
          rintro e w3 ⟨r, rfl, hr, hq⟩
          have x3 := hbl.trans hq
          have RR := hide (show r = true ↔ R5 x by
            rw [R5_iff]
            refine ⟨fun e => ⟨unhide A1, fun nm => (nm (unhide YM)).elim, ?_, (hr.1 e).1, (hr.1 e).2⟩, fun q => hr.2 ⟨q.2.2.2.1, q.2.2.2.2⟩⟩
            have := unhide U
            simp at tl
            omega)
          clear hr
          go_wp2_with fail
          go_ret
          exact ⟨r, rfl, unhide RR, x3⟩
end Go.Proofs.YtbcmjcomdjdjaaaGreat
