import Derived.Test.YtbcmjcomdjdjaaaGreatImpN
import Derived.Test.YtbcmjcomdjdjaaaGreatImpD
import Derived.Test.YtbcmjcomdjdjaaaGreatLs
namespace Go.Proofs.YtbcmjcomdjdjaaaGreat
open Go.RowKit
attribute [local go_sem ↓] Go.wp_at_zero Go.wp_at_succ

/-- the view's heap of free places -/
structure FAt (w : World) (b : Nat) (x : Hp) (base : Nat) (vf : Value) (F : List Int) : Prop where
  L : LsAt w base b 14 vf F
  O : Ho F
  P : F.Perm (frees x x.cells.length)
theorem FAt.ext {w w' : World} {b : Nat} {x : Hp} {base : Nat} {vf : Value} {F : List Int} (h : FAt w b x base vf F) (e : Ext w w') : FAt w' b x base vf F := ⟨h.L.ext e, h.O, h.P⟩

theorem frees_mem (x : Hp) (k : Nat) (z : Int) : z ∈ frees x k ↔ ∃ i, i < k ∧ (x.c i).st = 0 ∧ (i : Int) = z := by
  unfold frees; rw [valsTo_mem]; simp [isSt, castI]

theorem gap_none {x : Hp} {F : List Int} (P : F.Perm (frees x x.cells.length)) (h : F.length = 0) (k : Nat) (hk : k < x.cells.length) : (x.c k).st ≠ 0 := fun e => by
  have : (k : Int) ∈ F := P.mem_iff.2 ((frees_mem _ _ _).2 ⟨k, hk, e, rfl⟩)
  rw [List.length_eq_zero_iff.1 h] at this
  cases this
theorem gap_some {x : Hp} {F : List Int} (P : F.Perm (frees x x.cells.length)) (O : Ho F) (h : 0 < F.length) (t : Nat) (ht : t < x.cells.length) (hs : (x.c t).st = 1) :
    (t : Int) < it F 0 ↔ ∀ k : Nat, k < t → (x.c k).st ≠ 0 := by
  constructor
  · intro hl k hk e
    have := O.least (P.mem_iff.2 ((frees_mem _ _ _).2 ⟨k, by omega, e, rfl⟩))
    omega
  · intro ha
    obtain ⟨i, hi, e, q⟩ := (frees_mem _ _ _).1 (P.mem_iff.1 (it_mem F 0 h))
    by_cases h1 : i < t
    · exact (ha i h1 e).elim
    · by_cases h2 : i = t
      · rw [h2] at e; omega
      · omega

set_option maxRecDepth 100000 in
set_option maxHeartbeats 4000000 in
theorem movedKept_any (x : Hp) (b i : Nat) (w : World) {ar : Option Addr} {kr : Nat} {ac : Option Addr} {kc : Nat} {ag : Option Addr} {kg : Nat} {an : Option Addr} {kn : Nat} {base : Nat} {vf : Value} {F : List Int} (h : VAt w b x ar kr ac kc ag kg an kn) (hF : FAt w b x base vf F) (hi : i < x.cells.length) (bn on : Nat) (ha : an = some ⟨bn, on, none⟩) :
    Calls Tryz.prog 131 #[.pointer (some ⟨b, 0, none⟩), .pointer (some ⟨bn, on + i * 2, none⟩)] w fun e w' => ∃ r : Bool, Hid (e = .returned (.bool r)) ∧ (r = true ↔ MovedOk x i (x.c i)) ∧ Ext w w' := by
  obtain ⟨bn', on', bc, oc, e1, rfl, m0, m1⟩ := h.N i hi
  rw [ha] at e1
  cases e1
  obtain ⟨bc', oc', ap, kp, e2, C⟩ := h.H.cell i hi
  cases e2
  have c5 := h.H.c5
  have n13 := h.n13
  have lc := h.H.lc
  have p6 := C.p6
  have HB := hide (fun n s (hs : bareC (x.c i) = s) => bare_is (x.c i) bn (on + i * 2) bc (oc + i * 8) ap kp s hs (w.drewN n) (((Ext.refl w).drewN n).keep m1) (C.ext ((Ext.refl w).drewN n)))
  clear C
  have hi0 : (0 : Int) ≤ (i : Int) := by omega
  have HV := hide h
  have HFF := hide hF
  subst ha
  clear h hF
  cases t1 : decide (x.phase < 4)
  · have t1' := of_decide_eq_false t1
    cases t2 : bareC (x.c i)
    · have N := hide (show ¬ MovedOk x i (x.c i) from fun m => by have := bareC_iff.2 m.1; rw [this] at t2; simp at t2)
      go_enter Tryz.func131, Tryz.ntmps131
      go_wp2_with fail
      go_quiet ((go_at_call 129; exact Calls.quiet_of_same (unhide HB _ _ t2)))
      go_wp2_with fail
      go_ret
      exact ⟨false, rfl, ⟨fun f => by simp at f, fun r => (unhide N r).elim⟩, (Ext.refl w).drewN _⟩
    · cases t3 : withinB (x.c i).to 0 ((i : Int) - 1)
      · have N := hide (show ¬ MovedOk x i (x.c i) from fun m => by have := withinB_false t3; have := m.2.2.1; have := m.2.2.2.1; omega)
        go_enter Tryz.func131, Tryz.ntmps131
        go_wp2_with fail
        go_quiet (first | (go_at_call 129; exact Calls.quiet_of_same (unhide HB _ _ t2)) | (go_at_call 83; refine Calls.quiet_of_same (within_is _ _ _ false ?_ _); assumption))
        go_wp2_with fail
        go_ret
        exact ⟨false, rfl, ⟨fun f => by simp at f, fun r => (unhide N r).elim⟩, (Ext.refl w).drewN _⟩
      · obtain ⟨t, htn⟩ : ∃ t : Nat, (x.c i).to = (t : Int) := ⟨(x.c i).to.toNat, by have := withinB_true t3; omega⟩
        have ht3 := withinB_true t3
        have hti : t < i := by omega
        have htl : t < x.cells.length := by omega
        obtain ⟨bn2, on2, bc2, oc2, e1, e2, k0, k1⟩ := (unhide HV).N t htl
        cases e1
        cases e2
        obtain ⟨bc3, oc3, ap3, kp3, e3, C3⟩ := (unhide HV).H.cell t htl
        cases e3
        have s0 := C3.p0
        have ht0 : (0 : Int) ≤ (t : Int) := by omega
        have ht1 : (t : Int) < (x.cells.length : Int) := by omega
        rw [htn] at p6 t3
        have HTN := hide htn
        have BB := hide (bareC_iff.1 t2)
        have PH := hide (show 4 ≤ x.phase by omega)
        clear C3 k0 htn ht3
        cases t4 : ((x.c t).st == 1)
        · have N := hide (show ¬ MovedOk x i (x.c i) from fun m => by have := m.2.2.2.2.1; rw [unhide HTN] at this; simp at this t4; omega)
          have t4b : ((x.c t).st != 1) = true := by simpa using t4
          go_enter Tryz.func131, Tryz.ntmps131
          go_wp2_with fail
          go_quiet (first | (go_at_call 129; exact Calls.quiet_of_same (unhide HB _ _ t2)) | (go_at_call 83; refine Calls.quiet_of_same (within_is _ _ _ true ?_ _); assumption))
          go_wp2_with fail
          go_quiet (fail)
          go_wp2_with fail
          go_ret
          exact ⟨false, rfl, ⟨fun f => by simp at f, fun r => (unhide N r).elim⟩, by first | exact ((Ext.refl w).drewN _).drewN _ | exact (Ext.refl w).drewN _⟩
        · have t4b : ((x.c t).st != 1) = false := by simpa using t4
          have T4 := hide (show (x.c t).st = 1 by simpa using t4)
          have MK := hide (show (x.phase = 4 → ∀ k : Nat, k < t → (x.c k).st ≠ 0) → MovedOk x i (x.c i) from fun hg => ⟨unhide BB, unhide PH, by rw [unhide HTN]; omega, by rw [unhide HTN]; omega, by rw [unhide HTN]; simpa using unhide T4, fun p k hk => hg p k (by rw [unhide HTN] at hk; omega)⟩)
          have MG := hide (show MovedOk x i (x.c i) → x.phase = 4 → ∀ k : Nat, k < t → (x.c k).st ≠ 0 from fun m p k hk => m.2.2.2.2.2 p k (by rw [unhide HTN]; omega))
          by_cases f0 : F.length = 0
          · obtain ⟨ad, cap, rfl⟩ := (unhide HFF).L.empty f0
            have hd := (unhide HFF).L.hd
            have Y := hide (unhide MK fun _ k hk => gap_none (unhide HFF).P f0 k (by omega))
            cases t5 : (x.phase == 4)
            · have t5b : (x.phase != 4) = true := by simpa using t5
              go_enter Tryz.func131, Tryz.ntmps131
              go_wp2_with fail
              go_quiet (first | (go_at_call 129; exact Calls.quiet_of_same (unhide HB _ _ t2)) | (go_at_call 83; refine Calls.quiet_of_same (within_is _ _ _ true ?_ _); assumption))
              go_wp2_with fail
              go_quiet (fail)
              go_wp2_with fail
              refine (first_none (w.drewN _) b 14 ad cap (((Ext.refl w).drewN _).keep hd)).mono ?_
              rintro e w1 ⟨rfl, rfl⟩
              go_wp2_with fail
              go_ret
              exact ⟨true, rfl, ⟨fun _ => unhide Y, fun _ => rfl⟩, by first | exact ((Ext.refl w).drewN _).drewN _ | exact (Ext.refl w).drewN _⟩
            · have t5b : (x.phase != 4) = false := by simpa using t5
              go_enter Tryz.func131, Tryz.ntmps131
              go_wp2_with fail
              go_quiet (first | (go_at_call 129; exact Calls.quiet_of_same (unhide HB _ _ t2)) | (go_at_call 83; refine Calls.quiet_of_same (within_is _ _ _ true ?_ _); assumption))
              go_wp2_with fail
              go_quiet (fail)
              go_wp2_with fail
              refine (first_none (w.drewN _) b 14 ad cap (((Ext.refl w).drewN _).keep hd)).mono ?_
              rintro e w1 ⟨rfl, rfl⟩
              go_wp2_with fail
              go_ret
              exact ⟨true, rfl, ⟨fun _ => unhide Y, fun _ => rfl⟩, by first | exact ((Ext.refl w).drewN _).drewN _ | exact (Ext.refl w).drewN _⟩
          · obtain ⟨g, cap, rfl, hgb⟩ := (unhide HFF).L.form (by omega)
            have hd := (unhide HFF).L.hd
            have GS := hide (gap_some (unhide HFF).P (unhide HFF).O (by omega) t htl (unhide T4))
            have cy := (unhide HFF).L.cell 0 (by omega)
            obtain ⟨y0, hy0⟩ : ∃ z, it F 0 = z := ⟨_, rfl⟩
            rw [hy0] at cy
            cases t5 : (x.phase == 4)
            · have t5b : (x.phase != 4) = true := by simpa using t5
              have Y := hide (unhide MK fun p => by rw [p] at t5; simp at t5)
              clear hy0
              go_enter Tryz.func131, Tryz.ntmps131
              go_wp2_with fail
              go_quiet (first | (go_at_call 129; exact Calls.quiet_of_same (unhide HB _ _ t2)) | (go_at_call 83; refine Calls.quiet_of_same (within_is _ _ _ true ?_ _); assumption))
              go_wp2_with fail
              go_quiet (fail)
              go_wp2_with fail
              refine (first_some (w.drewN _) b 14 g 0 F.length cap y0 (by omega) (((Ext.refl w).drewN _).keep hd) (((Ext.refl w).drewN _).keep cy)).mono ?_
              rintro e w1 ⟨rfl, rfl⟩
              go_wp2_with fail
              go_ret
              exact ⟨true, rfl, ⟨fun _ => unhide Y, fun _ => rfl⟩, by first | exact ((Ext.refl w).drewN _).drewN _ | exact (Ext.refl w).drewN _⟩
            · have t5b : (x.phase != 4) = false := by simpa using t5
              have P4 := hide (show x.phase = 4 by simpa using t5)
              cases t6 : decide ((t : Int) < y0)
              · have N := hide (show ¬ MovedOk x i (x.c i) from fun m => of_decide_eq_false t6 (by rw [← hy0]; exact (unhide GS).2 (unhide MG m (unhide P4))))
                clear hy0
                go_enter Tryz.func131, Tryz.ntmps131
                go_wp2_with fail
                go_quiet (first | (go_at_call 129; exact Calls.quiet_of_same (unhide HB _ _ t2)) | (go_at_call 83; refine Calls.quiet_of_same (within_is _ _ _ true ?_ _); assumption))
                go_wp2_with fail
                go_quiet (fail)
                go_wp2_with fail
                refine (first_some (w.drewN _) b 14 g 0 F.length cap y0 (by omega) (((Ext.refl w).drewN _).keep hd) (((Ext.refl w).drewN _).keep cy)).mono ?_
                rintro e w1 ⟨rfl, rfl⟩
                go_wp2_with fail
                go_ret
                exact ⟨false, rfl, ⟨fun f => by simp at f, fun r => (unhide N r).elim⟩, by first | exact ((Ext.refl w).drewN _).drewN _ | exact (Ext.refl w).drewN _⟩
              · have Y := hide (unhide MK fun _ => (unhide GS).1 (by rw [hy0]; exact of_decide_eq_true t6))
                have t6b := of_decide_eq_true t6
                clear hy0 t6
                go_enter Tryz.func131, Tryz.ntmps131
                go_wp2_with fail
                go_quiet (first | (go_at_call 129; exact Calls.quiet_of_same (unhide HB _ _ t2)) | (go_at_call 83; refine Calls.quiet_of_same (within_is _ _ _ true ?_ _); assumption))
                go_wp2_with fail
                go_quiet (fail)
                go_wp2_with fail
                refine (first_some (w.drewN _) b 14 g 0 F.length cap y0 (by omega) (((Ext.refl w).drewN _).keep hd) (((Ext.refl w).drewN _).keep cy)).mono ?_
                rintro e w1 ⟨rfl, rfl⟩
                go_wp2_with fail
                go_ret
                exact ⟨true, rfl, ⟨fun _ => unhide Y, fun _ => rfl⟩, by first | exact ((Ext.refl w).drewN _).drewN _ | exact (Ext.refl w).drewN _⟩
  · have N := hide (show ¬ MovedOk x i (x.c i) from fun m => by have := m.2.1; have := of_decide_eq_true t1; omega)
    have t1b := of_decide_eq_true t1
    clear t1
    go_enter Tryz.func131, Tryz.ntmps131
    go_wp2_with fail
    go_quiet (fail)
    go_wp2_with fail
    go_ret
    exact ⟨false, rfl, ⟨fun f => by simp at f, fun r => (unhide N r).elim⟩, (Ext.refl w).drewN _⟩
end Go.Proofs.YtbcmjcomdjdjaaaGreat
