import Derived.Test.YtojdehkcggbdeabGreatLsB
namespace Go.Proofs.YtojdehkcggbdeabGreat
open Go.RowKit
attribute [local go_sem ↓] Go.wp_at_zero Go.wp_at_succ

theorem swap_lsI (w : World) (base bq oq g n cap i j : Nat) (I J : Int) (L : List Int) (hI : I = (i : Int)) (hJ : J = (j : Int)) (h : LsAt w base bq oq (.slice (some ⟨g, 0, none⟩) n cap) L) (hi : i < n) (hj : j < n) :
    Calls Tryz.prog 121 #[.pointer (some ⟨bq, oq, none⟩), .int .i64 I, .int .i64 J] w fun e w' => e = .returned (.tuple #[]) ∧ LsAt w' base bq oq (.slice (some ⟨g, 0, none⟩) n cap) (swp L i j) ∧ QFr bq oq (.slice (some ⟨g, 0, none⟩) n cap) (.slice (some ⟨g, 0, none⟩) n cap) w w' := by
  subst hI; subst hJ; exact swap_ls w base bq oq g n cap i j L h hi hj

set_option maxRecDepth 100000 in
set_option maxHeartbeats 2000000 in
theorem sink_ls (w : World) (base bq oq g n cap : Nat) (L : List Int) (h : LsAt w base bq oq (.slice (some ⟨g, 0, none⟩) n cap) L) (hF : Fall L 0) (hn : n ≤ 100000) :
    Calls Tryz.prog 157 #[.pointer (some ⟨bq, oq, none⟩)] w fun e w' => e = .returned (.tuple #[]) ∧ ∃ L', LsAt w' base bq oq (.slice (some ⟨g, 0, none⟩) n cap) L' ∧ Ho L' ∧ L'.Perm L ∧ QFr bq oq (.slice (some ⟨g, 0, none⟩) n cap) (.slice (some ⟨g, 0, none⟩) n cap) w w' := by
  have hl := h.len.1
  have hlc := h.len.2
  have HL := hide h
  have HFF := hide hF
  clear h hF
  go_enter Tryz.func157, Tryz.ntmps157
  go_wp2_with fail
  go_loopw [2] (fun si wr => ∃ (a : Nat) (M : List Int), a ≤ n ∧ si = .int .i64 a ∧ M.length = n ∧ LsAt wr base bq oq (.slice (some ⟨g, 0, none⟩) n cap) M ∧ Fall M a ∧ M.Perm L ∧ QFr bq oq (.slice (some ⟨g, 0, none⟩) n cap) (.slice (some ⟨g, 0, none⟩) n cap) w wr) (fun si _ => n - (intOf si).toNat)
  case atStart => exact ⟨0, L, Nat.zero_le _, rfl, hl.symm, unhide HL, unhide HFF, List.Perm.refl _, QFr.refl _ _ _ _⟩
  case round =>
    clear HFF HL hl
    obtain ⟨a, M, ha, rfl, hM, hls, hr, hp, hq⟩ := hrel
    have HLS := hide hls
    have HR := hide hr
    have HP := hide hp
    have HQ := hide hq
    have hd := hls.hd
    have i0 : (0 : Int) ≤ (a : Int) := by omega
    have i1 : (a : Int) ≤ 100000 := by omega
    by_cases hb : n ≤ 2 * a + 1
    · have hb2 : (n : Int) ≤ 2 * (a : Int) + 1 := by omega
      have Y := hide (Fall.bottom (unhide HR) (by omega))
      clear hls hr hp hq hb
      go_wp2_with fail
      try simp only [Exit.inBlock, Exit.then]
      refine bodyPost_ret (results_none rfl _ _ _) rfl ?_
      exact ⟨rfl, M, unhide HLS, unhide Y, unhide HP, unhide HQ⟩
    · have hb2 : ¬ (n : Int) ≤ 2 * (a : Int) + 1 := by omega
      have hb3 : 2 * (a : Int) + 1 < (n : Int) := by omega
      have j0 : (0 : Int) ≤ 2 * (a : Int) + 1 := by omega
      have j1 : (2 * (a : Int) + 1).toNat = 2 * a + 1 := by omega
      have j2 : (a : Int) < (n : Int) := by omega
      have hwr : IntKind.i64.wrap (2 * (a : Int) + 1 + 1) = 2 * (a : Int) + 2 := by rw [IntKind.wrap_i64]; omega
      obtain ⟨xa, hxa⟩ : ∃ z, it M a = z := ⟨_, rfl⟩
      have ca := hls.cell a (by omega)
      rw [hxa] at ca
      obtain ⟨xl, hxl⟩ : ∃ z, it M (2 * a + 1) = z := ⟨_, rfl⟩
      have cl := hls.cell (2 * a + 1) (by omega)
      rw [hxl] at cl
      by_cases hr2 : 2 * a + 2 < n
      · obtain ⟨xr, hxr⟩ : ∃ z, it M (2 * a + 2) = z := ⟨_, rfl⟩
        have cr := hls.cell (2 * a + 2) (by omega)
        rw [hxr] at cr
        have k0 : 2 * (a : Int) + 2 < (n : Int) := by omega
        have k1 : (0 : Int) ≤ 2 * (a : Int) + 2 := by omega
        have k2 : (2 * (a : Int) + 2).toNat = 2 * a + 2 := by omega
        by_cases ht : xr < xl
        · have LE := hide (Lesser.right (by omega) (by rw [hxr, hxl]; exact ht) : Lesser M a (2 * a + 2))
          clear hls hr hp hq hb
          by_cases hc : xa ≤ xr
          · have Y := hide (Fall.done (unhide HR) (unhide LE) (by rw [hxa, hxr]; exact hc))
            go_wp2_with fail
            go_quiet (fail)
            go_wp2_with fail
            go_quiet (fail)
            go_wp2_with fail
            try simp only [Exit.inBlock, Exit.then]
            refine bodyPost_ret (results_none rfl _ _ _) rfl ?_
            exact ⟨rfl, M, (unhide HLS).ext (by first | exact ((Ext.refl _).drewN _).drewN _ | exact (Ext.refl _).drewN _), unhide Y, unhide HP, by first | exact ((unhide HQ).drewN _).drewN _ | exact (unhide HQ).drewN _⟩
          · have hc2 : decide (xa ≤ xr) = false := decide_eq_false hc
            have hc3 : xr < xa := by omega
            have R2 := hide (Fall.down (unhide HR) (unhide LE) (by rw [hxa, hxr]; exact hc3))
            have sl : 2 * a + 2 < M.length := (unhide LE).2.1
            have ez : ((2 * a + 2 : Nat) : Int) = 2 * (a : Int) + 2 := by omega
            clear hc hc3
            go_wp2_with fail
            go_quiet (fail)
            go_wp2_with fail
            go_quiet (fail)
            go_wp2_with fail
            refine (swap_lsI _ base bq oq g n cap a (2 * a + 2) (a : Int) (2 * (a : Int) + 2) M rfl ez.symm ((unhide HLS).ext (by first | exact ((Ext.refl _).drewN _).drewN _ | exact (Ext.refl _).drewN _)) (by omega) (by omega)).mono ?_
            rintro e w2 ⟨rfl, ls2, q2⟩
            have LS2 := hide ls2
            have QF2 := hide (QFr.trans (by first | exact ((unhide HQ).drewN _).drewN _ | exact (unhide HQ).drewN _) q2)
            clear ls2 q2
            go_wp2_with fail
            go_roundw
            case rel => exact ⟨2 * a + 2, swp M a (2 * a + 2), by omega, by go_num, by rw [swp_len]; omega, unhide LS2, unhide R2, (swp_perm M a (2 * a + 2) (by omega) sl).trans (unhide HP), unhide QF2⟩
            case measure => simp [intOf]; omega
        · have LE := hide (Lesser.left (by omega) (fun _ => by rw [hxr, hxl]; omega) : Lesser M a (2 * a + 1))
          have ht2 : decide (xr < xl) = false := decide_eq_false ht
          clear hls hr hp hq hb ht
          by_cases hc : xa ≤ xl
          · have Y := hide (Fall.done (unhide HR) (unhide LE) (by rw [hxa, hxl]; exact hc))
            go_wp2_with fail
            go_quiet (fail)
            go_wp2_with fail
            go_quiet (fail)
            go_wp2_with fail
            try simp only [Exit.inBlock, Exit.then]
            refine bodyPost_ret (results_none rfl _ _ _) rfl ?_
            exact ⟨rfl, M, (unhide HLS).ext (by first | exact ((Ext.refl _).drewN _).drewN _ | exact (Ext.refl _).drewN _), unhide Y, unhide HP, by first | exact ((unhide HQ).drewN _).drewN _ | exact (unhide HQ).drewN _⟩
          · have hc2 : decide (xa ≤ xl) = false := decide_eq_false hc
            have hc3 : xl < xa := by omega
            have R2 := hide (Fall.down (unhide HR) (unhide LE) (by rw [hxa, hxl]; exact hc3))
            have sl : 2 * a + 1 < M.length := (unhide LE).2.1
            have ez : ((2 * a + 1 : Nat) : Int) = 2 * (a : Int) + 1 := by omega
            clear hc hc3
            go_wp2_with fail
            go_quiet (fail)
            go_wp2_with fail
            go_quiet (fail)
            go_wp2_with fail
            refine (swap_lsI _ base bq oq g n cap a (2 * a + 1) (a : Int) (2 * (a : Int) + 1) M rfl ez.symm ((unhide HLS).ext (by first | exact ((Ext.refl _).drewN _).drewN _ | exact (Ext.refl _).drewN _)) (by omega) (by omega)).mono ?_
            rintro e w2 ⟨rfl, ls2, q2⟩
            have LS2 := hide ls2
            have QF2 := hide (QFr.trans (by first | exact ((unhide HQ).drewN _).drewN _ | exact (unhide HQ).drewN _) q2)
            clear ls2 q2
            go_wp2_with fail
            go_roundw
            case rel => exact ⟨2 * a + 1, swp M a (2 * a + 1), by omega, by go_num, by rw [swp_len]; omega, unhide LS2, unhide R2, (swp_perm M a (2 * a + 1) (by omega) sl).trans (unhide HP), unhide QF2⟩
            case measure => simp [intOf]; omega
      · have LE := hide (Lesser.left (by omega) (fun q => by omega) : Lesser M a (2 * a + 1))
        have hr3 : decide (2 * (a : Int) + 2 < (n : Int)) = false := decide_eq_false (by omega)
        clear hls hr hp hq hb hr2
        by_cases hc : xa ≤ xl
        · have Y := hide (Fall.done (unhide HR) (unhide LE) (by rw [hxa, hxl]; exact hc))
          go_wp2_with fail
          go_quiet (fail)
          go_wp2_with fail
          go_quiet (fail)
          go_wp2_with fail
          try simp only [Exit.inBlock, Exit.then]
          refine bodyPost_ret (results_none rfl _ _ _) rfl ?_
          exact ⟨rfl, M, (unhide HLS).ext (by first | exact ((Ext.refl _).drewN _).drewN _ | exact (Ext.refl _).drewN _), unhide Y, unhide HP, by first | exact ((unhide HQ).drewN _).drewN _ | exact (unhide HQ).drewN _⟩
        · have hc2 : decide (xa ≤ xl) = false := decide_eq_false hc
          have hc3 : xl < xa := by omega
          have R2 := hide (Fall.down (unhide HR) (unhide LE) (by rw [hxa, hxl]; exact hc3))
          have sl : 2 * a + 1 < M.length := (unhide LE).2.1
          have ez : ((2 * a + 1 : Nat) : Int) = 2 * (a : Int) + 1 := by omega
          clear hc hc3
          go_wp2_with fail
          go_quiet (fail)
          go_wp2_with fail
          go_quiet (fail)
          go_wp2_with fail
          refine (swap_lsI _ base bq oq g n cap a (2 * a + 1) (a : Int) (2 * (a : Int) + 1) M rfl ez.symm ((unhide HLS).ext (by first | exact ((Ext.refl _).drewN _).drewN _ | exact (Ext.refl _).drewN _)) (by omega) (by omega)).mono ?_
          rintro e w2 ⟨rfl, ls2, q2⟩
          have LS2 := hide ls2
          have QF2 := hide (QFr.trans (by first | exact ((unhide HQ).drewN _).drewN _ | exact (unhide HQ).drewN _) q2)
          clear ls2 q2
          go_wp2_with fail
          go_roundw
          case rel => exact ⟨2 * a + 1, swp M a (2 * a + 1), by omega, by go_num, by rw [swp_len]; omega, unhide LS2, unhide R2, (swp_perm M a (2 * a + 1) (by omega) sl).trans (unhide HP), unhide QF2⟩
          case measure => simp [intOf]; omega
end Go.Proofs.YtojdehkcggbdeabGreat
