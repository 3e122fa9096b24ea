import Derived.Test.YtojdehkcggbdeabGreatLsC
namespace Go.Proofs.YtojdehkcggbdeabGreat
open Go.RowKit
attribute [local go_sem ↓] Go.wp_at_zero Go.wp_at_succ

theorem take_none (w : World) (base bq oq : Nat) (v : Value) (L : List Int) (h : LsAt w base bq oq v L) (hn : L.length = 0) :
    Calls Tryz.prog 143 #[.pointer (some ⟨bq, oq, none⟩)] w fun e w' => e = .returned (.tuple #[.int .i64 0, .bool false]) ∧ w' = w := by
  obtain ⟨ad, cap, rfl⟩ := h.empty hn
  have hd := h.hd
  clear h
  go_enter Tryz.func143, Tryz.ntmps143
  go_wp2_with fail
  refine (first_none _ bq oq ad cap hd).mono ?_
  rintro e w1 ⟨rfl, rfl⟩
  go_wp2_with fail
  go_ret2
  exact ⟨rfl, rfl⟩

/-- the last place cut off -/
theorem LsAt.cut {w : World} {base bq oq g n cap : Nat} {L : List Int} (h : LsAt w base bq oq (.slice (some ⟨g, 0, none⟩) (n + 1) cap) L) :
    LsAt (w.setCell ⟨bq, oq, none⟩ (.slice (some ⟨g, 0, none⟩) n cap)) base bq oq (.slice (some ⟨g, 0, none⟩) n cap) (L.take n) ∧
    QFr bq oq (.slice (some ⟨g, 0, none⟩) (n + 1) cap) (.slice (some ⟨g, 0, none⟩) n cap) w (w.setCell ⟨bq, oq, none⟩ (.slice (some ⟨g, 0, none⟩) n cap)) := by
  have hne : g ≠ bq := fun e => h.apart (by rw [← e]; rfl)
  obtain ⟨hl, hc⟩ := h.len
  have hsp : L = L.take n ++ L.drop n := (List.take_append_drop n L).symm
  have hlen : (L.take n).length = n := by simp; omega
  have how : w.ownsRow base 3 1 (.slice (some ⟨g, 0, none⟩) n cap) n ((L.take n).map iv) := by
    refine ownsRow_pop (last := (L.drop n).map iv) (by simp; omega) ?_
    have := h.own
    rw [← hl] at this
    rw [← List.map_append, List.take_append_drop]
    exact this
  refine ⟨⟨World.cell?_setCell_same _ _ _ h.hd, by rw [World.frozen?_setCell]; exact h.hf, ?_, fun e => hne (by simpa [Value.ownBlock] using e)⟩, ⟨rfl, rfl, rfl, by simp [World.setCell], fun k _ h1 _ => Below.heap_setCell _ _ _ _ (show k ≠ bq from h1), fun o ho => cell_other _ (.inr (fun e => ho e.symm)), fun o => by rw [World.frozen?_setCell], .inl rfl⟩⟩
  rw [hlen]
  refine ownsRow_of_block how (fun k hk => Below.heap_setCell _ _ _ _ ?_)
  simp [Value.ownBlock] at hk
  show k ≠ bq
  omega

set_option maxRecDepth 100000 in
set_option maxHeartbeats 2000000 in
theorem take_some (w : World) (base bq oq : Nat) (v : Value) (L : List Int) (h : LsAt w base bq oq v L) (hn : 0 < L.length) (hO : Ho L) (hm : L.length ≤ 100000) :
    Calls Tryz.prog 143 #[.pointer (some ⟨bq, oq, none⟩)] w fun e w' => e = .returned (.tuple #[.int .i64 (it L 0), .bool true]) ∧ ∃ v' L', LsAt w' base bq oq v' L' ∧ Ho L' ∧ (it L 0 :: L').Perm L ∧ QFr bq oq v v' w w' := by
  obtain ⟨g, cap, rfl, hg⟩ := h.form hn
  obtain ⟨n, hn2⟩ : ∃ n, L.length = n + 1 := ⟨L.length - 1, by omega⟩
  rw [hn2] at h ⊢
  have hlc := h.len.2
  have hd := h.hd
  obtain ⟨x0, hx0⟩ : ∃ z, it L 0 = z := ⟨_, rfl⟩
  have c0 := h.cell 0 hn
  rw [hx0] at c0 ⊢
  have HL := hide h
  have HF := hide (Fall.start hO)
  have HPm := hide (cutl_perm L hn)
  have hn3 : n ≤ 100000 := by omega
  have hcl : cutl L = (swp L 0 n).take n := by unfold cutl; rw [hn2]; simp
  have HCL := hide hcl
  have HN := hide hn2
  have HX := hide hx0
  have i0 : (0 : Int) ≤ (n : Int) := by omega
  have i1 : (n : Int) ≤ (cap : Int) := by omega
  clear h hO hn hm hcl hn2 hx0
  go_enter Tryz.func143, Tryz.ntmps143
  go_wp2_with fail
  refine (first_some _ bq oq g 0 (n + 1) cap x0 (by omega) hd c0).mono ?_
  rintro e w1 ⟨rfl, rfl⟩
  go_wp2_with fail
  refine (swap_lsI _ base bq oq g (n + 1) cap 0 n 0 (n : Int) L rfl rfl (unhide HL) (by omega) (by omega)).mono ?_
  rintro e w2 ⟨rfl, ls2, q2⟩
  have LS2 := hide ls2
  have hd2 := ls2.hd
  have hf2 := ls2.hf
  have Q2 := hide q2
  clear ls2 q2 hd c0
  go_wp2_with fail
  have LC := (unhide LS2).cut
  rw [← unhide HCL] at LC
  refine (sink_ls _ base bq oq g n cap (cutl L) LC.1 (unhide HF) hn3).mono ?_
  rintro e w3 ⟨rfl, L3, ls3, ho3, p3, q3⟩
  have FIN := hide (show LsAt w3 base bq oq (.slice (some ⟨g, 0, none⟩) n cap) L3 ∧ Ho L3 ∧ (x0 :: L3).Perm L ∧ QFr bq oq (.slice (some ⟨g, 0, none⟩) (n + 1) cap) (.slice (some ⟨g, 0, none⟩) n cap) w1 w3 from
    ⟨ls3, ho3, by have := unhide HPm; rw [unhide HX] at this; exact (p3.cons x0).trans this, ((unhide Q2).trans LC.2).trans q3⟩)
  clear LC ls3 ho3 p3 q3
  go_wp2_with fail
  go_ret2
  exact ⟨rfl, _, L3, unhide FIN⟩

set_option maxRecDepth 100000 in
set_option maxHeartbeats 2000000 in
theorem drain_ls (w : World) (base bq oq : Nat) (v : Value) (L : List Int) (h : LsAt w base bq oq v L) (hO : Ho L) (hm : L.length ≤ 100000) :
    Calls Tryz.prog 125 #[.pointer (some ⟨bq, oq, none⟩)] w fun e w' => ∃ r : Bool, Hid (e = .returned (.bool r)) ∧ (r = true ↔ L.Nodup) ∧ ∃ v', QFr bq oq v v' w w' := by
  have HL := hide h
  have HO := hide hO
  clear h hO
  go_enter Tryz.func125, Tryz.ntmps125
  go_wp2_with fail
  go_loopg [3] (L.length + 1) (fun gh sd wr => ∃ (d : Bool) (v1 : Value) (M : List Int), sd = .bool d ∧ M.length + 1 ≤ gh ∧ M.length ≤ L.length ∧ LsAt wr base bq oq v1 M ∧ Ho M ∧ Hid ((d = true ∧ M.Nodup) ↔ L.Nodup) ∧ QFr bq oq v v1 w wr)
  case atStart => exact ⟨true, v, L, rfl, Nat.le_refl _, Nat.le_refl _, unhide HL, unhide HO, by show _ ↔ _; simp, QFr.refl _ _ _ _⟩
  case round =>
    clear HL HO
    obtain ⟨d, v1, M, rfl, hgh, hML, hls, ho, hnd, hq⟩ := hrel
    have HLS := hide hls
    have HO := hide ho
    have HQ := hide hq
    clear hls ho hq
    by_cases h0 : M.length = 0
    · have E := hide (show d = true ↔ L.Nodup by
        have := unhide hnd
        rw [List.length_eq_zero_iff.1 h0] at this
        simpa using this)
      clear hnd
      go_wp2_with fail
      refine (take_none _ base bq oq v1 M (unhide HLS) h0).mono ?_
      rintro e w1 ⟨rfl, rfl⟩
      go_wp2_with fail
      go_ret
      exact ⟨d, rfl, unhide E, v1, unhide HQ⟩
    · go_wp2_with fail
      refine (take_some _ base bq oq v1 M (unhide HLS) (by omega) (unhide HO) (by omega)).mono ?_
      rintro e w1 ⟨rfl, v2, M2, ls2, ho2, p2, q2⟩
      have hlen : M2.length + 1 = M.length := by have := p2.length_eq; simpa using this
      have LS2 := hide ls2
      have HO2 := hide ho2
      have P2 := hide p2
      have Q2 := hide ((unhide HQ).trans q2)
      clear q2 ho2 p2
      by_cases h2 : M2.length = 0
      · obtain ⟨ad, cap2, rfl⟩ := ls2.empty h2
        have hd2 := ls2.hd
        have S := hide (show (d = true ∧ M2.Nodup) ↔ L.Nodup by
          have e1 := unhide hnd
          rw [drain_same (unhide P2) (unhide HO) rfl (unhide HO2) (.inl (List.length_eq_zero_iff.1 h2))] at e1
          exact e1)
        clear ls2 hnd
        go_wp2_with fail
        refine (first_none _ bq oq ad cap2 hd2).mono ?_
        rintro e w2 ⟨rfl, rfl⟩
        go_wp2_with fail
        go_roundg (M2.length + 1)
        case rel => exact ⟨d, _, M2, rfl, Nat.le_refl _, by omega, unhide LS2, unhide HO2, unhide S, unhide Q2⟩
        case measure => omega
      · obtain ⟨g2, cap2, rfl, hg2⟩ := ls2.form (by omega)
        have hd2 := ls2.hd
        obtain ⟨y0, hy0⟩ : ∃ z, it M2 0 = z := ⟨_, rfl⟩
        obtain ⟨x0, hx0⟩ : ∃ z, it M 0 = z := ⟨_, rfl⟩
        have cy := ls2.cell 0 (by omega)
        rw [hy0] at cy
        rw [hx0]
        cases t : (y0 == x0)
        · have S := hide (show (d = true ∧ M2.Nodup) ↔ L.Nodup by
            have e1 := unhide hnd
            have t2 : ¬ y0 = x0 := by simpa using t
            rw [drain_same (unhide P2) (unhide HO) rfl (unhide HO2) (.inr (by rw [hy0, hx0]; exact t2))] at e1
            exact e1)
          clear ls2 hnd hy0 hx0
          go_wp2_with fail
          refine (first_some _ bq oq g2 0 M2.length cap2 y0 (by omega) hd2 cy).mono ?_
          rintro e w2 ⟨rfl, rfl⟩
          go_wp2_with fail
          go_roundg (M2.length + 1)
          case rel => exact ⟨d, _, M2, rfl, Nat.le_refl _, by omega, unhide LS2, unhide HO2, unhide S, unhide Q2⟩
          case measure => omega
        · have S := hide (show (false = true ∧ M2.Nodup) ↔ L.Nodup by
            have e1 := unhide hnd
            have t2 : y0 = x0 := by simpa using t
            have := drain_twice (unhide P2) (by omega) (by rw [hy0, hx0]; exact t2)
            constructor
            · intro f; simp at f
            · intro f; exact (this (e1.2 f).2).elim)
          clear ls2 hnd hy0 hx0
          go_wp2_with fail
          refine (first_some _ bq oq g2 0 M2.length cap2 y0 (by omega) hd2 cy).mono ?_
          rintro e w2 ⟨rfl, rfl⟩
          go_wp2_with fail
          go_roundg (M2.length + 1)
          case rel => exact ⟨false, _, M2, rfl, Nat.le_refl _, by omega, unhide LS2, unhide HO2, unhide S, unhide Q2⟩
          case measure => omega
end Go.Proofs.YtojdehkcggbdeabGreat
