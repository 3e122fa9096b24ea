import Derived.Test.YtojdehkcggbdeabImpI
namespace Go.Proofs.Ytojdehkcggbdeab
open Go.RowKit
attribute [local go_sem ↓] Go.wp_at_zero Go.wp_at_succ

set_option maxRecDepth 100000 in
set_option maxHeartbeats 1000000 in
theorem wordsKept_any (x : Hp) (b : Nat) (w : World) {ar : Option Addr} {kr : Nat} {ac : Option Addr} {kc : Nat} {ag : Option Addr} {kg : Nat} {an : Option Addr} {kn : Nat} (h : VAt w b x ar kr ac kc ag kg an kn) :
    Calls Try.prog 76 #[.pointer (some ⟨b, 0, none⟩)] w fun e w' => ∃ r : Bool, e = .returned (.bool r) ∧ (r = true ↔ R4 x) ∧ Ext w w' := by
  have c3 := h.H.c3
  have lr := h.H.lr
  have lc := h.H.lc
  go_enter Try.func76, Try.ntmps76
  go_wp2_with fail
  go_loopw [13] (fun i wr => ∃ k : Nat, k ≤ x.regs.length ∧ i = .int .i64 k ∧ (∀ j (hj : j < x.regs.length), j < k → Leads x x.regs[j] False) ∧ Ext w wr) (fun i _ => x.regs.length - (intOf i).toNat)
  case atStart => exact ⟨0, Nat.zero_le _, rfl, fun j hj h => by omega, Ext.refl _⟩
  case round =>
    obtain ⟨k, hk, rfl, hall, hbl⟩ := hrel
    have HA := hide hall
    clear hall
    by_cases hlt : k < x.regs.length
    · obtain ⟨b', o, rfl, p0, p1, p2⟩ := (h.ext hbl).H.R k hlt
      have hb' : b' < wr.heap.size := cell_lt p0
      have hk0 : (0:Int) ≤ (k:Int) := by omega
      have hk1 : (k:Int) < (x.regs.length:Int) := by omega
      go_wp2_with fail
      refine (leads_any x b x.regs[k] true _ (h.ext (hbl.alloc _))).mono ?_
      rintro e w1 ⟨rfl, hq1⟩
      have x1 : Ext w w1 := (hbl.alloc _).trans hq1
      cases q : leadsB x x.regs[k] (!true)
      · have N := hide (show ¬ R4 x from fun r => by
          have := (leadsB_iff (m := !true) (p := False) (by simp)).2 (r.1 k hlt)
          rw [this] at q; simp at q)
        go_wp2_with fail
        go_ret
        first | (exact Or.inl ⟨rfl, unhide N, x1⟩) | (exact ⟨false, rfl, ⟨fun f => by simp at f, fun r => (unhide N r).elim⟩, x1⟩)
      · have S := hide (show ∀ j (hj : j < x.regs.length), j < k + 1 → Leads x x.regs[j] False from fun j hj hjk => by
          by_cases e : j = k
          · subst e; exact (leadsB_iff (m := !true) (p := False) (by simp)).1 q
          · exact unhide HA j hj (by omega))
        go_wp2_with fail
        go_roundw
        case rel => exact ⟨k + 1, by omega, by go_num, unhide S, x1⟩
        case measure => simp [intOf]; omega
    · have A1 := hide (show ∀ j (hj : j < x.regs.length), Leads x x.regs[j] False from fun j hj => unhide HA j hj (by omega))
      clear HA
      have d13 := (h.ext hbl).n13
      go_wp2_with fail
      clear hlt hk
      go_loopw [27] (fun i wr => ∃ k : Nat, k ≤ x.cells.length ∧ i = .int .i64 k ∧ (∀ j, j < k → ¬ (Doomed x j ∧ Speaks (x.c j)) ∧ ∀ l, l < (x.c j).prs.length → PairOk x j l ((x.c j).p l)) ∧ Ext w wr) (fun i _ => x.cells.length - (intOf i).toNat)
      case atStart => exact ⟨0, Nat.zero_le _, rfl, fun j h => by omega, hbl⟩
      case round =>
        clear hbl d13
        obtain ⟨k, hk, rfl, hall, hbl⟩ := hrel
        have HA := hide hall
        clear hall
        by_cases hlt : k < x.cells.length
        · have h1 := h.ext hbl
          obtain ⟨bn, on, bc, oc, rfl, rfl, m0, m1⟩ := h1.N k hlt
          have d13 := h1.n13
          have hk0 : (0:Int) ≤ (k:Int) := by omega
          have hk1 : (k:Int) < (x.cells.length:Int) := by omega
          go_wp2_with fail
          refine (doomed_any x b k _ h1 hlt bn on rfl).mono ?_
          rintro e w2 ⟨rfl, hq2⟩
          have h2 := h1.ext hq2
          have x2 := hbl.trans hq2
          cases td : doomedB x k
          · have ND := hide (show ¬ Doomed x k from fun hd => by rw [← doomedB_iff, td] at hd; simp at hd)
            go_wp2_with fail
            refine (pairsLead_any x b k _ h2 hlt bn on rfl).mono ?_
            rintro e w3 ⟨r, rfl, hr, hq3⟩
            have x3 := x2.trans hq3
            cases r
            · have N := hide (show ¬ R4 x from fun r4 => by
                have := hr.2 (fun l hl => ((r4.2 k hlt).2 l hl).2 (unhide ND))
                simp at this)
              clear hr
              go_wp2_with fail
              go_ret
              first | (exact Or.inl ⟨rfl, unhide N, x3⟩) | (exact ⟨false, rfl, ⟨fun f => by simp at f, fun r => (unhide N r).elim⟩, x3⟩)
            · have S := hide (show ∀ j, j < k + 1 → ¬ (Doomed x j ∧ Speaks (x.c j)) ∧ ∀ l, l < (x.c j).prs.length → PairOk x j l ((x.c j).p l) from fun j hj => by
                by_cases e : j = k
                · subst e; exact ⟨fun hd => unhide ND hd.1, fun l hl => ⟨fun hd => (unhide ND hd).elim, fun _ => hr.1 rfl l hl⟩⟩
                · exact unhide HA j (by omega))
              clear hr
              go_wp2_with fail
              go_roundw
              case rel => exact ⟨k + 1, by omega, by go_num, unhide S, x3⟩
              case measure => simp [intOf]; omega
          · have DD := hide (doomedB_iff.1 td)
            go_wp2_with fail
            refine (doomedKept_any x b k _ h2 hlt bn on rfl).mono ?_
            rintro e w3 ⟨r, rfl, hr, hq3⟩
            have x3 := x2.trans hq3
            cases r
            · have N := hide (show ¬ R4 x from fun r4 => by
                have := hr.2 ⟨fun l hl => ((r4.2 k hlt).2 l hl).1 (unhide DD), fun hs => (r4.2 k hlt).1 ⟨unhide DD, hs⟩⟩
                simp at this)
              clear hr
              go_wp2_with fail
              go_ret
              first | (exact Or.inl ⟨rfl, unhide N, x3⟩) | (exact ⟨false, rfl, ⟨fun f => by simp at f, fun r => (unhide N r).elim⟩, x3⟩)
            · have S := hide (show ∀ j, j < k + 1 → ¬ (Doomed x j ∧ Speaks (x.c j)) ∧ ∀ l, l < (x.c j).prs.length → PairOk x j l ((x.c j).p l) from fun j hj => by
                by_cases e : j = k
                · subst e; exact ⟨fun hd => (hr.1 rfl).2 hd.2, fun l hl => ⟨fun _ => (hr.1 rfl).1 l hl, fun nd => (nd (unhide DD)).elim⟩⟩
                · exact unhide HA j (by omega))
              clear hr
              go_wp2_with fail
              go_roundw
              case rel => exact ⟨k + 1, by omega, by go_num, unhide S, x3⟩
              case measure => simp [intOf]; omega
        · have Y := hide (show R4 x from ⟨unhide A1, fun i hi => unhide HA i (by omega)⟩)
          go_wp2_with fail
          go_ret
          first | (exact Or.inr ⟨rfl, unhide Y, hbl⟩) | (exact ⟨true, rfl, ⟨fun _ => unhide Y, fun _ => rfl⟩, hbl⟩)
end Go.Proofs.Ytojdehkcggbdeab
