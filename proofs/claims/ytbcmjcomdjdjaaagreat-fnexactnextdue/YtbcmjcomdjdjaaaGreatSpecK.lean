import Derived.Test.YtbcmjcomdjdjaaaGreatSpecA
import Derived.Test.YtbcmjcomdjdjaaaGreatSpecC
import Derived.Test.YtbcmjcomdjdjaaaGreatSpecG
import Derived.BigQuiet
import Derived.Deep.DeepCutAuto
namespace Go.Proofs.YtbcmjcomdjdjaaaGreat
open Go.RowKit
attribute [local go_sem ↓] Go.wp_at_zero Go.wp_at_succ


def bareB (c : Cl) : Bool := (c.kind == 0) && (c.weak == 0) && (c.last == 0) && (c.born == 0) && (c.color == 0) && ((c.prs.length : Int) == 0)
theorem bareB_iff {c : Cl} : bareB c = true ↔ Bare c := by simp [bareB, Bare, and_assoc]

set_option maxRecDepth 100000 in
set_option maxHeartbeats 8000000 in
theorem l1cells_any (x : Hp) (b : Nat) (w : World) {ar : Option Addr} {kr : Nat} {ac : Option Addr} {kc : Nat} {ag : Option Addr} {kg : Nat} (h : HAt w b x ar kr ac kc ag kg) :
    Calls Tryz.prog 38 #[.pointer (some ⟨b, 0, none⟩)] w fun e w' => ∃ r : Bool, e = .returned (.bool r) ∧ (r = true ↔ R2 x) ∧ Ext w w' := by
  have c4 := h.c4
  have lc := h.lc
  go_enter Tryz.func38, Tryz.ntmps38
  go_wp2_with fail
  go_loopw [12] (fun i wr => ∃ k : Nat, k ≤ x.cells.length ∧ i = .int .i64 k ∧ (∀ j, j < k → CellOk x j) ∧ Ext w wr) (fun i _ => x.cells.length - (intOf i).toNat)
  case atStart => exact ⟨0, Nat.zero_le _, rfl, fun j h => by omega, Ext.refl _⟩
  case round =>
    obtain ⟨k, hk, rfl, hall, hbl⟩ := hrel
    have HA := hide hall
    clear hall
    by_cases hlt : k < x.cells.length
    · have hh := h.ext hbl
      obtain ⟨b', o, ap, kp, rfl, p0, p1, p2, p3, p4, p5, p6, p7, lp, P⟩ := hh.cell k hlt
      clear P
      have e2 := hh.c2
      have e5 := hh.c5
      have hb' : b' < wr.heap.size := cell_lt p0
      have hb : b < wr.heap.size := cell_lt e5
      have hk0 : (0:Int) ≤ (k:Int) := by omega
      have hk1 : (k:Int) < (x.cells.length:Int) := by omega
      have hbl1 := hbl.alloc (.cells #[.int .i64 (x.c k).st, .int .i64 (x.c k).kind, .int .i64 (x.c k).weak, .int .i64 (x.c k).last, .int .i64 (x.c k).born, .int .i64 (x.c k).color, .int .i64 (x.c k).to, .slice ap (x.c k).prs.length kp] 90)
      have ST := hide (show CellOk x k → ∀ j, j < k + 1 → CellOk x j from fun hn j hj => by
        by_cases e : j = k
        · subst e; exact hn
        · exact unhide HA j (by omega))
      have NK := hide (show ¬ CellOk x k → ¬ R2 x from fun hn r => hn (r.1 k hlt))
      go_upto_region 4 with fail
      go_cut [5] from 17 to 45 (fun v wx => v = .bool (bareB (x.c k)) ∧ wx = wr.alloc (.cells #[.int .i64 (x.c k).st, .int .i64 (x.c k).kind, .int .i64 (x.c k).weak, .int .i64 (x.c k).last, .int .i64 (x.c k).born, .int .i64 (x.c k).color, .int .i64 (x.c k).to, .slice ap (x.c k).prs.length kp] 90))
      case first =>
        cases z0 : ((x.c k).kind == 0)
        · go_wp2_with fail
          go_meet
          exact ⟨by simp [bareB, z0], rfl⟩
        · skip
          cases z1 : ((x.c k).weak == 0)
          · go_wp2_with fail
            go_meet
            exact ⟨by simp [bareB, z1], rfl⟩
          · skip
            cases z2 : ((x.c k).last == 0)
            · go_wp2_with fail
              go_meet
              exact ⟨by simp [bareB, z2], rfl⟩
            · skip
              cases z3 : ((x.c k).born == 0)
              · go_wp2_with fail
                go_meet
                exact ⟨by simp [bareB, z3], rfl⟩
              · skip
                cases z4 : ((x.c k).color == 0)
                · go_wp2_with fail
                  go_meet
                  exact ⟨by simp [bareB, z4], rfl⟩
                · skip
                  go_wp2_with fail
                  go_meet
                  exact ⟨by simp [bareB, z0, z1, z2, z3, z4], rfl⟩
      case rest =>
        obtain ⟨rfl, rfl⟩ := hcut
        cases s0 : ((x.c k).st == 0)
        · cases s2 : ((x.c k).st == 2)
          · cases s1 : ((x.c k).st == 1)
            · have NN := hide (unhide NK (fun c => by simp at s0 s1 s2; unfold CellOk at c; rcases c with c | c | c <;> simp [c.1] at s0 s1 s2))
              go_wp2_with fail
              go_ret
              first | (exact Or.inl ⟨rfl, unhide NN, hbl1⟩) | (exact ⟨false, rfl, ⟨fun f => by simp at f, fun r => (unhide NN r).elim⟩, hbl1⟩)
            · have SN := hide (show UsedOk x (x.c k) → CellOk x k from fun u => Or.inr (Or.inr ⟨by simpa using s1, u⟩))
              have SU := hide (show ¬ UsedOk x (x.c k) → ¬ CellOk x k from fun u c => by
                simp at s0 s1 s2
                rcases c with c | c | c
                · exact s0 c.1
                · exact s2 c.1
                · exact u c.2)
              cases v0 : l1inB (x.c k).kind 0 255
              · have NN := hide (unhide NK (unhide SU (fun u => l1inB_false v0 u.1)))
                go_wp2_with fail
                go_quiet ((go_at_call 33; first | (refine Calls.quiet_of_same (l1in_is _ _ _ true ?_ _); assumption) | (refine Calls.quiet_of_same (l1in_is _ _ _ false ?_ _); assumption)))
                go_wp2_with fail
                go_ret
                first | (exact Or.inl ⟨rfl, unhide NN, Ext.drewN hbl1 _⟩) | (exact ⟨false, rfl, ⟨fun f => by simp at f, fun r => (unhide NN r).elim⟩, Ext.drewN hbl1 _⟩)
              · skip
                cases v1 : l1inB (x.c k).weak 0 3
                · have NN := hide (unhide NK (unhide SU (fun u => l1inB_false v1 u.2.1)))
                  go_wp2_with fail
                  go_quiet ((go_at_call 33; first | (refine Calls.quiet_of_same (l1in_is _ _ _ true ?_ _); assumption) | (refine Calls.quiet_of_same (l1in_is _ _ _ false ?_ _); assumption)))
                  go_wp2_with fail
                  go_ret
                  first | (exact Or.inl ⟨rfl, unhide NN, Ext.drewN hbl1 _⟩) | (exact ⟨false, rfl, ⟨fun f => by simp at f, fun r => (unhide NN r).elim⟩, Ext.drewN hbl1 _⟩)
                · skip
                  cases v2 : l1inB (x.c k).last 0 3
                  · have NN := hide (unhide NK (unhide SU (fun u => l1inB_false v2 u.2.2.1)))
                    go_wp2_with fail
                    go_quiet ((go_at_call 33; first | (refine Calls.quiet_of_same (l1in_is _ _ _ true ?_ _); assumption) | (refine Calls.quiet_of_same (l1in_is _ _ _ false ?_ _); assumption)))
                    go_wp2_with fail
                    go_ret
                    first | (exact Or.inl ⟨rfl, unhide NN, Ext.drewN hbl1 _⟩) | (exact ⟨false, rfl, ⟨fun f => by simp at f, fun r => (unhide NN r).elim⟩, Ext.drewN hbl1 _⟩)
                  · skip
                    cases v3 : l1inB (x.c k).born 1 x.born
                    · have NN := hide (unhide NK (unhide SU (fun u => l1inB_false v3 u.2.2.2.1)))
                      go_wp2_with fail
                      go_quiet ((go_at_call 33; first | (refine Calls.quiet_of_same (l1in_is _ _ _ true ?_ _); assumption) | (refine Calls.quiet_of_same (l1in_is _ _ _ false ?_ _); assumption)))
                      go_wp2_with fail
                      go_ret
                      first | (exact Or.inl ⟨rfl, unhide NN, Ext.drewN hbl1 _⟩) | (exact ⟨false, rfl, ⟨fun f => by simp at f, fun r => (unhide NN r).elim⟩, Ext.drewN hbl1 _⟩)
                    · skip
                      cases v4 : l1inB (x.c k).color 0 2
                      · have NN := hide (unhide NK (unhide SU (fun u => l1inB_false v4 u.2.2.2.2.1)))
                        go_wp2_with fail
                        go_quiet ((go_at_call 33; first | (refine Calls.quiet_of_same (l1in_is _ _ _ true ?_ _); assumption) | (refine Calls.quiet_of_same (l1in_is _ _ _ false ?_ _); assumption)))
                        go_wp2_with fail
                        go_ret
                        first | (exact Or.inl ⟨rfl, unhide NN, Ext.drewN hbl1 _⟩) | (exact ⟨false, rfl, ⟨fun f => by simp at f, fun r => (unhide NN r).elim⟩, Ext.drewN hbl1 _⟩)
                      · skip
                        cases v5 : ((x.c k).to != 0)
                        rotate_left
                        · have NN := hide (unhide NK (unhide SU (fun u => by simp at v5; exact v5 u.2.2.2.2.2.1)))
                          go_wp2_with fail
                          go_quiet ((go_at_call 33; first | (refine Calls.quiet_of_same (l1in_is _ _ _ true ?_ _); assumption) | (refine Calls.quiet_of_same (l1in_is _ _ _ false ?_ _); assumption)))
                          go_wp2_with fail
                          go_ret
                          first | (exact Or.inl ⟨rfl, unhide NN, Ext.drewN hbl1 _⟩) | (exact ⟨false, rfl, ⟨fun f => by simp at f, fun r => (unhide NN r).elim⟩, Ext.drewN hbl1 _⟩)
                        · skip
                          by_cases v6 : 200 < (x.c k).prs.length
                          · have NN := hide (unhide NK (unhide SU (fun u => by have := u.2.2.2.2.2.2; omega)))
                            go_wp2_with fail
                            go_quiet ((go_at_call 33; first | (refine Calls.quiet_of_same (l1in_is _ _ _ true ?_ _); assumption) | (refine Calls.quiet_of_same (l1in_is _ _ _ false ?_ _); assumption)))
                            go_wp2_with fail
                            go_ret
                            first | (exact Or.inl ⟨rfl, unhide NN, Ext.drewN hbl1 _⟩) | (exact ⟨false, rfl, ⟨fun f => by simp at f, fun r => (unhide NN r).elim⟩, Ext.drewN hbl1 _⟩)
                          · skip
                            have S := hide (unhide ST (unhide SN ⟨l1inB_true v0, l1inB_true v1, l1inB_true v2, l1inB_true v3, l1inB_true v4, by simpa using v5, by omega⟩))
                            go_wp2_with fail
                            go_quiet ((go_at_call 33; first | (refine Calls.quiet_of_same (l1in_is _ _ _ true ?_ _); assumption) | (refine Calls.quiet_of_same (l1in_is _ _ _ false ?_ _); assumption)))
                            go_wp2_with fail
                            go_roundw
                            case rel => exact ⟨k + 1, by omega, by go_num, unhide S, Ext.drewN hbl1 _⟩
                            case measure => simp [intOf]; omega
          · have SN := hide (show MovedOk x k (x.c k) → CellOk x k from fun u => Or.inr (Or.inl ⟨by simpa using s2, u⟩))
            have SU := hide (show ¬ MovedOk x k (x.c k) → ¬ CellOk x k from fun u c => by
              simp at s0 s2
              rcases c with c | c | c
              · exact s0 c.1
              · exact u c.2
              · omega)
            cases zb : bareB (x.c k)
            · have NN := hide (unhide NK (unhide SU (fun u => by have := bareB_iff.2 u.1; rw [zb] at this; simp at this)))
              go_wp2_with fail
              go_ret
              first | (exact Or.inl ⟨rfl, unhide NN, hbl1⟩) | (exact ⟨false, rfl, ⟨fun f => by simp at f, fun r => (unhide NN r).elim⟩, hbl1⟩)
            · by_cases m1 : x.phase < 4
              · have NN := hide (unhide NK (unhide SU (fun u => by have := u.2.1; omega)))
                go_wp2_with fail
                go_ret
                first | (exact Or.inl ⟨rfl, unhide NN, hbl1⟩) | (exact ⟨false, rfl, ⟨fun f => by simp at f, fun r => (unhide NN r).elim⟩, hbl1⟩)
              · by_cases m2 : (x.c k).to < 0
                · have NN := hide (unhide NK (unhide SU (fun u => by have := u.2.2.1; omega)))
                  go_wp2_with fail
                  go_ret
                  first | (exact Or.inl ⟨rfl, unhide NN, hbl1⟩) | (exact ⟨false, rfl, ⟨fun f => by simp at f, fun r => (unhide NN r).elim⟩, hbl1⟩)
                · by_cases m3 : (k : Int) ≤ (x.c k).to
                  · have NN := hide (unhide NK (unhide SU (fun u => by have := u.2.2.2.1; omega)))
                    go_wp2_with fail
                    go_ret
                    first | (exact Or.inl ⟨rfl, unhide NN, hbl1⟩) | (exact ⟨false, rfl, ⟨fun f => by simp at f, fun r => (unhide NN r).elim⟩, hbl1⟩)
                  · obtain ⟨t, ht⟩ := Int.eq_ofNat_of_zero_le (show 0 ≤ (x.c k).to by omega)
                    have hu := hide (l1used_any x b (x.c k).to _ (h.ext hbl1) (by omega) (by omega))
                    cases m4 : usedB x (x.c k).to.toNat
                    · have NN := hide (unhide NK (unhide SU (fun u => by have := usedB_iff.2 u.2.2.2.2.1; rw [this] at m4; simp at m4)))
                      clear ht
                      go_wp2_with (go_at_call 85; refine (unhide hu).mono ?_; rintro e w' ⟨rfl, rfl⟩)
                      go_ret
                      first | (exact Or.inl ⟨rfl, unhide NN, hbl1⟩) | (exact ⟨false, rfl, ⟨fun f => by simp at f, fun r => (unhide NN r).elim⟩, hbl1⟩)
                    · have HT := hide ht
                      have SM := hide (show (x.phase = 4 → ∀ j : Nat, (j : Int) < (x.c k).to → (x.c j).st ≠ 0) → ∀ j, j < k + 1 → CellOk x j from fun hx => unhide ST (unhide SN ⟨bareB_iff.1 zb, by omega, by omega, by omega, usedB_iff.1 m4, hx⟩))
                      have OPEN := hide (fun l (hl : l < t) => hh.cell l (by omega))
                      have g4 := hh.c4
                      clear ht
                      go_wp2_with (go_at_call 85; refine (unhide hu).mono ?_; rintro e w' ⟨rfl, rfl⟩)
                      go_loop [6] (fun i => ∃ l : Nat, l ≤ t ∧ i = .int .i64 l ∧ (x.phase = 4 → ∀ j, j < l → (x.c j).st ≠ 0)) (fun i => t - (intOf i).toNat)
                      case atStart => exact ⟨0, Nat.zero_le _, rfl, fun _ j h => by omega⟩
                      case round =>
                        obtain ⟨l, hl, rfl, hall⟩ := hrel
                        have HB := hide hall
                        clear hall
                        by_cases hl2 : l < t
                        · have hl3 : (l : Int) < (x.c k).to := by have := unhide HT; omega
                          cases m5 : (x.phase == 4)
                          · have S := hide (unhide SM (fun e => by simp [e] at m5))
                            go_wp2_with fail
                            go_roundw
                            case rel => exact ⟨k + 1, by omega, by go_num, unhide S, hbl1⟩
                            case measure => simp [intOf]; omega
                          · obtain ⟨b2, o2, ap2, kp2, e2, r0, r1, r2, r3, r4, r5, r6, r7, lp2, P2⟩ := unhide OPEN l hl2
                            cases e2
                            clear P2 r1 r2 r3 r4 r5 r6 r7
                            have hl0 : (0:Int) ≤ (l:Int) := by omega
                            have hl1 : (l:Int) < (x.cells.length:Int) := by have := unhide HT; omega
                            cases m6 : ((x.c l).st == 0)
                            · have S := hide (show x.phase = 4 → ∀ j, j < l + 1 → (x.c j).st ≠ 0 from fun e j hj => by
                                by_cases e2 : j = l
                                · subst e2; simpa using m6
                                · exact unhide HB e j (by omega))
                              go_wp2_with fail
                              go_round
                              case rel => exact ⟨l + 1, by omega, by go_num, unhide S⟩
                              case measure => simp [intOf]; omega
                            · have NN := hide (unhide NK (unhide SU (fun u => u.2.2.2.2.2 (by simpa using m5) l hl3 (by simpa using m6))))
                              go_wp2_with fail
                              go_ret
                              first | (exact Or.inl ⟨rfl, unhide NN, hbl1⟩) | (exact ⟨false, rfl, ⟨fun f => by simp at f, fun r => (unhide NN r).elim⟩, hbl1⟩)
                        · have hl3 : ¬ (l : Int) < (x.c k).to := by have := unhide HT; omega
                          have S := hide (unhide SM (fun e j hj => unhide HB e j (by have := unhide HT; omega)))
                          go_wp2_with fail
                          go_roundw
                          case rel => exact ⟨k + 1, by omega, by go_num, unhide S, hbl1⟩
                          case measure => simp [intOf]; omega
        · have SN := hide (show Bare (x.c k) ∧ (x.c k).to = 0 → CellOk x k from fun u => Or.inl ⟨by simpa using s0, u⟩)
          have SU := hide (show ¬ (Bare (x.c k) ∧ (x.c k).to = 0) → ¬ CellOk x k from fun u c => by
            simp at s0
            rcases c with c | c | c
            · exact u c.2
            · omega
            · omega)
          cases zb : bareB (x.c k)
          · have NN := hide (unhide NK (unhide SU (fun u => by have := bareB_iff.2 u.1; rw [zb] at this; simp at this)))
            go_wp2_with fail
            go_ret
            first | (exact Or.inl ⟨rfl, unhide NN, hbl1⟩) | (exact ⟨false, rfl, ⟨fun f => by simp at f, fun r => (unhide NN r).elim⟩, hbl1⟩)
          · cases zt : ((x.c k).to == 0)
            · have zt2 : ((x.c k).to != 0) = true := by simpa using zt
              have NN := hide (unhide NK (unhide SU (fun u => by simp [u.2] at zt)))
              go_wp2_with fail
              go_ret
              first | (exact Or.inl ⟨rfl, unhide NN, hbl1⟩) | (exact ⟨false, rfl, ⟨fun f => by simp at f, fun r => (unhide NN r).elim⟩, hbl1⟩)
            · have zt2 : ((x.c k).to != 0) = false := by simpa using zt
              have S := hide (unhide ST (unhide SN ⟨bareB_iff.1 zb, by simpa using zt⟩))
              go_wp2_with fail
              go_roundw
              case rel => exact ⟨k + 1, by omega, by go_num, unhide S, hbl1⟩
              case measure => simp [intOf]; omega
    · have A1 := hide (show ∀ j, j < x.cells.length → CellOk x j from fun j hj => unhide HA j (by omega))
      go_wp2_with fail
      refine (l1apart_any x b _ (h.ext hbl)).mono ?_
      rintro e w1 ⟨r, rfl, hr, hq⟩
      have HR := hide hr
      clear hr
      go_wp2_with fail
      go_ret
      exact ⟨r, rfl, ⟨fun f => ⟨unhide A1, (unhide HR).1 f⟩, fun f => (unhide HR).2 f.2⟩, hbl.trans hq⟩
end Go.Proofs.YtbcmjcomdjdjaaaGreat
