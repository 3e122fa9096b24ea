import Derived.Test.YtkabcfhemljnbaaGreatSpecA2
import Derived.Test.YtkabcfhemljnbaaGreatSpecA3
import Derived.Deep.QuietTactic
import Derived.BigQuiet
import Derived.Test.YtkabcfhemljnbaaGreatImpC
namespace Go.Proofs.YtkabcfhemljnbaaGreat
open Go.RowKit
attribute [local go_sem ↓] Go.wp_at_zero Go.wp_at_succ

theorem l1sizes_any (x : Hp) (b : Nat) (w : World) {ar : Option Addr} {kr : Nat} {ac : Option Addr} {kc : Nat} {ag : Option Addr} {kg : Nat} (h : HAt w b x ar kr ac kc ag kg) :
    Calls Tryz.prog 87 #[.pointer (some ⟨b, 0, none⟩)] w fun e w' => ∃ r : Bool, e = .returned (.bool r) ∧ (r = true ↔ R1 x) ∧ Ext w w' := by
  cases q0 : l1inB x.room 1 4000
  · exact (l1sizes_0 x b w h q0).mono fun e w' ⟨he, hx⟩ => ⟨false, he, ⟨fun f => by simp at f, fun r => False.elim (l1inB_false q0 r.room)⟩, hx⟩
  ·
    cases q1 : ((x.regs.length : Int) != 16)
    rotate_left
    · exact (l1sizes_1 x b w h q0 q1).mono fun e w' ⟨he, hx⟩ => ⟨false, he, ⟨fun f => by simp at f, fun r => False.elim ((by have := r.regs; simp at q1; omega))⟩, hx⟩
    ·
      cases q2 : decide (2 * x.room < (x.cells.length : Int))
      rotate_left
      · exact (l1sizes_2 x b w h q0 q1 q2).mono fun e w' ⟨he, hx⟩ => ⟨false, he, ⟨fun f => by simp at f, fun r => False.elim ((by have := r.cells; simp at q2; omega))⟩, hx⟩
      ·
        cases q3 : decide (x.cells.length < x.gray.length)
        rotate_left
        · exact (l1sizes_3 x b w h q0 q1 q2 q3).mono fun e w' ⟨he, hx⟩ => ⟨false, he, ⟨fun f => by simp at f, fun r => False.elim ((by have := r.gray; simp at q3; omega))⟩, hx⟩
        ·
          cases q4 : l1inB x.born 0 1000000000
          · exact (l1sizes_4 x b w h q0 q1 q2 q3 q4).mono fun e w' ⟨he, hx⟩ => ⟨false, he, ⟨fun f => by simp at f, fun r => False.elim (l1inB_false q4 r.born)⟩, hx⟩
          ·
            cases q5 : l1inB x.rounds 0 1000000000
            · exact (l1sizes_5 x b w h q0 q1 q2 q3 q4 q5).mono fun e w' ⟨he, hx⟩ => ⟨false, he, ⟨fun f => by simp at f, fun r => False.elim (l1inB_false q5 r.rounds)⟩, hx⟩
            ·
              cases q6 : l1inB x.forced 0 1000000000
              · exact (l1sizes_6 x b w h q0 q1 q2 q3 q4 q5 q6).mono fun e w' ⟨he, hx⟩ => ⟨false, he, ⟨fun f => by simp at f, fun r => False.elim (l1inB_false q6 r.forced)⟩, hx⟩
              ·
                cases q7 : l1inB x.per 0 64
                · exact (l1sizes_7 x b w h q0 q1 q2 q3 q4 q5 q6 q7).mono fun e w' ⟨he, hx⟩ => ⟨false, he, ⟨fun f => by simp at f, fun r => False.elim (l1inB_false q7 r.per)⟩, hx⟩
                ·
                  cases q8 : l1inB x.start 0 4000
                  · exact (l1sizes_8 x b w h q0 q1 q2 q3 q4 q5 q6 q7 q8).mono fun e w' ⟨he, hx⟩ => ⟨false, he, ⟨fun f => by simp at f, fun r => False.elim (l1inB_false q8 r.start)⟩, hx⟩
                  ·
                    cases q9 : l1inB x.phase 0 6
                    · exact (l1sizes_9 x b w h q0 q1 q2 q3 q4 q5 q6 q7 q8 q9).mono fun e w' ⟨he, hx⟩ => ⟨false, he, ⟨fun f => by simp at f, fun r => False.elim (l1inB_false q9 r.phase)⟩, hx⟩
                    ·
                      cases q10 : l1inB x.hand 0 (x.cells.length : Int)
                      · exact (l1sizes_10 x b w h q0 q1 q2 q3 q4 q5 q6 q7 q8 q9 q10).mono fun e w' ⟨he, hx⟩ => ⟨false, he, ⟨fun f => by simp at f, fun r => False.elim (l1inB_false q10 r.hand)⟩, hx⟩
                      ·
                        cases q11 : l1inB x.sub 0 200
                        · exact (l1sizes_11 x b w h q0 q1 q2 q3 q4 q5 q6 q7 q8 q9 q10 q11).mono fun e w' ⟨he, hx⟩ => ⟨false, he, ⟨fun f => by simp at f, fun r => False.elim (l1inB_false q11 r.sub)⟩, hx⟩
                        ·
                          refine (l1sizes_12 x b w h q0 q1 q2 q3 q4 q5 q6 q7 q8 q9 q10 q11).mono fun e w' ⟨he, hx⟩ => ⟨true, he, ⟨fun _ => ?_, fun _ => rfl⟩, hx⟩
                          refine ⟨l1inB_true q0, by simp at q1; omega, by simp at q2; omega, by simp at q3; omega, l1inB_true q4, l1inB_true q5, l1inB_true q6, l1inB_true q7, l1inB_true q8, l1inB_true q9, l1inB_true q10, l1inB_true q11⟩

end Go.Proofs.YtkabcfhemljnbaaGreat

namespace Go.Proofs.YtkabcfhemljnbaaGreat
open Go.RowKit
attribute [local go_sem ↓] Go.wp_at_zero Go.wp_at_succ

def SameC (c d : Cl) : Prop := c.st = d.st ∧ c.born = d.born ∧ c.to = d.to

set_option maxRecDepth 100000 in
set_option maxHeartbeats 1000000 in
theorem l1apart_any (x : Hp) (b : Nat) (w : World) {ar : Option Addr} {kr : Nat} {ac : Option Addr} {kc : Nat} {ag : Option Addr} {kg : Nat} (h : HAt w b x ar kr ac kc ag kg) :
    Calls Tryz.prog 135 #[.pointer (some ⟨b, 0, none⟩)] w fun e w' => ∃ r : Bool, e = .returned (.bool r) ∧ (r = true ↔ Apart x) ∧ Ext w w' := by
  have c4 := h.c4
  have lc := h.lc
  go_enter Tryz.func135, Tryz.ntmps135
  go_wp2_with fail
  go_loopw [12] (fun i wr => ∃ k : Nat, k ≤ x.cells.length ∧ i = .int .i64 k ∧ (∀ j, j < k → (x.c j).st ≠ 0 → ∀ l, l < j → ¬ SameC (x.c l) (x.c j)) ∧ Ext w wr) (fun i _ => x.cells.length - (intOf i).toNat)
  case atStart => exact ⟨0, Nat.zero_le _, rfl, fun j h => by omega, Ext.refl _⟩
  case round =>
    obtain ⟨k, hk, rfl, hall, hbl⟩ := hrel
    have HA := hide hall
    clear hall
    by_cases hlt : k < x.cells.length
    · obtain ⟨b', o, ap, kp, rfl, p0, p1, p2, p3, p4, p5, p6, p7, lp, P⟩ := (h.ext hbl).cell k hlt
      clear P
      have hb' : b' < wr.heap.size := cell_lt p0
      have hk0 : (0:Int) ≤ (k:Int) := by omega
      have hk1 : (k:Int) < (x.cells.length:Int) := by omega
      have hbl1 := hbl.alloc (.cells #[.int .i64 (x.c k).st, .int .i64 (x.c k).kind, .int .i64 (x.c k).weak, .int .i64 (x.c k).last, .int .i64 (x.c k).born, .int .i64 (x.c k).color, .int .i64 (x.c k).to, .slice ap (x.c k).prs.length kp] 86)
      have step : ((x.c k).st ≠ 0 → ∀ l, l < k → ¬ SameC (x.c l) (x.c k)) → Hid (∀ j, j < k + 1 → (x.c j).st ≠ 0 → ∀ l, l < j → ¬ SameC (x.c l) (x.c j)) := fun hn j hj => by
        by_cases e : j = k
        · subst e; exact hn
        · exact unhide HA j (by omega)
      have ST := hide step
      clear step
      cases qs : ((x.c k).st == 0)
      · have qs' : (x.c k).st ≠ 0 := by simpa using qs
        have QS := hide qs'
        clear qs'
        go_wp2_with fail
        obtain ⟨WO, hWO⟩ : ∃ W : World, W = wr := ⟨_, rfl⟩
        subst hWO
        go_loopw [5] (fun i wr2 => ∃ l : Nat, l ≤ k ∧ i = .int .i64 l ∧ (∀ j, j < l → ¬ SameC (x.c j) (x.c k)) ∧ Ext w wr2 ∧ Ext (WO.alloc (.cells #[.int .i64 (x.c k).st, .int .i64 (x.c k).kind, .int .i64 (x.c k).weak, .int .i64 (x.c k).last, .int .i64 (x.c k).born, .int .i64 (x.c k).color, .int .i64 (x.c k).to, .slice ap (x.c k).prs.length kp] 86)) wr2) (fun i _ => k - (intOf i).toNat)
        case atStart => exact ⟨0, Nat.zero_le _, rfl, fun j h => by omega, hbl1, Ext.refl _⟩
        case round =>
          obtain ⟨l, hl, rfl, hall, hx2, hy2⟩ := hrel
          have HB := hide hall
          clear hall
          have f0 := hy2.keep (b := WO.heap.size) (o := 0) (v := .int .i64 (x.c k).st) (by simp [go_sem])
          have f4 := hy2.keep (b := WO.heap.size) (o := 4) (v := .int .i64 (x.c k).born) (by simp [go_sem])
          have f6 := hy2.keep (b := WO.heap.size) (o := 6) (v := .int .i64 (x.c k).to) (by simp [go_sem])
          have zz : WO.heap.size < wr.heap.size := cell_lt f0
          by_cases hl2 : l < k
          · obtain ⟨b2, o2, ap2, kp2, e2, q0, q1, q2, q3, q4, q5, q6, q7, lp2, P2⟩ := (h.ext hx2).cell l (by omega)
            cases e2
            clear P2
            have d4 := (h.ext hx2).c4
            have hb2 : b' < wr.heap.size := cell_lt q0
            have hb3 : b < wr.heap.size := cell_lt d4
            clear p0 p1 p2 p3 p4 p5 p6 p7
            have hl0 : (0:Int) ≤ (l:Int) := by omega
            have hl1 : (l:Int) < (x.cells.length:Int) := by omega
            have hl3 : (l:Int) < (k:Int) := by omega
            have z2 := hy2.size
            cases t1 : ((x.c l).st == (x.c k).st)
            · have S := hide (show ∀ j, j < l + 1 → ¬ SameC (x.c j) (x.c k) from fun j hj => by
                by_cases e : j = l
                · subst e; intro hs; have := hs.1; simp at t1; exact t1 this
                · exact unhide HB j (by omega))
              go_wp2_with fail
              go_roundw
              case rel => exact ⟨l + 1, by omega, by go_num, unhide S, hx2.alloc _, hy2.alloc _⟩
              case measure => simp [intOf]; omega
            · cases t2 : ((x.c l).born == (x.c k).born)
              · have S := hide (show ∀ j, j < l + 1 → ¬ SameC (x.c j) (x.c k) from fun j hj => by
                  by_cases e : j = l
                  · subst e; intro hs; have := hs.2.1; simp at t2; exact t2 this
                  · exact unhide HB j (by omega))
                go_wp2_with fail
                go_roundw
                case rel => exact ⟨l + 1, by omega, by go_num, unhide S, hx2.alloc _, hy2.alloc _⟩
                case measure => simp [intOf]; omega
              · cases t3 : ((x.c l).to == (x.c k).to)
                · have S := hide (show ∀ j, j < l + 1 → ¬ SameC (x.c j) (x.c k) from fun j hj => by
                    by_cases e : j = l
                    · subst e; intro hs; have := hs.2.2; simp at t3; exact t3 this
                    · exact unhide HB j (by omega))
                  go_wp2_with fail
                  go_roundw
                  case rel => exact ⟨l + 1, by omega, by go_num, unhide S, hx2.alloc _, hy2.alloc _⟩
                  case measure => simp [intOf]; omega
                · have N := hide (show ¬ Apart x from fun r => r k hlt (unhide QS) l hl2 ⟨by simpa using t1, by simpa using t2, by simpa using t3⟩)
                  go_wp2_with fail
                  go_ret
                  exact ⟨false, rfl, ⟨fun f => by simp at f, fun r => (unhide N r).elim⟩, hx2.alloc _⟩
          · have S := unhide ST (fun _ l' hl' => unhide HB l' (by omega))
            go_wp2_with fail
            go_roundw
            case rel => exact ⟨k + 1, by omega, by go_num, unhide S, hx2⟩
            case measure => simp [intOf]; omega
      · have S := unhide ST (fun hn => absurd (by simpa using qs) hn)
        go_wp2_with fail
        go_roundw
        case rel => exact ⟨k + 1, by omega, by go_num, unhide S, hbl1⟩
        case measure => simp [intOf]; omega
    · have Y := hide (show Apart x from fun i hi hs l hl hc => unhide HA i (by omega) hs l hl hc)
      go_wp2_with fail
      go_ret
      exact ⟨true, rfl, ⟨fun _ => unhide Y, fun _ => rfl⟩, hbl⟩
end Go.Proofs.YtkabcfhemljnbaaGreat
