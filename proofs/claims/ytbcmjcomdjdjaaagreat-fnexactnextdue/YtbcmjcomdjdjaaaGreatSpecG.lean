import Derived.Test.YtbcmjcomdjdjaaaGreatSpecC
namespace Go.Proofs.YtbcmjcomdjdjaaaGreat
open Go.RowKit
attribute [local go_sem ↓] Go.wp_at_zero Go.wp_at_succ

def SameC (c d : Cl) : Prop := c.st = d.st ∧ c.born = d.born ∧ c.to = d.to

set_option maxRecDepth 100000 in
set_option maxHeartbeats 1000000 in
theorem l1apart_any (x : Hp) (b : Nat) (w : World) {ar : Option Addr} {kr : Nat} {ac : Option Addr} {kc : Nat} {ag : Option Addr} {kg : Nat} (h : HAt w b x ar kr ac kc ag kg) :
    Calls Tryz.prog 86 #[.pointer (some ⟨b, 0, none⟩)] w fun e w' => ∃ r : Bool, e = .returned (.bool r) ∧ (r = true ↔ Apart x) ∧ Ext w w' := by
  have c4 := h.c4
  have lc := h.lc
  go_enter Tryz.func86, Tryz.ntmps86
  go_wp2_with fail
  go_loopw [12] (fun i wr => ∃ k : Nat, k ≤ x.cells.length ∧ i = .int .i64 k ∧ (∀ j, j < k → (x.c j).st ≠ 0 → ∀ l, l < j → ¬ SameC (x.c l) (x.c j)) ∧ Ext w wr) (fun i _ => x.cells.length - (intOf i).toNat)
  case atStart => exact ⟨0, Nat.zero_le _, rfl, fun j h => by omega, Ext.refl _⟩
  case round =>
    obtain ⟨k, hk, rfl, hall, hbl⟩ := hrel
    have HA := hide hall
    clear hall
    by_cases hlt : k < x.cells.length
    · obtain ⟨b', o, ap, kp, rfl, p0, p1, p2, p3, p4, p5, p6, p7, lp, P⟩ := (h.ext hbl).cell k hlt
      clear P
      have hb' : b' < wr.heap.size := cell_lt p0
      have hk0 : (0:Int) ≤ (k:Int) := by omega
      have hk1 : (k:Int) < (x.cells.length:Int) := by omega
      have hbl1 := hbl.alloc (.cells #[.int .i64 (x.c k).st, .int .i64 (x.c k).kind, .int .i64 (x.c k).weak, .int .i64 (x.c k).last, .int .i64 (x.c k).born, .int .i64 (x.c k).color, .int .i64 (x.c k).to, .slice ap (x.c k).prs.length kp] 90)
      have step : ((x.c k).st ≠ 0 → ∀ l, l < k → ¬ SameC (x.c l) (x.c k)) → Hid (∀ j, j < k + 1 → (x.c j).st ≠ 0 → ∀ l, l < j → ¬ SameC (x.c l) (x.c j)) := fun hn j hj => by
        by_cases e : j = k
        · subst e; exact hn
        · exact unhide HA j (by omega)
      have ST := hide step
      clear step
      cases qs : ((x.c k).st == 0)
      · have qs' : (x.c k).st ≠ 0 := by simpa using qs
        have QS := hide qs'
        clear qs'
        go_wp2_with fail
        obtain ⟨WO, hWO⟩ : ∃ W : World, W = wr := ⟨_, rfl⟩
        subst hWO
        go_loopw [5] (fun i wr2 => ∃ l : Nat, l ≤ k ∧ i = .int .i64 l ∧ (∀ j, j < l → ¬ SameC (x.c j) (x.c k)) ∧ Ext w wr2 ∧ Ext (WO.alloc (.cells #[.int .i64 (x.c k).st, .int .i64 (x.c k).kind, .int .i64 (x.c k).weak, .int .i64 (x.c k).last, .int .i64 (x.c k).born, .int .i64 (x.c k).color, .int .i64 (x.c k).to, .slice ap (x.c k).prs.length kp] 90)) wr2) (fun i _ => k - (intOf i).toNat)
        case atStart => exact ⟨0, Nat.zero_le _, rfl, fun j h => by omega, hbl1, Ext.refl _⟩
        case round =>
          obtain ⟨l, hl, rfl, hall, hx2, hy2⟩ := hrel
          have HB := hide hall
          clear hall
          have f0 := hy2.keep (b := WO.heap.size) (o := 0) (v := .int .i64 (x.c k).st) (by simp [go_sem])
          have f4 := hy2.keep (b := WO.heap.size) (o := 4) (v := .int .i64 (x.c k).born) (by simp [go_sem])
          have f6 := hy2.keep (b := WO.heap.size) (o := 6) (v := .int .i64 (x.c k).to) (by simp [go_sem])
          have zz : WO.heap.size < wr.heap.size := cell_lt f0
          by_cases hl2 : l < k
          · obtain ⟨b2, o2, ap2, kp2, e2, q0, q1, q2, q3, q4, q5, q6, q7, lp2, P2⟩ := (h.ext hx2).cell l (by omega)
            cases e2
            clear P2
            have d4 := (h.ext hx2).c4
            have hb2 : b' < wr.heap.size := cell_lt q0
            have hb3 : b < wr.heap.size := cell_lt d4
            clear p0 p1 p2 p3 p4 p5 p6 p7
            have hl0 : (0:Int) ≤ (l:Int) := by omega
            have hl1 : (l:Int) < (x.cells.length:Int) := by omega
            have hl3 : (l:Int) < (k:Int) := by omega
            have z2 := hy2.size
            cases t1 : ((x.c l).st == (x.c k).st)
            · have S := hide (show ∀ j, j < l + 1 → ¬ SameC (x.c j) (x.c k) from fun j hj => by
                by_cases e : j = l
                · subst e; intro hs; have := hs.1; simp at t1; exact t1 this
                · exact unhide HB j (by omega))
              go_wp2_with fail
              go_roundw
              case rel => exact ⟨l + 1, by omega, by go_num, unhide S, hx2.alloc _, hy2.alloc _⟩
              case measure => simp [intOf]; omega
            · cases t2 : ((x.c l).born == (x.c k).born)
              · have S := hide (show ∀ j, j < l + 1 → ¬ SameC (x.c j) (x.c k) from fun j hj => by
                  by_cases e : j = l
                  · subst e; intro hs; have := hs.2.1; simp at t2; exact t2 this
                  · exact unhide HB j (by omega))
                go_wp2_with fail
                go_roundw
                case rel => exact ⟨l + 1, by omega, by go_num, unhide S, hx2.alloc _, hy2.alloc _⟩
                case measure => simp [intOf]; omega
              · cases t3 : ((x.c l).to == (x.c k).to)
                · have S := hide (show ∀ j, j < l + 1 → ¬ SameC (x.c j) (x.c k) from fun j hj => by
                    by_cases e : j = l
                    · subst e; intro hs; have := hs.2.2; simp at t3; exact t3 this
                    · exact unhide HB j (by omega))
                  go_wp2_with fail
                  go_roundw
                  case rel => exact ⟨l + 1, by omega, by go_num, unhide S, hx2.alloc _, hy2.alloc _⟩
                  case measure => simp [intOf]; omega
                · have N := hide (show ¬ Apart x from fun r => r k hlt (unhide QS) l hl2 ⟨by simpa using t1, by simpa using t2, by simpa using t3⟩)
                  go_wp2_with fail
                  go_ret
                  exact ⟨false, rfl, ⟨fun f => by simp at f, fun r => (unhide N r).elim⟩, hx2.alloc _⟩
          · have S := unhide ST (fun _ l' hl' => unhide HB l' (by omega))
            go_wp2_with fail
            go_roundw
            case rel => exact ⟨k + 1, by omega, by go_num, unhide S, hx2⟩
            case measure => simp [intOf]; omega
      · have S := unhide ST (fun hn => absurd (by simpa using qs) hn)
        go_wp2_with fail
        go_roundw
        case rel => exact ⟨k + 1, by omega, by go_num, unhide S, hbl1⟩
        case measure => simp [intOf]; omega
    · have Y := hide (show Apart x from fun i hi hs l hl hc => unhide HA i (by omega) hs l hl hc)
      go_wp2_with fail
      go_ret
      exact ⟨true, rfl, ⟨fun _ => unhide Y, fun _ => rfl⟩, hbl⟩
end Go.Proofs.YtbcmjcomdjdjaaaGreat
