import Derived.Test.YtbcmjcomdjdjaaaGreatSpecC
namespace Go.Proofs.YtbcmjcomdjdjaaaGreat
open Go.RowKit
attribute [local go_sem ↓] Go.wp_at_zero Go.wp_at_succ

theorem count_take (g : List Int) (k l : Nat) (h : l < g.length) : (g.take (l + 1)).count (k : Int) = (g.take l).count (k : Int) + if (g[l] == (k : Int)) = true then 1 else 0 := by
  rw [List.take_succ_eq_append_getElem h, List.count_append, List.count_singleton]

set_option maxRecDepth 100000 in
set_option maxHeartbeats 2000000 in
theorem l1colors_a (x : Hp) (b : Nat) (w : World) {ar : Option Addr} {kr : Nat} {ac : Option Addr} {kc : Nat} {ag : Option Addr} {kg : Nat} (h : HAt w b x ar kr ac kc ag kg) (q1 : (x.phase == 1) = true) :
    Calls Tryz.prog 41 #[.pointer (some ⟨b, 0, none⟩)] w fun e w' => ∃ r : Bool, e = .returned (.bool r) ∧ (r = true ↔ R5 x) ∧ Ext w w' := by
  have MK := hide (show Marking x from Or.inl (by simpa using q1))
  have c4 := h.c4
  have c5 := h.c5
  have c8 := h.c8
  have lc := h.lc
  have lg := h.lg
  have G0 := hide (show ¬ Marking x → x.gray.length = 0 from fun n => (n (unhide MK)).elim)
  go_enter Tryz.func41, Tryz.ntmps41
  go_wp2_with fail
  go_loopw [38] (fun i wr => ∃ k : Nat, k ≤ x.cells.length ∧ i = .int .i64 k ∧ (∀ j, j < k → ColorOk x j) ∧ Ext w wr) (fun i _ => x.cells.length - (intOf i).toNat)
  case atStart => exact ⟨0, Nat.zero_le _, rfl, fun j h => by omega, Ext.refl _⟩
  case round =>
    obtain ⟨k, hk, rfl, hall, hbl⟩ := hrel
    have HA := hide hall
    clear hall
    by_cases hlt : k < x.cells.length
    · obtain ⟨b', o, ap, kp, rfl, p0, p1, p2, p3, p4, p5, p6, p7, lp, P⟩ := (h.ext hbl).cell k hlt
      clear P
      have d8 := (h.ext hbl).c8
      have hb' : b' < wr.heap.size := cell_lt p0
      have hb : b < wr.heap.size := cell_lt d8
      have hk0 : (0:Int) ≤ (k:Int) := by omega
      have hk1 : (k:Int) < (x.cells.length:Int) := by omega
      have hbl1 := hbl.alloc (.cells #[.int .i64 (x.c k).st, .int .i64 (x.c k).kind, .int .i64 (x.c k).weak, .int .i64 (x.c k).last, .int .i64 (x.c k).born, .int .i64 (x.c k).color, .int .i64 (x.c k).to, .slice ap (x.c k).prs.length kp] 90)
      have ST := hide (show ColorOk x k → ∀ j, j < k + 1 → ColorOk x j from fun hn j hj => by
        by_cases e : j = k
        · subst e; exact hn
        · exact unhide HA j (by omega))
      go_wp2_with fail
      obtain ⟨WO, hWO⟩ : ∃ W : World, W = wr := ⟨_, rfl⟩
      subst hWO
      go_loopw [6, 48] (fun nv i wr2 => ∃ l n : Nat, l ≤ x.gray.length ∧ i = .int .i64 l ∧ nv = .int .i64 n ∧ n ≤ l ∧ Hid (n = (x.gray.take l).count (k : Int)) ∧ Ext w wr2 ∧ Ext (WO.alloc (.cells #[.int .i64 (x.c k).st, .int .i64 (x.c k).kind, .int .i64 (x.c k).weak, .int .i64 (x.c k).last, .int .i64 (x.c k).born, .int .i64 (x.c k).color, .int .i64 (x.c k).to, .slice ap (x.c k).prs.length kp] 90)) wr2) (fun _ i _ => x.gray.length - (intOf i).toNat)
      case atStart => exact ⟨0, 0, Nat.zero_le _, rfl, rfl, by omega, by show _ = _; simp, hbl1, Ext.refl _⟩
      case round =>
        obtain ⟨l, n, hl, rfl, rfl, hn, hcnt, hx2, hy2⟩ := hrel
        by_cases hl2 : l < x.gray.length
        · obtain ⟨bg, og, rfl, pg⟩ := (h.ext hx2).G l hl2
          unfold InAt at pg
          simp only [Nat.mul_one] at pg
          clear p0 p1 p2 p3 p4 p5 p6 p7 d8
          have hl0 : (0:Int) ≤ (l:Int) := by omega
          have hl1 : (l:Int) < (x.gray.length:Int) := by omega
          have ct := count_take x.gray k l hl2
          cases t : (x.gray[l] == (k : Int))
          · have H : Hid (n = (x.gray.take (l + 1)).count (k : Int)) := by have := unhide hcnt; show _ = _; rw [ct, t]; simpa using this
            clear ct
            go_wp2_with fail
            go_roundw
            case rel => exact ⟨l + 1, n, by omega, by go_num, rfl, by omega, H, hx2, hy2⟩
            case measure => simp [intOf]; omega
          · have H : Hid (n + 1 = (x.gray.take (l + 1)).count (k : Int)) := by have := unhide hcnt; show _ = _; rw [ct, t, ← this]; simp
            clear ct
            go_wp2_with fail
            go_roundw
            case rel => exact ⟨l + 1, n + 1, by omega, by go_num, by go_num, by omega, H, hx2, hy2⟩
            case measure => simp [intOf]; omega
        · have hc := hide (show n = cnt x.gray k by have := unhide hcnt; rw [List.take_of_length_le (by omega)] at this; exact this)
          have f5 := hy2.keep (b := WO.heap.size) (o := 5) (v := .int .i64 (x.c k).color) (by simp [go_sem])
          have d5 := (h.ext hx2).c5
          have d6 := (h.ext hx2).c6
          clear p0 p1 p2 p3 p4 p5 p6 p7 d8 hcnt
          cases t1 : ((x.c k).color == 1)
          · have t1' : (x.c k).color ≠ 1 := by simpa using t1
            have t1b : ((x.c k).color != 1) = true := by simpa using t1'
            by_cases hn0 : 0 < n
            · have N := hide (show ¬ R5 x from fun r => by have := (r.2.1 k hlt).2.1 t1'; have := unhide hc; omega)
              clear t1'
              go_wp2_with fail
              go_ret
              exact ⟨false, rfl, ⟨fun f => by simp at f, fun r => (unhide N r).elim⟩, hx2⟩
            · have hz : Hid (cnt x.gray k = 0) := by have := unhide hc; show _ = _; omega
              cases t2 : ((x.c k).color == 2)
              · have S := hide (unhide ST ⟨fun e => absurd e t1', fun _ => unhide hz, fun e => by simp [e] at t2⟩)
                clear t1'
                go_wp2_with fail
                go_roundw
                case rel => exact ⟨k + 1, by omega, by go_num, unhide S, hx2⟩
                case measure => simp [intOf]; omega
              · have S := hide (unhide ST ⟨fun e => absurd e t1', fun _ => unhide hz, fun _ => Or.inl (unhide MK)⟩)
                clear t1'
                go_wp2_with fail
                go_roundw
                case rel => exact ⟨k + 1, by omega, by go_num, unhide S, hx2⟩
                case measure => simp [intOf]; omega
          · have t1' : (x.c k).color = 1 := by simpa using t1
            have t1b : ((x.c k).color != 1) = false := by simp [t1']
            have t1c : ((x.c k).color == 2) = false := by simp [t1']
            have TC := hide t1'
            clear t1'
            by_cases hn1 : n = 1
            · have hn2 : ((n : Int) != 1) = false := by simp [hn1]
              have S := hide (unhide ST ⟨fun _ => by have := unhide hc; omega, fun e => absurd (unhide TC) e, fun e => by have := unhide TC; omega⟩)
              clear hn1
              go_wp2_with fail
              go_roundw
              case rel => exact ⟨k + 1, by omega, by go_num, unhide S, hx2⟩
              case measure => simp [intOf]; omega
            · have hn2 : ((n : Int) != 1) = true := by simp; omega
              have N := hide (show ¬ R5 x from fun r => by have := (r.2.1 k hlt).1 (unhide TC); have := unhide hc; omega)
              clear hn1
              go_wp2_with fail
              go_ret
              exact ⟨false, rfl, ⟨fun f => by simp at f, fun r => (unhide N r).elim⟩, hx2⟩
    · have A1 := hide (show ∀ j, j < x.cells.length → ColorOk x j from fun j hj => unhide HA j (by omega))
      have d8 := (h.ext hbl).c8
      go_wp2_with fail
      clear hlt hk HA
      go_loopw [102] (fun i wr2 => ∃ l : Nat, l ≤ x.gray.length ∧ i = .int .i64 l ∧ (∀ j (hj : j < x.gray.length), j < l → 0 ≤ x.gray[j] ∧ x.gray[j] < x.cells.length) ∧ Ext w wr2) (fun i _ => x.gray.length - (intOf i).toNat)
      case atStart => exact ⟨0, Nat.zero_le _, rfl, fun j hj h => by omega, hbl⟩
      case round =>
        clear hbl d8
        obtain ⟨l, hl, rfl, hall, hx2⟩ := hrel
        have HB := hide hall
        clear hall
        by_cases hl2 : l < x.gray.length
        · obtain ⟨bg, og, rfl, pg⟩ := (h.ext hx2).G l hl2
          unfold InAt at pg
          simp only [Nat.mul_one] at pg
          have d4 := (h.ext hx2).c4
          have hl0 : (0:Int) ≤ (l:Int) := by omega
          have hl1 : (l:Int) < (x.gray.length:Int) := by omega
          by_cases t1 : x.gray[l] < 0
          · have N := hide (show ¬ R5 x from fun r => by have := r.2.2 x.gray[l] (List.getElem_mem hl2); omega)
            go_wp2_with fail
            go_ret
            first | (exact Or.inl ⟨rfl, unhide N, hx2⟩) | (exact ⟨false, rfl, ⟨fun f => by simp at f, fun r => (unhide N r).elim⟩, hx2⟩)
          · by_cases t2 : (x.cells.length : Int) ≤ x.gray[l]
            · have N := hide (show ¬ R5 x from fun r => by have := r.2.2 x.gray[l] (List.getElem_mem hl2); omega)
              go_wp2_with fail
              go_ret
              first | (exact Or.inl ⟨rfl, unhide N, hx2⟩) | (exact ⟨false, rfl, ⟨fun f => by simp at f, fun r => (unhide N r).elim⟩, hx2⟩)
            · have S := hide (show ∀ j (hj : j < x.gray.length), j < l + 1 → 0 ≤ x.gray[j] ∧ x.gray[j] < x.cells.length from fun j hj hjl => by
                by_cases e : j = l
                · subst e; omega
                · exact unhide HB j hj (by omega))
              go_wp2_with fail
              go_roundw
              case rel => exact ⟨l + 1, by omega, by go_num, unhide S, hx2⟩
              case measure => simp [intOf]; omega
        · have Y := hide (show R5 x from ⟨unhide G0, unhide A1, fun g hg => by
            obtain ⟨j, hj, rfl⟩ := List.getElem_of_mem hg
            exact unhide HB j hj (by omega)⟩)
          go_wp2_with fail
          go_ret
          exact ⟨true, rfl, ⟨fun _ => unhide Y, fun _ => rfl⟩, hx2⟩

end Go.Proofs.YtbcmjcomdjdjaaaGreat

namespace Go.Proofs.YtbcmjcomdjdjaaaGreat
open Go.RowKit
attribute [local go_sem ↓] Go.wp_at_zero Go.wp_at_succ

set_option maxRecDepth 100000 in
set_option maxHeartbeats 2000000 in
theorem l1colors_b (x : Hp) (b : Nat) (w : World) {ar : Option Addr} {kr : Nat} {ac : Option Addr} {kc : Nat} {ag : Option Addr} {kg : Nat} (h : HAt w b x ar kr ac kc ag kg) (q1 : (x.phase == 1) = false) (q2 : (x.phase == 2) = true) :
    Calls Tryz.prog 41 #[.pointer (some ⟨b, 0, none⟩)] w fun e w' => ∃ r : Bool, e = .returned (.bool r) ∧ (r = true ↔ R5 x) ∧ Ext w w' := by
  have MK := hide (show Marking x from Or.inr (by simpa using q2))
  have c4 := h.c4
  have c5 := h.c5
  have c8 := h.c8
  have lc := h.lc
  have lg := h.lg
  have G0 := hide (show ¬ Marking x → x.gray.length = 0 from fun n => (n (unhide MK)).elim)
  go_enter Tryz.func41, Tryz.ntmps41
  go_wp2_with fail
  go_loopw [38] (fun i wr => ∃ k : Nat, k ≤ x.cells.length ∧ i = .int .i64 k ∧ (∀ j, j < k → ColorOk x j) ∧ Ext w wr) (fun i _ => x.cells.length - (intOf i).toNat)
  case atStart => exact ⟨0, Nat.zero_le _, rfl, fun j h => by omega, Ext.refl _⟩
  case round =>
    obtain ⟨k, hk, rfl, hall, hbl⟩ := hrel
    have HA := hide hall
    clear hall
    by_cases hlt : k < x.cells.length
    · obtain ⟨b', o, ap, kp, rfl, p0, p1, p2, p3, p4, p5, p6, p7, lp, P⟩ := (h.ext hbl).cell k hlt
      clear P
      have d8 := (h.ext hbl).c8
      have hb' : b' < wr.heap.size := cell_lt p0
      have hb : b < wr.heap.size := cell_lt d8
      have hk0 : (0:Int) ≤ (k:Int) := by omega
      have hk1 : (k:Int) < (x.cells.length:Int) := by omega
      have hbl1 := hbl.alloc (.cells #[.int .i64 (x.c k).st, .int .i64 (x.c k).kind, .int .i64 (x.c k).weak, .int .i64 (x.c k).last, .int .i64 (x.c k).born, .int .i64 (x.c k).color, .int .i64 (x.c k).to, .slice ap (x.c k).prs.length kp] 90)
      have ST := hide (show ColorOk x k → ∀ j, j < k + 1 → ColorOk x j from fun hn j hj => by
        by_cases e : j = k
        · subst e; exact hn
        · exact unhide HA j (by omega))
      go_wp2_with fail
      obtain ⟨WO, hWO⟩ : ∃ W : World, W = wr := ⟨_, rfl⟩
      subst hWO
      go_loopw [6, 48] (fun nv i wr2 => ∃ l n : Nat, l ≤ x.gray.length ∧ i = .int .i64 l ∧ nv = .int .i64 n ∧ n ≤ l ∧ Hid (n = (x.gray.take l).count (k : Int)) ∧ Ext w wr2 ∧ Ext (WO.alloc (.cells #[.int .i64 (x.c k).st, .int .i64 (x.c k).kind, .int .i64 (x.c k).weak, .int .i64 (x.c k).last, .int .i64 (x.c k).born, .int .i64 (x.c k).color, .int .i64 (x.c k).to, .slice ap (x.c k).prs.length kp] 90)) wr2) (fun _ i _ => x.gray.length - (intOf i).toNat)
      case atStart => exact ⟨0, 0, Nat.zero_le _, rfl, rfl, by omega, by show _ = _; simp, hbl1, Ext.refl _⟩
      case round =>
        obtain ⟨l, n, hl, rfl, rfl, hn, hcnt, hx2, hy2⟩ := hrel
        by_cases hl2 : l < x.gray.length
        · obtain ⟨bg, og, rfl, pg⟩ := (h.ext hx2).G l hl2
          unfold InAt at pg
          simp only [Nat.mul_one] at pg
          clear p0 p1 p2 p3 p4 p5 p6 p7 d8
          have hl0 : (0:Int) ≤ (l:Int) := by omega
          have hl1 : (l:Int) < (x.gray.length:Int) := by omega
          have ct := count_take x.gray k l hl2
          cases t : (x.gray[l] == (k : Int))
          · have H : Hid (n = (x.gray.take (l + 1)).count (k : Int)) := by have := unhide hcnt; show _ = _; rw [ct, t]; simpa using this
            clear ct
            go_wp2_with fail
            go_roundw
            case rel => exact ⟨l + 1, n, by omega, by go_num, rfl, by omega, H, hx2, hy2⟩
            case measure => simp [intOf]; omega
          · have H : Hid (n + 1 = (x.gray.take (l + 1)).count (k : Int)) := by have := unhide hcnt; show _ = _; rw [ct, t, ← this]; simp
            clear ct
            go_wp2_with fail
            go_roundw
            case rel => exact ⟨l + 1, n + 1, by omega, by go_num, by go_num, by omega, H, hx2, hy2⟩
            case measure => simp [intOf]; omega
        · have hc := hide (show n = cnt x.gray k by have := unhide hcnt; rw [List.take_of_length_le (by omega)] at this; exact this)
          have f5 := hy2.keep (b := WO.heap.size) (o := 5) (v := .int .i64 (x.c k).color) (by simp [go_sem])
          have d5 := (h.ext hx2).c5
          have d6 := (h.ext hx2).c6
          clear p0 p1 p2 p3 p4 p5 p6 p7 d8 hcnt
          cases t1 : ((x.c k).color == 1)
          · have t1' : (x.c k).color ≠ 1 := by simpa using t1
            have t1b : ((x.c k).color != 1) = true := by simpa using t1'
            by_cases hn0 : 0 < n
            · have N := hide (show ¬ R5 x from fun r => by have := (r.2.1 k hlt).2.1 t1'; have := unhide hc; omega)
              clear t1'
              go_wp2_with fail
              go_ret
              exact ⟨false, rfl, ⟨fun f => by simp at f, fun r => (unhide N r).elim⟩, hx2⟩
            · have hz : Hid (cnt x.gray k = 0) := by have := unhide hc; show _ = _; omega
              cases t2 : ((x.c k).color == 2)
              · have S := hide (unhide ST ⟨fun e => absurd e t1', fun _ => unhide hz, fun e => by simp [e] at t2⟩)
                clear t1'
                go_wp2_with fail
                go_roundw
                case rel => exact ⟨k + 1, by omega, by go_num, unhide S, hx2⟩
                case measure => simp [intOf]; omega
              · have S := hide (unhide ST ⟨fun e => absurd e t1', fun _ => unhide hz, fun _ => Or.inl (unhide MK)⟩)
                clear t1'
                go_wp2_with fail
                go_roundw
                case rel => exact ⟨k + 1, by omega, by go_num, unhide S, hx2⟩
                case measure => simp [intOf]; omega
          · have t1' : (x.c k).color = 1 := by simpa using t1
            have t1b : ((x.c k).color != 1) = false := by simp [t1']
            have t1c : ((x.c k).color == 2) = false := by simp [t1']
            have TC := hide t1'
            clear t1'
            by_cases hn1 : n = 1
            · have hn2 : ((n : Int) != 1) = false := by simp [hn1]
              have S := hide (unhide ST ⟨fun _ => by have := unhide hc; omega, fun e => absurd (unhide TC) e, fun e => by have := unhide TC; omega⟩)
              clear hn1
              go_wp2_with fail
              go_roundw
              case rel => exact ⟨k + 1, by omega, by go_num, unhide S, hx2⟩
              case measure => simp [intOf]; omega
            · have hn2 : ((n : Int) != 1) = true := by simp; omega
              have N := hide (show ¬ R5 x from fun r => by have := (r.2.1 k hlt).1 (unhide TC); have := unhide hc; omega)
              clear hn1
              go_wp2_with fail
              go_ret
              exact ⟨false, rfl, ⟨fun f => by simp at f, fun r => (unhide N r).elim⟩, hx2⟩
    · have A1 := hide (show ∀ j, j < x.cells.length → ColorOk x j from fun j hj => unhide HA j (by omega))
      have d8 := (h.ext hbl).c8
      go_wp2_with fail
      clear hlt hk HA
      go_loopw [102] (fun i wr2 => ∃ l : Nat, l ≤ x.gray.length ∧ i = .int .i64 l ∧ (∀ j (hj : j < x.gray.length), j < l → 0 ≤ x.gray[j] ∧ x.gray[j] < x.cells.length) ∧ Ext w wr2) (fun i _ => x.gray.length - (intOf i).toNat)
      case atStart => exact ⟨0, Nat.zero_le _, rfl, fun j hj h => by omega, hbl⟩
      case round =>
        clear hbl d8
        obtain ⟨l, hl, rfl, hall, hx2⟩ := hrel
        have HB := hide hall
        clear hall
        by_cases hl2 : l < x.gray.length
        · obtain ⟨bg, og, rfl, pg⟩ := (h.ext hx2).G l hl2
          unfold InAt at pg
          simp only [Nat.mul_one] at pg
          have d4 := (h.ext hx2).c4
          have hl0 : (0:Int) ≤ (l:Int) := by omega
          have hl1 : (l:Int) < (x.gray.length:Int) := by omega
          by_cases t1 : x.gray[l] < 0
          · have N := hide (show ¬ R5 x from fun r => by have := r.2.2 x.gray[l] (List.getElem_mem hl2); omega)
            go_wp2_with fail
            go_ret
            first | (exact Or.inl ⟨rfl, unhide N, hx2⟩) | (exact ⟨false, rfl, ⟨fun f => by simp at f, fun r => (unhide N r).elim⟩, hx2⟩)
          · by_cases t2 : (x.cells.length : Int) ≤ x.gray[l]
            · have N := hide (show ¬ R5 x from fun r => by have := r.2.2 x.gray[l] (List.getElem_mem hl2); omega)
              go_wp2_with fail
              go_ret
              first | (exact Or.inl ⟨rfl, unhide N, hx2⟩) | (exact ⟨false, rfl, ⟨fun f => by simp at f, fun r => (unhide N r).elim⟩, hx2⟩)
            · have S := hide (show ∀ j (hj : j < x.gray.length), j < l + 1 → 0 ≤ x.gray[j] ∧ x.gray[j] < x.cells.length from fun j hj hjl => by
                by_cases e : j = l
                · subst e; omega
                · exact unhide HB j hj (by omega))
              go_wp2_with fail
              go_roundw
              case rel => exact ⟨l + 1, by omega, by go_num, unhide S, hx2⟩
              case measure => simp [intOf]; omega
        · have Y := hide (show R5 x from ⟨unhide G0, unhide A1, fun g hg => by
            obtain ⟨j, hj, rfl⟩ := List.getElem_of_mem hg
            exact unhide HB j hj (by omega)⟩)
          go_wp2_with fail
          go_ret
          exact ⟨true, rfl, ⟨fun _ => unhide Y, fun _ => rfl⟩, hx2⟩

end Go.Proofs.YtbcmjcomdjdjaaaGreat

namespace Go.Proofs.YtbcmjcomdjdjaaaGreat
open Go.RowKit
attribute [local go_sem ↓] Go.wp_at_zero Go.wp_at_succ

set_option maxRecDepth 100000 in
set_option maxHeartbeats 2000000 in
theorem l1colors_c (x : Hp) (b : Nat) (w : World) {ar : Option Addr} {kr : Nat} {ac : Option Addr} {kc : Nat} {ag : Option Addr} {kg : Nat} (h : HAt w b x ar kr ac kc ag kg) (q1 : (x.phase == 1) = false) (q2 : (x.phase == 2) = false) :
    Calls Tryz.prog 41 #[.pointer (some ⟨b, 0, none⟩)] w fun e w' => ∃ r : Bool, e = .returned (.bool r) ∧ (r = true ↔ R5 x) ∧ Ext w w' := by
  have MK := hide (show ¬ Marking x from fun h => by rcases h with h | h <;> simp [h] at q1 q2)
  have c4 := h.c4
  have c5 := h.c5
  have c8 := h.c8
  have lc := h.lc
  have lg := h.lg
  by_cases hg : 0 < x.gray.length
  · have N := hide (show ¬ R5 x from fun r => by have := r.1 (unhide MK); omega)
    go_enter Tryz.func41, Tryz.ntmps41
    go_wp2_with fail
    go_ret
    exact ⟨false, rfl, ⟨fun f => by simp at f, fun r => (unhide N r).elim⟩, Ext.refl _⟩
  have G0 := hide (show ¬ Marking x → x.gray.length = 0 from fun _ => by omega)
  go_enter Tryz.func41, Tryz.ntmps41
  go_wp2_with fail
  clear hg
  go_loopw [38] (fun i wr => ∃ k : Nat, k ≤ x.cells.length ∧ i = .int .i64 k ∧ (∀ j, j < k → ColorOk x j) ∧ Ext w wr) (fun i _ => x.cells.length - (intOf i).toNat)
  case atStart => exact ⟨0, Nat.zero_le _, rfl, fun j h => by omega, Ext.refl _⟩
  case round =>
    obtain ⟨k, hk, rfl, hall, hbl⟩ := hrel
    have HA := hide hall
    clear hall
    by_cases hlt : k < x.cells.length
    · obtain ⟨b', o, ap, kp, rfl, p0, p1, p2, p3, p4, p5, p6, p7, lp, P⟩ := (h.ext hbl).cell k hlt
      clear P
      have d8 := (h.ext hbl).c8
      have hb' : b' < wr.heap.size := cell_lt p0
      have hb : b < wr.heap.size := cell_lt d8
      have hk0 : (0:Int) ≤ (k:Int) := by omega
      have hk1 : (k:Int) < (x.cells.length:Int) := by omega
      have hbl1 := hbl.alloc (.cells #[.int .i64 (x.c k).st, .int .i64 (x.c k).kind, .int .i64 (x.c k).weak, .int .i64 (x.c k).last, .int .i64 (x.c k).born, .int .i64 (x.c k).color, .int .i64 (x.c k).to, .slice ap (x.c k).prs.length kp] 90)
      have ST := hide (show ColorOk x k → ∀ j, j < k + 1 → ColorOk x j from fun hn j hj => by
        by_cases e : j = k
        · subst e; exact hn
        · exact unhide HA j (by omega))
      go_wp2_with fail
      obtain ⟨WO, hWO⟩ : ∃ W : World, W = wr := ⟨_, rfl⟩
      subst hWO
      go_loopw [6, 48] (fun nv i wr2 => ∃ l n : Nat, l ≤ x.gray.length ∧ i = .int .i64 l ∧ nv = .int .i64 n ∧ n ≤ l ∧ Hid (n = (x.gray.take l).count (k : Int)) ∧ Ext w wr2 ∧ Ext (WO.alloc (.cells #[.int .i64 (x.c k).st, .int .i64 (x.c k).kind, .int .i64 (x.c k).weak, .int .i64 (x.c k).last, .int .i64 (x.c k).born, .int .i64 (x.c k).color, .int .i64 (x.c k).to, .slice ap (x.c k).prs.length kp] 90)) wr2) (fun _ i _ => x.gray.length - (intOf i).toNat)
      case atStart => exact ⟨0, 0, Nat.zero_le _, rfl, rfl, by omega, by show _ = _; simp, hbl1, Ext.refl _⟩
      case round =>
        obtain ⟨l, n, hl, rfl, rfl, hn, hcnt, hx2, hy2⟩ := hrel
        by_cases hl2 : l < x.gray.length
        · obtain ⟨bg, og, rfl, pg⟩ := (h.ext hx2).G l hl2
          unfold InAt at pg
          simp only [Nat.mul_one] at pg
          clear p0 p1 p2 p3 p4 p5 p6 p7 d8
          have hl0 : (0:Int) ≤ (l:Int) := by omega
          have hl1 : (l:Int) < (x.gray.length:Int) := by omega
          have ct := count_take x.gray k l hl2
          cases t : (x.gray[l] == (k : Int))
          · have H : Hid (n = (x.gray.take (l + 1)).count (k : Int)) := by have := unhide hcnt; show _ = _; rw [ct, t]; simpa using this
            clear ct
            go_wp2_with fail
            go_roundw
            case rel => exact ⟨l + 1, n, by omega, by go_num, rfl, by omega, H, hx2, hy2⟩
            case measure => simp [intOf]; omega
          · have H : Hid (n + 1 = (x.gray.take (l + 1)).count (k : Int)) := by have := unhide hcnt; show _ = _; rw [ct, t, ← this]; simp
            clear ct
            go_wp2_with fail
            go_roundw
            case rel => exact ⟨l + 1, n + 1, by omega, by go_num, by go_num, by omega, H, hx2, hy2⟩
            case measure => simp [intOf]; omega
        · have hc := hide (show n = cnt x.gray k by have := unhide hcnt; rw [List.take_of_length_le (by omega)] at this; exact this)
          have f5 := hy2.keep (b := WO.heap.size) (o := 5) (v := .int .i64 (x.c k).color) (by simp [go_sem])
          have d5 := (h.ext hx2).c5
          have d6 := (h.ext hx2).c6
          clear p0 p1 p2 p3 p4 p5 p6 p7 d8 hcnt
          cases t1 : ((x.c k).color == 1)
          · have t1' : (x.c k).color ≠ 1 := by simpa using t1
            have t1b : ((x.c k).color != 1) = true := by simpa using t1'
            by_cases hn0 : 0 < n
            · have N := hide (show ¬ R5 x from fun r => by have := (r.2.1 k hlt).2.1 t1'; have := unhide hc; omega)
              clear t1'
              go_wp2_with fail
              go_ret
              exact ⟨false, rfl, ⟨fun f => by simp at f, fun r => (unhide N r).elim⟩, hx2⟩
            · have hz : Hid (cnt x.gray k = 0) := by have := unhide hc; show _ = _; omega
              cases t2 : ((x.c k).color == 2)
              · have S := hide (unhide ST ⟨fun e => absurd e t1', fun _ => unhide hz, fun e => by simp [e] at t2⟩)
                clear t1'
                go_wp2_with fail
                go_roundw
                case rel => exact ⟨k + 1, by omega, by go_num, unhide S, hx2⟩
                case measure => simp [intOf]; omega
              · cases t3 : (x.phase == 3)
                · have t3b : (x.phase != 3) = true := by simpa using t3
                  have N := hide (show ¬ R5 x from fun r => by
                    rcases (r.2.1 k hlt).2.2 (by simpa using t2) with m | m
                    · exact unhide MK m
                    · simp [m.1] at t3)
                  clear t1'
                  go_wp2_with fail
                  go_ret
                  exact ⟨false, rfl, ⟨fun f => by simp at f, fun r => (unhide N r).elim⟩, hx2⟩
                · have t3b : (x.phase != 3) = false := by simpa using t3
                  by_cases t4 : (k : Int) < x.hand
                  · have N := hide (show ¬ R5 x from fun r => by
                      rcases (r.2.1 k hlt).2.2 (by simpa using t2) with m | m
                      · exact unhide MK m
                      · omega)
                    clear t1'
                    go_wp2_with fail
                    go_ret
                    exact ⟨false, rfl, ⟨fun f => by simp at f, fun r => (unhide N r).elim⟩, hx2⟩
                  · have S := hide (unhide ST ⟨fun e => absurd e t1', fun _ => unhide hz, fun _ => Or.inr ⟨by simpa using t3, by omega⟩⟩)
                    clear t1'
                    go_wp2_with fail
                    go_roundw
                    case rel => exact ⟨k + 1, by omega, by go_num, unhide S, hx2⟩
                    case measure => simp [intOf]; omega
          · have t1' : (x.c k).color = 1 := by simpa using t1
            have t1b : ((x.c k).color != 1) = false := by simp [t1']
            have t1c : ((x.c k).color == 2) = false := by simp [t1']
            have TC := hide t1'
            clear t1'
            by_cases hn1 : n = 1
            · have hn2 : ((n : Int) != 1) = false := by simp [hn1]
              have S := hide (unhide ST ⟨fun _ => by have := unhide hc; omega, fun e => absurd (unhide TC) e, fun e => by have := unhide TC; omega⟩)
              clear hn1
              go_wp2_with fail
              go_roundw
              case rel => exact ⟨k + 1, by omega, by go_num, unhide S, hx2⟩
              case measure => simp [intOf]; omega
            · have hn2 : ((n : Int) != 1) = true := by simp; omega
              have N := hide (show ¬ R5 x from fun r => by have := (r.2.1 k hlt).1 (unhide TC); have := unhide hc; omega)
              clear hn1
              go_wp2_with fail
              go_ret
              exact ⟨false, rfl, ⟨fun f => by simp at f, fun r => (unhide N r).elim⟩, hx2⟩
    · have A1 := hide (show ∀ j, j < x.cells.length → ColorOk x j from fun j hj => unhide HA j (by omega))
      have d8 := (h.ext hbl).c8
      go_wp2_with fail
      clear hlt hk HA
      go_loopw [102] (fun i wr2 => ∃ l : Nat, l ≤ x.gray.length ∧ i = .int .i64 l ∧ (∀ j (hj : j < x.gray.length), j < l → 0 ≤ x.gray[j] ∧ x.gray[j] < x.cells.length) ∧ Ext w wr2) (fun i _ => x.gray.length - (intOf i).toNat)
      case atStart => exact ⟨0, Nat.zero_le _, rfl, fun j hj h => by omega, hbl⟩
      case round =>
        clear hbl d8
        obtain ⟨l, hl, rfl, hall, hx2⟩ := hrel
        have HB := hide hall
        clear hall
        by_cases hl2 : l < x.gray.length
        · obtain ⟨bg, og, rfl, pg⟩ := (h.ext hx2).G l hl2
          unfold InAt at pg
          simp only [Nat.mul_one] at pg
          have d4 := (h.ext hx2).c4
          have hl0 : (0:Int) ≤ (l:Int) := by omega
          have hl1 : (l:Int) < (x.gray.length:Int) := by omega
          by_cases t1 : x.gray[l] < 0
          · have N := hide (show ¬ R5 x from fun r => by have := r.2.2 x.gray[l] (List.getElem_mem hl2); omega)
            go_wp2_with fail
            go_ret
            first | (exact Or.inl ⟨rfl, unhide N, hx2⟩) | (exact ⟨false, rfl, ⟨fun f => by simp at f, fun r => (unhide N r).elim⟩, hx2⟩)
          · by_cases t2 : (x.cells.length : Int) ≤ x.gray[l]
            · have N := hide (show ¬ R5 x from fun r => by have := r.2.2 x.gray[l] (List.getElem_mem hl2); omega)
              go_wp2_with fail
              go_ret
              first | (exact Or.inl ⟨rfl, unhide N, hx2⟩) | (exact ⟨false, rfl, ⟨fun f => by simp at f, fun r => (unhide N r).elim⟩, hx2⟩)
            · have S := hide (show ∀ j (hj : j < x.gray.length), j < l + 1 → 0 ≤ x.gray[j] ∧ x.gray[j] < x.cells.length from fun j hj hjl => by
                by_cases e : j = l
                · subst e; omega
                · exact unhide HB j hj (by omega))
              go_wp2_with fail
              go_roundw
              case rel => exact ⟨l + 1, by omega, by go_num, unhide S, hx2⟩
              case measure => simp [intOf]; omega
        · have Y := hide (show R5 x from ⟨unhide G0, unhide A1, fun g hg => by
            obtain ⟨j, hj, rfl⟩ := List.getElem_of_mem hg
            exact unhide HB j hj (by omega)⟩)
          go_wp2_with fail
          go_ret
          exact ⟨true, rfl, ⟨fun _ => unhide Y, fun _ => rfl⟩, hx2⟩

end Go.Proofs.YtbcmjcomdjdjaaaGreat

namespace Go.Proofs.YtbcmjcomdjdjaaaGreat
open Go.RowKit
attribute [local go_sem ↓] Go.wp_at_zero Go.wp_at_succ

theorem l1colors_any (x : Hp) (b : Nat) (w : World) {ar : Option Addr} {kr : Nat} {ac : Option Addr} {kc : Nat} {ag : Option Addr} {kg : Nat} (h : HAt w b x ar kr ac kc ag kg) :
    Calls Tryz.prog 41 #[.pointer (some ⟨b, 0, none⟩)] w fun e w' => ∃ r : Bool, e = .returned (.bool r) ∧ (r = true ↔ R5 x) ∧ Ext w w' := by
  cases q1 : (x.phase == 1)
  · cases q2 : (x.phase == 2)
    · exact l1colors_c x b w h q1 q2
    · exact l1colors_b x b w h q1 q2
  · exact l1colors_a x b w h q1

end Go.Proofs.YtbcmjcomdjdjaaaGreat
