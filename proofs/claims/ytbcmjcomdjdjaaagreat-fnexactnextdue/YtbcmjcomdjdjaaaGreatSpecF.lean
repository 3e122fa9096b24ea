import Derived.Test.YtbcmjcomdjdjaaaGreatSpecC
import Derived.BigRegion
import Derived.BigQuiet
import Derived.Deep.RegionWith
namespace Go.Proofs.YtbcmjcomdjdjaaaGreat
open Go.RowKit
attribute [local go_sem ↓] Go.wp_at_zero Go.wp_at_succ

/-- 'Ext', shut to the walk -/
def Up (w w' : World) : Prop := Ext w w'
theorem Up.ext {w w' : World} (h : Up w w') : Ext w w' := h
theorem quietUp {P : Program} {f : FuncId} {args : Array Value} {w w' : World} {v : Value} (h : Calls P f args w' fun e w'' => e = .returned v ∧ Ext w' w'') (hw : Up w w') : Calls P f args w' fun e w'' => e = .returned v ∧ Up w w'' :=
  h.mono fun _ _ ⟨he, hx⟩ => ⟨he, Ext.trans hw hx⟩

set_option maxRecDepth 100000 in
set_option maxHeartbeats 1500000 in
theorem l1words_any (x : Hp) (b : Nat) (w : World) {ar : Option Addr} {kr : Nat} {ac : Option Addr} {kc : Nat} {ag : Option Addr} {kg : Nat} (h : HAt w b x ar kr ac kc ag kg) :
    Calls Tryz.prog 40 #[.pointer (some ⟨b, 0, none⟩)] w fun e w' => ∃ r : Bool, e = .returned (.bool r) ∧ (r = true ↔ R4 x) ∧ Ext w w' := by
  have c3 := h.c3
  have lr := h.lr
  have lc := h.lc
  go_enter Tryz.func40, Tryz.ntmps40
  go_wp2_with fail
  go_loopw [16] (fun i wr => ∃ k : Nat, k ≤ x.regs.length ∧ i = .int .i64 k ∧ (∀ j (hj : j < x.regs.length), j < k → Leads x x.regs[j] False) ∧ Ext w wr) (fun i _ => x.regs.length - (intOf i).toNat)
  case atStart => exact ⟨0, Nat.zero_le _, rfl, fun j hj h => by omega, Ext.refl _⟩
  case round =>
    obtain ⟨k, hk, rfl, hall, hbl⟩ := hrel
    have HA := hide hall
    clear hall
    by_cases hlt : k < x.regs.length
    · obtain ⟨b', o, rfl, p0, p1, p2⟩ := (h.ext hbl).R k hlt
      have hb' : b' < wr.heap.size := cell_lt p0
      have hk0 : (0:Int) ≤ (k:Int) := by omega
      have hk1 : (k:Int) < (x.regs.length:Int) := by omega
      go_wp2_with fail
      refine (l1leads_any x b x.regs[k] false _ (h.ext (hbl.alloc _))).mono ?_
      rintro e w1 ⟨rfl, hq1⟩
      have x1 : Ext w w1 := (hbl.alloc _).trans hq1
      cases q : leadsB x x.regs[k] false
      · have N := hide (show ¬ R4 x from fun r => by
          have := (leadsB_iff (m := false) (p := False) (by simp)).2 (r.1 k hlt)
          rw [this] at q; simp at q)
        go_wp2_with fail
        go_ret
        exact ⟨false, rfl, ⟨fun f => by simp at f, fun r => (unhide N r).elim⟩, x1⟩
      · have S := hide (show ∀ j (hj : j < x.regs.length), j < k + 1 → Leads x x.regs[j] False from fun j hj hjk => by
          by_cases e : j = k
          · subst e; exact (leadsB_iff (m := false) (p := False) (by simp)).1 q
          · exact unhide HA j hj (by omega))
        go_wp2_with fail
        go_roundw
        case rel => exact ⟨k + 1, by omega, by go_num, unhide S, x1⟩
        case measure => simp [intOf]; omega
    · have A1 := hide (show ∀ j (hj : j < x.regs.length), Leads x x.regs[j] False from fun j hj => unhide HA j hj (by omega))
      clear HA
      have c4 := (h.ext hbl).c4
      go_wp2_with fail
      clear hlt hk
      go_loopw [30] (fun i wr => ∃ k : Nat, k ≤ x.cells.length ∧ i = .int .i64 k ∧ (∀ j, j < k → ¬ (Doomed x j ∧ Speaks (x.c j)) ∧ ∀ l, l < (x.c j).prs.length → PairOk x j l ((x.c j).p l)) ∧ Ext w wr) (fun i _ => x.cells.length - (intOf i).toNat)
      case atStart => exact ⟨0, Nat.zero_le _, rfl, fun j h => by omega, hbl⟩
      case round =>
        clear hbl c4
        obtain ⟨k, hk, rfl, hall, hbl⟩ := hrel
        have HA := hide hall
        clear hall
        by_cases hlt : k < x.cells.length
        · obtain ⟨b', o, ap, kp, rfl, C⟩ := (h.ext hbl).cell k hlt
          obtain ⟨p0, p1, p2, p3, p4, p5, p6, p7, lp, P⟩ := C
          have HP := hide P
          clear P
          have hb' : b' < wr.heap.size := cell_lt p0
          have hk0 : (0:Int) ≤ (k:Int) := by omega
          have hk1 : (k:Int) < (x.cells.length:Int) := by omega
          go_wp2_with fail
          have hd := l1doomed_any x b k _ (h.ext (hbl.alloc (.cells #[.int .i64 (x.c k).st, .int .i64 (x.c k).kind, .int .i64 (x.c k).weak, .int .i64 (x.c k).last, .int .i64 (x.c k).born, .int .i64 (x.c k).color, .int .i64 (x.c k).to, .slice ap (x.c k).prs.length kp] 90))) (by omega) (by omega)
          rw [Int.toNat_natCast] at hd
          refine hd.mono ?_
          clear hd
          rintro e w1 ⟨rfl, rfl⟩
          have hbl1 := hbl.alloc (.cells #[.int .i64 (x.c k).st, .int .i64 (x.c k).kind, .int .i64 (x.c k).weak, .int .i64 (x.c k).last, .int .i64 (x.c k).born, .int .i64 (x.c k).color, .int .i64 (x.c k).to, .slice ap (x.c k).prs.length kp] 90)
          cases qd : doomedB x k
          · go_wp2_with fail
            go_loopw [52] (fun i wr2 => ∃ l : Nat, l ≤ (x.c k).prs.length ∧ i = .int .i64 l ∧ (∀ j, j < l → PairOk x k j ((x.c k).p j)) ∧ Ext w wr2 ∧ Ext wr wr2) (fun i _ => (x.c k).prs.length - (intOf i).toNat)
            case atStart => exact ⟨0, Nat.zero_le _, rfl, fun j h => by omega, hbl1, (Ext.refl wr).alloc _⟩
            case round =>
              obtain ⟨l, hl, rfl, hall, hx2, hy2⟩ := hrel
              have HB := hide hall
              clear hall
              by_cases hl2 : l < (x.c k).prs.length
              · obtain ⟨b2, o2, rfl, q0, q1, q2, q3, q4, q5⟩ := unhide HP l hl2
                have e0 := hy2.keep q0
                have e1 := hy2.keep q1
                have e2 := hy2.keep q2
                have e3 := hy2.keep q3
                have e4 := hy2.keep q4
                have e5 := hy2.keep q5
                have hb2 : b2 < wr.heap.size := cell_lt e0
                clear q0 q1 q2 q3 q4 q5 p0 p1 p2 p3 p4 p5 p6 p7
                have hl0 : (0:Int) ≤ (l:Int) := by omega
                have hl1 : (l:Int) < ((x.c k).prs.length:Int) := by omega
                have ndoom : ¬ Doomed x k := fun hd => by rw [← doomedB_iff, qd] at hd; simp at hd
                have hm := mendedB_iff (x := x) (i := k) (k := l)
                have hmm : ((!mendedB x k l) = true ↔ ¬ Mended x k l) := by rw [← hm]; simp
                have K1 := hide (leadsB_iff (x := x) (y := ((x.c k).p l).key) hmm)
                have K2 := hide (leadsB_iff (x := x) (y := ((x.c k).p l).val) hmm)
                have ND := hide ndoom
                clear hm hmm ndoom
                go_wp2_with fail
                refine (l1mended_any x b k l _ (h.ext (hx2.alloc _))).mono ?_
                rintro e w2 ⟨rfl, rfl⟩
                have hx3 := hx2.alloc (.cells #[.int .i64 ((x.c k).p l).key.k, .int .i64 ((x.c k).p l).key.n, .int .i64 ((x.c k).p l).key.a, .int .i64 ((x.c k).p l).val.k, .int .i64 ((x.c k).p l).val.n, .int .i64 ((x.c k).p l).val.a] 106)
                have hy3 := hy2.alloc (.cells #[.int .i64 ((x.c k).p l).key.k, .int .i64 ((x.c k).p l).key.n, .int .i64 ((x.c k).p l).key.a, .int .i64 ((x.c k).p l).val.k, .int .i64 ((x.c k).p l).val.n, .int .i64 ((x.c k).p l).val.a] 106)
                go_wp2_with fail
                refine (l1leads_any x b ((x.c k).p l).key (!mendedB x k l) _ (h.ext hx3)).mono ?_
                rintro e w3 ⟨rfl, hq3⟩
                have hc3 := (bcell hq3).1
                have x3 : Ext w w3 := hx3.trans hq3
                have y3 := Ext.trans hy3 hq3
                cases qk : leadsB x ((x.c k).p l).key (!mendedB x k l)
                · have N := hide (show ¬ R4 x from fun r => by
                    have := (unhide K1).2 (((r.2 k hlt).2 l hl2).2 (unhide ND)).1
                    rw [this] at qk; simp at qk)
                  go_wp2_with fail
                  go_ret
                  exact ⟨false, rfl, ⟨fun f => by simp at f, fun r => (unhide N r).elim⟩, x3⟩
                · go_wp2_with fail
                  refine (l1leads_any x b ((x.c k).p l).val (!mendedB x k l) _ (h.ext x3)).mono ?_
                  rintro e w4 ⟨rfl, hq4⟩
                  cases qv : leadsB x ((x.c k).p l).val (!mendedB x k l)
                  · have N := hide (show ¬ R4 x from fun r => by
                      have := (unhide K2).2 (((r.2 k hlt).2 l hl2).2 (unhide ND)).2
                      rw [this] at qv; simp at qv)
                    go_wp2_with fail
                    go_ret
                    exact ⟨false, rfl, ⟨fun f => by simp at f, fun r => (unhide N r).elim⟩, x3.trans hq4⟩
                  · have S := hide (show ∀ j, j < l + 1 → PairOk x k j ((x.c k).p j) from fun j hj => by
                      by_cases e : j = l
                      · subst e; exact ⟨fun hd => (unhide ND hd).elim, fun _ => ⟨(unhide K1).1 qk, (unhide K2).1 qv⟩⟩
                      · exact unhide HB j (by omega))
                    go_wp2_with fail
                    go_roundw
                    case rel => exact ⟨l + 1, by omega, by go_num, unhide S, x3.trans hq4, Ext.trans y3 hq4⟩
                    case measure => simp [intOf]; omega
              · have S := hide (show ∀ j, j < k + 1 → ¬ (Doomed x j ∧ Speaks (x.c j)) ∧ ∀ l, l < (x.c j).prs.length → PairOk x j l ((x.c j).p l) from fun j hj => by
                  by_cases e : j = k
                  · subst e; exact ⟨fun hd => by rw [← doomedB_iff, qd] at hd; simp at hd, fun l' hl' => unhide HB l' (by omega)⟩
                  · exact unhide HA j (by omega))
                go_wp2_with fail
                go_roundw
                case rel => exact ⟨k + 1, by omega, by go_num, unhide S, hx2⟩
                case measure => simp [intOf]; omega
          · have HD := hide (doomedB_iff.1 qd)
            by_cases qs : Speaks (x.c k)
            · have N := hide (show ¬ R4 x from fun r => (r.2 k hlt).1 ⟨unhide HD, qs⟩)
              cases qs1 : ((x.c k).last == 1)
              · have qs2 : ((x.c k).last == 2) = true := by unfold Speaks at qs; simp at qs1 ⊢; omega
                clear qs
                go_wp2_with fail
                go_ret
                exact ⟨false, rfl, ⟨fun f => by simp at f, fun r => (unhide N r).elim⟩, hbl1⟩
              · clear qs
                go_wp2_with fail
                go_ret
                exact ⟨false, rfl, ⟨fun f => by simp at f, fun r => (unhide N r).elim⟩, hbl1⟩
            · have qs1 : ((x.c k).last == 1) = false := by unfold Speaks at qs; simp; omega
              have qs2 : ((x.c k).last == 2) = false := by unfold Speaks at qs; simp; omega
              have QS := hide qs
              clear qs
              go_wp2_with fail
              go_loopw [52] (fun i wr2 => ∃ l : Nat, l ≤ (x.c k).prs.length ∧ i = .int .i64 l ∧ (∀ j, j < l → PairOk x k j ((x.c k).p j)) ∧ Ext w wr2 ∧ Ext wr wr2) (fun i _ => (x.c k).prs.length - (intOf i).toNat)
              case atStart => exact ⟨0, Nat.zero_le _, rfl, fun j h => by omega, hbl1, (Ext.refl wr).alloc _⟩
              case round =>
                obtain ⟨l, hl, rfl, hall, hx2, hy2⟩ := hrel
                have HB := hide hall
                clear hall
                by_cases hl2 : l < (x.c k).prs.length
                · obtain ⟨b2, o2, rfl, q0, q1, q2, q3, q4, q5⟩ := unhide HP l hl2
                  have e0 := hy2.keep q0
                  have e1 := hy2.keep q1
                  have e2 := hy2.keep q2
                  have e3 := hy2.keep q3
                  have e4 := hy2.keep q4
                  have e5 := hy2.keep q5
                  have hb2 : b2 < wr.heap.size := cell_lt e0
                  have d4 := (h.ext hx2).c4
                  have hb3 : b < wr.heap.size := cell_lt d4
                  clear q0 q1 q2 q3 q4 q5 p0 p1 p2 p3 p4 p5 p6 p7
                  have hl0 : (0:Int) ≤ (l:Int) := by omega
                  have hl1 : (l:Int) < ((x.c k).prs.length:Int) := by omega
                  have hx3 := hx2.alloc (.cells #[.int .i64 ((x.c k).p l).key.k, .int .i64 ((x.c k).p l).key.n, .int .i64 ((x.c k).p l).key.a, .int .i64 ((x.c k).p l).val.k, .int .i64 ((x.c k).p l).val.n, .int .i64 ((x.c k).p l).val.a] 106)
                  have hy3 := hy2.alloc (.cells #[.int .i64 ((x.c k).p l).key.k, .int .i64 ((x.c k).p l).key.n, .int .i64 ((x.c k).p l).key.a, .int .i64 ((x.c k).p l).val.k, .int .i64 ((x.c k).p l).val.n, .int .i64 ((x.c k).p l).val.a] 106)
                  go_wp2_with fail
                  have hb4 : b < wr.heap.size + 1 := by omega
                  cases qk : formedB ((x.c k).p l).key x.cells.length
                  · have N := hide (show ¬ R4 x from fun r => by
                      have := formedB_iff.2 (((r.2 k hlt).2 l hl2).1 (unhide HD)).1
                      rw [this] at qk; simp at qk)
                    have F0 : ∀ w', Up (wr.alloc (.cells #[.int .i64 ((x.c k).p l).key.k, .int .i64 ((x.c k).p l).key.n, .int .i64 ((x.c k).p l).key.a, .int .i64 ((x.c k).p l).val.k, .int .i64 ((x.c k).p l).val.n, .int .i64 ((x.c k).p l).val.a] 106)) w' → w'.cell? ⟨wr.heap.size, 0, none⟩ = some (iv ((x.c k).p l).key.k) ∧ w'.cell? ⟨wr.heap.size, 1, none⟩ = some (iv ((x.c k).p l).key.n) ∧ w'.cell? ⟨wr.heap.size, 2, none⟩ = some (iv ((x.c k).p l).key.a) ∧ w'.cell? ⟨b, 4, none⟩ = some (.slice (some ⟨b', o, none⟩) x.cells.length kc) := fun w' hw' => ⟨hw'.ext.keep (by simp [go_sem]), hw'.ext.keep (by simp [go_sem]), hw'.ext.keep (by simp [go_sem]), hw'.ext.keep ((Ext.alloc (Ext.refl _) _).keep d4)⟩
                    refine wp_region_quiet (C := Up (wr.alloc (.cells #[.int .i64 ((x.c k).p l).key.k, .int .i64 ((x.c k).p l).key.n, .int .i64 ((x.c k).p l).key.a, .int .i64 ((x.c k).p l).val.k, .int .i64 ((x.c k).p l).val.n, .int .i64 ((x.c k).p l).val.a] 106))) (by kernel_rfl) (by kernel_rfl) (show Ext _ _ from (Ext.refl _).drew) ?_
                    go_simp
                    iterate 20 (first | go_big_quiet_skip | (go_big_quiet_want; go_big_quiet_op; first | go_big_quiet_on | (apply Exists.intro; refine ⟨fun w' hw' => ?_, ?_⟩; (first | (go_at_call 89; exact quietUp (l1formed_any ((x.c k).p l).key x.cells.length _) hw') | (with_reducible rfl) | (go_simp; first | done | (with_reducible rfl) | (refine ⟨?_, ?_⟩ <;> with_reducible rfl))); go_big_quiet_on)))
                    refine wpQuiet_nil ?_
                    intro w1 hq1
                    have hq1 := hq1.ext
                    clear F0
                    go_wp2_with fail
                    go_ret
                    exact ⟨false, rfl, ⟨fun f => by simp at f, fun r => (unhide N r).elim⟩, hx3.trans hq1⟩
                  · cases qv : formedB ((x.c k).p l).val x.cells.length
                    · have N := hide (show ¬ R4 x from fun r => by
                        have := formedB_iff.2 (((r.2 k hlt).2 l hl2).1 (unhide HD)).2
                        rw [this] at qv; simp at qv)
                      go_region_held3 (fun w' => w'.cell? ⟨wr.heap.size, 0, none⟩ = some (iv ((x.c k).p l).key.k) ∧ w'.cell? ⟨wr.heap.size, 1, none⟩ = some (iv ((x.c k).p l).key.n) ∧ w'.cell? ⟨wr.heap.size, 2, none⟩ = some (iv ((x.c k).p l).key.a) ∧ w'.cell? ⟨wr.heap.size, 3, none⟩ = some (iv ((x.c k).p l).val.k) ∧ w'.cell? ⟨wr.heap.size, 4, none⟩ = some (iv ((x.c k).p l).val.n) ∧ w'.cell? ⟨wr.heap.size, 5, none⟩ = some (iv ((x.c k).p l).val.a) ∧ w'.cell? ⟨b, 4, none⟩ = some (.slice (some ⟨b', o, none⟩) x.cells.length kc)) (first | (simp [*]; done) | go_keep)
                        (first | (go_at_call_of 89 (((x.c k).p l).key.k); refine (l1formed_any ((x.c k).p l).key x.cells.length _).mono ?_; rintro e w1 ⟨rfl, hq1⟩; have hc1 := (bcell hq1).1; have z1 : wr.heap.size < w1.heap.size := (by have := hq1.size; simp at this; omega); have z1b : b < w1.heap.size := (by omega); simp only [World.size_drew, World.size_alloc] at hc1) | (go_at_call_of 89 (((x.c k).p l).val.k); refine (l1formed_any ((x.c k).p l).val x.cells.length _).mono ?_; rintro e w2 ⟨rfl, hq2⟩; have hc2 := (bcell hq2).1))
                      go_wp2_with fail
                      go_ret
                      exact ⟨false, rfl, ⟨fun f => by simp at f, fun r => (unhide N r).elim⟩, (hx3.trans (Ext.trans ((Ext.refl _).drew) hq1)).trans hq2⟩
                    · have S := hide (show ∀ j, j < l + 1 → PairOk x k j ((x.c k).p j) from fun j hj => by
                        by_cases e : j = l
                        · subst e; exact ⟨fun _ => ⟨formedB_iff.1 qk, formedB_iff.1 qv⟩, fun nd => (nd (unhide HD)).elim⟩
                        · exact unhide HB j (by omega))
                      go_region_held3 (fun w' => w'.cell? ⟨wr.heap.size, 0, none⟩ = some (iv ((x.c k).p l).key.k) ∧ w'.cell? ⟨wr.heap.size, 1, none⟩ = some (iv ((x.c k).p l).key.n) ∧ w'.cell? ⟨wr.heap.size, 2, none⟩ = some (iv ((x.c k).p l).key.a) ∧ w'.cell? ⟨wr.heap.size, 3, none⟩ = some (iv ((x.c k).p l).val.k) ∧ w'.cell? ⟨wr.heap.size, 4, none⟩ = some (iv ((x.c k).p l).val.n) ∧ w'.cell? ⟨wr.heap.size, 5, none⟩ = some (iv ((x.c k).p l).val.a) ∧ w'.cell? ⟨b, 4, none⟩ = some (.slice (some ⟨b', o, none⟩) x.cells.length kc)) (first | (simp [*]; done) | go_keep)
                        (first | (go_at_call_of 89 (((x.c k).p l).key.k); refine (l1formed_any ((x.c k).p l).key x.cells.length _).mono ?_; rintro e w1 ⟨rfl, hq1⟩; have hc1 := (bcell hq1).1; have z1 : wr.heap.size < w1.heap.size := (by have := hq1.size; simp at this; omega); have z1b : b < w1.heap.size := (by omega); simp only [World.size_drew, World.size_alloc] at hc1) | (go_at_call_of 89 (((x.c k).p l).val.k); refine (l1formed_any ((x.c k).p l).val x.cells.length _).mono ?_; rintro e w2 ⟨rfl, hq2⟩; have hc2 := (bcell hq2).1))
                      go_wp2_with fail
                      go_roundw
                      case rel => exact ⟨l + 1, by omega, by go_num, unhide S, (hx3.trans (Ext.trans ((Ext.refl _).drew) hq1)).trans hq2, (Ext.trans hy3 (Ext.trans ((Ext.refl _).drew) hq1)).trans hq2⟩
                      case measure => simp [intOf]; omega
                · have S := hide (show ∀ j, j < k + 1 → ¬ (Doomed x j ∧ Speaks (x.c j)) ∧ ∀ l, l < (x.c j).prs.length → PairOk x j l ((x.c j).p l) from fun j hj => by
                    by_cases e : j = k
                    · subst e; exact ⟨fun hd => unhide QS hd.2, fun l' hl' => unhide HB l' (by omega)⟩
                    · exact unhide HA j (by omega))
                  go_wp2_with fail
                  go_roundw
                  case rel => exact ⟨k + 1, by omega, by go_num, unhide S, hx2⟩
                  case measure => simp [intOf]; omega
        · have Y := hide (show R4 x from ⟨unhide A1, fun i hi => unhide HA i (by omega)⟩)
          go_wp2_with fail
          go_ret
          exact ⟨true, rfl, ⟨fun _ => unhide Y, fun _ => rfl⟩, hbl⟩
end Go.Proofs.YtbcmjcomdjdjaaaGreat
