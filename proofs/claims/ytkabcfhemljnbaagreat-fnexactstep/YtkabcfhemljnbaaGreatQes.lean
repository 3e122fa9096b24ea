import Derived.Test.YtkabcfhemljnbaaGreatQb
import Derived.Test.YtkabcfhemljnbaaGreatSq
import Derived.Deep.LoopGhost
import Derived.Test.YtkabcfhemljnbaaGreatOw
import Derived.Test.YtkabcfhemljnbaaGreatTe
import Derived.Test.YtkabcfhemljnbaaGreatEq
namespace Go.Proofs.YtkabcfhemljnbaaGreat
open Go.RowKit
attribute [local go_sem ↓] Go.wp_at_zero Go.wp_at_succ

/-! The program's work: units one after another. -/
theorem SOq.box {C B : Nat} {w : World} {b : Nat} {x : Hp} (h : SOq C B w b x) : w.cell? ⟨b, 5, none⟩ = some (iv x.phase) ∧ w.frozen? ⟨b, 5, none⟩ = false ∧ B ≤ b ∧ b < w.heap.size := by
  obtain ⟨ar, kr, a4, n4, k4, a8, m8, k8, br, bc, bn, pb, pa, pk, kn, hd, vf, F, vk, K, role, h, i⟩ := h
  exact ⟨h.sb.bx.2.2.2.2.2.1, h.sb.nb.2 5, h.sb.lo.1, h.sb.nb.1⟩
/-- the name of the method -/
def unitN : String := "loop.example/spool/impl.unit"
theorem mth_roots (b : Nat) (W : World) {s : String} (hs : s = unitN) : (method 339 193 (.agg #[.pointer (some ⟨b, 0, none⟩)]) s).run Tryz.prog W = .ok (231, .agg #[.pointer (some ⟨b, 0, none⟩)]) W := by subst hs; kernel_rfl
theorem neq_roots (b : Nat) (W : World) : (binOp .neq 156 (.iface 193 (.agg #[.pointer (some ⟨b, 0, none⟩)])) .nilIface).run Tryz.prog W = .ok (.bool true) W := by kernel_rfl
theorem mth_mark (b : Nat) (W : World) {s : String} (hs : s = unitN) : (method 339 194 (.agg #[.pointer (some ⟨b, 0, none⟩)]) s).run Tryz.prog W = .ok (233, .agg #[.pointer (some ⟨b, 0, none⟩)]) W := by subst hs; kernel_rfl
theorem neq_mark (b : Nat) (W : World) : (binOp .neq 156 (.iface 194 (.agg #[.pointer (some ⟨b, 0, none⟩)])) .nilIface).run Tryz.prog W = .ok (.bool true) W := by kernel_rfl
theorem mth_sweep (b : Nat) (W : World) {s : String} (hs : s = unitN) : (method 339 195 (.agg #[.pointer (some ⟨b, 0, none⟩)]) s).run Tryz.prog W = .ok (236, .agg #[.pointer (some ⟨b, 0, none⟩)]) W := by subst hs; kernel_rfl
theorem neq_sweep (b : Nat) (W : World) : (binOp .neq 156 (.iface 195 (.agg #[.pointer (some ⟨b, 0, none⟩)])) .nilIface).run Tryz.prog W = .ok (.bool true) W := by kernel_rfl
theorem mth_move (b : Nat) (W : World) {s : String} (hs : s = unitN) : (method 339 196 (.agg #[.pointer (some ⟨b, 0, none⟩)]) s).run Tryz.prog W = .ok (238, .agg #[.pointer (some ⟨b, 0, none⟩)]) W := by subst hs; kernel_rfl
theorem neq_move (b : Nat) (W : World) : (binOp .neq 156 (.iface 196 (.agg #[.pointer (some ⟨b, 0, none⟩)])) .nilIface).run Tryz.prog W = .ok (.bool true) W := by kernel_rfl
theorem mth_mend (b : Nat) (W : World) {s : String} (hs : s = unitN) : (method 339 197 (.agg #[.pointer (some ⟨b, 0, none⟩)]) s).run Tryz.prog W = .ok (242, .agg #[.pointer (some ⟨b, 0, none⟩)]) W := by subst hs; kernel_rfl
theorem neq_mend (b : Nat) (W : World) : (binOp .neq 156 (.iface 197 (.agg #[.pointer (some ⟨b, 0, none⟩)])) .nilIface).run Tryz.prog W = .ok (.bool true) W := by kernel_rfl
theorem mth_shut (b : Nat) (W : World) {s : String} (hs : s = unitN) : (method 339 198 (.agg #[.pointer (some ⟨b, 0, none⟩)]) s).run Tryz.prog W = .ok (244, .agg #[.pointer (some ⟨b, 0, none⟩)]) W := by subst hs; kernel_rfl
theorem neq_shut (b : Nat) (W : World) : (binOp .neq 156 (.iface 198 (.agg #[.pointer (some ⟨b, 0, none⟩)])) .nilIface).run Tryz.prog W = .ok (.bool true) W := by kernel_rfl
set_option maxRecDepth 100000 in
set_option maxHeartbeats 600000 in
theorem work_any {C B : Nat} {w : World} {b : Nat} {x : Hp} (n : Nat) (h : SOq C B w b x) (hC : C ≤ 100000) (s : Snd x) (a : World) (ha : a.heap.size ≤ B) (hx : Ext a w) :
    Calls Tryz.prog 131 #[.pointer (some ⟨b, 0, none⟩), .int .i64 n] w fun e w' => ∃ k : Nat, e = .returned (.int .i64 k) ∧ Hid (StepIs x n k) ∧ Hid (SOq C B w' b (itU k x)) ∧ Ext a w' := by
  have HS := hide h
  have S := hide s
  have NW := hide (now_any x.phase b w h.box.1 s.r1.phase)
  have XS := hide hx
  clear h s
  go_enter Tryz.func131, Tryz.ntmps131
  go_wp2_with fail
  refine (unhide NW).mono ?_
  rintro e w1 ⟨rfl, hw1⟩
  subst hw1
  go_wp2_with fail
  go_loopg [5, 6] (14000000) (fun gk u now wr => ∃ k : Nat, u = .int .i64 k ∧ now = nowV (itU k x).phase b ∧ Hid (k ≤ n) ∧ Hid (Runs x k) ∧ Hid (mu (itU k x) ≤ gk) ∧ Hid (SOq C B wr b (itU k x)) ∧ Hid (Ext a wr))
  case atStart => exact ⟨0, rfl, rfl, Nat.zero_le _, Runs.zero _, (unhide S).mu_le, unhide HS, unhide XS⟩
  case round =>
    clear HS XS NW
    obtain ⟨k, rfl, rfl, hkn, hr, hm, hG, hxr⟩ := hrel
    have kl := (unhide hr).le (unhide S)
    have SK := hide ((unhide S).itU k)
    by_cases p0 : (itU k x).phase = 0
    · have EP := hide p0
      have e0 : nowV (itU k x).phase b = .nilIface := by rw [p0]; rfl
      have q0 : ∀ W, (binOp .neq 156 .nilIface .nilIface).run Tryz.prog W = .ok (.bool false) W := fun _ => by kernel_rfl
      rw [e0]
      clear p0 e0
      go_wp2_with fail
      go_ret
      exact ⟨k, rfl, ⟨unhide hr, unhide hkn, .inr (unhide EP)⟩, unhide hG, unhide hxr⟩
    · by_cases hlt : k < n
      · have h1 : (k : Int) < (n : Int) := by omega
        have R3 := hide ((unhide hr).succ p0)
        have M3 := hide (show mu (itU (k + 1) x) < mu (itU k x) from (unhide SK).less p0)
        have wk : wrap64 ((k : Int) + 1) = (k : Int) + 1 := by unfold wrap64; omega
        have HP := hide (unhide SK).r1.phase
        have P0 := hide p0
        have HK := hide (show k + 1 ≤ n by omega)
        clear p0
        by_cases p1 : (itU k x).phase = 1
        · have e1 : nowV (itU k x).phase b = .iface 193 (.agg #[.pointer (some ⟨b, 0, none⟩)]) := by rw [p1]; rfl
          have q1 : ∀ W, (binOp .neq 156 (.iface 193 (.agg #[.pointer (some ⟨b, 0, none⟩)])) .nilIface).run Tryz.prog W = .ok (.bool true) W := neq_roots b
          have EU := hide (show unit1 (itU k x) = itU (k + 1) x by show unit1 (itU k x) = unitH (itU k x); unfold unitH; simp [p1])
          have P1 := hide p1
          rw [e1]
          clear p1 e1
          go_wp2_with fail
          rw [mth_roots b _ (show _ = unitN by kernel_rfl)]
          go_wp2_with fail
          refine (unit1_any (unhide hG) (unhide SK) (unhide P1) a ha (unhide hxr)).mono ?_
          rintro e w3 ⟨rfl, h3, x3⟩
          rw [unhide EU] at h3 ⊢
          have X3 := hide x3
          clear x3
          go_wp2_with fail
          go_roundg (mu (itU (k + 1) x))
          case measure => have := unhide M3; have := unhide hm; omega
          case rel => exact ⟨k + 1, by go_num, rfl, unhide HK, unhide R3, Nat.le_refl _, unhide h3, unhide X3⟩
        · skip
          by_cases p2 : (itU k x).phase = 2
          · have e1 : nowV (itU k x).phase b = .iface 194 (.agg #[.pointer (some ⟨b, 0, none⟩)]) := by rw [p2]; rfl
            have q1 : ∀ W, (binOp .neq 156 (.iface 194 (.agg #[.pointer (some ⟨b, 0, none⟩)])) .nilIface).run Tryz.prog W = .ok (.bool true) W := neq_mark b
            have EU := hide (show unit2 (itU k x) = itU (k + 1) x by show unit2 (itU k x) = unitH (itU k x); unfold unitH; simp [p2])
            have P1 := hide p2
            rw [e1]
            clear p2 e1
            go_wp2_with fail
            rw [mth_mark b _ (show _ = unitN by kernel_rfl)]
            go_wp2_with fail
            refine (unit2_any (unhide hG) (unhide SK) (unhide P1) a ha (unhide hxr)).mono ?_
            rintro e w3 ⟨rfl, h3, x3⟩
            rw [unhide EU] at h3 ⊢
            have X3 := hide x3
            clear x3
            go_wp2_with fail
            go_roundg (mu (itU (k + 1) x))
            case measure => have := unhide M3; have := unhide hm; omega
            case rel => exact ⟨k + 1, by go_num, rfl, unhide HK, unhide R3, Nat.le_refl _, unhide h3, unhide X3⟩
          · skip
            by_cases p3 : (itU k x).phase = 3
            · have e1 : nowV (itU k x).phase b = .iface 195 (.agg #[.pointer (some ⟨b, 0, none⟩)]) := by rw [p3]; rfl
              have q1 : ∀ W, (binOp .neq 156 (.iface 195 (.agg #[.pointer (some ⟨b, 0, none⟩)])) .nilIface).run Tryz.prog W = .ok (.bool true) W := neq_sweep b
              have EU := hide (show unit3 (itU k x) = itU (k + 1) x by show unit3 (itU k x) = unitH (itU k x); unfold unitH; simp [p3])
              have P1 := hide p3
              rw [e1]
              clear p3 e1
              go_wp2_with fail
              rw [mth_sweep b _ (show _ = unitN by kernel_rfl)]
              go_wp2_with fail
              refine (unit3_any (unhide hG) hC (unhide SK) (unhide P1) a ha (unhide hxr)).mono ?_
              rintro e w3 ⟨rfl, h3, x3⟩
              rw [unhide EU] at h3 ⊢
              have X3 := hide x3
              clear x3
              go_wp2_with fail
              go_roundg (mu (itU (k + 1) x))
              case measure => have := unhide M3; have := unhide hm; omega
              case rel => exact ⟨k + 1, by go_num, rfl, unhide HK, unhide R3, Nat.le_refl _, unhide h3, unhide X3⟩
            · skip
              by_cases p4 : (itU k x).phase = 4
              · have e1 : nowV (itU k x).phase b = .iface 196 (.agg #[.pointer (some ⟨b, 0, none⟩)]) := by rw [p4]; rfl
                have q1 : ∀ W, (binOp .neq 156 (.iface 196 (.agg #[.pointer (some ⟨b, 0, none⟩)])) .nilIface).run Tryz.prog W = .ok (.bool true) W := neq_move b
                have EU := hide (show unit4 (itU k x) = itU (k + 1) x by show unit4 (itU k x) = unitH (itU k x); unfold unitH; simp [p4])
                have P1 := hide p4
                rw [e1]
                clear p4 e1
                go_wp2_with fail
                rw [mth_move b _ (show _ = unitN by kernel_rfl)]
                go_wp2_with fail
                refine (unit4_any (unhide hG) hC (unhide SK) (unhide P1) a ha (unhide hxr)).mono ?_
                rintro e w3 ⟨rfl, h3, x3⟩
                rw [unhide EU] at h3 ⊢
                have X3 := hide x3
                clear x3
                go_wp2_with fail
                go_roundg (mu (itU (k + 1) x))
                case measure => have := unhide M3; have := unhide hm; omega
                case rel => exact ⟨k + 1, by go_num, rfl, unhide HK, unhide R3, Nat.le_refl _, unhide h3, unhide X3⟩
              · skip
                by_cases p5 : (itU k x).phase = 5
                · have e1 : nowV (itU k x).phase b = .iface 197 (.agg #[.pointer (some ⟨b, 0, none⟩)]) := by rw [p5]; rfl
                  have q1 : ∀ W, (binOp .neq 156 (.iface 197 (.agg #[.pointer (some ⟨b, 0, none⟩)])) .nilIface).run Tryz.prog W = .ok (.bool true) W := neq_mend b
                  have EU := hide (show unit5 (itU k x) = itU (k + 1) x by show unit5 (itU k x) = unitH (itU k x); unfold unitH; simp [p5])
                  have P1 := hide p5
                  rw [e1]
                  clear p5 e1
                  go_wp2_with fail
                  rw [mth_mend b _ (show _ = unitN by kernel_rfl)]
                  go_wp2_with fail
                  refine (unit5_any (unhide hG) (unhide SK) (unhide P1) a ha (unhide hxr)).mono ?_
                  rintro e w3 ⟨rfl, h3, x3⟩
                  rw [unhide EU] at h3 ⊢
                  have X3 := hide x3
                  clear x3
                  go_wp2_with fail
                  go_roundg (mu (itU (k + 1) x))
                  case measure => have := unhide M3; have := unhide hm; omega
                  case rel => exact ⟨k + 1, by go_num, rfl, unhide HK, unhide R3, Nat.le_refl _, unhide h3, unhide X3⟩
                · skip
                  have p6 : (itU k x).phase = 6 := by have := unhide HP; have := unhide P0; omega
                  have e1 : nowV (itU k x).phase b = .iface 198 (.agg #[.pointer (some ⟨b, 0, none⟩)]) := by rw [p6]; rfl
                  have q1 : ∀ W, (binOp .neq 156 (.iface 198 (.agg #[.pointer (some ⟨b, 0, none⟩)])) .nilIface).run Tryz.prog W = .ok (.bool true) W := neq_shut b
                  have EU := hide (show unit6 (itU k x) = itU (k + 1) x by show unit6 (itU k x) = unitH (itU k x); unfold unitH; simp [p6])
                  have P1 := hide p6
                  rw [e1]
                  clear p6 e1
                  go_wp2_with fail
                  rw [mth_shut b _ (show _ = unitN by kernel_rfl)]
                  go_wp2_with fail
                  refine (unit6_any (unhide hG) hC (unhide SK) (unhide P1) a ha (unhide hxr)).mono ?_
                  rintro e w3 ⟨rfl, h3, x3⟩
                  rw [unhide EU] at h3 ⊢
                  have X3 := hide x3
                  clear x3
                  go_wp2_with fail
                  go_roundg (mu (itU (k + 1) x))
                  case measure => have := unhide M3; have := unhide hm; omega
                  case rel => exact ⟨k + 1, by go_num, rfl, unhide HK, unhide R3, Nat.le_refl _, unhide h3, unhide X3⟩
      · have h1 : ¬ (k : Int) < (n : Int) := by omega
        have hkn2 := hide (show k = n by have := unhide hkn; omega)
        have Q := hide (show ∃ T, nowV (itU k x).phase b = .iface T (.agg #[.pointer (some ⟨b, 0, none⟩)]) ∧ ∀ W, (binOp .neq 156 (.iface T (.agg #[.pointer (some ⟨b, 0, none⟩)])) .nilIface).run Tryz.prog W = .ok (.bool true) W by
          have hp := (unhide SK).r1.phase
          have h : (itU k x).phase = 1 ∨ (itU k x).phase = 2 ∨ (itU k x).phase = 3 ∨ (itU k x).phase = 4 ∨ (itU k x).phase = 5 ∨ (itU k x).phase = 6 := by omega
          rcases h with e | e | e | e | e | e
          · exact ⟨_, by rw [e]; rfl, neq_roots b⟩
          · exact ⟨_, by rw [e]; rfl, neq_mark b⟩
          · exact ⟨_, by rw [e]; rfl, neq_sweep b⟩
          · exact ⟨_, by rw [e]; rfl, neq_move b⟩
          · exact ⟨_, by rw [e]; rfl, neq_mend b⟩
          · exact ⟨_, by rw [e]; rfl, neq_shut b⟩)
        obtain ⟨T, e1, q1⟩ := unhide Q
        rw [e1]
        clear p0 e1
        go_wp2_with fail
        go_ret
        exact ⟨k, rfl, ⟨unhide hr, unhide hkn, .inl (unhide hkn2)⟩, unhide hG, unhide hxr⟩
end Go.Proofs.YtkabcfhemljnbaaGreat

namespace Go.Proofs.YtkabcfhemljnbaaGreat
open Go.RowKit

/-! The store as it is made keeps the invariant. -/
theorem filt_cut (p : Nat → Bool) (h : Nat) : ∀ d, (List.range (h + d)).filter (fun i => p i && decide ((i : Int) < (h : Int))) = (List.range h).filter p
  | 0 => by
    refine List.filter_congr fun i hi => ?_
    have := List.mem_range.1 hi
    have e : decide ((i : Int) < (h : Int)) = true := by simp; omega
    rw [e, Bool.and_true]
  | d + 1 => by
    rw [← Nat.add_assoc, List.range_succ, List.filter_append, filt_cut p h d, List.filter_cons_of_neg (by simp; intro _; omega), List.filter_nil, List.append_nil]
theorem frees_len (x : Hp) (k : Nat) : (frees x k).length ≤ k := valsTo_len _ _ _
theorem SOwn.soq {B : Nat} {w : World} {b : Nat} {x : Hp} (h : SOwn B w b x) (s : Snd x) : SOq 24000 B w b x := by
  obtain ⟨ar, kr, a4, n4, k4, a8, m8, k8, br, bc, bn, pb, pa, pk, kn, hd, vf, F, vk, role, hst, ho, pm, hk⟩ := h
  have hh := s.r1.hand
  have n8 := s.ok.n8
  have cc := s.r1.cells
  refine ⟨ar, kr, a4, n4, k4, a8, m8, k8, br, bc, bn, pb, pa, pk, kn, hd, vf, F, vk, _, role, hst, ⟨ho, fun i hi h0 => ?_, fun v hv => ?_, ?_, fun h3 => ?_, fun h4 => ?_, fun h3 h4 => ?_⟩, by omega⟩
  · exact pm.mem_iff.2 ((frees_mem x _ _).2 ⟨i, hi, h0, rfl⟩)
  · obtain ⟨i, _, _, e⟩ := (frees_mem x _ _).1 (pm.mem_iff.1 hv)
    omega
  · have l1 := pm.length_eq
    have l2 := frees_len x x.cells.length
    have l3 : remU x ≤ 16000 := by
      unfold remU
      split
      · omega
      split
      · omega
      split
      · omega
      split
      · omega
      · omega
    omega
  · have e : x.cells.length = x.hand.toNat + (x.cells.length - x.hand.toNat) := by omega
    have e2 : keptTo x x.cells.length = (List.range x.cells.length).filter (fun i => ((x.c i).st == 1) && decide ((i : Int) < (x.hand.toNat : Int))) := by
      unfold keptTo
      refine List.filter_congr fun i _ => ?_
      have : sweptB x i = decide ((i : Int) < (x.hand.toNat : Int)) := by
        unfold sweptB
        rw [h3, show ((x.hand.toNat : Nat) : Int) = x.hand by omega]
        simp
      rw [this]
    rw [e2, e]
    exact filt_cut (fun i => (x.c i).st == 1) x.hand.toNat _
  · have e2 : keptTo x x.cells.length = (List.range x.cells.length).filter (fun i => (x.c i).st == 1) := by
      unfold keptTo
      refine List.filter_congr fun i _ => ?_
      have : sweptB x i = true := by unfold sweptB; simp [h4]
      rw [this, Bool.and_true]
    rw [e2]
    refine ⟨List.pairwise_lt_range.filter _, fun i hi => ?_, fun i hi h1 hn => ?_⟩
    · obtain ⟨a, b⟩ := List.mem_filter.1 hi
      exact ⟨List.mem_range.1 a, by simpa using b⟩
    · exact absurd (List.mem_filter.2 ⟨List.mem_range.2 hi, by simpa using h1⟩) hn
  · unfold keptTo
    refine List.filter_eq_nil_iff.2 fun i _ => ?_
    have : sweptB x i = false := by unfold sweptB; simp [h3, h4]
    simp [this]
end Go.Proofs.YtkabcfhemljnbaaGreat

namespace Go.Proofs.YtkabcfhemljnbaaGreat
open Go.RowKit
attribute [local go_sem ↓] Go.wp_at_zero Go.wp_at_succ

/-! The program's step, the end of a round, a round. -/
theorem SOq.wide {C D B : Nat} {w : World} {b : Nat} {x : Hp} (h : SOq C B w b x) (hd : C ≤ D) : SOq D B w b x := by
  obtain ⟨ar, kr, a4, n4, k4, a8, m8, k8, br, bc, bn, pb, pa, pk, kn, hd, vf, F, vk, K, role, h, i, k⟩ := h
  exact ⟨ar, kr, a4, n4, k4, a8, m8, k8, br, bc, bn, pb, pa, pk, kn, hd, vf, F, vk, K, role, h, i.wide (by assumption), k⟩
theorem begin_any {C B : Nat} {w : World} {b : Nat} {x : Hp} (h : SOq C B w b x) (hp : x.phase = 0) (a : World) (ha : a.heap.size ≤ B) (hx : Ext a w) :
    Calls Tryz.prog 130 #[.pointer (some ⟨b, 0, none⟩)] w fun e w' => e = .returned (nowV 1 b) ∧ Hid (SOq (C + 16000) B w' b (toPh x 1 0)) ∧ Ext a w' := by
  obtain ⟨ar, kr, a4, n4, k4, a8, m8, k8, br, bc, bn, pb, pa, pk, kn, hd, vf, F, vk, K, role, h, i, k⟩ := h
  refine (turn_low h 0 hp rfl rfl (by omega) a ha hx).mono ?_
  rintro e w' ⟨rfl, h2, x2⟩
  exact ⟨rfl, ⟨ar, kr, a4, n4, k4, a8, m8, k8, br, bc, bn, pb, pa, pk, kn, hd, vf, F, vk, K, role, unhide h2, inv0 i hp, k⟩, x2⟩
end Go.Proofs.YtkabcfhemljnbaaGreat

namespace Go.Proofs.YtkabcfhemljnbaaGreat
open Go.RowKit

/-- the answer's heap, of a store that keeps its invariant -/
theorem told_soq {C B : Nat} {w : World} {b : Nat} {y : Hp} (h : SOq C B w b y) (s : Snd y) (hB : B ≤ w.heap.size) :
    Calls Tryz.prog 77 #[.pointer (some ⟨b, 0, none⟩)] w fun e w' => ∃ br kr bcN bgN pb pa pk, e = .returned (y.v (.slice (some ⟨br, 0, none⟩) y.regs.length kr) (.slice (some ⟨bcN, 0, none⟩) y.cells.length y.cells.length) (.slice (some ⟨bgN, 0, none⟩) y.gray.length y.gray.length)) ∧ Hid (HRow B w'.heap.size w' y br kr bcN y.cells.length bgN y.gray.length pb pa pk) ∧ Ext w w' := by
  obtain ⟨ar, kr, a4, n4, k4, a8, m8, k8, br, bc, bn, pb, pa, pk, kn, hd, vf, F, vk, K, role, h, _, _⟩ := h
  have h1 := s.r1.gray
  have h2 := s.ok.n8
  refine (told_any w h s.r5.2.2 s.ok.r16.1 ⟨s.ok.r16.2, h2, by omega, s.ok.p200⟩ hB).mono ?_
  rintro e w' ⟨bcN, bgN, rfl, h6, x6⟩
  exact ⟨br, kr, bcN, bgN, pb, pa, pk, rfl, h6, x6⟩
end Go.Proofs.YtkabcfhemljnbaaGreat

namespace Go.Proofs.YtkabcfhemljnbaaGreat
open Go.RowKit
attribute [local go_sem ↓] Go.wp_at_zero Go.wp_at_succ

/-! The program's step. -/
set_option maxRecDepth 100000 in
set_option maxHeartbeats 600000 in
theorem step_any {C B : Nat} {w : World} {b : Nat} {x : Hp} (n : Nat) (h : SOq C B w b x) (hC : C + 16000 ≤ 100000) (s : Snd x) (n1 : n ≤ 100000) (a : World) (ha : a.heap.size ≤ B) (hx : Ext a w) :
    Calls Tryz.prog 81 #[.pointer (some ⟨b, 0, none⟩), .int .i64 n] w fun e w' => ∃ k : Nat, e = .returned (.int .i64 k) ∧ Hid (StepIs (stepH x n) n k) ∧ Hid (SOq (C + 16000) B w' b (itU k (stepH x n))) ∧ Ext a w' := by
  have c5 := h.box.1
  have hb : b < w.heap.size := h.box.2.2.2
  have H := hide h
  have S := hide s
  by_cases hn : n = 0
  · have e : stepH x n = x := by unfold stepH; rw [if_neg (fun h => h.2 hn)]
    rw [e]
    have g0 : ¬ (n : Int) > 0 := by omega
    clear h s e hn
    go_enter Tryz.func81, Tryz.ntmps81
    go_wp2_with fail
    refine (work_any n ((unhide H).wide (show C ≤ C + 16000 by omega)) hC (unhide S) a ha hx).mono ?_
    rintro e w1 ⟨k, rfl, st, h1, x1⟩
    go_wp2_with fail
    go_ret
    exact ⟨k, rfl, unhide st, unhide h1, x1⟩
  · have g0 : (n : Int) > 0 := by omega
    by_cases hp : x.phase = 0
    · have e : stepH x n = toPh x 1 0 := by unfold stepH; rw [if_pos ⟨hp, hn⟩]
      rw [e]
      rw [hp] at c5
      have QB := hide (begin_any h hp a ha hx)
      have S1 := hide (s.begin hp)
      clear h s e hn hp
      go_enter Tryz.func81, Tryz.ntmps81
      go_wp2_with fail
      refine (unhide QB).mono ?_
      rintro e w1 ⟨rfl, h1, x1⟩
      go_wp2_with fail
      refine (work_any n (unhide h1) hC (unhide S1) a ha x1).mono ?_
      rintro e w2 ⟨k, rfl, st, h2, x2⟩
      go_wp2_with fail
      go_ret
      exact ⟨k, rfl, unhide st, unhide h2, x2⟩
    · have e : stepH x n = x := by unfold stepH; rw [if_neg (fun h => hp h.1)]
      rw [e]
      have pb : (x.phase == 0) = false := by simpa using hp
      clear h s e hn hp
      go_enter Tryz.func81, Tryz.ntmps81
      go_wp2_with fail
      refine (work_any n ((unhide H).wide (show C ≤ C + 16000 by omega)) hC (unhide S) a ha hx).mono ?_
      rintro e w1 ⟨k, rfl, st, h1, x1⟩
      go_wp2_with fail
      go_ret
      exact ⟨k, rfl, unhide st, unhide h1, x1⟩
end Go.Proofs.YtkabcfhemljnbaaGreat
