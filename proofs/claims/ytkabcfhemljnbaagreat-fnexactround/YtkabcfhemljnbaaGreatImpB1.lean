import Derived.Test.YtkabcfhemljnbaaGreatImpC
import Derived.Test.YtkabcfhemljnbaaGreatLm
namespace Go.Proofs.YtkabcfhemljnbaaGreat
open Go.RowKit
attribute [local go_sem ↓] Go.wp_at_zero Go.wp_at_succ

/-- rootSeen of the node at place i -/
theorem rootSeen_any (x : Hp) (b bn q i : Nat) (w : World) (c5 : w.cell? ⟨b, 5, none⟩ = some (iv x.phase)) (c6 : w.cell? ⟨b, 6, none⟩ = some (iv x.hand)) (m0 : w.cell? ⟨bn, q, none⟩ = some (iv i)) :
    Calls Tryz.prog 186 #[.pointer (some ⟨b, 0, none⟩), .pointer (some ⟨bn, q, none⟩)] w fun e w' => e = .returned (.bool ((x.phase == 2) || decide ((i : Int) < x.hand))) ∧ Ext w w' := by
  cases t1 : (x.phase == 2)
  all_goals
    go_enter Tryz.func186, Tryz.ntmps186
    go_wp2_with fail
    go_quiet (fail)
    go_wp2_with fail
    go_ret
    exact ⟨by simp, (Ext.refl w).drewN _⟩

set_option maxHeartbeats 600000 in
theorem mended_any (x : Hp) (b bn q i k : Nat) (w : World) (c5 : w.cell? ⟨b, 5, none⟩ = some (iv x.phase)) (c6 : w.cell? ⟨b, 6, none⟩ = some (iv x.hand)) (c7 : w.cell? ⟨b, 7, none⟩ = some (iv x.sub)) (m0 : w.cell? ⟨bn, q, none⟩ = some (iv i)) :
    Calls Tryz.prog 196 #[.pointer (some ⟨b, 0, none⟩), .pointer (some ⟨bn, q, none⟩), .int .i64 k] w fun e w' => e = .returned (.bool (mendedB x i k)) ∧ Ext w w' := by
  cases h4 : (x.phase == 4)
  · cases h5 : (x.phase == 5)
    · have E := hide (show mendedB x i k = true by simp at h4 h5; simp [mendedB, h4, h5])
      go_enter Tryz.func196, Tryz.ntmps196
      go_wp2_with fail
      go_ret
      exact ⟨by rw [unhide E]; rfl, Ext.refl w⟩
    · have E := hide (show mendedB x i k = (decide ((i : Int) < x.hand) || ((i : Int) == x.hand && decide ((k : Int) < x.sub))) by simp at h5; simp [mendedB, h5])
      cases q1 : decide ((i : Int) < x.hand)
      · cases q2 : ((i : Int) == x.hand)
        · go_enter Tryz.func196, Tryz.ntmps196
          go_wp2_with fail
          go_quiet (fail)
          go_wp2_with fail
          go_ret
          exact ⟨by rw [unhide E, q1, q2]; simp, (Ext.refl w).drewN _⟩
        · go_enter Tryz.func196, Tryz.ntmps196
          go_wp2_with fail
          go_quiet (fail)
          go_wp2_with fail
          go_ret
          exact ⟨by rw [unhide E, q1, q2]; simp, (Ext.refl w).drewN _⟩
      · go_enter Tryz.func196, Tryz.ntmps196
        go_wp2_with fail
        go_quiet (fail)
        go_wp2_with fail
        go_ret
        exact ⟨by rw [unhide E, q1]; simp, (Ext.refl w).drewN _⟩
  · have E := hide (show mendedB x i k = false by simp at h4; simp [mendedB, h4])
    go_enter Tryz.func196, Tryz.ntmps196
    go_wp2_with fail
    go_ret
    exact ⟨by rw [unhide E]; rfl, Ext.refl w⟩
end Go.Proofs.YtkabcfhemljnbaaGreat

namespace Go.Proofs.YtkabcfhemljnbaaGreat
open Go.RowKit
attribute [local go_sem ↓] Go.wp_at_zero Go.wp_at_succ

theorem withinB_true {n lo hi : Int} (h : withinB n lo hi = true) : lo ≤ n ∧ n ≤ hi := by simpa [withinB] using h
theorem withinB_false {n lo hi : Int} (h : withinB n lo hi = false) : ¬ (lo ≤ n ∧ n ≤ hi) := by unfold withinB at h; exact of_decide_eq_false h
theorem within_is (n lo hi : Int) (r : Bool) (h : withinB n lo hi = r) (w : World) : Calls Tryz.prog 74 #[.int .i64 n, .int .i64 lo, .int .i64 hi] w fun e w' => e = .returned (.bool r) ∧ w' = w := by
  rw [← h]; exact within_any n lo hi w

set_option maxHeartbeats 600000 in
theorem formed_any (y : Wd) (b n : Nat) (an : Option Addr) (kn : Nat) (w : World) (c13 : w.cell? ⟨b, 13, none⟩ = some (.slice an n kn)) (hn : n ≤ 35184372088832) :
    Calls Tryz.prog 195 #[.pointer (some ⟨b, 0, none⟩), y.v] w fun e w' => e = .returned (.bool (formedB y n)) ∧ Ext w w' := by
  have hb : b < w.heap.size := cell_lt c13
  cases k0 : (y.k == 0)
  · cases k1 : (y.k == 1)
    · cases k2 : (y.k == 2)
      · have E := hide (show formedB y n = false by simp at k0 k1 k2; simp [formedB, k0, k1, k2])
        go_enter Tryz.func195, Tryz.ntmps195
        go_wp2_with fail
        go_ret
        exact ⟨by rw [unhide E]; rfl, (Ext.refl w).alloc _⟩
      · cases q : (y.n == 0)
        · have E := hide (show formedB y n = false by simp at k2; simp [formedB, k2, q])
          go_enter Tryz.func195, Tryz.ntmps195
          go_wp2_with fail
          go_quiet (fail)
          go_wp2_with fail
          go_ret
          exact ⟨by rw [unhide E]; rfl, ((Ext.refl w).alloc _).drewN _⟩
        · cases t : withinB y.a 0 ((n : Int) - 1)
          · have E := hide (show formedB y n = false by
              have := withinB_false t
              simp at k2 q
              simp [formedB, k2, q]
              omega)
            go_enter Tryz.func195, Tryz.ntmps195
            go_wp2_with fail
            go_quiet ((go_at_call 74; refine Calls.quiet_of_same (within_is _ _ _ false ?_ _); assumption))
            go_wp2_with fail
            go_ret
            exact ⟨by rw [unhide E]; rfl, ((Ext.refl w).alloc _).drewN _⟩
          · have E := hide (show formedB y n = true by
              have := withinB_true t
              simp at k2 q
              simp [formedB, k2, q]
              omega)
            go_enter Tryz.func195, Tryz.ntmps195
            go_wp2_with fail
            go_quiet ((go_at_call 74; refine Calls.quiet_of_same (within_is _ _ _ true ?_ _); assumption))
            go_wp2_with fail
            go_ret
            exact ⟨by rw [unhide E]; rfl, ((Ext.refl w).alloc _).drewN _⟩
    · have E := hide (show formedB y n = (y.a == 0) by simp at k1; simp [formedB, k1])
      go_enter Tryz.func195, Tryz.ntmps195
      go_wp2_with fail
      go_ret
      exact ⟨by rw [unhide E]; simp, (Ext.refl w).alloc _⟩
  · have E := hide (show formedB y n = (y.n == 0 && y.a == 0) by simp at k0; simp [formedB, k0])
    cases q : (y.n == 0)
    all_goals
      go_enter Tryz.func195, Tryz.ntmps195
      go_wp2_with fail
      go_ret
      exact ⟨by rw [unhide E]; simp [q], (Ext.refl w).alloc _⟩

theorem find_none (y : Wd) (b : Nat) (w : World) (k2 : (y.k == 2) = false) :
    Calls Tryz.prog 155 #[.pointer (some ⟨b, 0, none⟩), y.v] w fun e w' => e = .returned (.pointer none) ∧ Ext w w' := by
  have k2b : (y.k != 2) = true := by simpa using k2
  go_enter Tryz.func155, Tryz.ntmps155
  go_wp2_with fail
  go_ret
  exact ⟨rfl, (Ext.refl w).alloc _⟩

theorem find_some (y : Wd) (b n bn on kn i : Nat) (w : World) (k2 : (y.k == 2) = true) (c13 : w.cell? ⟨b, 13, none⟩ = some (.slice (some ⟨bn, on, none⟩) n kn)) (hn : i < n) :
    Calls Tryz.prog 155 #[.pointer (some ⟨b, 0, none⟩), .agg #[iv y.k, iv y.n, iv i]] w fun e w' => e = .returned (.pointer (some ⟨bn, on + i * 2, none⟩)) ∧ Ext w w' := by
  have hb : b < w.heap.size := cell_lt c13
  have k2b : (y.k != 2) = false := by simpa using k2
  have hi0 : (0 : Int) ≤ (i : Int) := by omega
  have hi1 : (i : Int) < (n : Int) := by omega
  go_enter Tryz.func155, Tryz.ntmps155
  go_wp2_with fail
  go_quiet (fail)
  go_wp2_with fail
  go_ret
  exact ⟨rfl, ((Ext.refl w).alloc _).drewN _⟩
end Go.Proofs.YtkabcfhemljnbaaGreat

namespace Go.Proofs.YtkabcfhemljnbaaGreat

/-! The lexical order of a great region's operations, asked by rows: what each writes, what it looks at, what it waits for. -/
abbrev Rw := Option Tmp × List Tmp × List Nat
def rowOf (md : Region.Mode) (ops : Array Oper) (o : Oper) : Rw := (o.dst, o.looksAt ops, (o.after.toList.filter (fun e => Region.binds md e)).map (·.on))
def apartR (x y : Rw) : Bool :=
  (match x.1 with
   | some d => !y.2.1.contains d && y.1 != some d
   | none => true) &&
  (match y.1 with
   | some d => !x.2.1.contains d
   | none => true)
theorem apartR_eq (md : Region.Mode) (ops : Array Oper) (x y : Oper) : apartR (rowOf md ops x) (rowOf md ops y) = x.apart ops y := rfl
def lexR : Nat → List Rw → Bool
  | _, [] => true
  | k, r :: rs => r.2.2.all (fun i => Nat.blt i k) && rs.all (fun s => s.2.2.contains k || apartR r s) && lexR (k + 1) rs

theorem lexFrom_rows (md : Region.Mode) (ops : Array Oper) : ∀ (l : List Oper) (k : Nat) (listed : Array Bool), k + l.length = ops.size → (∀ j, l[j]? = ops[k + j]?) → listed.size = ops.size → (∀ j, j < ops.size → listed[j]? = some (decide (j < k))) →
    lexR k (l.map (rowOf md ops)) = true → Region.lexFrom md ops l.length k listed = true
  | [], k, listed, hk, _, hs, hl, _ => by
    simp at hk
    simp only [List.length_nil, Region.lexFrom, List.isEmpty_iff, Region.ready, List.filter_eq_nil_iff, List.mem_range]
    intro i hi
    have := hl i hi
    simp [this, hk, hi]
  | o :: l, k, listed, hk, ho, hs, hl, h => by
    simp at hk
    have h0 : ops[k]? = some o := by simpa using (ho 0).symm
    have hkn : k < ops.size := by omega
    simp only [List.map_cons, lexR, Bool.and_eq_true, List.all_eq_true] at h
    obtain ⟨⟨ha, hb⟩, hc⟩ := h
    simp only [List.length_cons, Region.lexFrom, Bool.and_eq_true]
    refine ⟨⟨?_, ?_⟩, ?_⟩
    · simp only [List.contains_eq_mem, decide_eq_true_eq, Region.ready, List.mem_filter, List.mem_range]
      refine ⟨hkn, ?_⟩
      have h1 := hl k hkn
      simp only [Array.getD_eq_getD_getElem?, h1, h0]
      simp only [Nat.lt_irrefl, decide_false, Option.getD_some, Bool.not_false, Option.map_some, Bool.true_and, Array.all_eq_true_iff_forall_mem]
      intro e he
      by_cases hbd : Region.binds md e = true
      · have := ha e.on (by simp only [rowOf, List.mem_map, List.mem_filter]; exact ⟨e, ⟨by simpa using he, hbd⟩, rfl⟩)
        have hlt : e.on < k := Nat.le_of_ble_eq_true this
        have h2 := hl e.on (by omega)
        simp [h2, hlt]
      · simp [hbd]
    · simp only [Region.free, h0, List.all_eq_true, List.mem_range]
      intro j hj
      by_cases e1 : j = k
      · simp [e1]
      · by_cases e2 : j < k
        · have := hl j hj
          simp [this, e2]
        · obtain ⟨oj, hoj⟩ : ∃ oj, ops[j]? = some oj := ⟨_, Array.getElem?_eq_getElem hj⟩
          have hm : oj ∈ l := by
            have := ho (j - k)
            rw [show k + (j - k) = j by omega, hoj, show j - k = (j - k - 1) + 1 by omega, List.getElem?_cons_succ] at this
            exact List.mem_of_getElem? this
          have := hb (rowOf md ops oj) (List.mem_map_of_mem hm)
          rw [apartR_eq, Bool.or_eq_true] at this
          simp only [hoj, Bool.or_eq_true]
          rcases this with h3 | h3
          · refine .inr (.inl ?_)
            simp only [rowOf, List.contains_eq_mem, decide_eq_true_eq, List.mem_map, List.mem_filter] at h3
            obtain ⟨e, ⟨he, hbd⟩, hon⟩ := h3
            rw [Array.any_eq_true']
            exact ⟨e, by simpa using he, by simp [hbd, hon]⟩
          · exact .inr (.inr h3)
    · refine lexFrom_rows md ops l (k + 1) _ (by omega) (fun j => ?_) (by simpa using hs) (fun j hj => ?_) hc
      · have := ho (j + 1)
        rw [List.getElem?_cons_succ] at this
        rw [this, show k + (j + 1) = k + 1 + j by omega]
      · rw [Array.getElem?_setIfInBounds]
        by_cases e : k = j
        · subst e
          rw [if_pos rfl, if_pos (by omega)]
          simp
        · rw [if_neg e, hl j hj]
          congr 1
          exact decide_eq_decide.2 (by omega)

theorem lexB_rows (md : Region.Mode) (ops : Array Oper) (hs : Region.noSelect ops = true) (h : lexR 0 (ops.toList.map (rowOf md ops)) = true) : Region.lexB md ops = true := by
  simp only [Region.lexB, hs, Bool.true_and]
  have := lexFrom_rows md ops ops.toList 0 (Array.replicate ops.size false) (by simp) (by simp) (by simp) (fun j hj => by simp [hj]) h
  simpa using this
end Go.Proofs.YtkabcfhemljnbaaGreat

namespace Go.Proofs.YtkabcfhemljnbaaGreat
open Go.RowKit
attribute [local go_sem ↓] Go.wp_at_zero Go.wp_at_succ

/-- the operations of a body's third region -/
def third : Option Code → Array Oper
  | some (.seq _ (.seq _ (.seq (.region _ ops _) _))) => ops
  | _ => #[]
theorem lim_lex : Region.lexB .any (third Tryz.f142.body) = true := lexB_rows _ _ (by kernel_rfl) (by kernel_rfl)
end Go.Proofs.YtkabcfhemljnbaaGreat

namespace Go.Proofs.YtkabcfhemljnbaaGreat
open Go.RowKit
attribute [local go_sem ↓] Go.wp_at_zero Go.wp_at_succ

set_option maxRecDepth 100000 in
set_option maxHeartbeats 4000000 in
theorem limits_12 (x : Hp) (b : Nat) (w : World) {ar : Option Addr} {kr : Nat} {ac : Option Addr} {kc : Nat} {ag : Option Addr} {kg : Nat} (h : HAt w b x ar kr ac kc ag kg) (q0 : withinB x.room 1 4000 = true) (q1 : ((x.regs.length : Int) == 16) = true) (q2 : decide ((x.cells.length : Int) ≤ 2 * x.room) = true) (q3 : decide ((x.gray.length : Int) ≤ (x.cells.length : Int)) = true) (q4 : withinB x.born 0 1000000000 = true) (q5 : withinB x.rounds 0 1000000000 = true) (q6 : withinB x.forced 0 1000000000 = true) (q7 : withinB x.per 0 64 = true) (q8 : withinB x.start 0 4000 = true) (q9 : withinB x.phase 0 6 = true) (q10 : withinB x.hand 0 (x.cells.length : Int) = true) (q11 : withinB x.sub 0 200 = true) :
    Calls Tryz.prog 142 #[.pointer (some ⟨b, 0, none⟩)] w fun e w' => e = .returned (.bool true) ∧ Ext w w' := by
  obtain ⟨c0, c1, c2, c3, c4, c5, c6, c7, c8, c9, c10, c11, c12, lr, lc, lg, R, C, G⟩ := h
  clear R C G
  have p0 := withinB_true q0
  have p1 : (0 : Int) ≤ x.room := by omega
  have q2b : (x.cells.length : Int) ≤ 2 * x.room := of_decide_eq_true q2
  clear q2
  have q3b : x.gray.length ≤ x.cells.length := by have := of_decide_eq_true q3; omega
  clear q3
  have q1b : (x.regs.length : Int) = 16 := by simpa using q1
  clear q1
  go_enter Tryz.func142, Tryz.ntmps142
  go_wp2_with fail
  simp only [List.append]
  refine wp_region_quiet_lit (by kernel_rfl) lim_lex ?_
  repeat (go_big_quiet_step ((go_at_call 74; first | (refine Calls.quiet_of_same (within_is _ _ _ true ?_ _); assumption) | (refine Calls.quiet_of_same (within_is _ _ _ false ?_ _); assumption))))
  refine wpQuiet_nil ?_
  intro _ hw'
  obtain ⟨nq, hw''⟩ := hw'
  subst hw''
  go_wp2_with fail
  go_ret
  exact ⟨rfl, Ext.drewN (Ext.refl w) _⟩

end Go.Proofs.YtkabcfhemljnbaaGreat
