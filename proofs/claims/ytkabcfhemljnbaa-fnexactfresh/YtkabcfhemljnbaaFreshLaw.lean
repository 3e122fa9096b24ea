import Derived.Test.YtkabcfhemljnbaaFresh2
namespace Go.Proofs.Ytkabcfhemljnbaa
open Go.RowKit
attribute [local go_sem ↓] Go.wp_at_zero Go.wp_at_succ

theorem zw_cell (w : World) (t : TypeId) (n j : Nat) (hj : j < n) : (w.alloc (.cells (zw n) t)).cell? ⟨w.heap.size, j, none⟩ = some (iv 0) := by
  have e : (w.alloc (.cells (zw n) t)).heap[w.heap.size]? = some (.cells (zw n) t) := by show (w.heap.push _)[w.heap.size]? = _; simp
  unfold World.cell?
  rw [e]
  simp [zw, hj]
theorem zw_frozen (w : World) (t : TypeId) (n j : Nat) : (w.alloc (.cells (zw n) t)).frozen? ⟨w.heap.size, j, none⟩ = false := by
  have e : (w.alloc (.cells (zw n) t)).heap[w.heap.size]? = some (.cells (zw n) t) := by show (w.heap.push _)[w.heap.size]? = _; simp
  unfold World.frozen?
  rw [e]
  simp
theorem zw_words (w : World) (t : TypeId) : SlW (w.alloc (.cells (zw 48) t)) (.slice (some ⟨w.heap.size, 0, none⟩) 16 16) (List.replicate 16 ⟨0, 0, 0⟩) := by
  refine ⟨_, _, rfl, by simp, fun i hi => ⟨_, _, rfl, ?_⟩⟩
  simp only [List.length_replicate] at hi
  simp only [List.getElem_replicate]
  exact ⟨zw_cell _ _ _ _ (by omega), zw_cell _ _ _ _ (by omega), zw_cell _ _ _ _ (by omega)⟩
theorem zw_open (w : World) (t : TypeId) (j : Nat) (hj : j < 48) : Open (w.alloc (.cells (zw 48) t)) w.heap.size (0 + j) :=
  ⟨⟨_, zw_cell _ _ _ _ (by omega)⟩, zw_frozen _ _ _ _⟩

theorem slw_only {S : Nat → Prop} {w w' : World} (h : Only S w w') {b o n c : Nat} {xs : List Wd} (hs : ¬ S b) (hx : SlW w (.slice (some ⟨b, o, none⟩) n c) xs) : SlW w' (.slice (some ⟨b, o, none⟩) n c) xs := by
  obtain ⟨ad, cap, hv, hl, hx⟩ := hx
  simp only [Value.slice.injEq] at hv
  obtain ⟨rfl, rfl, rfl⟩ := hv
  refine ⟨_, _, rfl, hl, fun i hi => ?_⟩
  obtain ⟨b', o', e, p0, p1, p2⟩ := hx i hi
  cases e
  exact ⟨_, _, rfl, h.keep hs p0, h.keep hs p1, h.keep hs p2⟩

theorem implFresh_yes (n : Int) (w : World) (h1 : 1 ≤ n) (h2 : n ≤ 4000) : Calls Try.prog 12 #[.int .i64 n] w fun e w' => ∃ B, e = .returned (fr n (.slice (some ⟨B, 0, none⟩) 16 16)) ∧ SlW w' (.slice (some ⟨B, 0, none⟩) 16 16) (List.replicate 16 ⟨0, 0, 0⟩) ∧ (∀ j, j < 3 * 16 → Open w' B (0 + j)) ∧ w.heap.size ≤ B ∧ B < w'.heap.size ∧ Ext w w' := by
  refine (implFresh_in n w h1 h2).mono ?_
  rintro e w' ⟨c, rfl, rfl⟩
  refine ⟨_, rfl, ?_, ?_, by simp, by simp, ((Ext.refl w).alloc _).alloc _⟩
  · have := zw_words (w.alloc c) 41
    simpa using this
  · intro j hj
    have := zw_open (w.alloc c) 41 j (by omega)
    simpa using this
theorem specFresh_yes (n : Int) (w : World) (h1 : 1 ≤ n) (h2 : n ≤ 4000) : Calls Try.prog 11 #[.int .i64 n] w fun e w' => ∃ B, e = .returned (fr n (.slice (some ⟨B, 0, none⟩) 16 16)) ∧ SlW w' (.slice (some ⟨B, 0, none⟩) 16 16) (List.replicate 16 ⟨0, 0, 0⟩) ∧ w.heap.size ≤ B ∧ B < w'.heap.size ∧ Ext w w' := by
  refine (specFresh_in n w h1 h2).mono ?_
  rintro e w' ⟨c, d, rfl, rfl⟩
  refine ⟨_, rfl, ?_, by simp, by simp, (((Ext.refl w).alloc _).alloc _).alloc _⟩
  have := zw_words (w.alloc c) 41
  exact SlW.ext ((Ext.refl _).alloc _) (by simpa using this)

set_option maxRecDepth 100000 in
set_option maxHeartbeats 2000000 in
theorem law_in (n : Int) (w : World) (h1 : 1 ≤ n) (h2 : n ≤ 4000) : Calls Try.prog 4 #[.int .i64 n] w fun e w' => e = .returned (.bool true) ∧ Ext w w' := by
  go_enter Try.func4, Try.ntmps4
  go_wp2_with fail
  refine (specFresh_yes n _ h1 h2).mono ?_
  rintro e w1 ⟨B0, rfl, s0, b0, b0', x1⟩
  go_wp2_with fail
  refine (implFresh_yes n _ h1 h2).mono ?_
  rintro e w2 ⟨B1, rfl, s1, o1, b1, b1', x2⟩
  have hc2 := (bcell x2).1
  have z2 : w1.heap.size < w2.heap.size := by have := x2.size; simp at this; omega
  go_wp2_with fail
  have y2 : Ext w1 w2 := Ext.trans ((Ext.refl w1).alloc _) x2
  refine (eqHeap_same ⟨n, 0, 0, List.replicate 16 ⟨0, 0, 0⟩, [], 0, 0, 0, [], 0, 0, 0, 0⟩ _ _ _ _ _ _ _ (by exact SlW.ext ((Ext.refl _).alloc _) s1) (by exact SlW.ext (y2.alloc _) s0) SlOf.nil SlOf.nil SlOf.nil SlOf.nil).mono ?_
  rintro e w3 ⟨rfl, x3⟩
  have hc3 := (bcell x3).1
  have z3 : w2.heap.size < w3.heap.size := by have := x3.size; simp at this; omega
  have hne : ¬ w2.heap.size = B1 := by omega
  go_wp2_with fail
  have y3 : Ext w2 w3 := Ext.trans ((Ext.refl w2).alloc _) x3
  refine (markHeap_fr n 1 B1 16 16 _ (by omega) (by omega) (by omega) (by omega) (fun j hj => (o1 j hj).ext y3)).mono ?_
  rintro e w4 ⟨rfl, m4, x4⟩
  have hc4 := x4.cells w2.heap.size (by omega) (by omega)
  have M4 := hide m4
  clear m4
  go_wp2_with fail
  refine (heldHeap_fr n 1 B1 16 16 _ (by omega) (by omega) (by omega) (by exact unhide M4)).mono ?_
  rintro e w5 ⟨rfl, x5⟩
  have hc5 := (bcell x5).1
  have z4 : w3.heap.size ≤ w4.heap.size := x4.size
  have z5 : w4.heap.size ≤ w5.heap.size := x5.size
  have q5 : w2.heap.size < w4.heap.size := by omega
  go_wp2_with fail
  refine (implFresh_yes n _ h1 h2).mono ?_
  rintro e w6 ⟨B2, rfl, s6, _, b6, b6', x6⟩
  have hc6 := (bcell x6).1
  have z6 : w5.heap.size ≤ w6.heap.size := x6.size
  have b1s : w1.heap.size + 1 ≤ B1 := by simpa using b1
  have hc4b := x4.cells w1.heap.size (by omega) (by omega)
  have q6 : w1.heap.size < w5.heap.size := by omega
  have q7 : w2.heap.size < w5.heap.size := by omega
  have q8 : w1.heap.size < w4.heap.size := by omega
  have q9 : w1.heap.size < w2.heap.size + 1 := by omega
  have q10 : w1.heap.size < w6.heap.size := by omega
  have q11 : w2.heap.size < w6.heap.size := by omega
  go_wp2_with fail
  have y6 : Ext w4 w6 := Ext.trans x5 x6
  have s4 := slw_only x4 (by omega) (SlW.ext (Ext.trans y2 y3) s0)
  refine (eqHeap_same ⟨n, 0, 0, List.replicate 16 ⟨0, 0, 0⟩, [], 0, 0, 0, [], 0, 0, 0, 0⟩ _ _ _ _ _ _ _ (by exact SlW.ext ((Ext.refl _).alloc _) s6) (by exact SlW.ext (y6.alloc _) s4) SlOf.nil SlOf.nil SlOf.nil SlOf.nil).mono ?_
  rintro e w7 ⟨rfl, x7⟩
  have hc7 := (bcell x7).1
  have y7 : Ext w4 w7 := Ext.trans y6 (Ext.trans ((Ext.refl w6).alloc _) x7)
  have z7 : w6.heap.size < w7.heap.size := by have := x7.size; simp at this; omega
  have q12 : w2.heap.size < w6.heap.size + 1 := by omega
  go_wp2_with fail
  refine (heldHeap_fr n 1 B1 16 16 _ (by omega) (by omega) (by omega) (by intro j hj; exact y7.keep (unhide M4 j hj))).mono ?_
  rintro e w8 ⟨rfl, x8⟩
  go_wp2_with fail
  go_ret
  have b1s : w1.heap.size + 1 ≤ B1 := by simpa using b1
  have y4 : Ext w w4 := x4.ext (Ext.trans (Ext.trans x1 y2) y3) (by intro k hk; have := x1.size; omega)
  exact ⟨rfl, Ext.trans (Ext.trans y4 y7) x8⟩

set_option maxRecDepth 100000 in
set_option maxHeartbeats 2000000 in
theorem law_out (n : Int) (w : World) (h : n < 1 ∨ 4000 < n) : Calls Try.prog 4 #[.int .i64 n] w fun e w' => e = .returned (.bool true) ∧ Ext w w' := by
  have H := hide h
  clear h
  go_enter Try.func4, Try.ntmps4
  go_wp2_with fail
  refine (specFresh_out n _ (unhide H)).mono ?_
  rintro e w1 ⟨rfl, x1⟩
  go_wp2_with fail
  refine (implFresh_out n _ (unhide H)).mono ?_
  rintro e w2 ⟨rfl, x2⟩
  have hc2 := (bcell x2).1
  have z2 : w1.heap.size < w2.heap.size := by have := x2.size; simp at this; omega
  go_wp2_with fail
  refine (eqHeap_same ⟨0, 0, 0, [], [], 0, 0, 0, [], 0, 0, 0, 0⟩ _ _ _ _ _ _ _ SlOf.nil SlOf.nil SlOf.nil SlOf.nil SlOf.nil SlOf.nil).mono ?_
  rintro e w3 ⟨rfl, x3⟩
  have hc3 := (bcell x3).1
  have z3 : w2.heap.size < w3.heap.size := by have := x3.size; simp at this; omega
  go_wp2_with fail
  refine (markHeap_no _ _).mono ?_
  rintro e w4 ⟨rfl, x4⟩
  have hc4 := (bcell x4).1
  go_wp2_with fail
  refine (heldHeap_no _ _ (by omega)).mono ?_
  rintro e w5 ⟨rfl, x5⟩
  have hc5 := (bcell x5).1
  have z4 : w3.heap.size ≤ w4.heap.size := x4.size
  have z5 : w4.heap.size ≤ w5.heap.size := x5.size
  have q1 : w2.heap.size < w4.heap.size := by omega
  have q2 : w2.heap.size < w5.heap.size := by omega
  have q3 : w1.heap.size < w4.heap.size := by omega
  have q4 : w1.heap.size < w5.heap.size := by omega
  have q5 : w1.heap.size < w3.heap.size := by omega
  have q6 : w1.heap.size < w2.heap.size + 1 := by omega
  go_wp2_with fail
  refine (implFresh_out n _ (unhide H)).mono ?_
  rintro e w6 ⟨rfl, x6⟩
  have hc6 := (bcell x6).1
  have z6 : w5.heap.size ≤ w6.heap.size := x6.size
  have q7 : w1.heap.size < w6.heap.size := by omega
  have q8 : w2.heap.size < w6.heap.size := by omega
  go_wp2_with fail
  refine (eqHeap_same ⟨0, 0, 0, [], [], 0, 0, 0, [], 0, 0, 0, 0⟩ _ _ _ _ _ _ _ SlOf.nil SlOf.nil SlOf.nil SlOf.nil SlOf.nil SlOf.nil).mono ?_
  rintro e w7 ⟨rfl, x7⟩
  have hc7 := (bcell x7).1
  have q9 : w2.heap.size < w6.heap.size + 1 := by omega
  go_wp2_with fail
  refine (heldHeap_no _ _ (by omega)).mono ?_
  rintro e w8 ⟨rfl, x8⟩
  go_wp2_with fail
  go_ret
  have y1 : Ext w w2 := Ext.trans (Ext.trans x1 ((Ext.refl w1).alloc _)) x2
  have y2 : Ext w2 w5 := Ext.trans (Ext.trans (Ext.trans ((Ext.refl w2).alloc _) x3) x4) x5
  have y3 : Ext w5 w8 := Ext.trans (Ext.trans (Ext.trans x6 ((Ext.refl w6).alloc _)) x7) x8
  exact ⟨rfl, Ext.trans (Ext.trans y1 y2) y3⟩

theorem law_any (n : Int) (w : World) : Calls Try.prog 4 #[.int .i64 n] w fun e w' => e = .returned (.bool true) ∧ Ext w w' := by
  by_cases h : 1 ≤ n ∧ n ≤ 4000
  · exact law_in n w h.1 h.2
  · exact law_out n w (by omega)
end Go.Proofs.Ytkabcfhemljnbaa
