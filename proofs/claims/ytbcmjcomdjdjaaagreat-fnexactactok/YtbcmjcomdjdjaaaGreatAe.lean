import Derived.Test.YtbcmjcomdjdjaaaGreatAd
namespace Go.Proofs.YtbcmjcomdjdjaaaGreat
open Go.RowKit
attribute [local go_sem ↓] Go.wp_at_zero Go.wp_at_succ

theorem ext_drawn {a w : World} (h : Ext a w) (n : Nat) : Ext a (w.drewN n) := ⟨h.os, h.tape, h.output, h.size, fun k hk => h.block k hk⟩
theorem set_self (w : World) (p : Addr) (v : Value) (h : w.cell? p = some v) : w.setCell p v = w := by
  have key : (w.setCell p v).heap = w.heap := by
    unfold World.cell? at h
    unfold World.setCell
    apply Array.ext_getElem?
    intro i
    rw [Array.getElem?_modify]
    by_cases e : p.block = i
    · subst e
      rw [if_pos rfl]
      cases hh : w.heap[p.block]? with
      | none => rfl
      | some o =>
        rw [hh] at h
        cases o with
        | cells c t f =>
          simp only at h
          by_cases hs : p.spot.isSome = true
          · simp [hs] at h
          · simp only [hs] at h
            simp only [Option.map_some, hs]
            congr 1
            have hc : c.setIfInBounds p.off v = c := by
              apply Array.ext_getElem?
              intro k
              rw [Array.getElem?_setIfInBounds]
              by_cases e2 : p.off = k
              · subst e2; rw [if_pos rfl]
                have := (Array.getElem?_eq_some_iff.1 h).1
                rw [if_pos this]; exact h.symm
              · rw [if_neg e2]
            simp [hc]
        | _ => simp at h
    · rw [if_neg e]
  unfold World.setCell at key ⊢
  simp only at key
  rw [key]
set_option maxRecDepth 100000 in
set_option maxHeartbeats 4000000 in
theorem wayOf_in (k : Nat) (a b c n : Int) (w : World) (h1 : 1 ≤ k) (h2 : k ≤ 24) (h3 : (n != 0) = false ∨ ((n != 0) = true ∧ ((k : Int) != 2) = false)) (r : Bool) (hr : (decide (0 ≤ a ∧ a ≤ actA k) && (decide (0 ≤ b ∧ b ≤ actB k) && decide (0 ≤ c ∧ c ≤ actC k))) = r) : Calls Tryz.prog 35 #[actV k a b c n] w fun e w' => e = .returned (.tuple #[.agg #[iv (actA k), iv (actB k), iv (actC k), .func (.func (wayF k)) #[] #[]], .bool r]) ∧ Ext w w' := by
  have QO := hide (fun W => within_r k 1 24 true (by simp [withinB]; omega) W)
  have LL := hide (wayL_at k h1 h2)
  have k0 : (0:Int) ≤ (k:Int) := by omega
  have k1 : (k:Int) < 25 := by omega
  obtain ⟨am, ea⟩ : ∃ v, v = actA k := ⟨_, rfl⟩
  obtain ⟨bm, eb⟩ : ∃ v, v = actB k := ⟨_, rfl⟩
  obtain ⟨cm, ec⟩ : ∃ v, v = actC k := ⟨_, rfl⟩
  obtain ⟨fm, ef⟩ : ∃ v, v = wayF k := ⟨_, rfl⟩
  rw [← ea, ← eb, ← ec, ← ef] at LL
  rw [← ea, ← eb, ← ec] at hr
  rw [← ea, ← eb, ← ec, ← ef]
  have HR := hide hr
  clear ea eb ec ef hr h1 h2
  go_enter Tryz.func35, Tryz.ntmps35
  go_wp2_with fail
  refine store_row _ _ _ _ _ wayL (by kernel_rfl) (heap_third _ _ _ _) (by kernel_rfl) (by kernel_rfl) ?_
  intro W4 hW4
  have T := TabAt.of _ _ _ _ _ _ _ _ _ _ _ hW4
  clear hW4
  obtain ⟨a0, a1, a2, a3, a4, v0, v1, v2, v3, fz, tt, ex⟩ := T
  have t0 := (tt (k * 4)).trans (unhide LL).1
  have t1 := (tt (k * 4 + 1)).trans (unhide LL).2.1
  have t2 := (tt (k * 4 + 2)).trans (unhide LL).2.2.1
  have t3 := (tt (k * 4 + 3)).trans (unhide LL).2.2.2
  have X := hide ex
  clear tt ex LL
  simp only [Oper.upon]
  rcases h3 with h3 | h3
  · have q2 := h3
    clear h3
    go_wp2_with (go_at_call 83; refine (unhide QO _).mono ?_; rintro e w2 ⟨rfl, hw2⟩; rw [hw2]; clear hw2 w2)
    obtain ⟨W5, hW5⟩ : ∃ W, W = ((((W4.setCell ⟨w.heap.size + 1, 0, none⟩ (iv am)).setCell ⟨w.heap.size + 1, 1, none⟩ (iv bm)).setCell ⟨w.heap.size + 1, 2, none⟩ (iv cm)).setCell ⟨w.heap.size + 1, 3, none⟩ (.func (.func fm) #[] #[])) := ⟨_, rfl⟩
    have d0 : W5.cell? ⟨w.heap.size + 1, 0, none⟩ = some (iv am) := by rw [hW5]; simp [go_sem, v0]
    have d1 : W5.cell? ⟨w.heap.size + 1, 1, none⟩ = some (iv bm) := by rw [hW5]; simp [go_sem, v1]
    have d2 : W5.cell? ⟨w.heap.size + 1, 2, none⟩ = some (iv cm) := by rw [hW5]; simp [go_sem, v2]
    have d3 : W5.cell? ⟨w.heap.size + 1, 3, none⟩ = some (.func (.func fm) #[] #[]) := by rw [hW5]; simp [go_sem, v3]
    have b1 : W5.cell? ⟨w.heap.size, 1, none⟩ = some (iv a) := by rw [hW5]; simp [go_sem, a1]
    have b2 : W5.cell? ⟨w.heap.size, 2, none⟩ = some (iv b) := by rw [hW5]; simp [go_sem, a2]
    have b3 : W5.cell? ⟨w.heap.size, 3, none⟩ = some (iv c) := by rw [hW5]; simp [go_sem, a3]
    have f5 : ∀ j, W5.frozen? ⟨w.heap.size + 1, j, none⟩ = false := fun j => by rw [hW5]; simp [go_sem, fz]
    have X5 := hide (show Ext w W5 by rw [hW5]; exact ((((unhide X).setCell (p := ⟨w.heap.size + 1, 0, none⟩) (Nat.le_succ _) _).setCell (p := ⟨w.heap.size + 1, 1, none⟩) (Nat.le_succ _) _).setCell (p := ⟨w.heap.size + 1, 2, none⟩) (Nat.le_succ _) _).setCell (p := ⟨w.heap.size + 1, 3, none⟩) (Nat.le_succ _) _)
    rw [← hW5]
    clear hW5 a0 a1 a2 a3 a4 v0 v1 v2 v3 fz t0 t1 t2 t3 X
    have SS := hide (show ∀ m, ((((W5.drewN m).setCell ⟨w.heap.size + 1, 0, none⟩ (.int .i64 am)).setCell ⟨w.heap.size + 1, 1, none⟩ (.int .i64 bm)).setCell ⟨w.heap.size + 1, 2, none⟩ (.int .i64 cm)).setCell ⟨w.heap.size + 1, 3, none⟩ (.func (.func fm) #[] #[]) = W5.drewN m from fun m => by
      have k := ext_drawn (Ext.refl W5) m
      rw [set_self _ _ _ (k.keep d0), set_self _ _ _ (k.keep d1), set_self _ _ _ (k.keep d2), set_self _ _ _ (k.keep d3)])
    cases qa : withinB a 0 am
    · have QA := hide (fun W => within_r a 0 am false qa W)
      have ER := hide (show false = r by rw [← unhide HR]; have e : decide (0 ≤ a ∧ a ≤ am) = false := qa; rw [e]; rfl)
      refine wp_region_quiet_lit (by kernel_rfl) (by kernel_rfl) ?_
      repeat (quiet_step (first | (go_at_call_of 83 (a); exact Calls.quiet_of_same (unhide QA _))))
      refine wpQuiet_step (fun K hK => ?_)
      go_simp
      refine ⟨⟨undef, fun m => ⟨unhide SS m, rfl⟩⟩, hK _ ?_⟩
      clear hK K
      repeat (quiet_step (fail))
      refine wpQuiet_nil ?_
      rintro _ ⟨nq, rfl⟩
      go_wp2_with fail
      refine bodyPost_ret (by rw [results_cell_tmp rfl]; simp [go_sem, loadVar, d0, d1, d2, d3]; rfl) rfl ?_
      exact ⟨by rw [← unhide ER], ext_drawn (unhide X5) _⟩
    · have QA := hide (fun W => within_r a 0 am true qa W)
      cases qb : withinB b 0 bm
      · have QB := hide (fun W => within_r b 0 bm false qb W)
        have ER := hide (show false = r by rw [← unhide HR]; have e1 : decide (0 ≤ a ∧ a ≤ am) = true := qa; have e : decide (0 ≤ b ∧ b ≤ bm) = false := qb; rw [e1, e]; rfl)
        refine wp_region_quiet_lit (by kernel_rfl) (by kernel_rfl) ?_
        repeat (quiet_step (first | (go_at_call_of 83 (a); exact Calls.quiet_of_same (unhide QA _)) | (go_at_call_of 83 (b); exact Calls.quiet_of_same (unhide QB _))))
        refine wpQuiet_step (fun K hK => ?_)
        go_simp
        refine ⟨⟨undef, fun m => ⟨unhide SS m, rfl⟩⟩, hK _ ?_⟩
        clear hK K
        repeat (quiet_step (fail))
        refine wpQuiet_nil ?_
        rintro _ ⟨nq, rfl⟩
        go_wp2_with fail
        refine bodyPost_ret (by rw [results_cell_tmp rfl]; simp [go_sem, loadVar, d0, d1, d2, d3]; rfl) rfl ?_
        exact ⟨by rw [← unhide ER], ext_drawn (unhide X5) _⟩
      · have QB := hide (fun W => within_r b 0 bm true qb W)
        have QC := hide (fun W => within_any c 0 cm W)
        have ER := hide (show withinB c 0 cm = r by rw [← unhide HR]; have e1 : decide (0 ≤ a ∧ a ≤ am) = true := qa; have e : decide (0 ≤ b ∧ b ≤ bm) = true := qb; rw [e1, e]; rfl)
        refine wp_region_quiet_lit (by kernel_rfl) (by kernel_rfl) ?_
        repeat (quiet_step (first | (go_at_call_of 83 (a); exact Calls.quiet_of_same (unhide QA _)) | (go_at_call_of 83 (b); exact Calls.quiet_of_same (unhide QB _)) | (go_at_call_of 83 (c); exact Calls.quiet_of_same (unhide QC _))))
        refine wpQuiet_step (fun K hK => ?_)
        go_simp
        refine ⟨⟨undef, fun m => ⟨unhide SS m, rfl⟩⟩, hK _ ?_⟩
        clear hK K
        repeat (quiet_step (fail))
        refine wpQuiet_nil ?_
        rintro _ ⟨nq, rfl⟩
        go_wp2_with fail
        refine bodyPost_ret (by rw [results_cell_tmp rfl]; simp [go_sem, loadVar, d0, d1, d2, d3]; rfl) rfl ?_
        exact ⟨by rw [← unhide ER], ext_drawn (unhide X5) _⟩
  · have q2 := h3.1
    have q1 := h3.2
    clear h3
    go_wp2_with (go_at_call 83; refine (unhide QO _).mono ?_; rintro e w2 ⟨rfl, hw2⟩; rw [hw2]; clear hw2 w2)
    obtain ⟨W5, hW5⟩ : ∃ W, W = ((((W4.setCell ⟨w.heap.size + 1, 0, none⟩ (iv am)).setCell ⟨w.heap.size + 1, 1, none⟩ (iv bm)).setCell ⟨w.heap.size + 1, 2, none⟩ (iv cm)).setCell ⟨w.heap.size + 1, 3, none⟩ (.func (.func fm) #[] #[])) := ⟨_, rfl⟩
    have d0 : W5.cell? ⟨w.heap.size + 1, 0, none⟩ = some (iv am) := by rw [hW5]; simp [go_sem, v0]
    have d1 : W5.cell? ⟨w.heap.size + 1, 1, none⟩ = some (iv bm) := by rw [hW5]; simp [go_sem, v1]
    have d2 : W5.cell? ⟨w.heap.size + 1, 2, none⟩ = some (iv cm) := by rw [hW5]; simp [go_sem, v2]
    have d3 : W5.cell? ⟨w.heap.size + 1, 3, none⟩ = some (.func (.func fm) #[] #[]) := by rw [hW5]; simp [go_sem, v3]
    have b1 : W5.cell? ⟨w.heap.size, 1, none⟩ = some (iv a) := by rw [hW5]; simp [go_sem, a1]
    have b2 : W5.cell? ⟨w.heap.size, 2, none⟩ = some (iv b) := by rw [hW5]; simp [go_sem, a2]
    have b3 : W5.cell? ⟨w.heap.size, 3, none⟩ = some (iv c) := by rw [hW5]; simp [go_sem, a3]
    have f5 : ∀ j, W5.frozen? ⟨w.heap.size + 1, j, none⟩ = false := fun j => by rw [hW5]; simp [go_sem, fz]
    have X5 := hide (show Ext w W5 by rw [hW5]; exact ((((unhide X).setCell (p := ⟨w.heap.size + 1, 0, none⟩) (Nat.le_succ _) _).setCell (p := ⟨w.heap.size + 1, 1, none⟩) (Nat.le_succ _) _).setCell (p := ⟨w.heap.size + 1, 2, none⟩) (Nat.le_succ _) _).setCell (p := ⟨w.heap.size + 1, 3, none⟩) (Nat.le_succ _) _)
    rw [← hW5]
    clear hW5 a0 a1 a2 a3 a4 v0 v1 v2 v3 fz t0 t1 t2 t3 X
    have SS := hide (show ∀ m, ((((W5.drewN m).setCell ⟨w.heap.size + 1, 0, none⟩ (.int .i64 am)).setCell ⟨w.heap.size + 1, 1, none⟩ (.int .i64 bm)).setCell ⟨w.heap.size + 1, 2, none⟩ (.int .i64 cm)).setCell ⟨w.heap.size + 1, 3, none⟩ (.func (.func fm) #[] #[]) = W5.drewN m from fun m => by
      have k := ext_drawn (Ext.refl W5) m
      rw [set_self _ _ _ (k.keep d0), set_self _ _ _ (k.keep d1), set_self _ _ _ (k.keep d2), set_self _ _ _ (k.keep d3)])
    cases qa : withinB a 0 am
    · have QA := hide (fun W => within_r a 0 am false qa W)
      have ER := hide (show false = r by rw [← unhide HR]; have e : decide (0 ≤ a ∧ a ≤ am) = false := qa; rw [e]; rfl)
      refine wp_region_quiet_lit (by kernel_rfl) (by kernel_rfl) ?_
      repeat (quiet_step (first | (go_at_call_of 83 (a); exact Calls.quiet_of_same (unhide QA _))))
      refine wpQuiet_step (fun K hK => ?_)
      go_simp
      refine ⟨⟨undef, fun m => ⟨unhide SS m, rfl⟩⟩, hK _ ?_⟩
      clear hK K
      repeat (quiet_step (fail))
      refine wpQuiet_nil ?_
      rintro _ ⟨nq, rfl⟩
      go_wp2_with fail
      refine bodyPost_ret (by rw [results_cell_tmp rfl]; simp [go_sem, loadVar, d0, d1, d2, d3]; rfl) rfl ?_
      exact ⟨by rw [← unhide ER], ext_drawn (unhide X5) _⟩
    · have QA := hide (fun W => within_r a 0 am true qa W)
      cases qb : withinB b 0 bm
      · have QB := hide (fun W => within_r b 0 bm false qb W)
        have ER := hide (show false = r by rw [← unhide HR]; have e1 : decide (0 ≤ a ∧ a ≤ am) = true := qa; have e : decide (0 ≤ b ∧ b ≤ bm) = false := qb; rw [e1, e]; rfl)
        refine wp_region_quiet_lit (by kernel_rfl) (by kernel_rfl) ?_
        repeat (quiet_step (first | (go_at_call_of 83 (a); exact Calls.quiet_of_same (unhide QA _)) | (go_at_call_of 83 (b); exact Calls.quiet_of_same (unhide QB _))))
        refine wpQuiet_step (fun K hK => ?_)
        go_simp
        refine ⟨⟨undef, fun m => ⟨unhide SS m, rfl⟩⟩, hK _ ?_⟩
        clear hK K
        repeat (quiet_step (fail))
        refine wpQuiet_nil ?_
        rintro _ ⟨nq, rfl⟩
        go_wp2_with fail
        refine bodyPost_ret (by rw [results_cell_tmp rfl]; simp [go_sem, loadVar, d0, d1, d2, d3]; rfl) rfl ?_
        exact ⟨by rw [← unhide ER], ext_drawn (unhide X5) _⟩
      · have QB := hide (fun W => within_r b 0 bm true qb W)
        have QC := hide (fun W => within_any c 0 cm W)
        have ER := hide (show withinB c 0 cm = r by rw [← unhide HR]; have e1 : decide (0 ≤ a ∧ a ≤ am) = true := qa; have e : decide (0 ≤ b ∧ b ≤ bm) = true := qb; rw [e1, e]; rfl)
        refine wp_region_quiet_lit (by kernel_rfl) (by kernel_rfl) ?_
        repeat (quiet_step (first | (go_at_call_of 83 (a); exact Calls.quiet_of_same (unhide QA _)) | (go_at_call_of 83 (b); exact Calls.quiet_of_same (unhide QB _)) | (go_at_call_of 83 (c); exact Calls.quiet_of_same (unhide QC _))))
        refine wpQuiet_step (fun K hK => ?_)
        go_simp
        refine ⟨⟨undef, fun m => ⟨unhide SS m, rfl⟩⟩, hK _ ?_⟩
        clear hK K
        repeat (quiet_step (fail))
        refine wpQuiet_nil ?_
        rintro _ ⟨nq, rfl⟩
        go_wp2_with fail
        refine bodyPost_ret (by rw [results_cell_tmp rfl]; simp [go_sem, loadVar, d0, d1, d2, d3]; rfl) rfl ?_
        exact ⟨by rw [← unhide ER], ext_drawn (unhide X5) _⟩
end Go.Proofs.YtbcmjcomdjdjaaaGreat
