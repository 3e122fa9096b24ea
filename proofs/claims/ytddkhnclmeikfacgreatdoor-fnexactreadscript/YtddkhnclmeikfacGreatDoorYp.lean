import Derived.Test.YtddkhnclmeikfacGreatDoorYo
namespace Go.Proofs.YtddkhnclmeikfacGreatDoor
open Go.RowKit
attribute [local go_sem ↓] Go.wp_at_zero Go.wp_at_succ

/-! impl.ReadScript. -/
theorem rdActs_len (room : Int) : ∀ (fuel n : Nat) (acc : List Ak) (rest : List UInt8), acc.length ≤ 1000 → (rdActs room fuel n acc rest).acts.length ≤ 1000
  | 0, _, acc, _, h => by simpa [rdActs, Rd.good] using h
  | fuel + 1, n, acc, rest, h => by
    unfold rdActs
    split
    · simpa [Rd.good] using h
    · split
      · simp [Rd.bad]
      · split
        · split
          · simp [Rd.bad]
          · exact rdActs_len room fuel _ _ _ (by simp; omega)
        · simp [Rd.bad]
theorem rdText_len (tx : List UInt8) : (rdText tx).acts.length ≤ 1000 := by
  unfold rdText
  split
  · simp [Rd.bad]
  · split
    · simp [Rd.bad]
    · split
      · simp [Rd.bad]
      · exact rdActs_len _ _ _ _ _ (by simp)
set_option maxRecDepth 100000 in
set_option maxHeartbeats 600000 in
theorem implRead_any (w : World) (tx : List UInt8) (hl : tx.length ≤ 1048576) (ht : Tab w) (hL : LibAt w) :
    Calls Tryz.prog 18 #[.string (sB tx)] w fun e w' => ∃ v, Hid (e = .returned ((rdText tx).v v)) ∧ Hid (w'.ownsRow w.heap.size 40 5 v (rdText tx).acts.length ((rdText tx).acts.flatMap fA)) ∧ Ext w w' := by
  by_cases h0 : 20000 < tx.length
  · have E := hide (rd_long h0)
    go_enter Tryz.func18, Tryz.ntmps18
    go_wp2_with fail
    refine bodyPost_ret (v := .agg #[.bool false, .int .i64 0, .int .i64 0, .slice none 0 0]) (by simp [results, Tryz.results18, go_sem]) rfl ?_
    exact ⟨.slice none 0 0, hide (by rw [unhide E]; rfl), hide (by rw [unhide E]; exact World.ownsRow_nil _ _ _ _), (Ext.refl w).alloc _⟩
  · have hI : ¬ (20000 : Int) < (tx.length : Int) := by omega
    obtain ⟨WA, hWA⟩ : ∃ V, V = w.alloc (.cells #[.bool false, .int .i64 0, .int .i64 0, .slice none 0 0] 49) := ⟨_, rfl⟩
    have xA : Ext w WA := hWA ▸ (Ext.refl w).alloc _
    have OP := hide (show ∀ j, j < 4 → Open WA w.heap.size j from fun j hj => by
      rw [hWA]
      match j, hj with
      | 0, _ => exact ⟨⟨.bool false, by simp [go_sem]⟩, by simp [go_sem]⟩
      | 1, _ => exact ⟨⟨.int .i64 0, by simp [go_sem]⟩, by simp [go_sem]⟩
      | 2, _ => exact ⟨⟨.int .i64 0, by simp [go_sem]⟩, by simp [go_sem]⟩
      | 3, _ => exact ⟨⟨.slice none 0 0, by simp [go_sem]⟩, by simp [go_sem]⟩)
    have sA : WA.heap.size = w.heap.size + 1 := by rw [hWA]; simp
    obtain ⟨WB, hWB⟩ : ∃ V, V = WA.alloc (.cells #[.string (sB tx), .int .i64 0] 91) := ⟨_, rfl⟩
    have xB : Ext WA WB := hWB ▸ (Ext.refl WA).alloc _
    have RB := hide (show RdAt WB WA.heap.size tx 0 by rw [hWB]; exact ⟨by simp [go_sem], by simp [go_sem], by simp [go_sem], by simp [go_sem]⟩)
    have sB' : WB.heap.size = w.heap.size + 2 := by rw [hWB]; simp; omega
    rw [sA] at RB
    have Q := hide (read_any w WB (w.heap.size + 1) tx ⟨ht, hL, by omega, xA.trans xB⟩ (unhide RB) (by omega))
    clear ht hL
    go_enter Tryz.func18, Tryz.ntmps18
    go_wp2_with fail
    rw [← hWA, ← hWB]
    clear hWA hWB
    refine (unhide Q).mono ?_
    rintro e w2 ⟨v, he, hown, o2⟩
    have e2 := unhide he
    subst e2
    have X2 := hide (show Ext w w2 from o2.ext (xA.trans xB) (fun k hk e => by omega))
    have OP2 := fun j (hj : j < 4) => open_of_block (unhide OP j hj) ((o2.block w.heap.size (by omega) (by omega)).trans (xB.block w.heap.size (by omega)))
    obtain ⟨⟨p0, r0⟩, f0⟩ := OP2 0 (by omega)
    obtain ⟨⟨p1, r1⟩, f1⟩ := OP2 1 (by omega)
    obtain ⟨⟨p2, r2⟩, f2⟩ := OP2 2 (by omega)
    obtain ⟨⟨p3, r3⟩, f3⟩ := OP2 3 (by omega)
    have OWN := hide (unhide hown)
    obtain ⟨ad, cap, hv⟩ : ∃ ad cap, v = .slice ad (rdText tx).acts.length cap := by
      rcases (unhide hown).2 with ⟨h1, h2⟩ | ⟨g, cap, _, h1, _⟩
      · exact ⟨none, 0, by rw [h1, h2]⟩
      · exact ⟨_, _, h1⟩
    subst hv
    obtain ⟨R, hR⟩ : ∃ R, R = rdText tx := ⟨_, rfl⟩
    rw [← hR] at OWN ⊢
    have HR := hide hR
    clear hown he Q OP2 hR
    unfold Rd.v
    go_wp2_with fail
    refine bodyPost_ret (v := .agg #[.bool R.ok, .int .i64 R.ln, .int .i64 R.rm, .slice ad R.acts.length cap]) (by simp [results, Tryz.results18, go_sem, r0, r1, r2, r3]) rfl ?_
    have hlt : w.heap.size < WB.heap.size := by omega
    exact ⟨.slice ad R.acts.length cap, hide (by rw [← unhide HR]; rfl), hide (by rw [← unhide HR]; exact own_mono (ownsRow_setCell_below (ownsRow_setCell_below (ownsRow_setCell_below (ownsRow_setCell_below (unhide OWN) hlt _) hlt _) hlt _) hlt _) (Nat.le_of_lt hlt)), ((((Only.of_ext (S := fun q => q = w.heap.size) (Ext.refl w2)).setCell (p := ⟨w.heap.size, 0, none⟩) rfl _).setCell (p := ⟨w.heap.size, 1, none⟩) rfl _).setCell (p := ⟨w.heap.size, 2, none⟩) rfl _).setCell (p := ⟨w.heap.size, 3, none⟩) rfl _ |>.ext (unhide X2) (fun k hk e => by omega)⟩
end Go.Proofs.YtddkhnclmeikfacGreatDoor
