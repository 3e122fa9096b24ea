import Derived.Test.YtojdehkcggbdeabGreatLs
import Derived.Deep.LoopGhost
import Derived.Test.YtojdehkcggbdeabGreatSpecA
namespace Go.Proofs.YtojdehkcggbdeabGreat
open Go.RowKit
attribute [local go_sem ↓] Go.wp_at_zero Go.wp_at_succ

theorem infoInt : (Tryz.prog.info? 3).map (fun i => (i.zero, i.size, i.bytes)) = some (some (.int .i64 0), 1, 8) := by kernel_rfl

/-- the world behind 'q.items = append(q.items, x)' -/
theorem put_world {w w1 : World} {base bq oq g cap : Nat} {v : Value} {L : List Int} {x : Int} {o : Obj} (h : LsAt w base bq oq v L)
    (hown : w1.ownsRow base 3 1 (.slice (some ⟨g, 0, none⟩) (L.length + 1) cap) (L.length + 1) (L.map iv ++ [iv x])) (hg : (w.alloc o).grownBy w1 v.ownBlock) (hat : v.ownBlock = some g ∨ g = w.heap.size + 1) :
    LsAt (w1.setCell ⟨bq, oq, none⟩ (.slice (some ⟨g, 0, none⟩) (L.length + 1) cap)) base bq oq (.slice (some ⟨g, 0, none⟩) (L.length + 1) cap) (L ++ [x]) ∧
    QFr bq oq v (.slice (some ⟨g, 0, none⟩) (L.length + 1) cap) w (w1.setCell ⟨bq, oq, none⟩ (.slice (some ⟨g, 0, none⟩) (L.length + 1) cap)) ∧ w1.cell? ⟨bq, oq, none⟩ = some v ∧ w1.frozen? ⟨bq, oq, none⟩ = false := by
  have hlt := h.hlt
  have hne : g ≠ bq := by
    rcases hat with e | e
    · intro q; exact h.apart (q ▸ e)
    · omega
  have hs1 : w.heap.size + 1 ≤ w1.heap.size := by have := hg.size; simpa using this
  have hb : ∀ k, k < w.heap.size → v.ownBlock ≠ some k → w1.heap[k]? = w.heap[k]? := fun k hk hv =>
    (hg.block k (by simp; omega) (fun e => hv e.symm)).trans (Below.heap_alloc w o k hk)
  have hbq : w1.heap[bq]? = w.heap[bq]? := hb bq hlt h.apart
  have hc : w1.cell? ⟨bq, oq, none⟩ = some v := (World.cell?_of_block (a := ⟨bq, oq, none⟩) hbq).trans h.hd
  have hf : w1.frozen? ⟨bq, oq, none⟩ = false := (World.frozen?_of_block (a := ⟨bq, oq, none⟩) hbq).trans h.hf
  refine ⟨⟨World.cell?_setCell_same _ _ _ hc, by rw [World.frozen?_setCell]; exact hf, ?_, fun e => hne (by simpa [Value.ownBlock] using e)⟩, ⟨?_, ?_, ?_, ?_, fun k hk h1 h2 => ?_, fun o' ho => ?_, fun o' => ?_, ?_⟩, hc, hf⟩
  · refine ownsRow_of_block (by simpa using hown) (fun k hk => Below.heap_setCell _ _ _ _ ?_)
    simp [Value.ownBlock] at hk
    show k ≠ bq
    omega
  · exact hg.os
  · exact hg.tape
  · exact hg.output
  · have : (w1.setCell ⟨bq, oq, none⟩ (.slice (some ⟨g, 0, none⟩) (L.length + 1) cap)).heap.size = w1.heap.size := by simp [World.setCell]
    omega
  · rw [Below.heap_setCell _ _ _ _ (show k ≠ bq from h1)]
    exact hb k hk h2
  · rw [cell_other _ (.inr (fun e => ho e.symm))]
    exact World.cell?_of_block (a := ⟨bq, o', none⟩) hbq
  · rw [World.frozen?_setCell]
    exact World.frozen?_of_block (a := ⟨bq, o', none⟩) hbq
  · rcases hat with e | e
    · exact .inl e.symm
    · exact .inr ⟨g, rfl, by omega⟩

set_option maxRecDepth 100000 in
set_option maxHeartbeats 1000000 in
theorem put_ls (w : World) (base bq oq : Nat) (v : Value) (L : List Int) (x : Int) (h : LsAt w base bq oq v L) (hb : base ≤ w.heap.size) (ho : Ho L) (hn : L.length ≤ 100000) :
    Calls Tryz.prog 101 #[.pointer (some ⟨bq, oq, none⟩), .int .i64 x] w fun e w' => e = .returned (.tuple #[]) ∧ ∃ v' L', LsAt w' base bq oq v' L' ∧ Ho L' ∧ L'.Perm (x :: L) ∧ QFr bq oq v v' w w' := by
  obtain ⟨i0, hi, hz0, hz1, hz2⟩ := info_parts infoInt
  have hd := h.hd
  have hf := h.hf
  have hlt := h.hlt
  have HL := hide h
  have HO := hide (Rise.start ho x)
  clear h ho
  go_enter Tryz.func101, Tryz.ntmps101
  go_wp2_with (at_builtin; refine wpList_append_lies _ rfl _ _ 24 rfl base 3 i0 (.int .i64 0) 1 8 Tryz.underlying24 hi hz0 hz1 hz2 rfl (by decide) v L.length (L.map iv) rfl ((unhide HL).own.alloc _) ⟨w.heap.size, 0, none⟩ 1 1 [.int .i64 x] rfl rfl ?c1 ?c2 (by decide) ?c3 ?c4 ?c5 (w.heap.size + 1) (by simp) ?_)
  case c1 =>
    intro j u hj
    match j, hj with
    | 0, hj => simp at hj; subst hj; simp [Addr.add]
  case c2 => intro u hu; simp at hu; subst hu; rfl
  case c3 => unfold maxLen; omega
  case c4 => omega
  case c5 => simp; omega
  intro g cap w1 hown hgrow hat hglt
  obtain ⟨P1, P2, P3, P4⟩ := put_world (unhide HL) hown hgrow hat
  have Q1 := hide P1
  have Q2 := hide P2
  clear hown hgrow hat P1 P2 hd hf
  go_wp2_with fail
  go_loopw [4] (fun si wr => ∃ (a : Nat) (M : List Int), a < M.length ∧ si = .int .i64 a ∧ M.length = L.length + 1 ∧ LsAt wr base bq oq (.slice (some ⟨g, 0, none⟩) (L.length + 1) cap) M ∧ Rise M a ∧ M.Perm (x :: L) ∧ QFr bq oq v (.slice (some ⟨g, 0, none⟩) (L.length + 1) cap) w wr) (fun si _ => (intOf si).toNat)
  case atStart => exact ⟨L.length, L ++ [x], by simp, by go_num, by simp, unhide Q1, unhide HO, List.perm_append_singleton _ _, unhide Q2⟩
  case round =>
    clear HO HL P3 P4 Q1 Q2
    obtain ⟨a, M, ha, rfl, hM, hls, hr, hp, hq⟩ := hrel
    have HLS := hide hls
    have HR := hide hr
    have HP := hide hp
    have HQ := hide hq
    have hd := hls.hd
    obtain ⟨xa, hxa⟩ : ∃ z, it M a = z := ⟨_, rfl⟩
    have ca := hls.cell a ha
    rw [hxa] at ca
    by_cases h0 : 0 < a
    · obtain ⟨u, hu⟩ : ∃ u, u = (a - 1) / 2 := ⟨_, rfl⟩
      have hum : u < M.length := by omega
      obtain ⟨xu, hxu⟩ : ∃ z, it M u = z := ⟨_, rfl⟩
      have cu := hls.cell u hum
      rw [hxu] at cu
      have hq2 : ((a : Int) - 1).tdiv 2 = (u : Int) := by
        rw [Int.tdiv_eq_ediv_of_nonneg (by omega)]; omega
      have i0 : (0 : Int) < (a : Int) := by omega
      have i1 : (0 : Int) ≤ (a : Int) := by omega
      have i2 : (a : Int) < (L.length : Int) + 1 := by omega
      have i3 : (0 : Int) ≤ (u : Int) := by omega
      have i4 : (u : Int) < (L.length : Int) + 1 := by omega
      have hua : u < a := by omega
      have HU := hide hu
      clear hls hr hp hq hu
      by_cases hc : xu ≤ xa
      · have Y := hide (Rise.done (unhide HR) (by rw [← unhide HU, hxu, hxa]; exact hc))
        go_wp2_with fail
        go_quiet (fail)
        go_wp2_with fail
        try simp only [Exit.inBlock, Exit.then]
        refine bodyPost_ret (results_none rfl _ _ _) rfl ?_
        exact ⟨rfl, _, M, (unhide HLS).ext ((Ext.refl _).drewN _), unhide Y, unhide HP, (unhide HQ).drewN _⟩
      · have hc2 : decide (xu ≤ xa) = false := decide_eq_false hc
        have hc3 : xa < xu := by omega
        have R2 := hide (Rise.up (unhide HR) h0 ha (unhide HU) (by rw [hxu, hxa]; exact hc3))
        clear hc hc3
        go_wp2_with fail
        go_quiet (fail)
        go_wp2_with fail
        refine (swap_ls _ base bq oq g (L.length + 1) cap u a M ((unhide HLS).ext ((Ext.refl _).drewN _)) (by omega) (by omega)).mono ?_
        rintro e w2 ⟨rfl, ls2, q2⟩
        have LS2 := hide ls2
        have QF2 := hide (((unhide HQ).drewN _).trans q2)
        clear ls2 q2
        go_wp2_with fail
        go_roundw
        case rel => exact ⟨u, swp M u a, by rw [swp_len]; omega, by go_num, by rw [swp_len]; omega, unhide LS2, unhide R2, (swp_perm M u a hum ha).trans (unhide HP), unhide QF2⟩
        case measure => simp [intOf]; omega
    · have h00 : a = 0 := by omega
      subst h00
      have Y := hide (Rise.top (unhide HR))
      clear hls hr hp hq
      go_wp2_with fail
      go_end0
      exact ⟨rfl, _, M, unhide HLS, unhide Y, unhide HP, unhide HQ⟩
end Go.Proofs.YtojdehkcggbdeabGreat
