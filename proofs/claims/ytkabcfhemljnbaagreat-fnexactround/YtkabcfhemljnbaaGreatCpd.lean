import Derived.Test.YtkabcfhemljnbaaGreatHx
import Derived.Deep.RegionWith
namespace Go.Proofs.YtkabcfhemljnbaaGreat
open Go.RowKit
attribute [local go_sem ↓] Go.wp_at_zero Go.wp_at_succ

/-! impl.copied: the heap once more, in new memory. -/
/-- cells in a new block; the pairs of the first k of them are new too -/
structure Cpl (w w4 wr : World) (x : Hp) (vr vc vg : Value) (pv vp : Nat → Value) (k : Nat) : Prop where
  bx : HBox wr w.heap.size x vr vc vg
  s : ∀ q, q < x.cells.length → S7 wr (vblk vc) (q * 8) (x.c q)
  p7 : ∀ q, q < x.cells.length → wr.cell? ⟨vblk vc, q * 8 + 7, none⟩ = some (if q < k then pv q else vp q)
  pr : ∀ q, q < x.cells.length → q < k → wr.ownsRow w4.heap.size 123 6 (pv q) (x.c q).prs.length ((x.c q).prs.flatMap fP)
  dp : ∀ q q', q < k → q' < k → q ≠ q' → ∀ b, (pv q).ownBlock = some b → (pv q').ownBlock ≠ some b
  on : Only (fun q => q = vblk vc ∧ 0 < x.cells.length) w4 wr
  nf : 0 < x.cells.length → Nf1 (vblk vc) wr
theorem Cpl.step {w w4 wr w5 : World} {x : Hp} {vr vc vg v' : Value} {pv vp : Nat → Value} {k : Nat} (h : Cpl w w4 wr x vr vc vg pv vp k) (hk : k < x.cells.length) (hvc : w.heap.size + 2 ≤ vblk vc ∧ vblk vc < w4.heap.size) (e : Ext wr w5) (ho : w5.ownsRow wr.heap.size 123 6 v' (x.c k).prs.length ((x.c k).prs.flatMap fP)) :
    Cpl w w4 (w5.setCell ⟨vblk vc, k * 8 + 7, none⟩ v') x vr vc vg (fun q => if q = k then v' else pv q) vp (k + 1) := by
  have h4 := h.on.size
  have far : ∀ b, b ≠ vblk vc → (w5.setCell ⟨vblk vc, k * 8 + 7, none⟩ v').heap[b]? = w5.heap[b]? := fun b hb => Below.heap_setCell _ _ _ _ hb
  refine ⟨(h.bx.ext e).far _ _ _ (.inl (by omega)), fun q hq => ?_, fun q hq => ?_, fun q hq hqk => ?_, fun q q' hq hq' hne b hb => ?_, ?_, fun hn => ((h.nf hn).ext e).set _ _⟩
  · refine (h.s q hq).of fun j hj => ?_
    rw [cell_other _ (.inr (by omega))]
    exact e.cell (p := ⟨vblk vc, _, none⟩) (by show vblk vc < _; omega)
  · by_cases hqk : q = k
    · subst hqk
      rw [if_pos (by omega), if_pos rfl]
      exact World.cell?_setCell_same _ _ _ (e.keep (h.p7 q hq))
    · rw [cell_other _ (.inr (by omega)), if_neg hqk]
      have := e.keep (h.p7 q hq)
      rw [this]
      by_cases hlt : q < k
      · rw [if_pos hlt, if_pos (by omega)]
      · rw [if_neg hlt, if_neg (by omega)]
  · by_cases hqe : q = k
    · subst hqe
      simp only [if_pos]
      exact own_less (ownsRow_of_block ho (fun b hb => far b (by have := (ho.lt b hb).1; omega))) h4
    · simp only [if_neg hqe]
      have hq2 := h.pr q hq (by omega)
      exact ownsRow_of_block hq2 (fun b hb => (far b (by have := (hq2.lt b hb).1; omega)).trans (e.block b (hq2.lt b hb).2))
  · by_cases h1 : q = k <;> by_cases h2 : q' = k
    · omega
    · rw [if_pos h1] at hb
      rw [if_neg h2]
      intro hb'
      have := (ho.lt b hb).1
      have := ((h.pr q' (by omega) (by omega)).lt b hb').2
      omega
    · rw [if_neg h1] at hb
      rw [if_pos h2]
      intro hb'
      have := (ho.lt b hb').1
      have := ((h.pr q (by omega) (by omega)).lt b hb).2
      omega
    · rw [if_neg h1] at hb
      rw [if_neg h2]
      exact h.dp q q' (by omega) (by omega) hne b hb
  · exact (h.on.trans (Only.of_ext e)).setCell ⟨rfl, by omega⟩ _

theorem CvAt.ext {w w' : World} (e : Ext w w') {b o : Nat} {z : Cl × Value} (h : CvAt w b o z) : CvAt w' b o z := fun j hj => by
  have := h j hj
  cases hc : (fC z)[j]? with
  | none => match j, hj with | 0, _ | 1, _ | 2, _ | 3, _ | 4, _ | 5, _ | 6, _ | 7, _ => simp [fC] at hc
  | some y => rw [hc] at this; exact e.keep this
theorem Cpl.start {w w4 : World} {B : Nat} {x : Hp} {vr vc vg v4 : Value} {L : List (Cl × Value)} (hL : L.map (·.1) = x.cells) (hb : HBox w4 w.heap.size x vr v4 vg) (ho : w4.ownsRow B 86 8 vc L.length (L.flatMap fC)) (hB : w.heap.size < B) :
    Cpl w (w4.setCell ⟨w.heap.size, 4, none⟩ vc) (w4.setCell ⟨w.heap.size, 4, none⟩ vc) x vr vc vg (fun _ => .slice none 0 0) (fun q => (L.getD q (Cl0, .slice none 0 0)).2) 0 := by
  have hLl : L.length = x.cells.length := by rw [← hL, List.length_map]
  have hc : ∀ q, q < x.cells.length → ∀ j, j < 8 → (w4.setCell ⟨w.heap.size, 4, none⟩ vc).cell? ⟨vblk vc, q * 8 + j, none⟩ = (fC (L.getD q (Cl0, .slice none 0 0)))[j]? := fun q hq j hj => by
    have h1 := own_nf ho (by omega)
    rw [cell_other _ (.inl (by have := h1.2; omega)), own_at (f := fC) (fun _ => rfl) ho q (by omega) j hj]
    congr 2
    simp [hLl, hq]
  have h1 : ∀ q, q < x.cells.length → (L.getD q (Cl0, .slice none 0 0)).1 = x.c q := fun q hq => by
    have e : x.cells[q] = (L.map (·.1))[q]'(by simpa [hLl] using hq) := by simp [hL]
    rw [← Hp.c_eq x q hq, e]
    simp [hLl, hq]
  refine ⟨hb.set4 vc, fun q hq => ?_, fun q hq => ?_, fun q _ hq => by omega, fun q q' hq => by omega, Only.refl _ _, fun hn => (own_nf ho (by omega)).1.set _ _⟩
  · have := hc q hq
    rw [← h1 q hq]
    exact ⟨this 0 (by omega), this 1 (by omega), this 2 (by omega), this 3 (by omega), this 4 (by omega), this 5 (by omega), this 6 (by omega)⟩
  · rw [if_neg (by omega)]
    exact hc q hq 7 (by omega)

/-- a heap whose rows are in memory of its own from B on -/
def HOwn (B : Nat) (w : World) (x : Hp) (vr vc : Value) : Prop := ∃ br bc pb pa pk ar kr ac kc, vr = .slice ar x.regs.length kr ∧ (0 < x.regs.length → ar = some ⟨br, 0, none⟩) ∧ vc = .slice ac x.cells.length kc ∧ (0 < x.cells.length → ac = some ⟨bc, 0, none⟩) ∧ Rws B w x br bc pb pa pk
theorem HOwn.ext {B : Nat} {w w' : World} {x : Hp} {vr vc : Value} (h : HOwn B w x vr vc) (e : Ext w w') : HOwn B w' x vr vc := by
  obtain ⟨br, bc, pb, pa, pk, ar, kr, ac, kc, h1, h2, h3, h4, h5⟩ := h
  exact ⟨br, bc, pb, pa, pk, ar, kr, ac, kc, h1, h2, h3, h4, h5.ext e⟩

set_option maxRecDepth 100000 in
set_option maxHeartbeats 4000000 in
theorem copied_any (x : Hp) (ag : Option Addr) (ng kg : Nat) (w : World) {ar : Option Addr} {kr : Nat} {ac : Option Addr} {kc : Nat} (hR : SlW w (.slice ar x.regs.length kr) x.regs) (hC : SlC w (.slice ac x.cells.length kc) x.cells) (n1 : x.regs.length ≤ 1048576) (n2 : x.cells.length ≤ 8000) (n3 : ∀ q, q < x.cells.length → (x.c q).prs.length ≤ 200) :
    Calls Tryz.prog 121 #[x.v (.slice ar x.regs.length kr) (.slice ac x.cells.length kc) (.slice ag ng kg)] w fun e w' => ∃ vr vc, e = .returned (x.v vr vc (.slice ag ng kg)) ∧ Hid (HOwn w.heap.size w' x vr vc) ∧ Ext w w' := by
  obtain ⟨L, hL, hLs, hLp⟩ := slC_pick hC
  have hLl : L.length = x.cells.length := by rw [← hL, List.length_map]
  have HLS := hide hLs
  have HLP := hide hLp
  have HL := hide hL
  have SR := hide hR
  clear hR hC hL hLs hLp
  have xa := ((Ext.refl w).alloc (.cells #[iv x.room, iv x.used, iv x.born, .slice ar x.regs.length kr, .slice ac x.cells.length kc, iv x.phase, iv x.hand, iv x.sub, (.slice ag ng kg), iv x.per, iv x.start, iv x.rounds, iv x.forced] 33)).alloc (.cells #[iv 0, iv 0, iv 0, .slice none 0 0, .slice none 0 0, iv 0, iv 0, iv 0, .slice none 0 0, iv 0, iv 0, iv 0, iv 0] 33)
  have B2 := (HBox.new w x (.slice ar x.regs.length kr) (.slice ac x.cells.length kc) (.slice ag ng kg) 33).ext ((Ext.refl _).alloc (.cells #[iv 0, iv 0, iv 0, .slice none 0 0, .slice none 0 0, iv 0, iv 0, iv 0, .slice none 0 0, iv 0, iv 0, iv 0, iv 0] 33))
  go_enter Tryz.func121, Tryz.ntmps121
  go_wp2_with fail
  refine (cloneW_any x.regs _ _ (SlW.ext xa (unhide SR)) n1).mono ?_
  rintro e w3 ⟨vr, rfl, hor, q3⟩
  obtain ⟨avr, kvr, hvr⟩ : ∃ a k, vr = .slice a x.regs.length k := ⟨_, _, (own_form hor).1⟩
  subst hvr
  have hz3 : w.heap.size + 2 ≤ w3.heap.size := by have := q3.size; simp at this; omega
  have B3 := hide (B2.ext q3)
  have X3 := xa.trans q3
  have OR := hide hor
  have c3 := (unhide B3).2.2.2.1
  have c4 := (unhide B3).2.2.2.2.1
  have fz : ∀ o, w3.frozen? ⟨w.heap.size, o, none⟩ = false := fun o => ((bcell q3).2 w.heap.size o (by simp; omega)).trans (by simp [go_sem])
  have f3 := fz 3
  have FZ := hide fz
  have rc := hide (show ∀ o v, ((w.alloc (.cells #[iv x.room, iv x.used, iv x.born, .slice ar x.regs.length kr, .slice ac x.cells.length kc, iv x.phase, iv x.hand, iv x.sub, (.slice ag ng kg), iv x.per, iv x.start, iv x.rounds, iv x.forced] 33)).alloc (.cells #[iv 0, iv 0, iv 0, .slice none 0 0, .slice none 0 0, iv 0, iv 0, iv 0, .slice none 0 0, iv 0, iv 0, iv 0, iv 0] 33)).cell? ⟨w.heap.size + 1, o, none⟩ = some v → w3.cell? ⟨w.heap.size + 1, o, none⟩ = some v from fun o v h => q3.keep h)
  have RF := hide (show ∀ o, w3.frozen? ⟨w.heap.size + 1, o, none⟩ = false from fun o => ((bcell q3).2 (w.heap.size + 1) o (by simp)).trans (by simp [go_sem]))
  clear hor fz B2 q3
  go_wp2_with fail
  have X3s : Ext w (w3.setCell ⟨w.heap.size, 3, none⟩ (.slice avr x.regs.length kvr)) := X3.setCell (Nat.le_refl _) _
  refine (cloneC_any L _ _ (by rw [← hLl]; exact (show SlOf (CvAt _) 8 (.slice ac L.length kc) L from by have := unhide HLS; rw [← hLl] at this; exact this.mono fun _ _ _ k => k.ext X3s)) (fun z hz => slP_one (unhide HLP z hz)) (by omega)).mono ?_
  rintro e w4 ⟨vc, rfl, hoc, q4⟩
  obtain ⟨avc, kvc, hvc⟩ : ∃ a k, vc = .slice a x.cells.length k := ⟨_, _, by have := (own_form hoc).1; rw [hLl] at this; exact this⟩
  subst hvc
  have hs3 : (w3.setCell ⟨w.heap.size, 3, none⟩ (.slice avr x.regs.length kvr)).heap.size = w3.heap.size := by simp [World.setCell]
  have B4 := hide (((unhide B3).set3 (.slice avr x.regs.length kvr)).ext q4)
  have ST := hide (Cpl.start (unhide HL) (unhide B4) hoc (by omega))
  have CB := hide (own_form hoc).2
  have CN := hide (fun h => own_nf hoc h)
  have hz4 : w3.heap.size ≤ w4.heap.size := by have := q4.size; omega
  have d4 := (unhide B4).2.2.2.2.1
  have g4 : w4.frozen? ⟨w.heap.size, 4, none⟩ = false := ((bcell q4).2 w.heap.size 4 (by omega)).trans (by rw [World.frozen?_setCell]; exact unhide FZ 4)
  have FZ4 := hide (show ∀ o, w4.frozen? ⟨w.heap.size, o, none⟩ = false from fun o => ((bcell q4).2 w.heap.size o (by omega)).trans (by rw [World.frozen?_setCell]; exact unhide FZ o))
  have X4 := X3s.trans q4
  have Q4 := hide q4
  clear hoc q4 c3 c4 f3 X3s
  go_wp2_with fail
  obtain ⟨W5, hW5⟩ : ∃ W, W = w4.setCell ⟨w.heap.size, 4, none⟩ (.slice avc x.cells.length kvc) := ⟨_, rfl⟩
  rw [← hW5] at ST ⊢
  have s5 : W5.heap.size = w4.heap.size := by rw [hW5]; simp [World.setCell]
  have X5 : Ext w W5 := by rw [hW5]; exact X4.setCell (Nat.le_refl _) _
  have HW5 := hide hW5
  clear hW5 d4 g4
  go_loopw [15] (fun i wr => ∃ (k : Nat) (pv : Nat → Value), k ≤ x.cells.length ∧ i = .int .i64 k ∧ Hid (Cpl w W5 wr x (.slice avr x.regs.length kvr) (.slice avc x.cells.length kvc) (.slice ag ng kg) pv (fun q => (L.getD q (Cl0, .slice none 0 0)).2) k)) (fun i _ => x.cells.length - (intOf i).toNat)
  case atStart => exact ⟨0, _, Nat.zero_le _, rfl, unhide ST⟩
  case round =>
    clear ST
    obtain ⟨k, pv, hk, rfl, hcp⟩ := hrel
    by_cases hlt : k < x.cells.length
    · obtain ⟨bc, hbc⟩ : ∃ bc, avc = some ⟨bc, 0, none⟩ := ⟨_, (unhide CB (by omega)).1⟩
      subst hbc
      have hbc0 : w3.heap.size ≤ bc ∧ bc < w4.heap.size := by have h1 := (unhide CN (by omega)).2; have h2 := (unhide CN (by omega)).1.1; rw [hs3] at h1; exact ⟨h1, h2⟩
      have XR : Ext w wr := (unhide hcp).on.ext X5 (fun q hq e => by have e1 : q = bc := e.1; omega)
      have hm : L.getD k (Cl0, .slice none 0 0) ∈ L := by
        have : L.getD k (Cl0, .slice none 0 0) = L[k]'(by omega) := by simp [hLl, hlt]
        rw [this]; exact List.getElem_mem _
      have h1 : (L.getD k (Cl0, .slice none 0 0)).1 = x.c k := by
        have e : x.cells[k] = (L.map (·.1))[k]'(by simpa [hLl] using hlt) := by simp [unhide HL]
        rw [← Hp.c_eq x k hlt, e]
        simp [hLl, hlt]
      have sp0 := unhide HLP _ hm
      rw [h1] at sp0
      obtain ⟨apk, kpk, hvk⟩ : ∃ a c, (L.getD k (Cl0, .slice none 0 0)).2 = .slice a (x.c k).prs.length c := let ⟨a, c, e, _⟩ := sp0; ⟨a, c, e⟩
      rw [hvk] at sp0
      have SP := hide sp0
      have p7 : wr.cell? ⟨bc, k * 8 + 7, none⟩ = some (.slice apk (x.c k).prs.length kpk) := by
        have := (unhide hcp).p7 k hlt
        rw [if_neg (by omega), hvk] at this
        exact this
      have c4 : wr.cell? ⟨w.heap.size, 4, none⟩ = some (.slice (some ⟨bc, 0, none⟩) x.cells.length kvc) := (unhide hcp).bx.2.2.2.2.1
      have f7 : wr.frozen? ⟨bc, k * 8 + 7, none⟩ = false := ((unhide hcp).nf (by omega)).2 _
      have hl2 := n3 k hlt
      have hbw : bc < wr.heap.size := cell_lt p7
      have hk0 : (0:Int) ≤ (k:Int) := by omega
      have hk1 : (k:Int) < (x.cells.length:Int) := by omega
      have hne : ¬ w.heap.size = bc := by omega
      have hne2 : ¬ bc = w.heap.size := by omega
      clear sp0 hm h1
      go_wp2_with fail
      go_region_with (go_at_call 163; refine (cloneP_any (x.c k).prs _ _ (SlP.ext XR.drew (unhide SP)) (by omega)).mono ?_; rintro e w6 ⟨v', rfl, hop, q6⟩; obtain ⟨a', k', hv'⟩ : ∃ a c, v' = .slice a (x.c k).prs.length c := ⟨_, _, (own_form hop).1⟩; subst hv'; have q6 := Ext.trans ((Ext.refl wr).drew) q6; have d4 := q6.keep c4; have d7 := q6.keep p7; have g7 := ((bcell q6).2 bc (k * 8 + 7) hbw).trans f7; have R := hide ((unhide hcp).step hlt ⟨by show w.heap.size + 2 ≤ bc; omega, by show bc < _; omega⟩ q6 hop); clear hop q6)
      all_goals
        go_wp2_with fail
        go_roundw
        case rel => exact ⟨k + 1, _, by omega, by go_num, unhide R⟩
        case measure => simp [intOf]; omega
    · have hk2 : k = x.cells.length := by omega
      subst hk2
      have XR : Ext w wr := (unhide hcp).on.ext X5 (fun q hq e => by
        have e1 : q = vblk (.slice avc x.cells.length kvc) := e.1
        have h1 := (unhide CN (by have := e.2; omega)).2
        rw [hs3] at h1
        omega)
      have hvc3 : 0 < x.cells.length → w3.heap.size ≤ vblk (.slice avc x.cells.length kvc) ∧ vblk (.slice avc x.cells.length kvc) < w4.heap.size := fun h => by
        have h1 := (unhide CN (by omega)).2
        rw [hs3] at h1
        exact ⟨h1, (unhide CN (by omega)).1.1⟩
      have WB : ∀ b, b < w3.heap.size → b ≠ w.heap.size → wr.heap[b]? = w3.heap[b]? := fun b hb hne => by
        have e1 : w4.heap[b]? = w3.heap[b]? := ((unhide Q4).block b (by rw [hs3]; exact hb)).trans (Below.heap_setCell _ _ _ _ hne)
        have e2 : W5.heap[b]? = w4.heap[b]? := by rw [unhide HW5]; exact Below.heap_setCell _ _ _ _ hne
        exact ((unhide hcp).on.block b (by omega) (fun e => by have e1 : b = vblk (.slice avc x.cells.length kvc) := e.1; have := (hvc3 e.2).1; omega)).trans (e2.trans e1)
      have RW := hide (show Rws (w.heap.size + 2) wr x _ _ _ _ _ from by
        have hb0 : ∀ b, (Value.slice avr x.regs.length kvr).ownBlock = some b → w.heap.size + 2 ≤ b ∧ b < w3.heap.size := fun b hb => by have := (unhide OR).lt b hb; simp at this; omega
        have hvb : vblk (.slice avr x.regs.length kvr) < w3.heap.size := by
          unfold vblk
          cases e : (Value.slice avr x.regs.length kvr).ownBlock with
          | none => simp; omega
          | some b => simp; exact (hb0 b e).2
        refine Rws.of (vr := .slice avr x.regs.length kvr) (bc := vblk (.slice avc x.cells.length kvc)) (pv := pv) (ownsRow_of_block (own_less (unhide OR) (by simp)) (fun b hb => WB b (hb0 b hb).2 (by have := (hb0 b hb).1; omega))) (unhide hcp).s (fun q hq => by have := (unhide hcp).p7 q hq; rw [if_pos hq] at this; exact this) (fun h => ⟨(unhide hcp).nf h, by have := (hvc3 h).1; omega⟩) (fun h => by have := (hvc3 h).1; omega) (fun q hq => ⟨own_less ((unhide hcp).pr q hq hq) (by omega), fun b hb => ?_⟩) (fun q q' hq hq' hne b hb => (unhide hcp).dp q q' hq hq' hne b hb)
        have h1 := (((unhide hcp).pr q hq hq).lt b hb).1
        have h2 := hvc3 (by omega)
        omega)
      have RG := hide (own_form (unhide OR)).2
      have rcell : ∀ o v, ((w.alloc (.cells #[iv x.room, iv x.used, iv x.born, .slice ar x.regs.length kr, .slice ac x.cells.length kc, iv x.phase, iv x.hand, iv x.sub, (.slice ag ng kg), iv x.per, iv x.start, iv x.rounds, iv x.forced] 33)).alloc (.cells #[iv 0, iv 0, iv 0, .slice none 0 0, .slice none 0 0, iv 0, iv 0, iv 0, .slice none 0 0, iv 0, iv 0, iv 0, iv 0] 33)).cell? ⟨w.heap.size + 1, o, none⟩ = some v → wr.cell? ⟨w.heap.size + 1, o, none⟩ = some v := fun o v h =>
        (World.cell?_of_block (a := ⟨w.heap.size + 1, o, none⟩) (WB (w.heap.size + 1) (by omega) (by omega))).trans (unhide rc o v h)
      have rfz : ∀ o, wr.frozen? ⟨w.heap.size + 1, o, none⟩ = false := fun o => (World.frozen?_of_block (a := ⟨w.heap.size + 1, o, none⟩) (WB (w.heap.size + 1) (by omega) (by omega))).trans (unhide RF o)
      have r0 := rcell 0 (iv 0) (by simp [go_sem])
      have r1 := rcell 1 (iv 0) (by simp [go_sem])
      have r2 := rcell 2 (iv 0) (by simp [go_sem])
      have r3 := rcell 3 (.slice none 0 0) (by simp [go_sem])
      have r4 := rcell 4 (.slice none 0 0) (by simp [go_sem])
      have r5 := rcell 5 (iv 0) (by simp [go_sem])
      have r6 := rcell 6 (iv 0) (by simp [go_sem])
      have r7 := rcell 7 (iv 0) (by simp [go_sem])
      have r8 := rcell 8 (.slice none 0 0) (by simp [go_sem])
      have r9 := rcell 9 (iv 0) (by simp [go_sem])
      have r10 := rcell 10 (iv 0) (by simp [go_sem])
      have r11 := rcell 11 (iv 0) (by simp [go_sem])
      have r12 := rcell 12 (iv 0) (by simp [go_sem])
      have f0 := rfz 0
      have f1 := rfz 1
      have f2 := rfz 2
      have f3 := rfz 3
      have f4 := rfz 4
      have f5 := rfz 5
      have f6 := rfz 6
      have f7 := rfz 7
      have f8 := rfz 8
      have f9 := rfz 9
      have f10 := rfz 10
      have f11 := rfz 11
      have f12 := rfz 12
      obtain ⟨b0, b1, b2, b3, b4, b5, b6, b7, b8, b9, b10, b11, b12⟩ := (unhide hcp).bx
      have hb0 : w.heap.size < wr.heap.size := cell_lt b0
      have hr0 : w.heap.size + 1 < wr.heap.size := cell_lt r0
      clear hcp rcell rfz WB hvc3
      go_wp2_with fail
      refine bodyPost_ret (v := x.v (.slice avr x.regs.length kvr) (.slice avc x.cells.length kvc) (.slice ag ng kg)) (by simp [results, Tryz.results121, go_sem, r0, r1, r2, r3, r4, r5, r6, r7, r8, r9, r10, r11, r12]) rfl ⟨_, _, rfl, ?_⟩
      refine (fun (F : Only (fun q => q = w.heap.size + 1) wr _) => ⟨⟨_, _, _, _, _, _, _, _, _, rfl, fun h => (unhide RG h).1, rfl, fun h => (unhide CB (by omega)).1, ((unhide RW).only F (fun h e => by have := ((unhide RW).nr h).2; omega) (fun h e => by have := ((unhide RW).nc h).2; omega) (fun q hq hl e => by have := ((unhide RW).pl q hq hl).2.2.2; omega)).less (by omega)⟩, F.ext XR (fun q hq e => by omega)⟩) ?_
      repeat (first | refine Only.setCell ?_ (by simp) _ | exact Only.refl _ _)
end Go.Proofs.YtkabcfhemljnbaaGreat
