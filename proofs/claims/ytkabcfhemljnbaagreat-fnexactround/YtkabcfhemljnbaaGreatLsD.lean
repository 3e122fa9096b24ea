import Derived.Test.YtkabcfhemljnbaaGreatLm
import Derived.Test.YtkabcfhemljnbaaGreatHx
import Derived.Deep.LoopGhost
import Derived.Test.YtkabcfhemljnbaaGreatSpecA
namespace Go.Proofs.YtkabcfhemljnbaaGreat

/-! What the rules 2 and 5 say, by lists of places and of values. -/
def valsTo (p : Nat → Bool) (f : Nat → Int) (k : Nat) : List Int := ((List.range k).filter p).map f
theorem valsTo_zero (p : Nat → Bool) (f : Nat → Int) : valsTo p f 0 = [] := rfl
theorem valsTo_yes (p : Nat → Bool) (f : Nat → Int) (k : Nat) (h : p k = true) : valsTo p f (k + 1) = valsTo p f k ++ [f k] := by
  simp [valsTo, List.range_succ, List.filter_append, h]
theorem valsTo_no (p : Nat → Bool) (f : Nat → Int) (k : Nat) (h : p k = false) : valsTo p f (k + 1) = valsTo p f k := by
  simp [valsTo, List.range_succ, List.filter_append, h]
theorem valsTo_mem (p : Nat → Bool) (f : Nat → Int) (k : Nat) (z : Int) : z ∈ valsTo p f k ↔ ∃ i, i < k ∧ p i = true ∧ f i = z := by
  simp [valsTo, and_assoc]
theorem valsTo_len (p : Nat → Bool) (f : Nat → Int) (k : Nat) : (valsTo p f k).length ≤ k := by
  unfold valsTo
  have := List.length_filter_le p (List.range k)
  simpa using this
theorem valsTo_nodup (p : Nat → Bool) (f : Nat → Int) (k : Nat) : (valsTo p f k).Nodup ↔ ∀ i j, i < j → j < k → p i = true → p j = true → f i ≠ f j := by
  unfold valsTo List.Nodup
  rw [List.pairwise_map, List.pairwise_filter, List.pairwise_iff_getElem]
  constructor
  · intro h i j hij hj pi pj
    have := h i j (by simp; omega) (by simpa using hj) hij
    simp at this
    exact this pi pj
  · intro h i j hi hj hij
    simp
    intro pi pj
    exact h i j hij (by simpa using hj) pi pj
def castI (i : Nat) : Int := (i : Int)
theorem places_nodup (p : Nat → Bool) (k : Nat) : (valsTo p castI k).Nodup := by
  rw [valsTo_nodup]; intro i j h _ _ _ e; unfold castI at e; omega

def isSt (x : Hp) (s : Int) (i : Nat) : Bool := (x.c i).st == s
def bornOf (x : Hp) (i : Nat) : Int := (x.c i).born
def toOf (x : Hp) (i : Nat) : Int := (x.c i).to
def births (x : Hp) (k : Nat) : List Int := valsTo (isSt x 1) (bornOf x) k
def targets (x : Hp) (k : Nat) : List Int := valsTo (isSt x 2) (toOf x) k
def frees (x : Hp) (k : Nat) : List Int := valsTo (isSt x 0) castI k

theorem apart_iff (x : Hp) (h : ∀ i, i < x.cells.length → CellOk x i) : Apart x ↔ (births x x.cells.length).Nodup ∧ (targets x x.cells.length).Nodup := by
  unfold births targets
  rw [valsTo_nodup, valsTo_nodup]
  constructor
  · intro a
    refine ⟨fun i j hij hj pi pj e => ?_, fun i j hij hj pi pj e => ?_⟩
    · simp [isSt] at pi pj
      unfold bornOf at e
      refine a j hj (by omega) i hij ⟨by omega, e, ?_⟩
      have h1 := h i (by omega)
      have h2 := h j hj
      unfold CellOk UsedOk at h1 h2
      omega
    · simp [isSt] at pi pj
      unfold toOf at e
      refine a j hj (by omega) i hij ⟨by omega, ?_, e⟩
      have h1 := h i (by omega)
      have h2 := h j hj
      unfold CellOk MovedOk Bare at h1 h2
      omega
  · intro ⟨hb, ht⟩ i hi hs k hk ⟨e1, e2, e3⟩
    have h1 := h i hi
    unfold CellOk at h1
    rcases h1 with h1 | h1 | h1
    · exact hs h1.1
    · exact ht k i hk hi (by simp [isSt]; omega) (by simp [isSt]; omega) e3
    · exact hb k i hk hi (by simp [isSt]; omega) (by simp [isSt]; omega) e2

theorem perm_of_sub {A B : List Int} (ha : A.Nodup) (hs : ∀ z, z ∈ A → z ∈ B) (hl : B.length ≤ A.length) : A.Perm B := by
  induction A generalizing B with
  | nil => cases B with
    | nil => exact List.Perm.refl _
    | cons _ _ => simp at hl
  | cons a A ih =>
    rw [List.nodup_cons] at ha
    have hm : a ∈ B := hs a List.mem_cons_self
    have hB := List.perm_cons_erase hm
    have hlen : (B.erase a).length = B.length - 1 := List.length_erase_of_mem hm
    have h2 := ih (B := B.erase a) ha.2 (fun z hz => by
      have : z ≠ a := fun e => ha.1 (e ▸ hz)
      exact (List.mem_erase_of_ne this).2 (hs z (List.mem_cons_of_mem _ hz))) (by rw [hlen]; simp at hl; omega)
    exact (h2.cons a).trans hB.symm

def isGray (x : Hp) (i : Nat) : Bool := (x.c i).color == 1
def grays (x : Hp) (k : Nat) : List Int := valsTo (isGray x) castI k
def MayBlack (x : Hp) (i : Nat) : Prop := Marking x ∨ (x.phase = 3 ∧ x.hand ≤ i)
/-- rule 5 as the program asks it -/
def R5b (x : Hp) : Prop :=
  (∀ i, i < x.cells.length → (x.c i).color = 2 → MayBlack x i) ∧ (¬ Marking x → (grays x x.cells.length).length = 0) ∧ x.gray.length = (grays x x.cells.length).length ∧
  (∀ g, g ∈ x.gray → (0 ≤ g ∧ g < x.cells.length) ∧ (x.c g.toNat).color = 1) ∧ x.gray.Nodup

theorem R5_iff (x : Hp) : R5 x ↔ R5b x := by
  constructor
  · intro ⟨h1, h2, h3⟩
    have hc : ∀ g, g ∈ x.gray → (0 ≤ g ∧ g < x.cells.length) ∧ (x.c g.toNat).color = 1 := fun g hg => by
      have hr := h3 g hg
      refine ⟨hr, ?_⟩
      have ho := h2 g.toNat (by omega)
      by_cases e : (x.c g.toNat).color = 1
      · exact e
      · have := ho.2.1 e
        unfold cnt at this
        rw [Int.toNat_of_nonneg hr.1] at this
        have := List.count_pos_iff.2 hg
        omega
    have hp : x.gray.Perm (grays x x.cells.length) := by
      rw [List.perm_iff_count]
      intro z
      by_cases hz : z ∈ x.gray
      · have hr := hc z hz
        have e1 := (h2 z.toNat (by omega)).1 hr.2
        unfold cnt at e1
        rw [Int.toNat_of_nonneg hr.1.1] at e1
        rw [e1]
        have hm : z ∈ grays x x.cells.length := (valsTo_mem _ _ _ _).2 ⟨z.toNat, by omega, by simp [isGray, hr.2], by unfold castI; omega⟩
        have := (places_nodup (isGray x) x.cells.length)
        rw [List.nodup_iff_count] at this
        have h4 := this z
        have h5 := List.count_pos_iff.2 hm
        unfold grays at h5 ⊢
        omega
      · rw [List.count_eq_zero.2 hz]
        symm
        rw [List.count_eq_zero]
        intro hm
        obtain ⟨i, hi, pi, e⟩ := (valsTo_mem _ _ _ _).1 hm
        have := (h2 i hi).1 (by simpa [isGray] using pi)
        have := List.count_pos_iff.1 (show 0 < List.count (i : Int) x.gray by unfold cnt at this; omega)
        unfold castI at e
        rw [e] at this
        exact hz this
    refine ⟨fun i hi hb => (h2 i hi).2.2 hb, fun hn => by rw [← hp.length_eq]; exact h1 hn, hp.length_eq, hc, ?_⟩
    rw [hp.nodup_iff]; exact places_nodup _ _
  · intro ⟨h1, h2, h3, h4, h5⟩
    have hp : x.gray.Perm (grays x x.cells.length) := perm_of_sub h5 (fun z hz => by
      have hr := h4 z hz
      exact (valsTo_mem _ _ _ _).2 ⟨z.toNat, by omega, by simp [isGray, hr.2], by unfold castI; omega⟩) (by omega)
    refine ⟨fun hn => by rw [h3]; exact h2 hn, fun i hi => ⟨fun e => ?_, fun e => ?_, fun e => h1 i hi e⟩, fun g hg => (h4 g hg).1⟩
    · have hm : (i : Int) ∈ x.gray := hp.mem_iff.2 ((valsTo_mem _ _ _ _).2 ⟨i, hi, by simp [isGray, e], rfl⟩)
      have h6 := List.count_pos_iff.2 hm
      rw [List.nodup_iff_count] at h5
      have := h5 (i : Int)
      unfold cnt; omega
    · unfold cnt
      rw [List.count_eq_zero]
      intro hm
      have := (h4 _ hm).2
      simp at this
      exact e this
end Go.Proofs.YtkabcfhemljnbaaGreat

namespace Go.Proofs.YtkabcfhemljnbaaGreat
open Go.RowKit
attribute [local go_sem ↓] Go.wp_at_zero Go.wp_at_succ

theorem infoInt : (Tryz.prog.info? 3).map (fun i => (i.zero, i.size, i.bytes)) = some (some (.int .i64 0), 1, 8) := by kernel_rfl

/-- the world behind 'q.items = append(q.items, x)' -/
theorem put_world {w w1 : World} {base bq oq g cap : Nat} {v : Value} {L : List Int} {x : Int} {o : Obj} (h : LsAt w base bq oq v L)
    (hown : w1.ownsRow base 3 1 (.slice (some ⟨g, 0, none⟩) (L.length + 1) cap) (L.length + 1) (L.map iv ++ [iv x])) (hg : (w.alloc o).grownBy w1 v.ownBlock) (hat : v.ownBlock = some g ∨ g = w.heap.size + 1) :
    LsAt (w1.setCell ⟨bq, oq, none⟩ (.slice (some ⟨g, 0, none⟩) (L.length + 1) cap)) base bq oq (.slice (some ⟨g, 0, none⟩) (L.length + 1) cap) (L ++ [x]) ∧
    QFr bq oq v (.slice (some ⟨g, 0, none⟩) (L.length + 1) cap) w (w1.setCell ⟨bq, oq, none⟩ (.slice (some ⟨g, 0, none⟩) (L.length + 1) cap)) ∧ w1.cell? ⟨bq, oq, none⟩ = some v ∧ w1.frozen? ⟨bq, oq, none⟩ = false := by
  have hlt := h.hlt
  have hne : g ≠ bq := by
    rcases hat with e | e
    · intro q; exact h.apart (q ▸ e)
    · omega
  have hs1 : w.heap.size + 1 ≤ w1.heap.size := by have := hg.size; simpa using this
  have hb : ∀ k, k < w.heap.size → v.ownBlock ≠ some k → w1.heap[k]? = w.heap[k]? := fun k hk hv =>
    (hg.block k (by simp; omega) (fun e => hv e.symm)).trans (Below.heap_alloc w o k hk)
  have hbq : w1.heap[bq]? = w.heap[bq]? := hb bq hlt h.apart
  have hc : w1.cell? ⟨bq, oq, none⟩ = some v := (World.cell?_of_block (a := ⟨bq, oq, none⟩) hbq).trans h.hd
  have hf : w1.frozen? ⟨bq, oq, none⟩ = false := (World.frozen?_of_block (a := ⟨bq, oq, none⟩) hbq).trans h.hf
  refine ⟨⟨World.cell?_setCell_same _ _ _ hc, by rw [World.frozen?_setCell]; exact hf, ?_, fun e => hne (by simpa [Value.ownBlock] using e)⟩, ⟨?_, ?_, ?_, ?_, fun k hk h1 h2 => ?_, fun o' ho => ?_, fun o' => ?_, ?_⟩, hc, hf⟩
  · refine ownsRow_of_block (by simpa using hown) (fun k hk => Below.heap_setCell _ _ _ _ ?_)
    simp [Value.ownBlock] at hk
    show k ≠ bq
    omega
  · exact hg.os
  · exact hg.tape
  · exact hg.output
  · have : (w1.setCell ⟨bq, oq, none⟩ (.slice (some ⟨g, 0, none⟩) (L.length + 1) cap)).heap.size = w1.heap.size := by simp [World.setCell]
    omega
  · rw [Below.heap_setCell _ _ _ _ (show k ≠ bq from h1)]
    exact hb k hk h2
  · rw [cell_other _ (.inr (fun e => ho e.symm))]
    exact World.cell?_of_block (a := ⟨bq, o', none⟩) hbq
  · rw [World.frozen?_setCell]
    exact World.frozen?_of_block (a := ⟨bq, o', none⟩) hbq
  · rcases hat with e | e
    · exact .inl e.symm
    · exact .inr ⟨g, rfl, by omega⟩

set_option maxRecDepth 100000 in
set_option maxHeartbeats 1000000 in
theorem put_ls (w : World) (base bq oq : Nat) (v : Value) (L : List Int) (x : Int) (h : LsAt w base bq oq v L) (hb : base ≤ w.heap.size) (ho : Ho L) (hn : L.length ≤ 100000) :
    Calls Tryz.prog 143 #[.pointer (some ⟨bq, oq, none⟩), .int .i64 x] w fun e w' => e = .returned (.tuple #[]) ∧ ∃ v' L', LsAt w' base bq oq v' L' ∧ Ho L' ∧ L'.Perm (x :: L) ∧ QFr bq oq v v' w w' := by
  obtain ⟨i0, hi, hz0, hz1, hz2⟩ := info_parts infoInt
  have hd := h.hd
  have hf := h.hf
  have hlt := h.hlt
  have HL := hide h
  have HO := hide (Rise.start ho x)
  clear h ho
  go_enter Tryz.func143, Tryz.ntmps143
  go_wp2_with (at_builtin; refine wpList_append_lies _ rfl _ _ 24 rfl base 3 i0 (.int .i64 0) 1 8 Tryz.underlying24 hi hz0 hz1 hz2 rfl (by decide) v L.length (L.map iv) rfl ((unhide HL).own.alloc _) ⟨w.heap.size, 0, none⟩ 1 1 [.int .i64 x] rfl rfl ?c1 ?c2 (by decide) ?c3 ?c4 ?c5 (w.heap.size + 1) (by simp) ?_)
  case c1 =>
    intro j u hj
    match j, hj with
    | 0, hj => simp at hj; subst hj; simp [Addr.add]
  case c2 => intro u hu; simp at hu; subst hu; rfl
  case c3 => unfold maxLen; omega
  case c4 => omega
  case c5 => simp; omega
  intro g cap w1 hown hgrow hat hglt
  obtain ⟨P1, P2, P3, P4⟩ := put_world (unhide HL) hown hgrow hat
  have Q1 := hide P1
  have Q2 := hide P2
  clear hown hgrow hat P1 P2 hd hf
  go_wp2_with fail
  go_loopw [4] (fun si wr => ∃ (a : Nat) (M : List Int), a < M.length ∧ si = .int .i64 a ∧ M.length = L.length + 1 ∧ LsAt wr base bq oq (.slice (some ⟨g, 0, none⟩) (L.length + 1) cap) M ∧ Rise M a ∧ M.Perm (x :: L) ∧ QFr bq oq v (.slice (some ⟨g, 0, none⟩) (L.length + 1) cap) w wr) (fun si _ => (intOf si).toNat)
  case atStart => exact ⟨L.length, L ++ [x], by simp, by go_num, by simp, unhide Q1, unhide HO, List.perm_append_singleton _ _, unhide Q2⟩
  case round =>
    clear HO HL P3 P4 Q1 Q2
    obtain ⟨a, M, ha, rfl, hM, hls, hr, hp, hq⟩ := hrel
    have HLS := hide hls
    have HR := hide hr
    have HP := hide hp
    have HQ := hide hq
    have hd := hls.hd
    obtain ⟨xa, hxa⟩ : ∃ z, it M a = z := ⟨_, rfl⟩
    have ca := hls.cell a ha
    rw [hxa] at ca
    by_cases h0 : 0 < a
    · obtain ⟨u, hu⟩ : ∃ u, u = (a - 1) / 2 := ⟨_, rfl⟩
      have hum : u < M.length := by omega
      obtain ⟨xu, hxu⟩ : ∃ z, it M u = z := ⟨_, rfl⟩
      have cu := hls.cell u hum
      rw [hxu] at cu
      have hq2 : ((a : Int) - 1).tdiv 2 = (u : Int) := by
        rw [Int.tdiv_eq_ediv_of_nonneg (by omega)]; omega
      have i0 : (0 : Int) < (a : Int) := by omega
      have i1 : (0 : Int) ≤ (a : Int) := by omega
      have i2 : (a : Int) < (L.length : Int) + 1 := by omega
      have i3 : (0 : Int) ≤ (u : Int) := by omega
      have i4 : (u : Int) < (L.length : Int) + 1 := by omega
      have hua : u < a := by omega
      have HU := hide hu
      clear hls hr hp hq hu
      by_cases hc : xu ≤ xa
      · have Y := hide (Rise.done (unhide HR) (by rw [← unhide HU, hxu, hxa]; exact hc))
        go_wp2_with fail
        go_quiet (fail)
        go_wp2_with fail
        try simp only [Exit.inBlock, Exit.then]
        refine bodyPost_ret (results_none rfl _ _ _) rfl ?_
        exact ⟨rfl, _, M, (unhide HLS).ext ((Ext.refl _).drewN _), unhide Y, unhide HP, (unhide HQ).drewN _⟩
      · have hc2 : decide (xu ≤ xa) = false := decide_eq_false hc
        have hc3 : xa < xu := by omega
        have R2 := hide (Rise.up (unhide HR) h0 ha (unhide HU) (by rw [hxu, hxa]; exact hc3))
        clear hc hc3
        go_wp2_with fail
        go_quiet (fail)
        go_wp2_with fail
        refine (swap_ls _ base bq oq g (L.length + 1) cap u a M ((unhide HLS).ext ((Ext.refl _).drewN _)) (by omega) (by omega)).mono ?_
        rintro e w2 ⟨rfl, ls2, q2⟩
        have LS2 := hide ls2
        have QF2 := hide (((unhide HQ).drewN _).trans q2)
        clear ls2 q2
        go_wp2_with fail
        go_roundw
        case rel => exact ⟨u, swp M u a, by rw [swp_len]; omega, by go_num, by rw [swp_len]; omega, unhide LS2, unhide R2, (swp_perm M u a hum ha).trans (unhide HP), unhide QF2⟩
        case measure => simp [intOf]; omega
    · have h00 : a = 0 := by omega
      subst h00
      have Y := hide (Rise.top (unhide HR))
      clear hls hr hp hq
      go_wp2_with fail
      go_end0
      exact ⟨rfl, _, M, unhide HLS, unhide Y, unhide HP, unhide HQ⟩
end Go.Proofs.YtkabcfhemljnbaaGreat

namespace Go.Proofs.YtkabcfhemljnbaaGreat
open Go.RowKit
attribute [local go_sem ↓] Go.wp_at_zero Go.wp_at_succ

theorem swap_lsI (w : World) (base bq oq g n cap i j : Nat) (I J : Int) (L : List Int) (hI : I = (i : Int)) (hJ : J = (j : Int)) (h : LsAt w base bq oq (.slice (some ⟨g, 0, none⟩) n cap) L) (hi : i < n) (hj : j < n) :
    Calls Tryz.prog 173 #[.pointer (some ⟨bq, oq, none⟩), .int .i64 I, .int .i64 J] w fun e w' => e = .returned (.tuple #[]) ∧ LsAt w' base bq oq (.slice (some ⟨g, 0, none⟩) n cap) (swp L i j) ∧ QFr bq oq (.slice (some ⟨g, 0, none⟩) n cap) (.slice (some ⟨g, 0, none⟩) n cap) w w' := by
  subst hI; subst hJ; exact swap_ls w base bq oq g n cap i j L h hi hj

set_option maxRecDepth 100000 in
set_option maxHeartbeats 2000000 in
theorem sink_ls (w : World) (base bq oq g n cap : Nat) (L : List Int) (h : LsAt w base bq oq (.slice (some ⟨g, 0, none⟩) n cap) L) (hF : Fall L 0) (hn : n ≤ 100000) :
    Calls Tryz.prog 208 #[.pointer (some ⟨bq, oq, none⟩)] w fun e w' => e = .returned (.tuple #[]) ∧ ∃ L', LsAt w' base bq oq (.slice (some ⟨g, 0, none⟩) n cap) L' ∧ Ho L' ∧ L'.Perm L ∧ QFr bq oq (.slice (some ⟨g, 0, none⟩) n cap) (.slice (some ⟨g, 0, none⟩) n cap) w w' := by
  have hl := h.len.1
  have hlc := h.len.2
  have HL := hide h
  have HFF := hide hF
  clear h hF
  go_enter Tryz.func208, Tryz.ntmps208
  go_wp2_with fail
  go_loopw [2] (fun si wr => ∃ (a : Nat) (M : List Int), a ≤ n ∧ si = .int .i64 a ∧ M.length = n ∧ LsAt wr base bq oq (.slice (some ⟨g, 0, none⟩) n cap) M ∧ Fall M a ∧ M.Perm L ∧ QFr bq oq (.slice (some ⟨g, 0, none⟩) n cap) (.slice (some ⟨g, 0, none⟩) n cap) w wr) (fun si _ => n - (intOf si).toNat)
  case atStart => exact ⟨0, L, Nat.zero_le _, rfl, hl.symm, unhide HL, unhide HFF, List.Perm.refl _, QFr.refl _ _ _ _⟩
  case round =>
    clear HFF HL hl
    obtain ⟨a, M, ha, rfl, hM, hls, hr, hp, hq⟩ := hrel
    have HLS := hide hls
    have HR := hide hr
    have HP := hide hp
    have HQ := hide hq
    have hd := hls.hd
    have i0 : (0 : Int) ≤ (a : Int) := by omega
    have i1 : (a : Int) ≤ 100000 := by omega
    by_cases hb : n ≤ 2 * a + 1
    · have hb2 : (n : Int) ≤ 2 * (a : Int) + 1 := by omega
      have Y := hide (Fall.bottom (unhide HR) (by omega))
      clear hls hr hp hq hb
      go_wp2_with fail
      try simp only [Exit.inBlock, Exit.then]
      refine bodyPost_ret (results_none rfl _ _ _) rfl ?_
      exact ⟨rfl, M, unhide HLS, unhide Y, unhide HP, unhide HQ⟩
    · have hb2 : ¬ (n : Int) ≤ 2 * (a : Int) + 1 := by omega
      have hb3 : 2 * (a : Int) + 1 < (n : Int) := by omega
      have j0 : (0 : Int) ≤ 2 * (a : Int) + 1 := by omega
      have j1 : (2 * (a : Int) + 1).toNat = 2 * a + 1 := by omega
      have j2 : (a : Int) < (n : Int) := by omega
      have hwr : IntKind.i64.wrap (2 * (a : Int) + 1 + 1) = 2 * (a : Int) + 2 := by rw [IntKind.wrap_i64]; omega
      obtain ⟨xa, hxa⟩ : ∃ z, it M a = z := ⟨_, rfl⟩
      have ca := hls.cell a (by omega)
      rw [hxa] at ca
      obtain ⟨xl, hxl⟩ : ∃ z, it M (2 * a + 1) = z := ⟨_, rfl⟩
      have cl := hls.cell (2 * a + 1) (by omega)
      rw [hxl] at cl
      by_cases hr2 : 2 * a + 2 < n
      · obtain ⟨xr, hxr⟩ : ∃ z, it M (2 * a + 2) = z := ⟨_, rfl⟩
        have cr := hls.cell (2 * a + 2) (by omega)
        rw [hxr] at cr
        have k0 : 2 * (a : Int) + 2 < (n : Int) := by omega
        have k1 : (0 : Int) ≤ 2 * (a : Int) + 2 := by omega
        have k2 : (2 * (a : Int) + 2).toNat = 2 * a + 2 := by omega
        by_cases ht : xr < xl
        · have LE := hide (Lesser.right (by omega) (by rw [hxr, hxl]; exact ht) : Lesser M a (2 * a + 2))
          clear hls hr hp hq hb
          by_cases hc : xa ≤ xr
          · have Y := hide (Fall.done (unhide HR) (unhide LE) (by rw [hxa, hxr]; exact hc))
            go_wp2_with fail
            go_quiet (fail)
            go_wp2_with fail
            go_quiet (fail)
            go_wp2_with fail
            try simp only [Exit.inBlock, Exit.then]
            refine bodyPost_ret (results_none rfl _ _ _) rfl ?_
            exact ⟨rfl, M, (unhide HLS).ext (by first | exact ((Ext.refl _).drewN _).drewN _ | exact (Ext.refl _).drewN _), unhide Y, unhide HP, by first | exact ((unhide HQ).drewN _).drewN _ | exact (unhide HQ).drewN _⟩
          · have hc2 : decide (xa ≤ xr) = false := decide_eq_false hc
            have hc3 : xr < xa := by omega
            have R2 := hide (Fall.down (unhide HR) (unhide LE) (by rw [hxa, hxr]; exact hc3))
            have sl : 2 * a + 2 < M.length := (unhide LE).2.1
            have ez : ((2 * a + 2 : Nat) : Int) = 2 * (a : Int) + 2 := by omega
            clear hc hc3
            go_wp2_with fail
            go_quiet (fail)
            go_wp2_with fail
            go_quiet (fail)
            go_wp2_with fail
            refine (swap_lsI _ base bq oq g n cap a (2 * a + 2) (a : Int) (2 * (a : Int) + 2) M rfl ez.symm ((unhide HLS).ext (by first | exact ((Ext.refl _).drewN _).drewN _ | exact (Ext.refl _).drewN _)) (by omega) (by omega)).mono ?_
            rintro e w2 ⟨rfl, ls2, q2⟩
            have LS2 := hide ls2
            have QF2 := hide (QFr.trans (by first | exact ((unhide HQ).drewN _).drewN _ | exact (unhide HQ).drewN _) q2)
            clear ls2 q2
            go_wp2_with fail
            go_roundw
            case rel => exact ⟨2 * a + 2, swp M a (2 * a + 2), by omega, by go_num, by rw [swp_len]; omega, unhide LS2, unhide R2, (swp_perm M a (2 * a + 2) (by omega) sl).trans (unhide HP), unhide QF2⟩
            case measure => simp [intOf]; omega
        · have LE := hide (Lesser.left (by omega) (fun _ => by rw [hxr, hxl]; omega) : Lesser M a (2 * a + 1))
          have ht2 : decide (xr < xl) = false := decide_eq_false ht
          clear hls hr hp hq hb ht
          by_cases hc : xa ≤ xl
          · have Y := hide (Fall.done (unhide HR) (unhide LE) (by rw [hxa, hxl]; exact hc))
            go_wp2_with fail
            go_quiet (fail)
            go_wp2_with fail
            go_quiet (fail)
            go_wp2_with fail
            try simp only [Exit.inBlock, Exit.then]
            refine bodyPost_ret (results_none rfl _ _ _) rfl ?_
            exact ⟨rfl, M, (unhide HLS).ext (by first | exact ((Ext.refl _).drewN _).drewN _ | exact (Ext.refl _).drewN _), unhide Y, unhide HP, by first | exact ((unhide HQ).drewN _).drewN _ | exact (unhide HQ).drewN _⟩
          · have hc2 : decide (xa ≤ xl) = false := decide_eq_false hc
            have hc3 : xl < xa := by omega
            have R2 := hide (Fall.down (unhide HR) (unhide LE) (by rw [hxa, hxl]; exact hc3))
            have sl : 2 * a + 1 < M.length := (unhide LE).2.1
            have ez : ((2 * a + 1 : Nat) : Int) = 2 * (a : Int) + 1 := by omega
            clear hc hc3
            go_wp2_with fail
            go_quiet (fail)
            go_wp2_with fail
            go_quiet (fail)
            go_wp2_with fail
            refine (swap_lsI _ base bq oq g n cap a (2 * a + 1) (a : Int) (2 * (a : Int) + 1) M rfl ez.symm ((unhide HLS).ext (by first | exact ((Ext.refl _).drewN _).drewN _ | exact (Ext.refl _).drewN _)) (by omega) (by omega)).mono ?_
            rintro e w2 ⟨rfl, ls2, q2⟩
            have LS2 := hide ls2
            have QF2 := hide (QFr.trans (by first | exact ((unhide HQ).drewN _).drewN _ | exact (unhide HQ).drewN _) q2)
            clear ls2 q2
            go_wp2_with fail
            go_roundw
            case rel => exact ⟨2 * a + 1, swp M a (2 * a + 1), by omega, by go_num, by rw [swp_len]; omega, unhide LS2, unhide R2, (swp_perm M a (2 * a + 1) (by omega) sl).trans (unhide HP), unhide QF2⟩
            case measure => simp [intOf]; omega
      · have LE := hide (Lesser.left (by omega) (fun q => by omega) : Lesser M a (2 * a + 1))
        have hr3 : decide (2 * (a : Int) + 2 < (n : Int)) = false := decide_eq_false (by omega)
        clear hls hr hp hq hb hr2
        by_cases hc : xa ≤ xl
        · have Y := hide (Fall.done (unhide HR) (unhide LE) (by rw [hxa, hxl]; exact hc))
          go_wp2_with fail
          go_quiet (fail)
          go_wp2_with fail
          go_quiet (fail)
          go_wp2_with fail
          try simp only [Exit.inBlock, Exit.then]
          refine bodyPost_ret (results_none rfl _ _ _) rfl ?_
          exact ⟨rfl, M, (unhide HLS).ext (by first | exact ((Ext.refl _).drewN _).drewN _ | exact (Ext.refl _).drewN _), unhide Y, unhide HP, by first | exact ((unhide HQ).drewN _).drewN _ | exact (unhide HQ).drewN _⟩
        · have hc2 : decide (xa ≤ xl) = false := decide_eq_false hc
          have hc3 : xl < xa := by omega
          have R2 := hide (Fall.down (unhide HR) (unhide LE) (by rw [hxa, hxl]; exact hc3))
          have sl : 2 * a + 1 < M.length := (unhide LE).2.1
          have ez : ((2 * a + 1 : Nat) : Int) = 2 * (a : Int) + 1 := by omega
          clear hc hc3
          go_wp2_with fail
          go_quiet (fail)
          go_wp2_with fail
          go_quiet (fail)
          go_wp2_with fail
          refine (swap_lsI _ base bq oq g n cap a (2 * a + 1) (a : Int) (2 * (a : Int) + 1) M rfl ez.symm ((unhide HLS).ext (by first | exact ((Ext.refl _).drewN _).drewN _ | exact (Ext.refl _).drewN _)) (by omega) (by omega)).mono ?_
          rintro e w2 ⟨rfl, ls2, q2⟩
          have LS2 := hide ls2
          have QF2 := hide (QFr.trans (by first | exact ((unhide HQ).drewN _).drewN _ | exact (unhide HQ).drewN _) q2)
          clear ls2 q2
          go_wp2_with fail
          go_roundw
          case rel => exact ⟨2 * a + 1, swp M a (2 * a + 1), by omega, by go_num, by rw [swp_len]; omega, unhide LS2, unhide R2, (swp_perm M a (2 * a + 1) (by omega) sl).trans (unhide HP), unhide QF2⟩
          case measure => simp [intOf]; omega
end Go.Proofs.YtkabcfhemljnbaaGreat

namespace Go.Proofs.YtkabcfhemljnbaaGreat
open Go.RowKit
attribute [local go_sem ↓] Go.wp_at_zero Go.wp_at_succ

theorem take_none (w : World) (base bq oq : Nat) (v : Value) (L : List Int) (h : LsAt w base bq oq v L) (hn : L.length = 0) :
    Calls Tryz.prog 194 #[.pointer (some ⟨bq, oq, none⟩)] w fun e w' => e = .returned (.tuple #[.int .i64 0, .bool false]) ∧ w' = w := by
  obtain ⟨ad, cap, rfl⟩ := h.empty hn
  have hd := h.hd
  clear h
  go_enter Tryz.func194, Tryz.ntmps194
  go_wp2_with fail
  refine (first_none _ bq oq ad cap hd).mono ?_
  rintro e w1 ⟨rfl, rfl⟩
  go_wp2_with fail
  go_ret2
  exact ⟨rfl, rfl⟩

/-- the last place cut off -/
theorem LsAt.cut {w : World} {base bq oq g n cap : Nat} {L : List Int} (h : LsAt w base bq oq (.slice (some ⟨g, 0, none⟩) (n + 1) cap) L) :
    LsAt (w.setCell ⟨bq, oq, none⟩ (.slice (some ⟨g, 0, none⟩) n cap)) base bq oq (.slice (some ⟨g, 0, none⟩) n cap) (L.take n) ∧
    QFr bq oq (.slice (some ⟨g, 0, none⟩) (n + 1) cap) (.slice (some ⟨g, 0, none⟩) n cap) w (w.setCell ⟨bq, oq, none⟩ (.slice (some ⟨g, 0, none⟩) n cap)) := by
  have hne : g ≠ bq := fun e => h.apart (by rw [← e]; rfl)
  obtain ⟨hl, hc⟩ := h.len
  have hsp : L = L.take n ++ L.drop n := (List.take_append_drop n L).symm
  have hlen : (L.take n).length = n := by simp; omega
  have how : w.ownsRow base 3 1 (.slice (some ⟨g, 0, none⟩) n cap) n ((L.take n).map iv) := by
    refine ownsRow_pop (last := (L.drop n).map iv) (by simp; omega) ?_
    have := h.own
    rw [← hl] at this
    rw [← List.map_append, List.take_append_drop]
    exact this
  refine ⟨⟨World.cell?_setCell_same _ _ _ h.hd, by rw [World.frozen?_setCell]; exact h.hf, ?_, fun e => hne (by simpa [Value.ownBlock] using e)⟩, ⟨rfl, rfl, rfl, by simp [World.setCell], fun k _ h1 _ => Below.heap_setCell _ _ _ _ (show k ≠ bq from h1), fun o ho => cell_other _ (.inr (fun e => ho e.symm)), fun o => by rw [World.frozen?_setCell], .inl rfl⟩⟩
  rw [hlen]
  refine ownsRow_of_block how (fun k hk => Below.heap_setCell _ _ _ _ ?_)
  simp [Value.ownBlock] at hk
  show k ≠ bq
  omega

set_option maxRecDepth 100000 in
set_option maxHeartbeats 2000000 in
theorem take_some (w : World) (base bq oq : Nat) (v : Value) (L : List Int) (h : LsAt w base bq oq v L) (hn : 0 < L.length) (hO : Ho L) (hm : L.length ≤ 100000) :
    Calls Tryz.prog 194 #[.pointer (some ⟨bq, oq, none⟩)] w fun e w' => e = .returned (.tuple #[.int .i64 (it L 0), .bool true]) ∧ ∃ v' L', LsAt w' base bq oq v' L' ∧ Ho L' ∧ (it L 0 :: L').Perm L ∧ QFr bq oq v v' w w' := by
  obtain ⟨g, cap, rfl, hg⟩ := h.form hn
  obtain ⟨n, hn2⟩ : ∃ n, L.length = n + 1 := ⟨L.length - 1, by omega⟩
  rw [hn2] at h ⊢
  have hlc := h.len.2
  have hd := h.hd
  obtain ⟨x0, hx0⟩ : ∃ z, it L 0 = z := ⟨_, rfl⟩
  have c0 := h.cell 0 hn
  rw [hx0] at c0 ⊢
  have HL := hide h
  have HF := hide (Fall.start hO)
  have HPm := hide (cutl_perm L hn)
  have hn3 : n ≤ 100000 := by omega
  have hcl : cutl L = (swp L 0 n).take n := by unfold cutl; rw [hn2]; simp
  have HCL := hide hcl
  have HN := hide hn2
  have HX := hide hx0
  have i0 : (0 : Int) ≤ (n : Int) := by omega
  have i1 : (n : Int) ≤ (cap : Int) := by omega
  clear h hO hn hm hcl hn2 hx0
  go_enter Tryz.func194, Tryz.ntmps194
  go_wp2_with fail
  refine (first_some _ bq oq g 0 (n + 1) cap x0 (by omega) hd c0).mono ?_
  rintro e w1 ⟨rfl, rfl⟩
  go_wp2_with fail
  refine (swap_lsI _ base bq oq g (n + 1) cap 0 n 0 (n : Int) L rfl rfl (unhide HL) (by omega) (by omega)).mono ?_
  rintro e w2 ⟨rfl, ls2, q2⟩
  have LS2 := hide ls2
  have hd2 := ls2.hd
  have hf2 := ls2.hf
  have Q2 := hide q2
  clear ls2 q2 hd c0
  go_wp2_with fail
  have LC := (unhide LS2).cut
  rw [← unhide HCL] at LC
  refine (sink_ls _ base bq oq g n cap (cutl L) LC.1 (unhide HF) hn3).mono ?_
  rintro e w3 ⟨rfl, L3, ls3, ho3, p3, q3⟩
  have FIN := hide (show LsAt w3 base bq oq (.slice (some ⟨g, 0, none⟩) n cap) L3 ∧ Ho L3 ∧ (x0 :: L3).Perm L ∧ QFr bq oq (.slice (some ⟨g, 0, none⟩) (n + 1) cap) (.slice (some ⟨g, 0, none⟩) n cap) w1 w3 from
    ⟨ls3, ho3, by have := unhide HPm; rw [unhide HX] at this; exact (p3.cons x0).trans this, ((unhide Q2).trans LC.2).trans q3⟩)
  clear LC ls3 ho3 p3 q3
  go_wp2_with fail
  go_ret2
  exact ⟨rfl, _, L3, unhide FIN⟩

set_option maxRecDepth 100000 in
set_option maxHeartbeats 2000000 in
theorem drain_ls (w : World) (base bq oq : Nat) (v : Value) (L : List Int) (h : LsAt w base bq oq v L) (hO : Ho L) (hm : L.length ≤ 100000) :
    Calls Tryz.prog 177 #[.pointer (some ⟨bq, oq, none⟩)] w fun e w' => ∃ r : Bool, Hid (e = .returned (.bool r)) ∧ (r = true ↔ L.Nodup) ∧ ∃ v', QFr bq oq v v' w w' := by
  have HL := hide h
  have HO := hide hO
  clear h hO
  go_enter Tryz.func177, Tryz.ntmps177
  go_wp2_with fail
  go_loopg [3] (L.length + 1) (fun gh sd wr => ∃ (d : Bool) (v1 : Value) (M : List Int), sd = .bool d ∧ M.length + 1 ≤ gh ∧ M.length ≤ L.length ∧ LsAt wr base bq oq v1 M ∧ Ho M ∧ Hid ((d = true ∧ M.Nodup) ↔ L.Nodup) ∧ QFr bq oq v v1 w wr)
  case atStart => exact ⟨true, v, L, rfl, Nat.le_refl _, Nat.le_refl _, unhide HL, unhide HO, by show _ ↔ _; simp, QFr.refl _ _ _ _⟩
  case round =>
    clear HL HO
    obtain ⟨d, v1, M, rfl, hgh, hML, hls, ho, hnd, hq⟩ := hrel
    have HLS := hide hls
    have HO := hide ho
    have HQ := hide hq
    clear hls ho hq
    by_cases h0 : M.length = 0
    · have E := hide (show d = true ↔ L.Nodup by
        have := unhide hnd
        rw [List.length_eq_zero_iff.1 h0] at this
        simpa using this)
      clear hnd
      go_wp2_with fail
      refine (take_none _ base bq oq v1 M (unhide HLS) h0).mono ?_
      rintro e w1 ⟨rfl, rfl⟩
      go_wp2_with fail
      go_ret
      exact ⟨d, rfl, unhide E, v1, unhide HQ⟩
    · go_wp2_with fail
      refine (take_some _ base bq oq v1 M (unhide HLS) (by omega) (unhide HO) (by omega)).mono ?_
      rintro e w1 ⟨rfl, v2, M2, ls2, ho2, p2, q2⟩
      have hlen : M2.length + 1 = M.length := by have := p2.length_eq; simpa using this
      have LS2 := hide ls2
      have HO2 := hide ho2
      have P2 := hide p2
      have Q2 := hide ((unhide HQ).trans q2)
      clear q2 ho2 p2
      by_cases h2 : M2.length = 0
      · obtain ⟨ad, cap2, rfl⟩ := ls2.empty h2
        have hd2 := ls2.hd
        have S := hide (show (d = true ∧ M2.Nodup) ↔ L.Nodup by
          have e1 := unhide hnd
          rw [drain_same (unhide P2) (unhide HO) rfl (unhide HO2) (.inl (List.length_eq_zero_iff.1 h2))] at e1
          exact e1)
        clear ls2 hnd
        go_wp2_with fail
        refine (first_none _ bq oq ad cap2 hd2).mono ?_
        rintro e w2 ⟨rfl, rfl⟩
        go_wp2_with fail
        go_roundg (M2.length + 1)
        case rel => exact ⟨d, _, M2, rfl, Nat.le_refl _, by omega, unhide LS2, unhide HO2, unhide S, unhide Q2⟩
        case measure => omega
      · obtain ⟨g2, cap2, rfl, hg2⟩ := ls2.form (by omega)
        have hd2 := ls2.hd
        obtain ⟨y0, hy0⟩ : ∃ z, it M2 0 = z := ⟨_, rfl⟩
        obtain ⟨x0, hx0⟩ : ∃ z, it M 0 = z := ⟨_, rfl⟩
        have cy := ls2.cell 0 (by omega)
        rw [hy0] at cy
        rw [hx0]
        cases t : (y0 == x0)
        · have S := hide (show (d = true ∧ M2.Nodup) ↔ L.Nodup by
            have e1 := unhide hnd
            have t2 : ¬ y0 = x0 := by simpa using t
            rw [drain_same (unhide P2) (unhide HO) rfl (unhide HO2) (.inr (by rw [hy0, hx0]; exact t2))] at e1
            exact e1)
          clear ls2 hnd hy0 hx0
          go_wp2_with fail
          refine (first_some _ bq oq g2 0 M2.length cap2 y0 (by omega) hd2 cy).mono ?_
          rintro e w2 ⟨rfl, rfl⟩
          go_wp2_with fail
          go_roundg (M2.length + 1)
          case rel => exact ⟨d, _, M2, rfl, Nat.le_refl _, by omega, unhide LS2, unhide HO2, unhide S, unhide Q2⟩
          case measure => omega
        · have S := hide (show (false = true ∧ M2.Nodup) ↔ L.Nodup by
            have e1 := unhide hnd
            have t2 : y0 = x0 := by simpa using t
            have := drain_twice (unhide P2) (by omega) (by rw [hy0, hx0]; exact t2)
            constructor
            · intro f; simp at f
            · intro f; exact (this (e1.2 f).2).elim)
          clear ls2 hnd hy0 hx0
          go_wp2_with fail
          refine (first_some _ bq oq g2 0 M2.length cap2 y0 (by omega) hd2 cy).mono ?_
          rintro e w2 ⟨rfl, rfl⟩
          go_wp2_with fail
          go_roundg (M2.length + 1)
          case rel => exact ⟨false, _, M2, rfl, Nat.le_refl _, by omega, unhide LS2, unhide HO2, unhide S, unhide Q2⟩
          case measure => omega
end Go.Proofs.YtkabcfhemljnbaaGreat
