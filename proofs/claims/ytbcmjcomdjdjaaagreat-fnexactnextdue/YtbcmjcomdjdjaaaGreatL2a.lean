import Derived.Test.YtbcmjcomdjdjaaaGreatL1r
import Derived.Test.YtbcmjcomdjdjaaaGreatLs
import Derived.OwnWalk
import Derived.Deep.AppendLies
import Derived.Test.YtbcmjcomdjdjaaaGreatImpD
import Derived.Deep.LoopGhost
import Derived.Test.YtbcmjcomdjdjaaaGreatSpecC
namespace Go.Proofs.YtbcmjcomdjdjaaaGreat
open Go.RowKit
attribute [local go_sem ↓] Go.wp_at_zero Go.wp_at_succ

/-- the place to which a place leads -/
def lead2 (x : Hp) (i : Nat) : Nat := if ((x.c i).st == 2) = true then (x.c i).to.toNat else i

/-- the model's list of what was met, with the flags beside it -/
structure Sn (w : World) (base bs n : Nat) (v : Value) (L : List Int) : Prop where
  hb : base ≤ bs ∧ bs < w.heap.size
  s : ∀ i, i < n → w.cell? ⟨bs, i, none⟩ = some (.bool (decide ((i : Int) ∈ L)))
  f : ∀ i, i < n → w.frozen? ⟨bs, i, none⟩ = false
  own : w.ownsRow base 3 1 v L.length (L.map iv)
  ap : v.ownBlock ≠ some bs
  nd : L.Nodup
  rg : ∀ z, z ∈ L → 0 ≤ z ∧ z < n
theorem Sn.ext {w w' : World} {base bs n : Nat} {v : Value} {L : List Int} (h : Sn w base bs n v L) (e : Ext w w') : Sn w' base bs n v L :=
  ⟨⟨h.hb.1, Nat.lt_of_lt_of_le h.hb.2 e.size⟩, fun i hi => e.keep (h.s i hi), fun i hi => by rw [e.frozen (p := ⟨bs, i, none⟩) h.hb.2]; exact h.f i hi, ownsRow_of_block h.own (fun k hk => e.block k (h.own.lt k hk).2), h.ap, h.nd, h.rg⟩
theorem Sn.len {w : World} {base bs n : Nat} {v : Value} {L : List Int} (h : Sn w base bs n v L) : L.length ≤ n := by
  have hs : ∀ z, z ∈ L → z ∈ (List.range n).map (fun i : Nat => (i : Int)) := fun z hz => by
    have := h.rg z hz
    exact List.mem_map.2 ⟨z.toNat, by simp; omega, by omega⟩
  have := List.Nodup.length_le_of_subset h.nd hs
  simpa using this
/-- what a marking leaves as it was -/
structure Mfr (bs : Nat) (v v' : Value) (w w' : World) : Prop where
  os : w'.os = w.os
  tape : w'.tape = w.tape
  output : w'.output = w.output
  size : w.heap.size ≤ w'.heap.size
  block : ∀ k : Nat, k < w.heap.size → k ≠ bs → v.ownBlock ≠ some k → w'.heap[k]? = w.heap[k]?
  own : v'.ownBlock = v.ownBlock ∨ ∃ g, v'.ownBlock = some g ∧ w.heap.size ≤ g
theorem Mfr.of_ext {bs : Nat} {v : Value} {w w' : World} (e : Ext w w') : Mfr bs v v w w' := ⟨e.os, e.tape, e.output, e.size, fun k hk _ _ => e.block k hk, .inl rfl⟩
theorem Mfr.after {bs : Nat} {v v' : Value} {w w1 w2 : World} (e : Ext w w1) (q : Mfr bs v v' w1 w2) : Mfr bs v v' w w2 :=
  ⟨q.os.trans e.os, q.tape.trans e.tape, q.output.trans e.output, Nat.le_trans e.size q.size, fun k hk h1 h2 => (q.block k (Nat.lt_of_lt_of_le hk e.size) h1 h2).trans (e.block k hk), by
    rcases q.own with h | ⟨g, h, hg⟩
    · exact .inl h
    · exact .inr ⟨g, h, Nat.le_trans e.size hg⟩⟩
theorem Mfr.ext {a : World} {bs : Nat} {v v' : Value} {w w' : World} (q : Mfr bs v v' w w') (e : Ext a w) (hb : a.heap.size ≤ bs) (hv : ∀ k, v.ownBlock = some k → a.heap.size ≤ k) : Ext a w' :=
  Below.trans e ⟨q.os, q.tape, q.output, q.size, fun k hk => q.block k (Nat.lt_of_lt_of_le hk e.size) (by omega) (fun h => by have := hv k h; omega)⟩

/-- behind the flag's store, and new blocks, the row is there -/
theorem Sn.own2 {w W : World} {base bs n : Nat} {v : Value} {L : List Int} {j : Nat} (h : Sn w base bs n v L) (hW : Ext (w.setCell ⟨bs, j, none⟩ (.bool true)) W) : W.ownsRow base 3 1 v L.length (L.map iv) :=
  ownsRow_of_block h.own (fun k hk => (hW.block k (by simpa using (h.own.lt k hk).2)).trans (Below.heap_setCell _ _ _ _ (show k ≠ bs from fun e => h.ap (e ▸ hk))))
/-- one more is met -/
theorem Sn.add {w W w2 : World} {base bs n : Nat} {v : Value} {L : List Int} {j g cap : Nat} (h : Sn w base bs n v L) (hj : j < n) (hn : ¬ (j : Int) ∈ L) (hW : Ext (w.setCell ⟨bs, j, none⟩ (.bool true)) W)
    (hown : w2.ownsRow base 3 1 (.slice (some ⟨g, 0, none⟩) (L.length + 1) cap) (L.length + 1) (L.map iv ++ [iv j])) (hg : W.grownBy w2 v.ownBlock) (hat : v.ownBlock = some g ∨ g = W.heap.size) :
    Sn w2 base bs n (.slice (some ⟨g, 0, none⟩) (L.length + 1) cap) (L ++ [(j : Int)]) ∧ Mfr bs v (.slice (some ⟨g, 0, none⟩) (L.length + 1) cap) w w2 := by
  have hs0 : w.heap.size ≤ W.heap.size := by have := hW.size; simpa using this
  have hs1 : W.heap.size ≤ w2.heap.size := hg.size
  have hgb : g ≠ bs := by
    rcases hat with e | e
    · intro q; exact h.ap (q ▸ e)
    · have := h.hb.2; omega
  have blk : ∀ k : Nat, k < w.heap.size → v.ownBlock ≠ some k → w2.heap[k]? = (w.setCell ⟨bs, j, none⟩ (.bool true)).heap[k]? := fun k hk hv =>
    (hg.block k (by omega) (fun e => hv e.symm)).trans (hW.block k (by simpa using hk))
  have hbs := blk bs h.hb.2 h.ap
  refine ⟨⟨⟨h.hb.1, by have := h.hb.2; omega⟩, fun i hi => ?_, fun i hi => ?_, by simpa using hown, fun e => hgb (by simpa [Value.ownBlock] using e), ?_, fun z hz => ?_⟩, ⟨hg.os.trans hW.os, hg.tape.trans hW.tape, hg.output.trans hW.output, by omega, fun k hk h1 h2 => ?_, ?_⟩⟩
  · rw [World.cell?_of_block (w := w.setCell ⟨bs, j, none⟩ (.bool true)) (a := ⟨bs, i, none⟩) hbs]
    by_cases e : i = j
    · subst e
      rw [World.cell?_setCell_same _ _ _ (h.s i hi)]
      simp
    · rw [cell_other _ (.inr (fun q => e q.symm)), h.s i hi]
      simp only [List.mem_append, List.mem_singleton]
      congr 2
      exact decide_eq_decide.2 ⟨fun q => .inl q, fun q => by rcases q with q | q; exact q; omega⟩
  · rw [World.frozen?_of_block (w := w.setCell ⟨bs, j, none⟩ (.bool true)) (a := ⟨bs, i, none⟩) hbs, World.frozen?_setCell]; exact h.f i hi
  · rw [List.nodup_append]
    exact ⟨h.nd, by simp, fun a ha b hb => by simp at hb; rw [hb]; intro e; exact hn (e ▸ ha)⟩
  · rcases List.mem_append.1 hz with q | q
    · exact h.rg z q
    · simp at q; omega
  · rw [blk k hk h2, Below.heap_setCell _ _ _ _ (show k ≠ bs from h1)]
  · rcases hat with e | e
    · exact .inl (by rw [e]; rfl)
    · exact .inr ⟨g, rfl, by omega⟩

theorem infoInt2 : (Tryz.prog.info? 3).map (fun i => (i.zero, i.size, i.bytes)) = some (some (.int .i64 0), 1, 8) := by kernel_rfl

theorem l1resolve_at (x : Hp) (b i : Nat) (w : World) {ar : Option Addr} {kr : Nat} {ac : Option Addr} {kc : Nat} {ag : Option Addr} {kg : Nat} (h : HAt w b x ar kr ac kc ag kg) (hi : i < x.cells.length) (ht : (x.c i).st = 2 → 0 ≤ (x.c i).to) :
    Calls Tryz.prog 126 #[.pointer (some ⟨b, 0, none⟩), .agg #[iv 2, iv 0, iv i]] w fun e w' => e = .returned (.agg #[iv 2, iv 0, iv (lead2 x i)]) ∧ Ext w w' := by
  cases s2 : ((x.c i).st == 2)
  · have : lead2 x i = i := by simp only [lead2, s2]; simp
    rw [this]; exact l1resolve_used x b i w h hi s2
  · have h2 : (x.c i).st = 2 := by simpa using s2
    have : ((lead2 x i : Nat) : Int) = (x.c i).to := by simp only [lead2, s2]; have := ht h2; simp; omega
    rw [this]; exact l1resolve_moved x b i w h hi s2

set_option maxRecDepth 100000 in
set_option maxHeartbeats 2000000 in
theorem l2mark_no (y : Wd) (b base bs n : Nat) (v : Value) (L : List Int) (w : World) (hs : Sn w base bs n v L) (k2 : (y.k == 2) = false) :
    Calls Tryz.prog 92 #[.pointer (some ⟨b, 0, none⟩), .slice (some ⟨bs, 0, none⟩) n n, v, y.v] w fun e w' => Hid (e = .returned v) ∧ Sn w' base bs n v L ∧ Ext w w' := by
  have HS := hide hs
  have k2b : (y.k != 2) = true := by simpa using k2
  clear hs
  go_enter Tryz.func92, Tryz.ntmps92
  go_wp2_with fail
  refine (l1resolve_num y b _ k2).mono ?_
  rintro e w1 ⟨rfl, hq⟩
  have x1 : Ext w w1 := Ext.trans ((Ext.refl w).alloc _) hq
  go_wp2_with fail
  go_ret
  exact ⟨rfl, (unhide HS).ext (x1.alloc _), x1.alloc _⟩

set_option maxRecDepth 100000 in
set_option maxHeartbeats 2000000 in
theorem l2mark_at (x : Hp) (b i base bs : Nat) (v : Value) (L : List Int) (w : World) {ar : Option Addr} {kr : Nat} {ac : Option Addr} {kc : Nat} {ag : Option Addr} {kg : Nat} (h : HAt w b x ar kr ac kc ag kg) (hi : i < x.cells.length) (ht : (x.c i).st = 2 → 0 ≤ (x.c i).to) (hj : lead2 x i < x.cells.length) (hs : Sn w base bs x.cells.length v L) (hbw : base ≤ w.heap.size) (hn8 : x.cells.length ≤ 8000) :
    Calls Tryz.prog 92 #[.pointer (some ⟨b, 0, none⟩), .slice (some ⟨bs, 0, none⟩) x.cells.length x.cells.length, v, .agg #[iv 2, iv 0, iv i]] w fun e w' => ∃ v' L', Hid (e = .returned v') ∧ Sn w' base bs x.cells.length v' L' ∧ Hid (((lead2 x i : Int) ∈ L ∧ L' = L) ∨ (¬ (lead2 x i : Int) ∈ L ∧ L' = L ++ [(lead2 x i : Int)])) ∧ Mfr bs v v' w w' := by
  obtain ⟨i0, hi0, hz0, hz1, hz2⟩ := info_parts infoInt2
  have HS := hide hs
  have HH := hide h
  have hlen := hs.len
  clear hs h
  obtain ⟨j, ej⟩ : ∃ j, lead2 x i = j := ⟨_, rfl⟩
  have LR := hide (fun W (e : Ext w W) => l1resolve_at x b i W ((unhide HH).ext e) hi ht)
  rw [ej] at LR hj ⊢
  clear ej
  have j0 : (0 : Int) ≤ (j : Int) := by omega
  have j1 : (j : Int) < (x.cells.length : Int) := by omega
  go_enter Tryz.func92, Tryz.ntmps92
  go_wp2_with fail
  refine (unhide LR _ ((Ext.refl w).alloc _)).mono ?_
  rintro e w1 ⟨rfl, hq⟩
  have x1 : Ext w w1 := Ext.trans ((Ext.refl w).alloc _) hq
  have S1 := hide ((unhide HS).ext x1)
  have cj := (unhide S1).s j (by omega)
  have fj := (unhide S1).f j (by omega)
  have hbs : bs < w1.heap.size := (unhide S1).hb.2
  clear hq
  by_cases hm : (j : Int) ∈ L
  · have E : decide ((j : Int) ∈ L) = true := decide_eq_true hm
    rw [E] at cj
    clear E
    go_wp2_with fail
    go_ret
    exact ⟨v, L, rfl, (unhide S1).ext ((Ext.refl w1).alloc _), .inl ⟨hm, rfl⟩, Mfr.of_ext (x1.alloc _)⟩
  · have E : decide ((j : Int) ∈ L) = false := decide_eq_false hm
    rw [E] at cj
    clear E
    go_wp2_with (at_builtin; refine wpList_append_lies _ rfl _ _ 24 rfl base 3 i0 (.int .i64 0) 1 8 Tryz.underlying24 hi0 hz0 hz1 hz2 rfl (by decide) v L.length (L.map iv) rfl (Sn.own2 (j := j) (unhide S1) (((Ext.refl _).alloc _).alloc _)) _ 1 1 [.int .i64 j] rfl rfl ?c1 ?c2 (by decide) ?c3 ?c4 ?c5 _ rfl ?_)
    case c1 =>
      intro k u hk
      match k, hk with
      | 0, hk => simp at hk; subst hk; simp [Addr.add, go_sem]
    case c2 => intro u hu; simp at hu; subst hu; rfl
    case c3 => unfold maxLen; omega
    case c4 => omega
    case c5 => have := x1.size; simp; omega
    intro g cap w2 hown hgrow hat hglt
    obtain ⟨q1, q2⟩ := Sn.add (unhide S1) hj hm (((Ext.refl _).alloc _).alloc _) hown hgrow (by simpa using hat)
    have FIN := hide (And.intro q1 (Mfr.after x1 q2))
    clear q1 q2 hown hgrow hat
    go_wp2_with fail
    go_ret
    exact ⟨_, L ++ [(j : Int)], rfl, (unhide FIN).1, .inr ⟨hm, rfl⟩, (unhide FIN).2⟩
end Go.Proofs.YtbcmjcomdjdjaaaGreat

namespace Go.Proofs.YtbcmjcomdjdjaaaGreat
open Go.RowKit
attribute [local go_sem ↓] Go.wp_at_zero Go.wp_at_succ

def wantB (x : Hp) (i : Nat) : Bool := ((x.c i).st == 1) && (((x.c i).last == 1) || ((x.c i).last == 2))
theorem wantB_iff {x : Hp} {i : Nat} : wantB x i = true ↔ (x.c i).st = 1 ∧ Speaks (x.c i) := by simp [wantB, Speaks]
/-- the places of those that want a last word or are due for it -/
def wants (x : Hp) (k : Nat) : List Int := valsTo (wantB x) castI k

/-- a row of numbers of the call's own -/
structure Rw1 (w : World) (base : Nat) (v : Value) (M : List Int) : Prop where
  own : w.ownsRow base 3 1 v M.length (M.map iv)
theorem Rw1.ext {w w' : World} {base : Nat} {v : Value} {M : List Int} (h : Rw1 w base v M) (e : Ext w w') : Rw1 w' base v M := ⟨ownsRow_of_block h.own (fun k hk => e.block k (h.own.lt k hk).2)⟩
theorem Rw1.cell {w : World} {base g n cap : Nat} {M : List Int} (h : Rw1 w base (.slice (some ⟨g, 0, none⟩) n cap) M) (i : Nat) (hi : i < M.length) : w.cell? ⟨g, i, none⟩ = some (iv (it M i)) ∧ w.frozen? ⟨g, i, none⟩ = false ∧ n = M.length := by
  rcases h.own.2 with ⟨h0, _⟩ | ⟨g', cap', cur, h0, hb, hg, hr⟩
  · cases h0
  · cases h0
    have := World.ownsRow.cellAt (w := w) (base := base) (e := 3) (size := 1) (g := g) (n := M.length) (cap := cap) (xs := M.map iv) h.own i (by omega)
    exact ⟨by rw [this]; simp [it, hi], World.ownsRow.frozenAt (w := w) (base := base) (e := 3) (size := 1) (g := g) (n := M.length) (cap := cap) (xs := M.map iv) h.own i, rfl⟩
theorem Rw1.base_le {w : World} {base g n cap : Nat} {M : List Int} (h : Rw1 w base (.slice (some ⟨g, 0, none⟩) n cap) M) : base ≤ g ∧ g < w.heap.size := h.own.lt g rfl
theorem Rw1.swap {w : World} {base g n cap : Nat} {M : List Int} (h : Rw1 w base (.slice (some ⟨g, 0, none⟩) n cap) M) (i j : Nat) :
    Rw1 ((w.setCell ⟨g, i, none⟩ (iv (it M j))).setCell ⟨g, j, none⟩ (iv (it M i))) base (.slice (some ⟨g, 0, none⟩) n cap) (swp M i j) := by
  have hl : n = M.length := by
    rcases h.own.2 with ⟨h0, _⟩ | ⟨g', cap', cur, h0, _⟩
    · cases h0
    · cases h0; rfl
  subst hl
  obtain ⟨s1, _⟩ := World.ownsRow.stored h.own i (iv (it M j))
  obtain ⟨s2, _⟩ := World.ownsRow.stored s1 j (iv (it M i))
  refine ⟨?_⟩
  rw [swp_len]
  unfold swp
  rw [List.map_set, List.map_set]
  exact s2
theorem Rw1.ext_of {w w2 W a : World} {base g cap : Nat} {v : Value} {M : List Int} {z : Int} {o : Obj} (h : Rw1 w base v M) (hW : W = w.alloc o) (hown : w2.ownsRow base 3 1 (.slice (some ⟨g, 0, none⟩) (M.length + 1) cap) (M.length + 1) (M.map iv ++ [iv z])) (hg : W.grownBy w2 v.ownBlock) (ea : Ext a w) (hb : a.heap.size ≤ base) :
    Rw1 w2 base (.slice (some ⟨g, 0, none⟩) (M.length + 1) cap) (M ++ [z]) ∧ Ext a w2 ∧ w.heap.size ≤ w2.heap.size := by
  subst hW
  have hs : w.heap.size + 1 ≤ w2.heap.size := by have := hg.size; simpa using this
  refine ⟨⟨by simpa using hown⟩, ?_, by omega⟩
  refine Below.trans ea ⟨hg.os, hg.tape, hg.output, by omega, fun k hk => ?_⟩
  have hkw : k < w.heap.size := Nat.lt_of_lt_of_le hk ea.size
  rw [hg.block k (by simp; omega) (fun e => by have := (h.own.lt k e.symm).1; omega), Below.heap_alloc _ o k hkw]
end Go.Proofs.YtbcmjcomdjdjaaaGreat

namespace Go.Proofs.YtbcmjcomdjdjaaaGreat
open Go.RowKit
attribute [local go_sem ↓] Go.wp_at_zero Go.wp_at_succ

/-- what a word leads to -/
def tgt (x : Hp) (y : Wd) : Nat := lead2 x y.a.toNat
/-- what registers and last words lead to, all pairs taken as strong -/
def Reached (x : Hp) (i : Nat) : Prop := ∀ P : Nat → Prop, (∀ k (h : k < x.regs.length), x.regs[k].k = 2 → P (tgt x x.regs[k])) → (∀ i, i < x.cells.length → (x.c i).st = 1 → Speaks (x.c i) → P i) →
  (∀ j p, P j → p < (x.c j).prs.length → ((x.c j).p p).key.k = 2 → P (tgt x ((x.c j).p p).key)) → (∀ j p, P j → p < (x.c j).prs.length → ((x.c j).p p).val.k = 2 → P (tgt x ((x.c j).p p).val)) → P i
theorem Reached.reg {x : Hp} (k : Nat) (h : k < x.regs.length) (hk : x.regs[k].k = 2) : Reached x (tgt x x.regs[k]) := fun _ a _ _ _ => a k h hk
theorem Reached.last {x : Hp} (i : Nat) (hi : i < x.cells.length) (hs : (x.c i).st = 1) (h : Speaks (x.c i)) : Reached x i := fun _ _ b _ _ => b i hi hs h
theorem Reached.key {x : Hp} (j p : Nat) (h : Reached x j) (hp : p < (x.c j).prs.length) (hk : ((x.c j).p p).key.k = 2) : Reached x (tgt x ((x.c j).p p).key) := fun P a b c d => c j p (h P a b c d) hp hk
theorem Reached.val {x : Hp} (j p : Nat) (h : Reached x j) (hp : p < (x.c j).prs.length) (hk : ((x.c j).p p).val.k = 2) : Reached x (tgt x ((x.c j).p p).val) := fun P a b c d => d j p (h P a b c d) hp hk

def Good (x : Hp) (i : Nat) : Prop := i < x.cells.length ∧ (x.c i).st = 1 ∧ ¬ Doomed x i
/-- a word that may be marked -/
def MayMark (x : Hp) (y : Wd) : Prop := y.k = 2 → y.n = 0 ∧ 0 ≤ y.a ∧ y.a < x.cells.length ∧ ((x.c y.a.toNat).st = 2 → 0 ≤ (x.c y.a.toNat).to) ∧ Good x (tgt x y)
theorem Leads.may {x : Hp} {y : Wd} {m : Prop} (h : Leads x y m) (r2 : R2 x) : MayMark x y := fun hk => by
  have hf := h.1
  unfold Formed at hf
  have hr : y.n = 0 ∧ 0 ≤ y.a ∧ y.a < x.cells.length := by omega
  refine ⟨hr.1, hr.2.1, hr.2.2, fun h2 => ?_, ?_⟩
  · have := r2.1 y.a.toNat (by omega)
    unfold CellOk MovedOk at this
    omega
  · rcases h.2 hk with ⟨h1, _⟩ | ⟨h1, h3⟩
    · have hc := r2.1 y.a.toNat (by omega)
      unfold CellOk at hc
      rcases hc with hc | hc | hc
      · omega
      · have hm := hc.2
        unfold MovedOk at hm
        have e : tgt x y = (x.c y.a.toNat).to.toNat := by unfold tgt lead2; rw [if_pos (by simp [h1])]
        rw [e]
        exact ⟨by omega, hm.2.2.2.2.1, fun d => by have := d.1; omega⟩
      · omega
    · have e : tgt x y = y.a.toNat := by unfold tgt lead2; rw [if_neg (by simp [h1])]
      rw [e]
      exact ⟨by omega, h1, h3⟩
theorem may_reg {x : Hp} (r2 : R2 x) (r4 : R4 x) (k : Nat) (h : k < x.regs.length) : MayMark x x.regs[k] := (r4.1 k h).may r2
theorem may_pair {x : Hp} (r2 : R2 x) (r4 : R4 x) (j p : Nat) (hj : Good x j) (hp : p < (x.c j).prs.length) : MayMark x ((x.c j).p p).key ∧ MayMark x ((x.c j).p p).val := by
  have := ((r4.2 j hj.1).2 p hp).2 hj.2.2
  exact ⟨this.1.may r2, this.2.may r2⟩
theorem good_want {x : Hp} (r4 : R4 x) (i : Nat) (hi : i < x.cells.length) (hs : (x.c i).st = 1) (h : Speaks (x.c i)) : Good x i := ⟨hi, hs, fun d => (r4.2 i hi).1 ⟨d, h⟩⟩
theorem Reached.good {x : Hp} (r2 : R2 x) (r4 : R4 x) {i : Nat} (h : Reached x i) : Good x i := by
  exact h (Good x) (fun k h hk => (may_reg r2 r4 k h hk).2.2.2.2) (fun i hi hs h => good_want r4 i hi hs h) (fun j p ih hp hk => ((may_pair r2 r4 j p ih hp).1 hk).2.2.2.2) (fun j p ih hp hk => ((may_pair r2 r4 j p ih hp).2 hk).2.2.2.2)

/-- L' is L with what y leads to -/
def Add (x : Hp) (y : Wd) (L L' : List Int) : Prop := (y.k ≠ 2 ∧ L' = L) ∨ (y.k = 2 ∧ (((tgt x y : Int) ∈ L ∧ L' = L) ∨ (¬ (tgt x y : Int) ∈ L ∧ L' = L ++ [(tgt x y : Int)])))
theorem Add.pre {x : Hp} {y : Wd} {L L' : List Int} (h : Add x y L L') : ∃ R, L' = L ++ R := by
  rcases h with ⟨_, e⟩ | ⟨_, ⟨_, e⟩ | ⟨_, e⟩⟩
  · exact ⟨[], by simp [e]⟩
  · exact ⟨[], by simp [e]⟩
  · exact ⟨_, e⟩
theorem Add.sub {x : Hp} {y : Wd} {L L' : List Int} (h : Add x y L L') {z : Int} (hz : z ∈ L) : z ∈ L' := by
  obtain ⟨R, e⟩ := h.pre
  rw [e]; exact List.mem_append_left _ hz
theorem Add.has {x : Hp} {y : Wd} {L L' : List Int} (h : Add x y L L') (hk : y.k = 2) : (tgt x y : Int) ∈ L' := by
  rcases h with ⟨n, _⟩ | ⟨_, ⟨m, e⟩ | ⟨_, e⟩⟩
  · exact (n hk).elim
  · rw [e]; exact m
  · rw [e]; simp
theorem Add.new {x : Hp} {y : Wd} {L L' : List Int} (h : Add x y L L') {z : Int} (hz : z ∈ L') : z ∈ L ∨ (y.k = 2 ∧ z = (tgt x y : Int)) := by
  rcases h with ⟨_, e⟩ | ⟨k, ⟨_, e⟩ | ⟨_, e⟩⟩
  · rw [e] at hz; exact .inl hz
  · rw [e] at hz; exact .inl hz
  · rw [e] at hz
    rcases List.mem_append.1 hz with q | q
    · exact .inl q
    · exact .inr ⟨k, by simpa using q⟩

theorem l2mark_any (x : Hp) (y : Wd) (b base bs : Nat) (v : Value) (L : List Int) (w : World) {ar : Option Addr} {kr : Nat} {ac : Option Addr} {kc : Nat} {ag : Option Addr} {kg : Nat} (h : HAt w b x ar kr ac kc ag kg) (hy : MayMark x y) (hs : Sn w base bs x.cells.length v L) (hbw : base ≤ w.heap.size) (hn8 : x.cells.length ≤ 8000) :
    Calls Tryz.prog 92 #[.pointer (some ⟨b, 0, none⟩), .slice (some ⟨bs, 0, none⟩) x.cells.length x.cells.length, v, y.v] w fun e w' => ∃ v' L', Hid (e = .returned v') ∧ Sn w' base bs x.cells.length v' L' ∧ Hid (Add x y L L') ∧ Mfr bs v v' w w' := by
  cases k2 : (y.k == 2)
  · exact (l2mark_no y b base bs x.cells.length v L w hs k2).mono fun _ _ ⟨he, hs', hx⟩ => ⟨v, L, he, hs', .inl ⟨by simpa using k2, rfl⟩, Mfr.of_ext hx⟩
  · have hk : y.k = 2 := by simpa using k2
    obtain ⟨n0, a0, a1, ht, hg⟩ := hy hk
    obtain ⟨i, hi⟩ : ∃ i : Nat, y.a = (i : Int) := ⟨y.a.toNat, by omega⟩
    have et : tgt x y = lead2 x i := by unfold tgt; rw [hi]; simp
    have ev : (.agg #[iv 2, iv 0, iv i] : Value) = y.v := by rw [← hi, ← n0, ← hk]
    rw [et] at hg
    have ei : y.a.toNat = i := by omega
    rw [ei] at ht
    have := l2mark_at x b i base bs v L w h (by omega) ht hg.1 hs hbw hn8
    rw [ev] at this
    exact this.mono fun _ _ ⟨v', L', he, hs', ha, hx⟩ => ⟨v', L', he, hs', .inr ⟨hk, by rw [et]; exact unhide ha⟩, hx⟩

/-- a list that holds all that it must, and nothing else, is what is reached -/
theorem reached_of {x : Hp} {L : List Int} (hr : ∀ z, z ∈ L → ∃ i : Nat, z = (i : Int) ∧ Reached x i) (h1 : ∀ k (h : k < x.regs.length), x.regs[k].k = 2 → (tgt x x.regs[k] : Int) ∈ L) (h2 : ∀ i, i < x.cells.length → (x.c i).st = 1 → Speaks (x.c i) → (i : Int) ∈ L)
    (h3 : ∀ j : Nat, (j : Int) ∈ L → ∀ p, p < (x.c j).prs.length → (((x.c j).p p).key.k = 2 → (tgt x ((x.c j).p p).key : Int) ∈ L) ∧ (((x.c j).p p).val.k = 2 → (tgt x ((x.c j).p p).val : Int) ∈ L)) (i : Nat) : (i : Int) ∈ L ↔ Reached x i := by
  constructor
  · intro h
    obtain ⟨j, e, hj⟩ := hr _ h
    have : i = j := by omega
    rw [this]; exact hj
  · intro h
    exact h (fun i => (i : Int) ∈ L) h1 h2 (fun j p ih hp hk => (h3 j ih p hp).1 hk) (fun j p ih hp hk => (h3 j ih p hp).2 hk)

theorem infoBools : (Tryz.prog.info? 4).map (fun i => (i.zero, i.size, i.bytes)) = some (some (.bool false), 1, 1) := by kernel_rfl
theorem mkBools (n : Nat) (hn : n ≤ 1048576) (w : World) : ∃ z, (Instr.makeSlice 80 (.int .i64 n) (.int .i64 n)).run Tryz.prog w = .ok (.slice (some ⟨w.heap.size, 0, none⟩) n n) (w.alloc (.cells z 4)) ∧ z = madeCells #[.bool false] n := by
  obtain ⟨i0, hi, hz0, hz1, hz2⟩ := info_parts infoBools
  have h := run_make (P := Tryz.prog) w 80 4 i0 _ Tryz.underlying80 hi hz0 .i64 .i64 n n (by omega) (Int.le_refl _) (by rw [hz2]; omega) (by omega)
  rw [hz1] at h
  simp only [Int.toNat_natCast, Nat.mul_one] at h
  exact ⟨_, h, rfl⟩
end Go.Proofs.YtbcmjcomdjdjaaaGreat
