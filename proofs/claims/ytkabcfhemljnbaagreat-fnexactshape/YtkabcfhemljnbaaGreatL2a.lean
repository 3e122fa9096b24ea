import Derived.Test.YtkabcfhemljnbaaGreatL1r
import Derived.Test.YtkabcfhemljnbaaGreatLs
import Derived.OwnWalk
import Derived.Deep.AppendLies
import Derived.Test.YtkabcfhemljnbaaGreatImpD
import Derived.Deep.LoopGhost
import Derived.Test.YtkabcfhemljnbaaGreatSpecC
import Derived.Test.YtkabcfhemljnbaaGreatTo
namespace Go.Proofs.YtkabcfhemljnbaaGreat
open Go.RowKit
attribute [local go_sem ↓] Go.wp_at_zero Go.wp_at_succ

/-- the place to which a place leads -/
def lead2 (x : Hp) (i : Nat) : Nat := if ((x.c i).st == 2) = true then (x.c i).to.toNat else i

/-- the model's list of what was met, with the flags beside it -/
structure Sn (w : World) (base bs n : Nat) (v : Value) (L : List Int) : Prop where
  hb : base ≤ bs ∧ bs < w.heap.size
  s : ∀ i, i < n → w.cell? ⟨bs, i, none⟩ = some (.bool (decide ((i : Int) ∈ L)))
  f : ∀ i, i < n → w.frozen? ⟨bs, i, none⟩ = false
  own : w.ownsRow base 3 1 v L.length (L.map iv)
  ap : v.ownBlock ≠ some bs
  nd : L.Nodup
  rg : ∀ z, z ∈ L → 0 ≤ z ∧ z < n
theorem Sn.ext {w w' : World} {base bs n : Nat} {v : Value} {L : List Int} (h : Sn w base bs n v L) (e : Ext w w') : Sn w' base bs n v L :=
  ⟨⟨h.hb.1, Nat.lt_of_lt_of_le h.hb.2 e.size⟩, fun i hi => e.keep (h.s i hi), fun i hi => by rw [e.frozen (p := ⟨bs, i, none⟩) h.hb.2]; exact h.f i hi, ownsRow_of_block h.own (fun k hk => e.block k (h.own.lt k hk).2), h.ap, h.nd, h.rg⟩
theorem Sn.len {w : World} {base bs n : Nat} {v : Value} {L : List Int} (h : Sn w base bs n v L) : L.length ≤ n := by
  have hs : ∀ z, z ∈ L → z ∈ (List.range n).map (fun i : Nat => (i : Int)) := fun z hz => by
    have := h.rg z hz
    exact List.mem_map.2 ⟨z.toNat, by simp; omega, by omega⟩
  have := List.Nodup.length_le_of_subset h.nd hs
  simpa using this
/-- what a marking leaves as it was -/
structure Mfr (bs : Nat) (v v' : Value) (w w' : World) : Prop where
  os : w'.os = w.os
  tape : w'.tape = w.tape
  output : w'.output = w.output
  size : w.heap.size ≤ w'.heap.size
  block : ∀ k : Nat, k < w.heap.size → k ≠ bs → v.ownBlock ≠ some k → w'.heap[k]? = w.heap[k]?
  own : v'.ownBlock = v.ownBlock ∨ ∃ g, v'.ownBlock = some g ∧ w.heap.size ≤ g
theorem Mfr.of_ext {bs : Nat} {v : Value} {w w' : World} (e : Ext w w') : Mfr bs v v w w' := ⟨e.os, e.tape, e.output, e.size, fun k hk _ _ => e.block k hk, .inl rfl⟩
theorem Mfr.after {bs : Nat} {v v' : Value} {w w1 w2 : World} (e : Ext w w1) (q : Mfr bs v v' w1 w2) : Mfr bs v v' w w2 :=
  ⟨q.os.trans e.os, q.tape.trans e.tape, q.output.trans e.output, Nat.le_trans e.size q.size, fun k hk h1 h2 => (q.block k (Nat.lt_of_lt_of_le hk e.size) h1 h2).trans (e.block k hk), by
    rcases q.own with h | ⟨g, h, hg⟩
    · exact .inl h
    · exact .inr ⟨g, h, Nat.le_trans e.size hg⟩⟩
theorem Mfr.ext {a : World} {bs : Nat} {v v' : Value} {w w' : World} (q : Mfr bs v v' w w') (e : Ext a w) (hb : a.heap.size ≤ bs) (hv : ∀ k, v.ownBlock = some k → a.heap.size ≤ k) : Ext a w' :=
  Below.trans e ⟨q.os, q.tape, q.output, q.size, fun k hk => q.block k (Nat.lt_of_lt_of_le hk e.size) (by omega) (fun h => by have := hv k h; omega)⟩

/-- behind the flag's store, and new blocks, the row is there -/
theorem Sn.own2 {w W : World} {base bs n : Nat} {v : Value} {L : List Int} {j : Nat} (h : Sn w base bs n v L) (hW : Ext (w.setCell ⟨bs, j, none⟩ (.bool true)) W) : W.ownsRow base 3 1 v L.length (L.map iv) :=
  ownsRow_of_block h.own (fun k hk => (hW.block k (by simpa using (h.own.lt k hk).2)).trans (Below.heap_setCell _ _ _ _ (show k ≠ bs from fun e => h.ap (e ▸ hk))))
/-- one more is met -/
theorem Sn.add {w W w2 : World} {base bs n : Nat} {v : Value} {L : List Int} {j g cap : Nat} (h : Sn w base bs n v L) (hj : j < n) (hn : ¬ (j : Int) ∈ L) (hW : Ext (w.setCell ⟨bs, j, none⟩ (.bool true)) W)
    (hown : w2.ownsRow base 3 1 (.slice (some ⟨g, 0, none⟩) (L.length + 1) cap) (L.length + 1) (L.map iv ++ [iv j])) (hg : W.grownBy w2 v.ownBlock) (hat : v.ownBlock = some g ∨ g = W.heap.size) :
    Sn w2 base bs n (.slice (some ⟨g, 0, none⟩) (L.length + 1) cap) (L ++ [(j : Int)]) ∧ Mfr bs v (.slice (some ⟨g, 0, none⟩) (L.length + 1) cap) w w2 := by
  have hs0 : w.heap.size ≤ W.heap.size := by have := hW.size; simpa using this
  have hs1 : W.heap.size ≤ w2.heap.size := hg.size
  have hgb : g ≠ bs := by
    rcases hat with e | e
    · intro q; exact h.ap (q ▸ e)
    · have := h.hb.2; omega
  have blk : ∀ k : Nat, k < w.heap.size → v.ownBlock ≠ some k → w2.heap[k]? = (w.setCell ⟨bs, j, none⟩ (.bool true)).heap[k]? := fun k hk hv =>
    (hg.block k (by omega) (fun e => hv e.symm)).trans (hW.block k (by simpa using hk))
  have hbs := blk bs h.hb.2 h.ap
  refine ⟨⟨⟨h.hb.1, by have := h.hb.2; omega⟩, fun i hi => ?_, fun i hi => ?_, by simpa using hown, fun e => hgb (by simpa [Value.ownBlock] using e), ?_, fun z hz => ?_⟩, ⟨hg.os.trans hW.os, hg.tape.trans hW.tape, hg.output.trans hW.output, by omega, fun k hk h1 h2 => ?_, ?_⟩⟩
  · rw [World.cell?_of_block (w := w.setCell ⟨bs, j, none⟩ (.bool true)) (a := ⟨bs, i, none⟩) hbs]
    by_cases e : i = j
    · subst e
      rw [World.cell?_setCell_same _ _ _ (h.s i hi)]
      simp
    · rw [cell_other _ (.inr (fun q => e q.symm)), h.s i hi]
      simp only [List.mem_append, List.mem_singleton]
      congr 2
      exact decide_eq_decide.2 ⟨fun q => .inl q, fun q => by rcases q with q | q; exact q; omega⟩
  · rw [World.frozen?_of_block (w := w.setCell ⟨bs, j, none⟩ (.bool true)) (a := ⟨bs, i, none⟩) hbs, World.frozen?_setCell]; exact h.f i hi
  · rw [List.nodup_append]
    exact ⟨h.nd, by simp, fun a ha b hb => by simp at hb; rw [hb]; intro e; exact hn (e ▸ ha)⟩
  · rcases List.mem_append.1 hz with q | q
    · exact h.rg z q
    · simp at q; omega
  · rw [blk k hk h2, Below.heap_setCell _ _ _ _ (show k ≠ bs from h1)]
  · rcases hat with e | e
    · exact .inl (by rw [e]; rfl)
    · exact .inr ⟨g, rfl, by omega⟩

theorem infoInt2 : (Tryz.prog.info? 3).map (fun i => (i.zero, i.size, i.bytes)) = some (some (.int .i64 0), 1, 8) := by kernel_rfl

theorem l1resolve_at (x : Hp) (b i : Nat) (w : World) {ar : Option Addr} {kr : Nat} {ac : Option Addr} {kc : Nat} {ag : Option Addr} {kg : Nat} (h : HAt w b x ar kr ac kc ag kg) (hi : i < x.cells.length) (ht : (x.c i).st = 2 → 0 ≤ (x.c i).to) :
    Calls Tryz.prog 110 #[.pointer (some ⟨b, 0, none⟩), .agg #[iv 2, iv 0, iv i]] w fun e w' => e = .returned (.agg #[iv 2, iv 0, iv (lead2 x i)]) ∧ Ext w w' := by
  cases s2 : ((x.c i).st == 2)
  · have : lead2 x i = i := by simp only [lead2, s2]; simp
    rw [this]; exact l1resolve_used x b i w h hi s2
  · have h2 : (x.c i).st = 2 := by simpa using s2
    have : ((lead2 x i : Nat) : Int) = (x.c i).to := by simp only [lead2, s2]; have := ht h2; simp; omega
    rw [this]; exact l1resolve_moved x b i w h hi s2

set_option maxRecDepth 100000 in
set_option maxHeartbeats 2000000 in
theorem l2mark_no (y : Wd) (b base bs n : Nat) (v : Value) (L : List Int) (w : World) (hs : Sn w base bs n v L) (k2 : (y.k == 2) = false) :
    Calls Tryz.prog 95 #[.pointer (some ⟨b, 0, none⟩), .slice (some ⟨bs, 0, none⟩) n n, v, y.v] w fun e w' => Hid (e = .returned v) ∧ Sn w' base bs n v L ∧ Ext w w' := by
  have HS := hide hs
  have k2b : (y.k != 2) = true := by simpa using k2
  clear hs
  go_enter Tryz.func95, Tryz.ntmps95
  go_wp2_with fail
  refine (l1resolve_num y b _ k2).mono ?_
  rintro e w1 ⟨rfl, hq⟩
  have x1 : Ext w w1 := Ext.trans ((Ext.refl w).alloc _) hq
  go_wp2_with fail
  go_ret
  exact ⟨rfl, (unhide HS).ext (x1.alloc _), x1.alloc _⟩

set_option maxRecDepth 100000 in
set_option maxHeartbeats 2000000 in
theorem l2mark_at (x : Hp) (b i base bs : Nat) (v : Value) (L : List Int) (w : World) {ar : Option Addr} {kr : Nat} {ac : Option Addr} {kc : Nat} {ag : Option Addr} {kg : Nat} (h : HAt w b x ar kr ac kc ag kg) (hi : i < x.cells.length) (ht : (x.c i).st = 2 → 0 ≤ (x.c i).to) (hj : lead2 x i < x.cells.length) (hs : Sn w base bs x.cells.length v L) (hbw : base ≤ w.heap.size) (hn8 : x.cells.length ≤ 8000) :
    Calls Tryz.prog 95 #[.pointer (some ⟨b, 0, none⟩), .slice (some ⟨bs, 0, none⟩) x.cells.length x.cells.length, v, .agg #[iv 2, iv 0, iv i]] w fun e w' => ∃ v' L', Hid (e = .returned v') ∧ Sn w' base bs x.cells.length v' L' ∧ Hid (((lead2 x i : Int) ∈ L ∧ L' = L) ∨ (¬ (lead2 x i : Int) ∈ L ∧ L' = L ++ [(lead2 x i : Int)])) ∧ Mfr bs v v' w w' := by
  obtain ⟨i0, hi0, hz0, hz1, hz2⟩ := info_parts infoInt2
  have HS := hide hs
  have HH := hide h
  have hlen := hs.len
  clear hs h
  obtain ⟨j, ej⟩ : ∃ j, lead2 x i = j := ⟨_, rfl⟩
  have LR := hide (fun W (e : Ext w W) => l1resolve_at x b i W ((unhide HH).ext e) hi ht)
  rw [ej] at LR hj ⊢
  clear ej
  have j0 : (0 : Int) ≤ (j : Int) := by omega
  have j1 : (j : Int) < (x.cells.length : Int) := by omega
  go_enter Tryz.func95, Tryz.ntmps95
  go_wp2_with fail
  refine (unhide LR _ ((Ext.refl w).alloc _)).mono ?_
  rintro e w1 ⟨rfl, hq⟩
  have x1 : Ext w w1 := Ext.trans ((Ext.refl w).alloc _) hq
  have S1 := hide ((unhide HS).ext x1)
  have cj := (unhide S1).s j (by omega)
  have fj := (unhide S1).f j (by omega)
  have hbs : bs < w1.heap.size := (unhide S1).hb.2
  clear hq
  by_cases hm : (j : Int) ∈ L
  · have E : decide ((j : Int) ∈ L) = true := decide_eq_true hm
    rw [E] at cj
    clear E
    go_wp2_with fail
    go_ret
    exact ⟨v, L, rfl, (unhide S1).ext ((Ext.refl w1).alloc _), .inl ⟨hm, rfl⟩, Mfr.of_ext (x1.alloc _)⟩
  · have E : decide ((j : Int) ∈ L) = false := decide_eq_false hm
    rw [E] at cj
    clear E
    go_wp2_with (at_builtin; refine wpList_append_lies _ rfl _ _ 24 rfl base 3 i0 (.int .i64 0) 1 8 Tryz.underlying24 hi0 hz0 hz1 hz2 rfl (by decide) v L.length (L.map iv) rfl (Sn.own2 (j := j) (unhide S1) (((Ext.refl _).alloc _).alloc _)) _ 1 1 [.int .i64 j] rfl rfl ?c1 ?c2 (by decide) ?c3 ?c4 ?c5 _ rfl ?_)
    case c1 =>
      intro k u hk
      match k, hk with
      | 0, hk => simp at hk; subst hk; simp [Addr.add, go_sem]
    case c2 => intro u hu; simp at hu; subst hu; rfl
    case c3 => unfold maxLen; omega
    case c4 => omega
    case c5 => have := x1.size; simp; omega
    intro g cap w2 hown hgrow hat hglt
    obtain ⟨q1, q2⟩ := Sn.add (unhide S1) hj hm (((Ext.refl _).alloc _).alloc _) hown hgrow (by simpa using hat)
    have FIN := hide (And.intro q1 (Mfr.after x1 q2))
    clear q1 q2 hown hgrow hat
    go_wp2_with fail
    go_ret
    exact ⟨_, L ++ [(j : Int)], rfl, (unhide FIN).1, .inr ⟨hm, rfl⟩, (unhide FIN).2⟩
end Go.Proofs.YtkabcfhemljnbaaGreat

namespace Go.Proofs.YtkabcfhemljnbaaGreat
open Go.RowKit
attribute [local go_sem ↓] Go.wp_at_zero Go.wp_at_succ

def wantB (x : Hp) (i : Nat) : Bool := ((x.c i).st == 1) && (((x.c i).last == 1) || ((x.c i).last == 2))
theorem wantB_iff {x : Hp} {i : Nat} : wantB x i = true ↔ (x.c i).st = 1 ∧ Speaks (x.c i) := by simp [wantB, Speaks]
/-- the places of those that want a last word or are due for it -/
def wants (x : Hp) (k : Nat) : List Int := valsTo (wantB x) castI k

/-- a row of numbers of the call's own -/
structure Rw1 (w : World) (base : Nat) (v : Value) (M : List Int) : Prop where
  own : w.ownsRow base 3 1 v M.length (M.map iv)
theorem Rw1.ext {w w' : World} {base : Nat} {v : Value} {M : List Int} (h : Rw1 w base v M) (e : Ext w w') : Rw1 w' base v M := ⟨ownsRow_of_block h.own (fun k hk => e.block k (h.own.lt k hk).2)⟩
theorem Rw1.cell {w : World} {base g n cap : Nat} {M : List Int} (h : Rw1 w base (.slice (some ⟨g, 0, none⟩) n cap) M) (i : Nat) (hi : i < M.length) : w.cell? ⟨g, i, none⟩ = some (iv (it M i)) ∧ w.frozen? ⟨g, i, none⟩ = false ∧ n = M.length := by
  rcases h.own.2 with ⟨h0, _⟩ | ⟨g', cap', cur, h0, hb, hg, hr⟩
  · cases h0
  · cases h0
    have := World.ownsRow.cellAt (w := w) (base := base) (e := 3) (size := 1) (g := g) (n := M.length) (cap := cap) (xs := M.map iv) h.own i (by omega)
    exact ⟨by rw [this]; simp [it, hi], World.ownsRow.frozenAt (w := w) (base := base) (e := 3) (size := 1) (g := g) (n := M.length) (cap := cap) (xs := M.map iv) h.own i, rfl⟩
theorem Rw1.base_le {w : World} {base g n cap : Nat} {M : List Int} (h : Rw1 w base (.slice (some ⟨g, 0, none⟩) n cap) M) : base ≤ g ∧ g < w.heap.size := h.own.lt g rfl
theorem Rw1.swap {w : World} {base g n cap : Nat} {M : List Int} (h : Rw1 w base (.slice (some ⟨g, 0, none⟩) n cap) M) (i j : Nat) :
    Rw1 ((w.setCell ⟨g, i, none⟩ (iv (it M j))).setCell ⟨g, j, none⟩ (iv (it M i))) base (.slice (some ⟨g, 0, none⟩) n cap) (swp M i j) := by
  have hl : n = M.length := by
    rcases h.own.2 with ⟨h0, _⟩ | ⟨g', cap', cur, h0, _⟩
    · cases h0
    · cases h0; rfl
  subst hl
  obtain ⟨s1, _⟩ := World.ownsRow.stored h.own i (iv (it M j))
  obtain ⟨s2, _⟩ := World.ownsRow.stored s1 j (iv (it M i))
  refine ⟨?_⟩
  rw [swp_len]
  unfold swp
  rw [List.map_set, List.map_set]
  exact s2
theorem Rw1.ext_of {w w2 W a : World} {base g cap : Nat} {v : Value} {M : List Int} {z : Int} {o : Obj} (h : Rw1 w base v M) (hW : W = w.alloc o) (hown : w2.ownsRow base 3 1 (.slice (some ⟨g, 0, none⟩) (M.length + 1) cap) (M.length + 1) (M.map iv ++ [iv z])) (hg : W.grownBy w2 v.ownBlock) (ea : Ext a w) (hb : a.heap.size ≤ base) :
    Rw1 w2 base (.slice (some ⟨g, 0, none⟩) (M.length + 1) cap) (M ++ [z]) ∧ Ext a w2 ∧ w.heap.size ≤ w2.heap.size := by
  subst hW
  have hs : w.heap.size + 1 ≤ w2.heap.size := by have := hg.size; simpa using this
  refine ⟨⟨by simpa using hown⟩, ?_, by omega⟩
  refine Below.trans ea ⟨hg.os, hg.tape, hg.output, by omega, fun k hk => ?_⟩
  have hkw : k < w.heap.size := Nat.lt_of_lt_of_le hk ea.size
  rw [hg.block k (by simp; omega) (fun e => by have := (h.own.lt k e.symm).1; omega), Below.heap_alloc _ o k hkw]

set_option maxRecDepth 100000 in
set_option maxHeartbeats 4000000 in
theorem l2wants_any (x : Hp) (b : Nat) (w : World) {ar : Option Addr} {kr : Nat} {ac : Option Addr} {kc : Nat} {ag : Option Addr} {kg : Nat} (h : HAt w b x ar kr ac kc ag kg) (hn8 : x.cells.length ≤ 8000) :
    Calls Tryz.prog 96 #[.pointer (some ⟨b, 0, none⟩)] w fun e w' => ∃ v M, Hid (e = .returned v) ∧ Rw1 w' w.heap.size v M ∧ M.Perm (wants x x.cells.length) ∧ Ext w w' := by
  obtain ⟨i0, hi0, hz0, hz1, hz2⟩ := info_parts infoInt2
  have c4 := h.c4
  have hb : b < w.heap.size := cell_lt c4
  have HH := hide h
  clear h
  go_enter Tryz.func96, Tryz.ntmps96
  go_wp2_with fail
  go_loopw [3, 14] (fun v i wr => ∃ (k : Nat) (M : List Int), k ≤ x.cells.length ∧ i = .int .i64 k ∧ Rw1 wr w.heap.size v M ∧ Hid (M.Perm (wants x k)) ∧ Ext w wr) (fun _ i _ => x.cells.length - (intOf i).toNat)
  case atStart => exact ⟨0, [], Nat.zero_le _, rfl, ⟨World.ownsRow_nil _ _ _ _⟩, List.Perm.refl _, Ext.refl _⟩
  case round =>
    clear c4
    obtain ⟨k, M, hk, rfl, hrw, hp, hbl⟩ := hrel
    by_cases hlt : k < x.cells.length
    · have hh := (unhide HH).ext hbl
      obtain ⟨b', o, ap, kp, rfl, p0, p1, p2, p3, p4, p5, p6, p7, lp, P⟩ := hh.cell k hlt
      have hb' : b' < wr.heap.size := cell_lt p0
      have HRW := hide hrw
      have hk0 : (0:Int) ≤ (k:Int) := by omega
      have hk1 : (k:Int) < (x.cells.length:Int) := by omega
      have xa := hbl.alloc (.cells #[iv (x.c k).st, iv (x.c k).kind, iv (x.c k).weak, iv (x.c k).last, iv (x.c k).born, iv (x.c k).color, iv (x.c k).to, .slice ap (x.c k).prs.length kp] 86)
      clear P hh hrw
      have hlenM : M.length ≤ k := by have := (unhide hp).length_eq; have := valsTo_len (wantB x) castI k; unfold wants at *; omega
      have go_no : wantB x k = false → Hid (M.Perm (wants x (k + 1))) := fun q => by
        have := unhide hp; unfold wants at *; rw [valsTo_no _ _ _ q]; exact this
      have GN := hide go_no
      clear go_no
      cases t1 : ((x.c k).st == 1)
      · have t1b : ((x.c k).st != 1) = true := by simpa using t1
        have P2 := unhide GN (by simp [wantB, t1])
        go_wp2_with fail
        go_roundw
        case rel => exact ⟨k + 1, M, by omega, by go_num, (unhide HRW).ext ((Ext.refl wr).alloc _), P2, xa⟩
        case measure => simp [intOf]; omega
      · have t1b : ((x.c k).st != 1) = false := by simpa using t1
        cases t2 : ((x.c k).last == 1)
        · have t2b : ((x.c k).last != 1) = true := by simpa using t2
          cases t3 : ((x.c k).last == 2)
          · have t3b : ((x.c k).last != 2) = true := by simpa using t3
            have P2 := unhide GN (by simp [wantB, t2, t3])
            go_wp2_with fail
            go_roundw
            case rel => exact ⟨k + 1, M, by omega, by go_num, (unhide HRW).ext ((Ext.refl wr).alloc _), P2, xa⟩
            case measure => simp [intOf]; omega
          · have t3b : ((x.c k).last != 2) = false := by simpa using t3
            have QW := hide (show wantB x k = true by simp [wantB, t1, t3])
            go_wp2_with (at_builtin; refine wpList_append_lies _ rfl _ _ 24 rfl w.heap.size 3 i0 (.int .i64 0) 1 8 Tryz.underlying24 hi0 hz0 hz1 hz2 rfl (by decide) _ M.length (M.map iv) rfl (((unhide HRW).own.alloc _).alloc _) _ 1 1 [.int .i64 k] rfl rfl ?c1 ?c2 (by decide) ?c3 ?c4 ?c5 _ rfl ?_)
            case c1 =>
              intro q u hk
              match q, hk with
              | 0, hk => simp at hk; subst hk; simp [Addr.add, go_sem]
            case c2 => intro u hu; simp at hu; subst hu; rfl
            case c3 => unfold maxLen; omega
            case c4 => omega
            case c5 => have := hbl.size; simp; omega
            intro g cap w2 hown hgrow hat hglt
            obtain ⟨R1, E1, S1⟩ := Rw1.ext_of ((unhide HRW).ext ((Ext.refl wr).alloc _)) rfl hown hgrow xa (Nat.le_refl _)
            have PW := hide (show (M ++ [(k : Int)]).Perm (wants x (k + 1)) by
              have := unhide hp; unfold wants at *; rw [valsTo_yes _ _ _ (unhide QW)]; exact this.append_right _)
            have Q1 := hide R1
            clear R1 hown hgrow hat p0 p1 p2 p3 p4 p5 p6 p7 xa S1 HRW hp GN
            go_wp2_with fail
            go_loopw [6] (fun sk wi => ∃ (j : Nat) (N : List Int), j < N.length ∧ sk = .int .i64 j ∧ N.length = M.length + 1 ∧ Rw1 wi w.heap.size (.slice (some ⟨g, 0, none⟩) (M.length + 1) cap) N ∧ Hid (N.Perm (wants x (k + 1))) ∧ Ext w wi) (fun sk _ => (intOf sk).toNat)
            case atStart => exact ⟨M.length, M ++ [(k : Int)], by simp, by go_num, by simp, unhide Q1, unhide PW, E1⟩
            case round =>
              clear Q1 PW E1 hbl
              obtain ⟨j, N, hj, rfl, hNl, hrw, hp, hbl⟩ := hrel
              have HRW := hide hrw
              have hh := (unhide HH).ext hbl
              have d4 := hh.c4
              have EXIT := hide (And.intro (unhide HRW) (And.intro (unhide hp) hbl))
              cases j with
              | zero =>
                clear hrw hh
                go_wp2_with fail
                go_quiet (fail)
                go_wp2_with fail
                go_roundw
                case rel => exact ⟨k + 1, N, by omega, by go_num, (by have q := unhide HRW; rw [← hNl] at q ⊢; exact q.ext ((Ext.refl _).drewN _)), unhide hp, hbl.drewN _⟩
                case measure => simp [intOf]; omega
              | succ j =>
                obtain ⟨a1, a2, a3⟩ := hrw.cell j (by omega)
                obtain ⟨b1, b2, b3⟩ := hrw.cell (j + 1) (by omega)
                have rng : ∀ z, z ∈ N → ∃ q : Nat, z = (q : Int) ∧ q < x.cells.length := fun z hz => by
                  obtain ⟨q, hq, _, e⟩ := (valsTo_mem _ _ _ _).1 ((unhide hp).mem_iff.1 hz)
                  exact ⟨q, e.symm, by omega⟩
                obtain ⟨ia, ea, hia⟩ := rng _ (it_mem N j (by omega))
                obtain ⟨ib, eb, hib⟩ := rng _ (it_mem N (j + 1) hj)
                obtain ⟨b1', o1, ap1, kp1, e1, CA⟩ := hh.cell ia hia
                cases e1
                obtain ⟨b2', o2, ap2, kp2, e2, CB⟩ := hh.cell ib hib
                cases e2
                have pa := CA.p4
                have pb := CB.p4
                have SW := hide (hrw.swap j (j + 1))
                rw [ea, eb] at SW
                have hgl := hrw.base_le
                have PSW := hide ((swp_perm N j (j + 1) (by omega) hj).trans (unhide hp))
                rw [ea] at a1
                rw [eb] at b1
                have j0 : (0 : Int) ≤ (j : Int) := by omega
                have j1 : (j : Int) < (M.length : Int) + 1 := by omega
                have j2 : (j : Int) + 1 < (M.length : Int) + 1 := by omega
                have j3 : (0 : Int) ≤ (j : Int) + 1 := by omega
                have j4 : ((j : Int) + 1).toNat = j + 1 := by omega
                have j5 : (0 : Int) < (j : Int) + 1 := by omega
                have q0 : (0 : Int) ≤ (ia : Int) := by omega
                have q1 : (ia : Int) < (x.cells.length : Int) := by omega
                have q2 : (0 : Int) ≤ (ib : Int) := by omega
                have q3 : (ib : Int) < (x.cells.length : Int) := by omega
                have hmk : M.length ≤ 8000 := by omega
                clear hrw hh CA CB rng a3 b3 ea eb
                cases tb : decide ((x.c ib).born < (x.c ia).born)
                · go_wp2_with fail
                  go_quiet (fail)
                  go_wp2_with fail
                  go_roundw
                  case rel => exact ⟨k + 1, N, by omega, by go_num, (by have q := unhide HRW; rw [← hNl] at q ⊢; exact q.ext ((Ext.refl _).drewN _)), unhide hp, hbl.drewN _⟩
                  case measure => simp [intOf]; omega
                · have tb2 := of_decide_eq_true tb
                  clear tb
                  go_wp2_with fail
                  go_quiet (fail)
                  go_wp2_with fail
                  go_roundw
                  case rel => exact ⟨j, swp N j (j + 1), by rw [swp_len]; omega, by go_num, by rw [swp_len]; omega, ⟨ownsRow_of_block (unhide SW).own (fun q _ => rfl)⟩, unhide PSW, ((hbl.drewN _).setCell hgl.1 _).setCell hgl.1 _⟩
                  case measure => simp [intOf]
        · have t2b : ((x.c k).last != 1) = false := by simpa using t2
          have QW := hide (show wantB x k = true by simp [wantB, t1, t2])
          go_wp2_with (at_builtin; refine wpList_append_lies _ rfl _ _ 24 rfl w.heap.size 3 i0 (.int .i64 0) 1 8 Tryz.underlying24 hi0 hz0 hz1 hz2 rfl (by decide) _ M.length (M.map iv) rfl (((unhide HRW).own.alloc _).alloc _) _ 1 1 [.int .i64 k] rfl rfl ?c1 ?c2 (by decide) ?c3 ?c4 ?c5 _ rfl ?_)
          case c1 =>
            intro q u hk
            match q, hk with
            | 0, hk => simp at hk; subst hk; simp [Addr.add, go_sem]
          case c2 => intro u hu; simp at hu; subst hu; rfl
          case c3 => unfold maxLen; omega
          case c4 => omega
          case c5 => have := hbl.size; simp; omega
          intro g cap w2 hown hgrow hat hglt
          obtain ⟨R1, E1, S1⟩ := Rw1.ext_of ((unhide HRW).ext ((Ext.refl wr).alloc _)) rfl hown hgrow xa (Nat.le_refl _)
          have PW := hide (show (M ++ [(k : Int)]).Perm (wants x (k + 1)) by
            have := unhide hp; unfold wants at *; rw [valsTo_yes _ _ _ (unhide QW)]; exact this.append_right _)
          have Q1 := hide R1
          clear R1 hown hgrow hat p0 p1 p2 p3 p4 p5 p6 p7 xa S1 HRW hp GN
          go_wp2_with fail
          go_loopw [6] (fun sk wi => ∃ (j : Nat) (N : List Int), j < N.length ∧ sk = .int .i64 j ∧ N.length = M.length + 1 ∧ Rw1 wi w.heap.size (.slice (some ⟨g, 0, none⟩) (M.length + 1) cap) N ∧ Hid (N.Perm (wants x (k + 1))) ∧ Ext w wi) (fun sk _ => (intOf sk).toNat)
          case atStart => exact ⟨M.length, M ++ [(k : Int)], by simp, by go_num, by simp, unhide Q1, unhide PW, E1⟩
          case round =>
            clear Q1 PW E1 hbl
            obtain ⟨j, N, hj, rfl, hNl, hrw, hp, hbl⟩ := hrel
            have HRW := hide hrw
            have hh := (unhide HH).ext hbl
            have d4 := hh.c4
            have EXIT := hide (And.intro (unhide HRW) (And.intro (unhide hp) hbl))
            cases j with
            | zero =>
              clear hrw hh
              go_wp2_with fail
              go_quiet (fail)
              go_wp2_with fail
              go_roundw
              case rel => exact ⟨k + 1, N, by omega, by go_num, (by have q := unhide HRW; rw [← hNl] at q ⊢; exact q.ext ((Ext.refl _).drewN _)), unhide hp, hbl.drewN _⟩
              case measure => simp [intOf]; omega
            | succ j =>
              obtain ⟨a1, a2, a3⟩ := hrw.cell j (by omega)
              obtain ⟨b1, b2, b3⟩ := hrw.cell (j + 1) (by omega)
              have rng : ∀ z, z ∈ N → ∃ q : Nat, z = (q : Int) ∧ q < x.cells.length := fun z hz => by
                obtain ⟨q, hq, _, e⟩ := (valsTo_mem _ _ _ _).1 ((unhide hp).mem_iff.1 hz)
                exact ⟨q, e.symm, by omega⟩
              obtain ⟨ia, ea, hia⟩ := rng _ (it_mem N j (by omega))
              obtain ⟨ib, eb, hib⟩ := rng _ (it_mem N (j + 1) hj)
              obtain ⟨b1', o1, ap1, kp1, e1, CA⟩ := hh.cell ia hia
              cases e1
              obtain ⟨b2', o2, ap2, kp2, e2, CB⟩ := hh.cell ib hib
              cases e2
              have pa := CA.p4
              have pb := CB.p4
              have SW := hide (hrw.swap j (j + 1))
              rw [ea, eb] at SW
              have hgl := hrw.base_le
              have PSW := hide ((swp_perm N j (j + 1) (by omega) hj).trans (unhide hp))
              rw [ea] at a1
              rw [eb] at b1
              have j0 : (0 : Int) ≤ (j : Int) := by omega
              have j1 : (j : Int) < (M.length : Int) + 1 := by omega
              have j2 : (j : Int) + 1 < (M.length : Int) + 1 := by omega
              have j3 : (0 : Int) ≤ (j : Int) + 1 := by omega
              have j4 : ((j : Int) + 1).toNat = j + 1 := by omega
              have j5 : (0 : Int) < (j : Int) + 1 := by omega
              have q0 : (0 : Int) ≤ (ia : Int) := by omega
              have q1 : (ia : Int) < (x.cells.length : Int) := by omega
              have q2 : (0 : Int) ≤ (ib : Int) := by omega
              have q3 : (ib : Int) < (x.cells.length : Int) := by omega
              have hmk : M.length ≤ 8000 := by omega
              clear hrw hh CA CB rng a3 b3 ea eb
              cases tb : decide ((x.c ib).born < (x.c ia).born)
              · go_wp2_with fail
                go_quiet (fail)
                go_wp2_with fail
                go_roundw
                case rel => exact ⟨k + 1, N, by omega, by go_num, (by have q := unhide HRW; rw [← hNl] at q ⊢; exact q.ext ((Ext.refl _).drewN _)), unhide hp, hbl.drewN _⟩
                case measure => simp [intOf]; omega
              · have tb2 := of_decide_eq_true tb
                clear tb
                go_wp2_with fail
                go_quiet (fail)
                go_wp2_with fail
                go_roundw
                case rel => exact ⟨j, swp N j (j + 1), by rw [swp_len]; omega, by go_num, by rw [swp_len]; omega, ⟨ownsRow_of_block (unhide SW).own (fun q _ => rfl)⟩, unhide PSW, ((hbl.drewN _).setCell hgl.1 _).setCell hgl.1 _⟩
                case measure => simp [intOf]
    · have hk2 : k = x.cells.length := by omega
      subst hk2
      have HRW := hide hrw
      clear hrw
      go_wp2_with fail
      go_ret
      exact ⟨_, M, rfl, unhide HRW, unhide hp, hbl⟩
end Go.Proofs.YtkabcfhemljnbaaGreat

namespace Go.Proofs.YtkabcfhemljnbaaGreat
open Go.RowKit
attribute [local go_sem ↓] Go.wp_at_zero Go.wp_at_succ

/-- what a word leads to -/
def tgt (x : Hp) (y : Wd) : Nat := lead2 x y.a.toNat
/-- what registers and last words lead to, all pairs taken as strong -/
def Reached (x : Hp) (i : Nat) : Prop := ∀ P : Nat → Prop, (∀ k (h : k < x.regs.length), x.regs[k].k = 2 → P (tgt x x.regs[k])) → (∀ i, i < x.cells.length → (x.c i).st = 1 → Speaks (x.c i) → P i) →
  (∀ j p, P j → p < (x.c j).prs.length → ((x.c j).p p).key.k = 2 → P (tgt x ((x.c j).p p).key)) → (∀ j p, P j → p < (x.c j).prs.length → ((x.c j).p p).val.k = 2 → P (tgt x ((x.c j).p p).val)) → P i
theorem Reached.reg {x : Hp} (k : Nat) (h : k < x.regs.length) (hk : x.regs[k].k = 2) : Reached x (tgt x x.regs[k]) := fun _ a _ _ _ => a k h hk
theorem Reached.last {x : Hp} (i : Nat) (hi : i < x.cells.length) (hs : (x.c i).st = 1) (h : Speaks (x.c i)) : Reached x i := fun _ _ b _ _ => b i hi hs h
theorem Reached.key {x : Hp} (j p : Nat) (h : Reached x j) (hp : p < (x.c j).prs.length) (hk : ((x.c j).p p).key.k = 2) : Reached x (tgt x ((x.c j).p p).key) := fun P a b c d => c j p (h P a b c d) hp hk
theorem Reached.val {x : Hp} (j p : Nat) (h : Reached x j) (hp : p < (x.c j).prs.length) (hk : ((x.c j).p p).val.k = 2) : Reached x (tgt x ((x.c j).p p).val) := fun P a b c d => d j p (h P a b c d) hp hk

def Good (x : Hp) (i : Nat) : Prop := i < x.cells.length ∧ (x.c i).st = 1 ∧ ¬ Doomed x i
/-- a word that may be marked -/
def MayMark (x : Hp) (y : Wd) : Prop := y.k = 2 → y.n = 0 ∧ 0 ≤ y.a ∧ y.a < x.cells.length ∧ ((x.c y.a.toNat).st = 2 → 0 ≤ (x.c y.a.toNat).to) ∧ Good x (tgt x y)
theorem Leads.may {x : Hp} {y : Wd} {m : Prop} (h : Leads x y m) (r2 : R2 x) : MayMark x y := fun hk => by
  have hf := h.1
  unfold Formed at hf
  have hr : y.n = 0 ∧ 0 ≤ y.a ∧ y.a < x.cells.length := by omega
  refine ⟨hr.1, hr.2.1, hr.2.2, fun h2 => ?_, ?_⟩
  · have := r2.1 y.a.toNat (by omega)
    unfold CellOk MovedOk at this
    omega
  · rcases h.2 hk with ⟨h1, _⟩ | ⟨h1, h3⟩
    · have hc := r2.1 y.a.toNat (by omega)
      unfold CellOk at hc
      rcases hc with hc | hc | hc
      · omega
      · have hm := hc.2
        unfold MovedOk at hm
        have e : tgt x y = (x.c y.a.toNat).to.toNat := by unfold tgt lead2; rw [if_pos (by simp [h1])]
        rw [e]
        exact ⟨by omega, hm.2.2.2.2.1, fun d => by have := d.1; omega⟩
      · omega
    · have e : tgt x y = y.a.toNat := by unfold tgt lead2; rw [if_neg (by simp [h1])]
      rw [e]
      exact ⟨by omega, h1, h3⟩
theorem may_reg {x : Hp} (r2 : R2 x) (r4 : R4 x) (k : Nat) (h : k < x.regs.length) : MayMark x x.regs[k] := (r4.1 k h).may r2
theorem may_pair {x : Hp} (r2 : R2 x) (r4 : R4 x) (j p : Nat) (hj : Good x j) (hp : p < (x.c j).prs.length) : MayMark x ((x.c j).p p).key ∧ MayMark x ((x.c j).p p).val := by
  have := ((r4.2 j hj.1).2 p hp).2 hj.2.2
  exact ⟨this.1.may r2, this.2.may r2⟩
theorem good_want {x : Hp} (r4 : R4 x) (i : Nat) (hi : i < x.cells.length) (hs : (x.c i).st = 1) (h : Speaks (x.c i)) : Good x i := ⟨hi, hs, fun d => (r4.2 i hi).1 ⟨d, h⟩⟩
theorem Reached.good {x : Hp} (r2 : R2 x) (r4 : R4 x) {i : Nat} (h : Reached x i) : Good x i := by
  exact h (Good x) (fun k h hk => (may_reg r2 r4 k h hk).2.2.2.2) (fun i hi hs h => good_want r4 i hi hs h) (fun j p ih hp hk => ((may_pair r2 r4 j p ih hp).1 hk).2.2.2.2) (fun j p ih hp hk => ((may_pair r2 r4 j p ih hp).2 hk).2.2.2.2)

/-- L' is L with what y leads to -/
def Add (x : Hp) (y : Wd) (L L' : List Int) : Prop := (y.k ≠ 2 ∧ L' = L) ∨ (y.k = 2 ∧ (((tgt x y : Int) ∈ L ∧ L' = L) ∨ (¬ (tgt x y : Int) ∈ L ∧ L' = L ++ [(tgt x y : Int)])))
theorem Add.pre {x : Hp} {y : Wd} {L L' : List Int} (h : Add x y L L') : ∃ R, L' = L ++ R := by
  rcases h with ⟨_, e⟩ | ⟨_, ⟨_, e⟩ | ⟨_, e⟩⟩
  · exact ⟨[], by simp [e]⟩
  · exact ⟨[], by simp [e]⟩
  · exact ⟨_, e⟩
theorem Add.sub {x : Hp} {y : Wd} {L L' : List Int} (h : Add x y L L') {z : Int} (hz : z ∈ L) : z ∈ L' := by
  obtain ⟨R, e⟩ := h.pre
  rw [e]; exact List.mem_append_left _ hz
theorem Add.has {x : Hp} {y : Wd} {L L' : List Int} (h : Add x y L L') (hk : y.k = 2) : (tgt x y : Int) ∈ L' := by
  rcases h with ⟨n, _⟩ | ⟨_, ⟨m, e⟩ | ⟨_, e⟩⟩
  · exact (n hk).elim
  · rw [e]; exact m
  · rw [e]; simp
theorem Add.new {x : Hp} {y : Wd} {L L' : List Int} (h : Add x y L L') {z : Int} (hz : z ∈ L') : z ∈ L ∨ (y.k = 2 ∧ z = (tgt x y : Int)) := by
  rcases h with ⟨_, e⟩ | ⟨k, ⟨_, e⟩ | ⟨_, e⟩⟩
  · rw [e] at hz; exact .inl hz
  · rw [e] at hz; exact .inl hz
  · rw [e] at hz
    rcases List.mem_append.1 hz with q | q
    · exact .inl q
    · exact .inr ⟨k, by simpa using q⟩

theorem l2mark_any (x : Hp) (y : Wd) (b base bs : Nat) (v : Value) (L : List Int) (w : World) {ar : Option Addr} {kr : Nat} {ac : Option Addr} {kc : Nat} {ag : Option Addr} {kg : Nat} (h : HAt w b x ar kr ac kc ag kg) (hy : MayMark x y) (hs : Sn w base bs x.cells.length v L) (hbw : base ≤ w.heap.size) (hn8 : x.cells.length ≤ 8000) :
    Calls Tryz.prog 95 #[.pointer (some ⟨b, 0, none⟩), .slice (some ⟨bs, 0, none⟩) x.cells.length x.cells.length, v, y.v] w fun e w' => ∃ v' L', Hid (e = .returned v') ∧ Sn w' base bs x.cells.length v' L' ∧ Hid (Add x y L L') ∧ Mfr bs v v' w w' := by
  cases k2 : (y.k == 2)
  · exact (l2mark_no y b base bs x.cells.length v L w hs k2).mono fun _ _ ⟨he, hs', hx⟩ => ⟨v, L, he, hs', .inl ⟨by simpa using k2, rfl⟩, Mfr.of_ext hx⟩
  · have hk : y.k = 2 := by simpa using k2
    obtain ⟨n0, a0, a1, ht, hg⟩ := hy hk
    obtain ⟨i, hi⟩ : ∃ i : Nat, y.a = (i : Int) := ⟨y.a.toNat, by omega⟩
    have et : tgt x y = lead2 x i := by unfold tgt; rw [hi]; simp
    have ev : (.agg #[iv 2, iv 0, iv i] : Value) = y.v := by rw [← hi, ← n0, ← hk]
    rw [et] at hg
    have ei : y.a.toNat = i := by omega
    rw [ei] at ht
    have := l2mark_at x b i base bs v L w h (by omega) ht hg.1 hs hbw hn8
    rw [ev] at this
    exact this.mono fun _ _ ⟨v', L', he, hs', ha, hx⟩ => ⟨v', L', he, hs', .inr ⟨hk, by rw [et]; exact unhide ha⟩, hx⟩

/-- a list that holds all that it must, and nothing else, is what is reached -/
theorem reached_of {x : Hp} {L : List Int} (hr : ∀ z, z ∈ L → ∃ i : Nat, z = (i : Int) ∧ Reached x i) (h1 : ∀ k (h : k < x.regs.length), x.regs[k].k = 2 → (tgt x x.regs[k] : Int) ∈ L) (h2 : ∀ i, i < x.cells.length → (x.c i).st = 1 → Speaks (x.c i) → (i : Int) ∈ L)
    (h3 : ∀ j : Nat, (j : Int) ∈ L → ∀ p, p < (x.c j).prs.length → (((x.c j).p p).key.k = 2 → (tgt x ((x.c j).p p).key : Int) ∈ L) ∧ (((x.c j).p p).val.k = 2 → (tgt x ((x.c j).p p).val : Int) ∈ L)) (i : Nat) : (i : Int) ∈ L ↔ Reached x i := by
  constructor
  · intro h
    obtain ⟨j, e, hj⟩ := hr _ h
    have : i = j := by omega
    rw [this]; exact hj
  · intro h
    exact h (fun i => (i : Int) ∈ L) h1 h2 (fun j p ih hp hk => (h3 j ih p hp).1 hk) (fun j p ih hp hk => (h3 j ih p hp).2 hk)

theorem infoBools : (Tryz.prog.info? 4).map (fun i => (i.zero, i.size, i.bytes)) = some (some (.bool false), 1, 1) := by kernel_rfl
theorem mkBools (n : Nat) (hn : n ≤ 1048576) (w : World) : ∃ z, (Instr.makeSlice 28 (.int .i64 n) (.int .i64 n)).run Tryz.prog w = .ok (.slice (some ⟨w.heap.size, 0, none⟩) n n) (w.alloc (.cells z 4)) ∧ z = madeCells #[.bool false] n := by
  obtain ⟨i0, hi, hz0, hz1, hz2⟩ := info_parts infoBools
  have h := run_make (P := Tryz.prog) w 28 4 i0 _ Tryz.underlying28 hi hz0 .i64 .i64 n n (by omega) (Int.le_refl _) (by rw [hz2]; omega) (by omega)
  rw [hz1] at h
  simp only [Int.toNat_natCast, Nat.mul_one] at h
  exact ⟨_, h, rfl⟩
end Go.Proofs.YtkabcfhemljnbaaGreat

namespace Go.Proofs.YtkabcfhemljnbaaGreat
open Go.RowKit
attribute [local go_sem ↓] Go.wp_at_zero Go.wp_at_succ

theorem Sn.start (w : World) (n : Nat) (t : TypeId) : Sn (w.alloc (.cells (madeCells #[.bool false] n) t)) w.heap.size w.heap.size n (.slice none 0 0) [] := by
  have e : (w.alloc (.cells (madeCells #[.bool false] n) t)).heap[w.heap.size]? = some (.cells (madeCells #[.bool false] n) t) := heap_alloc_new w _
  refine ⟨⟨Nat.le_refl _, by simp⟩, fun i hi => ?_, fun i hi => (made_open w _ n t i hi).2, World.ownsRow_nil _ _ _ _, by simp [Value.ownBlock], List.nodup_nil, fun z hz => by cases hz⟩
  rw [cell_of_row _ w.heap.size i _ _ (0, 0) e, ← Array.getElem?_toList, toList_madeCells_one]
  simp [hi]

def OnlyR (x : Hp) (L : List Int) : Prop := ∀ z, z ∈ L → ∃ i : Nat, z = (i : Int) ∧ Reached x i
def RegsIn (x : Hp) (k : Nat) (L : List Int) : Prop := ∀ j (h : j < x.regs.length), j < k → x.regs[j].k = 2 → (tgt x x.regs[j] : Int) ∈ L
def WantsIn (M : List Int) (k : Nat) (L : List Int) : Prop := ∀ j, j < k → it M j ∈ L
def PairsIn (x : Hp) (j k : Nat) (L : List Int) : Prop := ∀ p, p < k → (((x.c j).p p).key.k = 2 → (tgt x ((x.c j).p p).key : Int) ∈ L) ∧ (((x.c j).p p).val.k = 2 → (tgt x ((x.c j).p p).val : Int) ∈ L)
def ClosedTo (x : Hp) (i : Nat) (L : List Int) : Prop := ∀ q, q < i → PairsIn x (it L q).toNat (x.c (it L q).toNat).prs.length L
theorem OnlyR.add {x : Hp} {y : Wd} {L L' : List Int} (h : OnlyR x L) (a : Add x y L L') (hy : y.k = 2 → Reached x (tgt x y)) : OnlyR x L' := fun z hz => by
  rcases a.new hz with q | ⟨k, e⟩
  · exact h z q
  · exact ⟨_, e, hy k⟩
theorem it_pre {L R : List Int} {q : Nat} (h : q < L.length) : it (L ++ R) q = it L q := by unfold it; simp [List.getElem?_append_left h]
theorem PairsIn.mono {x : Hp} {j k : Nat} {L L' : List Int} (h : PairsIn x j k L) (s : ∀ z, z ∈ L → z ∈ L') : PairsIn x j k L' := fun p hp => ⟨fun e => s _ ((h p hp).1 e), fun e => s _ ((h p hp).2 e)⟩
theorem ClosedTo.add {x : Hp} {y : Wd} {i : Nat} {L L' : List Int} (h : ClosedTo x i L) (a : Add x y L L') (hi : i ≤ L.length) : ClosedTo x i L' := fun q hq => by
  obtain ⟨R, e⟩ := a.pre
  have hs : ∀ z, z ∈ L → z ∈ L' := fun z hz => a.sub hz
  have e2 : it L' q = it L q := by rw [e]; exact it_pre (by omega)
  rw [e2]; exact (h q hq).mono hs

def WIn (x : Hp) (L : List Int) : Prop := ∀ i, i < x.cells.length → (x.c i).st = 1 → Speaks (x.c i) → (i : Int) ∈ L
/-- all that is known of the list while it is gone through -/
structure Gone (x : Hp) (i : Nat) (L : List Int) : Prop where
  o : OnlyR x L
  r : RegsIn x x.regs.length L
  w : WIn x L
  c : ClosedTo x i L
theorem Gone.add {x : Hp} {y : Wd} {i : Nat} {L L' : List Int} (h : Gone x i L) (a : Add x y L L') (hi : i ≤ L.length) (hy : y.k = 2 → Reached x (tgt x y)) : Gone x i L' :=
  ⟨h.o.add a hy, fun j hj hk e => a.sub (h.r j hj hk e), fun j hj e1 e2 => a.sub (h.w j hj e1 e2), h.c.add a hi⟩
theorem Gone.done {x : Hp} {L : List Int} (h : Gone x L.length L) : ∀ i : Nat, (i : Int) ∈ L ↔ Reached x i :=
  reached_of h.o (fun k hk e => h.r k hk hk e) h.w (fun j hj => by
    obtain ⟨q, hq, e⟩ := List.getElem_of_mem hj
    have := h.c q hq
    rw [← it_eq L q hq, e] at this
    have t2 : PairsIn x j (x.c j).prs.length L := by simpa using this
    exact t2)
theorem Gone.step {x : Hp} {i j : Nat} {L : List Int} (h : Gone x i L) (e : it L i = (j : Int)) (hp : PairsIn x j (x.c j).prs.length L) : Gone x (i + 1) L :=
  ⟨h.o, h.r, h.w, fun q hq => by
    by_cases k : q = i
    · rw [k, e]; simpa using hp
    · exact h.c q (by omega)⟩

theorem Rw1.form {w : World} {base : Nat} {v : Value} {M : List Int} (h : Rw1 w base v M) : ∃ ad cap, v = .slice ad M.length cap ∧ (0 < M.length → ∃ g, ad = some ⟨g, 0, none⟩) := by
  rcases h.own.2 with ⟨h1, h2⟩ | ⟨g, cap, cur, h1, _⟩
  · exact ⟨none, 0, by rw [h1, h2], fun h => by omega⟩
  · exact ⟨_, _, h1, fun _ => ⟨g, rfl⟩⟩
theorem Rw1.mfr {w w' : World} {base bs : Nat} {v v' vw : Value} {M : List Int} (h : Rw1 w base vw M) (q : Mfr bs v v' w w') (h1 : vw.ownBlock ≠ some bs) (h2 : ∀ k, vw.ownBlock = some k → v.ownBlock ≠ some k) : Rw1 w' base vw M :=
  ⟨ownsRow_of_block h.own (fun k hk => q.block k (h.own.lt k hk).2 (fun e => h1 (e ▸ hk)) (h2 k hk))⟩
theorem mfr_apart {w w' : World} {base bs : Nat} {v v' vw : Value} {M : List Int} (h : Rw1 w base vw M) (q : Mfr bs v v' w w') (h2 : ∀ k, vw.ownBlock = some k → v.ownBlock ≠ some k) : ∀ k, vw.ownBlock = some k → v'.ownBlock ≠ some k := fun k hk => by
  rcases q.own with e | ⟨g, e, hg⟩
  · rw [e]; exact h2 k hk
  · rw [e]; intro f; cases f; have := (h.own.lt k hk).2; omega
theorem Sn.mext {a w w' : World} {bs n : Nat} {v v' : Value} {L : List Int} (h : Sn w a.heap.size bs n v L) (q : Mfr bs v v' w w') (e : Ext a w) : Ext a w' := q.ext e h.hb.1 (fun k hk => (h.own.lt k hk).1)
theorem Sn.form {w : World} {base bs n : Nat} {v : Value} {L : List Int} (h : Sn w base bs n v L) : ∃ ad cap, v = .slice ad L.length cap ∧ (0 < L.length → ∃ g, ad = some ⟨g, 0, none⟩) := (Rw1.mk h.own).form

set_option maxRecDepth 100000 in
set_option maxHeartbeats 8000000 in
theorem l2reach_any (x : Hp) (b : Nat) (w : World) {ar : Option Addr} {kr : Nat} {ac : Option Addr} {kc : Nat} {ag : Option Addr} {kg : Nat} (h : HAt w b x ar kr ac kc ag kg) (r2 : R2 x) (r4 : R4 x) (hn8 : x.cells.length ≤ 8000) :
    Calls Tryz.prog 48 #[.pointer (some ⟨b, 0, none⟩)] w fun e w' => ∃ v L, Hid (e = .returned (.tuple #[.slice (some ⟨w.heap.size, 0, none⟩) x.cells.length x.cells.length, v])) ∧ Sn w' w.heap.size w.heap.size x.cells.length v L ∧ Hid (∀ i : Nat, (i : Int) ∈ L ↔ Reached x i) ∧ Ext w w' := by
  have c4 := h.c4
  have c3 := h.c3
  have lr := h.lr
  have hb : b < w.heap.size := cell_lt c4
  have HH := hide h
  have Q2 := hide r2
  have Q4 := hide r4
  clear h r2 r4
  obtain ⟨z, hmk, hz⟩ := mkBools x.cells.length (by omega) w
  have S0 := hide (Sn.start w x.cells.length 4)
  rw [← hz] at S0
  clear hz
  go_enter Tryz.func48, Tryz.ntmps48
  go_wp2_with fail
  go_loopw [5, 24] (fun v i wr => ∃ (k : Nat) (L : List Int), k ≤ x.regs.length ∧ i = .int .i64 k ∧ Sn wr w.heap.size w.heap.size x.cells.length v L ∧ Hid (OnlyR x L ∧ RegsIn x k L) ∧ Ext w wr) (fun _ i _ => x.regs.length - (intOf i).toNat)
  case atStart => exact ⟨0, [], Nat.zero_le _, rfl, unhide S0, ⟨(fun z hz => by cases hz), fun j _ hj => by omega⟩, (Ext.refl w).alloc _⟩
  case round =>
    clear S0 hmk c4 c3
    obtain ⟨k, L, hk, rfl, hs, hinv, hbl⟩ := hrel
    have HS := hide hs
    clear hs
    by_cases hlt : k < x.regs.length
    · have hh := (unhide HH).ext hbl
      obtain ⟨b', o, e1, p0, p1, p2⟩ := hh.R k hlt
      have d3 := hh.c3
      rw [e1] at d3
      have hk0 : (0:Int) ≤ (k:Int) := by omega
      have hk1 : (k:Int) < (x.regs.length:Int) := by omega
      have xa := (Ext.refl wr).alloc (.cells #[iv x.regs[k].k, iv x.regs[k].n, iv x.regs[k].a] 90)
      subst e1
      clear hh
      go_wp2_with fail
      refine (l2mark_any x x.regs[k] b w.heap.size w.heap.size _ L _ ((unhide HH).ext (hbl.trans xa)) (may_reg (unhide Q2) (unhide Q4) k hlt) ((unhide HS).ext xa) (hbl.trans xa).size hn8).mono ?_
      rintro e w2 ⟨v', L', rfl, hs', ha, hm⟩
      have R := hide (show Sn w2 w.heap.size w.heap.size x.cells.length v' L' ∧ (OnlyR x L' ∧ RegsIn x (k + 1) L') ∧ Ext w w2 from
        ⟨hs', ⟨(unhide hinv).1.add (unhide ha) (fun e => Reached.reg k hlt e), fun j hj hjk e => by
          by_cases q : j = k
          · subst q; exact (unhide ha).has e
          · exact (unhide ha).sub ((unhide hinv).2 j hj (by omega) e)⟩, ((unhide HS).ext xa).mext hm (hbl.trans xa)⟩)
      clear hs' ha hm xa
      go_wp2_with fail
      go_roundw
      case rel => exact ⟨k + 1, L', by omega, by go_num, (unhide R).1, (unhide R).2.1, (unhide R).2.2⟩
      case measure => simp [intOf]; omega
    · have hk2 : k = x.regs.length := by omega
      subst hk2
      go_wp2_with fail
      refine (l2wants_any x b _ ((unhide HH).ext hbl) hn8).mono ?_
      rintro e w3 ⟨vw, M, rfl, hrw, hpm, hq⟩
      have hx3 := hbl.trans hq
      obtain ⟨BW, hBW⟩ : ∃ n, n = wr.heap.size := ⟨_, rfl⟩
      rw [← hBW] at hrw
      obtain ⟨adw, capw, rfl, hgw⟩ := hrw.form
      have hMl : M.length ≤ 8000 := by have := hpm.length_eq; have := valsTo_len (wantB x) castI x.cells.length; unfold wants at *; omega
      have WM := hide (show ∀ j, j < M.length → ∃ q : Nat, it M j = (q : Int) ∧ q < x.cells.length ∧ (x.c q).st = 1 ∧ Speaks (x.c q) from fun j hj => by
        obtain ⟨q, hq1, hq2, e⟩ := (valsTo_mem _ _ _ _).1 (hpm.mem_iff.1 (it_mem M j hj))
        exact ⟨q, e.symm, hq1, wantB_iff.1 hq2⟩)
      have WA := hide (show ∀ i, i < x.cells.length → (x.c i).st = 1 → Speaks (x.c i) → (i : Int) ∈ M from fun i hi h1 h2 => hpm.mem_iff.2 ((valsTo_mem _ _ _ _).2 ⟨i, hi, wantB_iff.2 ⟨h1, h2⟩, rfl⟩))
      have S3 := hide ((unhide HS).ext hq)
      have AP := hide (show ∀ q, (Value.slice adw M.length capw).ownBlock = some q → ¬ (Value.ownBlock (Value.slice adw M.length capw) = some w.heap.size) from fun q _ e => by
        have := (hrw.own.lt _ e).1
        have := (unhide HS).hb.2
        omega)
      have AP2 := hide (fun q (e : (Value.slice adw M.length capw).ownBlock = some q) => (show ∀ u : Value, Sn wr w.heap.size w.heap.size x.cells.length u L → u.ownBlock ≠ some q from fun u hu f => by
        have := (hu.own.lt q f).2
        have := (hrw.own.lt q e).1
        omega))
      have APU := hide (fun q e => unhide AP2 q e _ (unhide HS))
      have RW := hide hrw
      have HI := hide (unhide hinv)
      clear hrw hpm hq hlt hk AP2 hinv HS hBW
      go_wp2_with fail
      go_loopw [5, 37] (fun v i wx => ∃ (k : Nat) (K : List Int), k ≤ M.length ∧ i = .int .i64 k ∧ Sn wx w.heap.size w.heap.size x.cells.length v K ∧ Rw1 wx BW (.slice adw M.length capw) M ∧ Hid (∀ q, (Value.slice adw M.length capw).ownBlock = some q → v.ownBlock ≠ some q) ∧ Hid (OnlyR x K ∧ RegsIn x x.regs.length K ∧ WantsIn M k K) ∧ Ext w wx) (fun _ i _ => M.length - (intOf i).toNat)
      case atStart => exact ⟨0, L, Nat.zero_le _, rfl, unhide S3, unhide RW, unhide APU, ⟨(unhide HI).1, (unhide HI).2, fun j hj => by omega⟩, hx3⟩
      case round =>
        clear S3 RW APU HI hbl hx3
        obtain ⟨k, K, hk, rfl, hs, hrw, hap, hinv, hbl⟩ := hrel
        have HS := hide hs
        have RW := hide hrw
        by_cases hlt : k < M.length
        · obtain ⟨g, rfl⟩ := hgw (by omega)
          obtain ⟨a1, a2, a3⟩ := hrw.cell k hlt
          obtain ⟨q, eq, hq1, hq2, hq3⟩ := unhide WM k hlt
          rw [eq] at a1
          have EQ := hide eq
          have hk0 : (0:Int) ≤ (k:Int) := by omega
          have hk1 : (k:Int) < (M.length:Int) := by omega
          have et : tgt x ⟨2, 0, (q : Int)⟩ = q := by unfold tgt lead2; simp [hq2]
          have MY : MayMark x ⟨2, 0, (q : Int)⟩ := fun _ => ⟨rfl, by simp, by simpa using hq1, (fun h => by simp [hq2] at h), by rw [et]; exact good_want (unhide Q4) q hq1 hq2 hq3⟩
          have MYH := hide MY
          have RQ := hide (show Reached x (tgt x ⟨2, 0, (q : Int)⟩) by rw [et]; exact Reached.last q hq1 hq2 hq3)
          have ET := hide et
          have hvb := hide (show (Value.slice (some ⟨g, 0, none⟩) M.length capw).ownBlock ≠ some w.heap.size from fun e => unhide AP _ rfl e)
          clear hs hrw a3 eq et MY hq2 hq3
          go_wp2_with fail
          refine (l2mark_any x ⟨2, 0, (q : Int)⟩ b w.heap.size w.heap.size _ K _ ((unhide HH).ext hbl) (unhide MYH) (unhide HS) hbl.size hn8).mono ?_
          rintro e w2 ⟨v', L', rfl, hs', ha, hm⟩
          have R := hide (show Sn w2 w.heap.size w.heap.size x.cells.length v' L' ∧ Rw1 w2 BW (.slice (some ⟨g, 0, none⟩) M.length capw) M ∧ (∀ q, (Value.slice (some ⟨g, 0, none⟩) M.length capw).ownBlock = some q → v'.ownBlock ≠ some q) ∧ (OnlyR x L' ∧ RegsIn x x.regs.length L' ∧ WantsIn M (k + 1) L') ∧ Ext w w2 from
            ⟨hs', (unhide RW).mfr hm (unhide hvb) (unhide hap), mfr_apart (unhide RW) hm (unhide hap), ⟨(unhide hinv).1.add (unhide ha) (fun _ => unhide RQ), fun j hj hjk e => (unhide ha).sub ((unhide hinv).2.1 j hj hjk e), fun j hj => by
              by_cases q2 : j = k
              · rw [q2, unhide EQ]; have := (unhide ha).has rfl; rw [unhide ET] at this; exact this
              · exact (unhide ha).sub ((unhide hinv).2.2 j (by omega))⟩, (unhide HS).mext hm hbl⟩)
          clear hs' ha hm
          go_wp2_with fail
          go_roundw
          case rel => exact ⟨k + 1, L', by omega, by go_num, (unhide R).1, (unhide R).2.1, (unhide R).2.2.1, (unhide R).2.2.2.1, (unhide R).2.2.2.2⟩
          case measure => simp [intOf]; omega
        · have G0 := hide (show Gone x 0 K from ⟨(unhide hinv).1, (unhide hinv).2.1, fun i hi h1 h2 => by
            obtain ⟨j, hj, e⟩ := List.getElem_of_mem (unhide WA i hi h1 h2)
            rw [it_eq M j hj] at e
            rw [← e]; exact (unhide hinv).2.2 j (by omega), fun q hq => by omega⟩)
          clear hs hrw RW hap hinv WM WA AP hgw
          go_wp2_with fail
          go_loopw [5, 10] (fun v i wy => ∃ (c : Nat) (J : List Int), c ≤ J.length ∧ i = .int .i64 c ∧ Sn wy w.heap.size w.heap.size x.cells.length v J ∧ Hid (Gone x c J) ∧ Ext w wy) (fun _ i _ => x.cells.length - (intOf i).toNat)
          case atStart => exact ⟨0, K, Nat.zero_le _, rfl, unhide HS, unhide G0, hbl⟩
          case round =>
            clear G0 HS hbl
            obtain ⟨c, J, hc, rfl, hs, hgo, hbl⟩ := hrel
            have HS := hide hs
            obtain ⟨ad, cap, rfl, hgl⟩ := hs.form
            have hJn := hs.len
            by_cases hlt : c < J.length
            · obtain ⟨g, rfl⟩ := hgl (by omega)
              obtain ⟨a1, a2, a3⟩ := (Rw1.mk hs.own).cell c hlt
              obtain ⟨j, ej, hrj⟩ := (unhide hgo).o _ (it_mem J c hlt)
              rw [ej] at a1
              have hgj := hrj.good (unhide Q2) (unhide Q4)
              have hh := (unhide HH).ext hbl
              obtain ⟨b', o, ap, kp, e1, C⟩ := (unhide HH).cell j hgj.1
              have d4 := hh.c4
              rw [e1] at d4
              have p7 := hbl.keep C.p7
              have lp := C.lp
              have HP := hide C.P
              have EJ := hide ej
              have RJ := hide hrj
              have GJ := hide hgj
              have hjn := hgj.1
              have c0 : (0:Int) ≤ (c:Int) := by omega
              have c1 : (c:Int) < (J.length:Int) := by omega
              have j0 : (0:Int) ≤ (j:Int) := by omega
              have j1 : (j:Int) < (x.cells.length:Int) := by omega
              clear hs C hh e1 ej hrj hgj a3 a2
              go_wp2_with fail
              go_quiet (fail)
              go_wp2_with fail
              go_loopw [5, 66] (fun v i wz => ∃ (p : Nat) (T : List Int), p ≤ (x.c j).prs.length ∧ i = .int .i64 p ∧ Sn wz w.heap.size w.heap.size x.cells.length v T ∧ Hid (Gone x c T ∧ it T c = (j : Int) ∧ c < T.length ∧ PairsIn x j p T) ∧ Ext w wz) (fun _ i _ => (x.c j).prs.length - (intOf i).toNat)
              case atStart => exact ⟨0, J, Nat.zero_le _, rfl, (unhide HS).ext ((Ext.refl _).drewN _), ⟨unhide hgo, unhide EJ, hlt, fun p hp => by omega⟩, hbl.drewN _⟩
              case round =>
                clear HS hgo a1 d4 p7 hbl
                obtain ⟨p, T, hp, rfl, hs, hinv, hbl2⟩ := hrel
                have HS := hide hs
                have hTn := hs.len
                by_cases hpl : p < (x.c j).prs.length
                · obtain ⟨b2, o2, rfl, q0, q1, q2, q3, q4, q5⟩ := unhide HP p hpl
                  have e0 := hbl2.keep q0
                  have e1 := hbl2.keep q1
                  have e2 := hbl2.keep q2
                  have e3 := hbl2.keep q3
                  have e4 := hbl2.keep q4
                  have e5 := hbl2.keep q5
                  have hb2 : b2 < wr.heap.size := cell_lt e0
                  clear q0 q1 q2 q3 q4 q5 hs
                  have hp0 : (0:Int) ≤ (p:Int) := by omega
                  have hp1 : (p:Int) < ((x.c j).prs.length:Int) := by omega
                  have xa := (Ext.refl wr).alloc (.cells #[.int .i64 ((x.c j).p p).key.k, .int .i64 ((x.c j).p p).key.n, .int .i64 ((x.c j).p p).key.a, .int .i64 ((x.c j).p p).val.k, .int .i64 ((x.c j).p p).val.n, .int .i64 ((x.c j).p p).val.a] 123)
                  have hMM := hide (may_pair (unhide Q2) (unhide Q4) j p (unhide GJ) hpl)
                  have wW : Ext w wr := hbl2
                  go_wp2_with fail
                  refine (l2mark_any x ((x.c j).p p).key b w.heap.size w.heap.size _ T _ ((unhide HH).ext (wW.trans xa)) (unhide hMM).1 ((unhide HS).ext xa) (wW.trans xa).size hn8).mono ?_
                  rintro e w5 ⟨v5, T5, rfl, hs5, ha5, hm5⟩
                  have x5 : Ext w w5 := ((unhide HS).ext xa).mext hm5 (wW.trans xa)
                  have hvl := ((unhide HS).ext xa).own.lt
                  have u := fun (o : Nat) (v : Value) (hc : (wr.alloc (.cells #[.int .i64 ((x.c j).p p).key.k, .int .i64 ((x.c j).p p).key.n, .int .i64 ((x.c j).p p).key.a, .int .i64 ((x.c j).p p).val.k, .int .i64 ((x.c j).p p).val.n, .int .i64 ((x.c j).p p).val.a] 123)).cell? ⟨wr.heap.size, o, none⟩ = some v) => (World.cell?_of_block (w' := w5) (a := ⟨wr.heap.size, o, none⟩) (hm5.block wr.heap.size (by simp) (by have := (unhide HS).hb.2; omega) (fun f => by have := ((unhide HS).own.lt _ f).2; omega))).trans hc
                  have u3 := u 3 _ (by simp [go_sem]; rfl)
                  have u4 := u 4 _ (by simp [go_sem]; rfl)
                  have u5 := u 5 _ (by simp [go_sem]; rfl)
                  have hb5 : wr.heap.size < w5.heap.size := by have := hm5.size; simp at this; omega
                  have S5 := hide hs5
                  have A5 := hide (unhide ha5)
                  clear u hm5 hs5 ha5 e0 e1 e2 e3 e4 e5 hvl xa
                  go_wp2_with fail
                  refine (l2mark_any x ((x.c j).p p).val b w.heap.size w.heap.size _ T5 _ ((unhide HH).ext x5) (unhide hMM).2 (unhide S5) x5.size hn8).mono ?_
                  rintro e w6 ⟨v6, T6, rfl, hs6, ha6, hm6⟩
                  have R := hide (show Sn w6 w.heap.size w.heap.size x.cells.length v6 T6 ∧ (Gone x c T6 ∧ it T6 c = (j : Int) ∧ c < T6.length ∧ PairsIn x j (p + 1) T6) ∧ Ext w w6 by
                    obtain ⟨i1, i2, i3, i4⟩ := unhide hinv
                    obtain ⟨R5, r5⟩ := (unhide A5).pre
                    obtain ⟨R6, r6⟩ := (unhide ha6).pre
                    have l5 : T.length ≤ T5.length := by rw [r5]; simp
                    have l6 : T5.length ≤ T6.length := by rw [r6]; simp
                    refine ⟨hs6, ⟨(i1.add (unhide A5) (by omega) (fun e => Reached.key j p (unhide RJ) hpl e)).add (unhide ha6) (by omega) (fun e => Reached.val j p (unhide RJ) hpl e), ?_, by omega, fun q hq => ?_⟩, (unhide S5).mext hm6 x5⟩
                    · rw [r6, it_pre (by omega), r5, it_pre i3]; exact i2
                    · by_cases qe : q = p
                      · subst qe; exact ⟨fun e => (unhide ha6).sub ((unhide A5).has e), fun e => (unhide ha6).has e⟩
                      · exact ((i4.mono (fun z hz => (unhide ha6).sub ((unhide A5).sub hz))) q (by omega)))
                  clear hs6 ha6 hm6
                  go_wp2_with fail
                  go_roundw
                  case rel => exact ⟨p + 1, T6, by omega, by go_num, (unhide R).1, (unhide R).2.1, (unhide R).2.2⟩
                  case measure => simp [intOf]; omega
                · have hpe : p = (x.c j).prs.length := by omega
                  have R := hide (show Gone x (c + 1) T ∧ c + 1 ≤ T.length by
                    obtain ⟨i1, i2, i3, i4⟩ := unhide hinv
                    rw [hpe] at i4
                    exact ⟨i1.step i2 i4, i3⟩)
                  clear hs hpe
                  go_wp2_with fail
                  go_roundw
                  case rel => exact ⟨c + 1, T, (unhide R).2, by go_num, unhide HS, (unhide R).1, hbl2⟩
                  case measure => simp [intOf]; omega
            · have hce : c = J.length := by omega
              have D := hide (show ∀ i : Nat, (i : Int) ∈ J ↔ Reached x i by have := unhide hgo; rw [hce] at this; exact this.done)
              clear hs hce
              go_wp2_with fail
              go_ret2
              exact ⟨_, J, rfl, unhide HS, unhide D, hbl⟩
end Go.Proofs.YtkabcfhemljnbaaGreat
