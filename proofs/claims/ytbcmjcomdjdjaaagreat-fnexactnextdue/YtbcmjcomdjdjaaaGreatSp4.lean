import Derived.Test.YtbcmjcomdjdjaaaGreatWk3
import Derived.Deep.LoopGhost
import Derived.Test.YtbcmjcomdjdjaaaGreatShelf
import Derived.Shelf.SlSortCmp.NoneTotal
namespace Go.Proofs.YtbcmjcomdjdjaaaGreat
open Go.RowKit
attribute [local go_sem ↓] Go.wp_at_zero Go.wp_at_succ

/-- the row of those that speak, apart from what the walk turns -/
def SpAt (w : World) (g : Option Addr) (bw r1 : Nat) (v : Value) (bn on : Nat) (Ls : List Nat) : Prop := ∀ k (h : k < Ls.length), ∃ gb go, g = some ⟨gb, go, none⟩ ∧ w.cell? ⟨gb, go + k, none⟩ = some (ptr bn (on + Ls[k] * 2)) ∧ gb ≠ bw ∧ gb ≠ r1 ∧ v.ownBlock ≠ some gb
theorem SpAt.ext {w w' : World} {g : Option Addr} {bw r1 : Nat} {v : Value} {bn on : Nat} {Ls : List Nat} (h : SpAt w g bw r1 v bn on Ls) (e : Ext w w') : SpAt w' g bw r1 v bn on Ls := fun k hk => by
  obtain ⟨gb, go, a, c, d⟩ := h k hk
  exact ⟨gb, go, a, e.keep c, d⟩
theorem SpAt.step {w w' : World} {g : Option Addr} {bw r1 : Nat} {v v' : Value} {bn on : Nat} {Ls : List Nat} (h : SpAt w g bw r1 v bn on Ls) (f : KFr bw r1 v v' w w') : SpAt w' g bw r1 v' bn on Ls := fun k hk => by
  obtain ⟨gb, go, a, c, d1, d2, d3⟩ := h k hk
  have hl : gb < w.heap.size := cell_lt c
  refine ⟨gb, go, a, (World.cell?_of_block (a := ⟨gb, go + k, none⟩) (f.block gb hl d1 d2 d3)).trans c, d1, d2, fun e => ?_⟩
  rcases f.own with q | ⟨y, q, hy⟩
  · rw [q] at e; exact d3 e
  · rw [q] at e; cases e; omega

/-- what speakers answers -/
def SpAns (x : Hp) (w w' : World) (g : Option Addr) (bn on : Nat) (Ls : List Nat) : Prop := (∀ k (h : k < Ls.length), ∃ gb go, g = some ⟨gb, go, none⟩ ∧ w'.cell? ⟨gb, go + k, none⟩ = some (ptr bn (on + Ls[k] * 2)) ∧ w.heap.size ≤ gb) ∧ Ls.length ≤ 8000 ∧ (∀ i, i ∈ Ls ↔ i < x.cells.length ∧ Speaks (x.c i))
theorem SpAns.at {x : Hp} {w w' : World} {g : Option Addr} {base bw bv r1 bn on : Nat} {v : Value} {Mt St Ls : List Nat} (h : SpAns x w w' g bn on Ls) (k : WkAt w base bw bv r1 bn on x.cells.length v Mt St) : SpAt w' g bw r1 v bn on Ls := fun i hi => by
  obtain ⟨gb, go, a, c, d⟩ := h.1 i hi
  have := k.rlt
  exact ⟨gb, go, a, c, by omega, by omega, fun e => by have := (k.s.lt gb e).2; omega⟩

theorem next_any (base bw bv r1 bn on n : Nat) (v : Value) (Mt St : List Nat) (w : World) (h : WkAt w base bw bv r1 bn on n v Mt St) (hn8 : n ≤ 8000) :
    Calls Tryz.prog 56 #[.pointer (some ⟨bw, 0, none⟩)] w fun e w' => ∃ t v' St', Hid (e = .returned t) ∧ WkAt w' base bw bv r1 bn on n v' Mt St' ∧ Hid ((t = .pointer none ∧ St = [] ∧ St' = []) ∨ ∃ j, t = ptr bn (on + j * 2) ∧ St = St' ++ [j]) ∧ KFr bw r1 v v' w w' := by
  rcases St.eq_nil_or_concat with q | ⟨S, j, q⟩
  · subst q
    exact (next_none base bw bv r1 bn on n v Mt w h).mono fun _ _ ⟨he, hw⟩ => by subst hw; exact ⟨_, v, [], he, h, .inl ⟨rfl, rfl, rfl⟩, KFr.of_ext (Ext.refl _)⟩
  · rw [List.concat_eq_append] at q
    subst q
    exact (next_some base bw bv r1 bn on n j v Mt S w h hn8).mono fun _ _ ⟨he, v', hw, hk⟩ => ⟨_, v', S, he, hw, .inr ⟨j, rfl, rfl⟩, hk⟩

def LastN (x : Hp) (Mt : List Nat) : Prop := ∀ i, i < x.cells.length → Speaks (x.c i) → i ∈ Mt
/-- the pairs of i below l are gone through -/
def ClosedToN (x : Hp) (Mt : List Nat) (i l : Nat) : Prop := ∀ p, p < (x.c i).prs.length → p < l → (((x.c i).p p).key.k = 2 → tgt x ((x.c i).p p).key ∈ Mt) ∧ (((x.c i).p p).val.k = 2 → tgt x ((x.c i).p p).val ∈ Mt)
def ClosedN (x : Hp) (Mt : List Nat) (i : Nat) : Prop := ClosedToN x Mt i (x.c i).prs.length
theorem ClosedToN.sub {x : Hp} {Mt Mt' : List Nat} {i l : Nat} (h : ClosedToN x Mt i l) (s : ∀ i, i ∈ Mt → i ∈ Mt') : ClosedToN x Mt' i l := fun p h1 h2 => ⟨fun e => s _ ((h p h1 h2).1 e), fun e => s _ ((h p h1 h2).2 e)⟩
/-- the walk between two cells: cur is the one at hand -/
structure InvR (x : Hp) (Mt St : List Nat) (cur : Option Nat) : Prop where
  only : OnlyN x Mt
  regs : RegsN x x.regs.length Mt
  last : LastN x Mt
  part : ∀ i, i ∈ Mt → i ∈ St ∨ cur = some i ∨ ClosedN x Mt i
theorem InvR.done {x : Hp} {Mt : List Nat} (h : InvR x Mt [] none) (i : Nat) : i ∈ Mt ↔ Reached x i := by
  constructor
  · exact h.only i
  · intro r
    have cl : ∀ j, j ∈ Mt → ClosedN x Mt j := fun j hj => by
      rcases h.part j hj with q | q | q
      · cases q
      · cases q
      · exact q
    exact r (fun i => i ∈ Mt) (fun k hk hk2 => h.regs k hk hk hk2) (fun i hi _ hsp => h.last i hi hsp) (fun j p ih hp hk => (cl j ih p hp hp).1 hk) (fun j p ih hp hk => (cl j ih p hp hp).2 hk)
theorem InvR.add {x : Hp} {y : Wd} {Mt Mt' St St' : List Nat} {cur : Option Nat} (h : InvR x Mt St cur) (a : AddN x y Mt Mt' St St') (hy : y.k = 2 → Reached x (tgt x y)) : InvR x Mt' St' cur :=
  ⟨h.only.add a hy, fun j hj hjk e => a.sub.1 _ (h.regs j hj hjk e), fun i hi hs => a.sub.1 _ (h.last i hi hs), fun i hi => by
    rcases a.new hi with q | ⟨_, _, q⟩
    · rcases h.part i q with r | r | r
      · exact .inl (a.sub.2 i r)
      · exact .inr (.inl r)
      · exact .inr (.inr (r.sub a.sub.1))
    · exact .inl q⟩
theorem InvR.shut {x : Hp} {Mt St : List Nat} {j : Nat} (h : InvR x Mt St (some j)) (c : ClosedN x Mt j) : InvR x Mt St none :=
  ⟨h.only, h.regs, h.last, fun i hi => by
    rcases h.part i hi with r | r | r
    · exact .inl r
    · cases r; exact .inr (.inr c)
    · exact .inr (.inr r)⟩
theorem InvR.take {x : Hp} {Mt St : List Nat} {j : Nat} (h : InvR x Mt (St ++ [j]) none) : InvR x Mt St (some j) :=
  ⟨h.only, h.regs, h.last, fun i hi => by
    rcases h.part i hi with r | r | r
    · rcases List.mem_append.1 r with q | q
      · exact .inl q
      · simp at q; exact .inr (.inl (by rw [q]))
    · cases r
    · exact .inr (.inr r)⟩
end Go.Proofs.YtbcmjcomdjdjaaaGreat

namespace Go.Proofs.YtbcmjcomdjdjaaaGreat
open Go.RowKit
attribute [local go_sem ↓] Go.wp_at_zero Go.wp_at_succ

set_option maxHeartbeats 1000000 in
theorem spk_closure (x y : Int) (bn q1 q2 bc r1 r2 : Nat) (W : World) (m1 : W.cell? ⟨bn, q1 + 1, none⟩ = some (ptr bc r1)) (c1 : W.cell? ⟨bc, r1 + 4, none⟩ = some (iv x)) (m2 : W.cell? ⟨bn, q2 + 1, none⟩ = some (ptr bc r2)) (c2 : W.cell? ⟨bc, r2 + 4, none⟩ = some (iv y)) :
    Calls Tryz.prog 106 #[ptr bn q1, ptr bn q2] W fun e w' => e = .returned (.int .i64 (Lib.compareInt x y)) ∧ ∃ q, w' = W.drewN q := by
  have hcon := fun W => AnyG.cmp_Compare_int Tryz.cmpL x y W
  change ∀ W, Calls Tryz.prog 107 _ _ _ at hcon
  generalize Lib.compareInt x y = r at hcon ⊢
  have HC := hide hcon
  clear hcon
  go_enter Tryz.func106, Tryz.ntmps106
  go_wp2_with fail
  go_quiet ((go_at_call 107; exact Calls.quiet_of_same (unhide HC _)))
  go_wp2_with fail
  go_ret
  exact ⟨rfl, _, rfl⟩
end Go.Proofs.YtbcmjcomdjdjaaaGreat

namespace Go.Proofs.YtbcmjcomdjdjaaaGreat
open Go.RowKit Go.Lib Go.Sort Go.Shelf
def clN (n i : Nat) : Nat := if i < n then i else 0
theorem clN_lt {n i : Nat} (h : i < n) : clN n i = i := by simp [clN, h]
theorem clN_ok {n i : Nat} (h : 0 < n) : clN n i < n := by unfold clN; split <;> omega
def encN (bn on n i : Nat) : Value := ptr bn (on + clN n i * 2)
def cfN (x : Hp) (i j : Nat) : Int := Lib.compareInt (x.c (clN x.cells.length i)).born (x.c (clN x.cells.length j)).born
theorem ltN (x : Hp) (i j : Nat) : ltOf (cfN x) i j = decide ((x.c (clN x.cells.length i)).born < (x.c (clN x.cells.length j)).born) := by
  unfold ltOf cfN Lib.compareInt
  by_cases h1 : (x.c (clN x.cells.length i)).born < (x.c (clN x.cells.length j)).born
  · simp [h1]
  · by_cases h2 : (x.c (clN x.cells.length j)).born < (x.c (clN x.cells.length i)).born <;> simp [h1, h2]
theorem swoN (x : Hp) : SWO (ltOf (cfN x)) := {
  irrefl := fun i => by rw [ltN]; simp
  trans := fun i j k h1 h2 => by rw [ltN] at *; simp at *; omega
  ntrans := fun i j k h1 h2 => by rw [ltN] at *; simp at *; omega }

theorem block_sort {α : Type} [Inhabited α] (enc : α → Value) (w : World) (blk off m k : Nat) (d : Array α) (os : Array Obj) (hk : k ≠ blk) (hks : k < w.heap.size) : (sortWorld enc w blk off m d os).heap[k]? = w.heap[k]? := by
  have hs : (putRow enc (Sort.ahead w m) blk off d).heap.size = w.heap.size := by simp [putRow, mapBlock, Sort.ahead]
  show ((putRow enc (Sort.ahead w m) blk off d).heap ++ os)[k]? = w.heap[k]?
  rw [Array.getElem?_append_left (by omega)]
  show (w.heap.modify blk _)[k]? = w.heap[k]?
  rw [Array.getElem?_modify, if_neg (by omega)]
theorem below_sort {α : Type} [Inhabited α] (enc : α → Value) (w : World) (blk off m base : Nat) (d : Array α) (os : Array Obj) (hb : base ≤ blk) (hbs : base ≤ w.heap.size) : Go.RowKit.Below base w (sortWorld enc w blk off m d os) := by
  have hs : (putRow enc (Sort.ahead w m) blk off d).heap.size = w.heap.size := by simp [putRow, mapBlock, Sort.ahead]
  refine ⟨rfl, rfl, rfl, ?_, fun k hk => block_sort enc w blk off m k d os (by omega) (by omega)⟩
  simp [sortWorld, grow, hs]

/-- in the order of making -/
def SrtN (x : Hp) (L : List Nat) : Prop := ∀ i j (hi : i < L.length) (hj : j < L.length), i < j → (x.c L[i]).born ≤ (x.c L[j]).born

theorem sort_some (x : Hp) (b base g cap : Nat) (Ls : List Nat) (w : World) {ar : Option Addr} {kr : Nat} {ac : Option Addr} {kc : Nat} {ag : Option Addr} {kg : Nat} {kn : Nat} (bn on : Nat) (h : VAt w b x ar kr ac kc ag kg (some ⟨bn, on, none⟩) kn) (hbn : ∀ i, i < x.cells.length → ∃ bc oc, ac = some ⟨bc, oc, none⟩ ∧ bc < base ∧ bn < base) (hL : ∀ i, i ∈ Ls → i < x.cells.length) (hne : 0 < x.cells.length) (h8 : Ls.length ≤ 8000)
    (hc : ∀ j (hj : j < Ls.length), w.cell? ⟨g, j, none⟩ = some (ptr bn (on + Ls[j] * 2)) ∧ w.frozen? ⟨g, j, none⟩ = false) (hg : base ≤ g) (hgs : g < w.heap.size) (hbs : base ≤ w.heap.size) :
    Calls Tryz.prog 105 #[.slice (some ⟨g, 0, none⟩) Ls.length cap, .func (.func 106) #[] #[]] w fun e w' => e = .returned (.tuple #[]) ∧ ∃ Ls', Hid (List.Perm Ls' Ls) ∧ Hid (∀ j (hj : j < Ls'.length), w'.cell? ⟨g, j, none⟩ = some (ptr bn (on + Ls'[j] * 2))) ∧ Hid (SrtN x Ls') ∧ Go.RowKit.Below base w w' := by
  have eg : ∀ args w, (callFunc 106 args).run Tryz.prog w = .ok (.enter 106 args) w := enters_of Tryz.func106 (by kernel_rfl) rfl
  have hH : Holds (encN bn on x.cells.length) w g 0 Ls.toArray := fun j hj => by
    have hj' : j < Ls.length := by simpa using hj
    have := hc j hj'
    rw [getElem!_pos _ j hj]
    simp only [Nat.zero_add, encN, List.getElem_toArray]
    rw [clN_lt (hL _ (List.getElem_mem hj'))]
    exact this
  have hR : CmpReads Tryz.prog 106 #[] (encN bn on x.cells.length) (cfN x) g 0 Ls.toArray.size w := fun m os dk hdk i j => by
    obtain ⟨bc, oc, e0, l1, l2⟩ := hbn _ (clN_ok (i := i) hne)
    have key : ∀ i, (sortWorld (encN bn on x.cells.length) w g 0 m dk os).cell? ⟨bn, on + clN x.cells.length i * 2 + 1, none⟩ = some (ptr bc (oc + clN x.cells.length i * 8)) ∧ (sortWorld (encN bn on x.cells.length) w g 0 m dk os).cell? ⟨bc, oc + clN x.cells.length i * 8 + 4, none⟩ = some (iv (x.c (clN x.cells.length i)).born) := fun i => by
      obtain ⟨bn', on', bc', oc', a1, a2, _, a3⟩ := h.N _ (clN_ok (i := i) hne)
      obtain ⟨bc2, oc2, ap, kp, a4, C⟩ := h.H.cell _ (clN_ok (i := i) hne)
      rw [e0] at a2 a4
      cases a1; cases a2; cases a4
      exact ⟨(World.cell?_of_block (w := w) (a := ⟨bn, _, none⟩) (block_sort _ _ _ _ _ bn _ _ (by omega) (by omega))).trans a3, (World.cell?_of_block (w := w) (a := ⟨bc, _, none⟩) (block_sort _ _ _ _ _ bc _ _ (by omega) (by omega))).trans C.p4⟩
    exact spk_closure _ _ bn _ _ bc _ _ _ (key i).1 (key i).2 (key j).1 (key j).2
  have hS := Any.slices_SortFunc Tryz.sortL (encN bn on x.cells.length) (fun _ => rfl) (cfN x) (swoN x) 106 #[] g 0 cap Ls.toArray w eg hR.lays hH hgs (by simp; omega)
  change Calls Tryz.prog 105 _ _ _ at hS
  refine hS.mono fun e w' ⟨he, d', n, os, hp, hsd, hw⟩ => ⟨he, d'.toList, ?_, ?_, ?_, ?_⟩
  · obtain ⟨q1, _, q3⟩ := hp
    have e1 : d'.extract 0 Ls.toArray.size = d' := by rw [← q1]; simp
    have e2 : Ls.toArray.extract 0 Ls.toArray.size = Ls.toArray := by simp
    rw [e1, e2] at q3
    exact q3
  · obtain ⟨q1, _, q3⟩ := hp
    have e1 : d'.extract 0 Ls.toArray.size = d' := by rw [← q1]; simp
    have e2 : Ls.toArray.extract 0 Ls.toArray.size = Ls.toArray := by simp
    rw [e1, e2] at q3
    intro j hj
    have hj' : j < d'.size := by simpa using hj
    have := (holds_sortWorld (encN bn on x.cells.length) w g 0 n Ls.toArray d' os hgs hH q1 j hj').1
    rw [getElem!_pos _ j hj', ← hw] at this
    simp only [Nat.zero_add, encN] at this
    rw [clN_lt (hL _ (q3.mem_iff.1 (Array.getElem_mem_toList hj')))] at this
    simpa using this
  · obtain ⟨q1, _, q3⟩ := hp
    have e1 : d'.extract 0 Ls.toArray.size = d' := by rw [← q1]; simp
    have e2 : Ls.toArray.extract 0 Ls.toArray.size = Ls.toArray := by simp
    rw [e1, e2] at q3
    intro i j hi hj hij
    have hi' : i < d'.size := by simpa using hi
    have hj' : j < d'.size := by simpa using hj
    have := hsd i j (Nat.zero_le _) hij (by omega)
    rw [getElem!_pos _ i hi', getElem!_pos _ j hj', ltN, clN_lt (hL _ (q3.mem_iff.1 (Array.getElem_mem_toList hi'))), clN_lt (hL _ (q3.mem_iff.1 (Array.getElem_mem_toList hj')))] at this
    simp at this
    simpa using this
  · rw [hw]; exact below_sort _ _ _ _ _ _ _ _ hg hbs

end Go.Proofs.YtbcmjcomdjdjaaaGreat

namespace Go.Proofs.YtbcmjcomdjdjaaaGreat
open Go.RowKit
theorem sort_none (p : Option Addr) (cap : Nat) (w : World) :
    Calls Tryz.prog 105 #[.slice p 0 cap, .func (.func 106) #[] #[]] w fun e w' => e = .returned (.tuple #[]) ∧ w' = w :=
  AnyF.slices_SortFunc_none (P := Tryz.prog) (ρ := Tryz.sortL_ren) { Tryz.sortL with } p cap (.func (.func 106) #[] #[]) w

/-- the sort of a row that the caller owns -/
theorem sort_own (x : Hp) (b base : Nat) (v : Value) (Ls : List Nat) (w : World) {ar : Option Addr} {kr : Nat} {ac : Option Addr} {kc : Nat} {ag : Option Addr} {kg : Nat} {kn : Nat} (bn on : Nat) (h : VAt w b x ar kr ac kc ag kg (some ⟨bn, on, none⟩) kn) (hbn : ∀ i, i < x.cells.length → ∃ bc oc, ac = some ⟨bc, oc, none⟩ ∧ bc < base ∧ bn < base) (hL : ∀ i, i ∈ Ls → i < x.cells.length) (h8 : Ls.length ≤ 8000)
    (hv : w.ownsRow base 60 1 v Ls.length (Ls.map (fun i => ptr bn (on + i * 2)))) (hbs : base ≤ w.heap.size) :
    Calls Tryz.prog 105 #[v, .func (.func 106) #[] #[]] w fun e w' => e = .returned (.tuple #[]) ∧ Hid (∃ g cap Ls', v = .slice g Ls'.length cap ∧ List.Perm Ls' Ls ∧ (∀ j (hj : j < Ls'.length), ∃ gb go, g = some ⟨gb, go, none⟩ ∧ w'.cell? ⟨gb, go + j, none⟩ = some (ptr bn (on + Ls'[j] * 2)) ∧ base ≤ gb) ∧ SrtN x Ls') ∧ Below base w w' := by
  by_cases h0 : Ls = []
  · subst h0
    obtain ⟨p, cap, rfl⟩ : ∃ p cap, v = .slice p 0 cap := by
      rcases hv.2 with ⟨e, _⟩ | ⟨g, cap, cur, e, _⟩
      · exact ⟨none, 0, e⟩
      · exact ⟨_, _, e⟩
    exact (sort_none p cap w).mono fun _ _ ⟨he, hw⟩ => by subst hw; exact ⟨he, ⟨p, cap, [], rfl, List.Perm.refl _, (fun j hj => by simp at hj), fun i j hi => by simp at hi⟩, Below.refl _ _⟩
  · have hpos : 0 < Ls.length := List.length_pos_iff.2 h0
    rcases hv.2 with ⟨_, e⟩ | ⟨g, cap, cur, rfl, hg, hb, _⟩
    · omega
    · have hgs : g < w.heap.size := by
        rcases Nat.lt_or_ge g w.heap.size with q | q
        · exact q
        · rw [Array.getElem?_eq_none q] at hb; cases hb
      have hne : 0 < x.cells.length := by have := hL _ (List.getElem_mem hpos); omega
      have hc : ∀ j (hj : j < Ls.length), w.cell? ⟨g, j, none⟩ = some (ptr bn (on + Ls[j] * 2)) ∧ w.frozen? ⟨g, j, none⟩ = false := fun j hj => by
        refine ⟨?_, World.ownsRow.frozenAt hv j⟩
        rw [World.ownsRow.cellAt hv j (by omega)]
        simp [List.getElem?_eq_getElem hj]
      exact (sort_some x b base g cap Ls w bn on h hbn hL hne h8 hc hg hgs hbs).mono fun _ w' ⟨he, L', hp, hc', hsr, hbl⟩ => ⟨he, ⟨some ⟨g, 0, none⟩, cap, L', by rw [(unhide hp).length_eq], unhide hp, fun j hj => ⟨g, 0, rfl, by rw [Nat.zero_add]; exact unhide hc' j hj, hg⟩, unhide hsr⟩, hbl⟩
end Go.Proofs.YtbcmjcomdjdjaaaGreat

namespace Go.Proofs.YtbcmjcomdjdjaaaGreat
open Go.RowKit
attribute [local go_sem ↓] Go.wp_at_zero Go.wp_at_succ

/-- those below k that speak -/
def spk (x : Hp) (k : Nat) : List Nat := (List.range k).filter (fun i => speaksN (x.c i))
theorem spk_no {x : Hp} {k : Nat} (h : speaksN (x.c k) = false) : spk x (k + 1) = spk x k := by simp [spk, List.range_succ, List.filter_append, h]
theorem spk_yes {x : Hp} {k : Nat} (h : speaksN (x.c k) = true) : spk x (k + 1) = spk x k ++ [k] := by simp [spk, List.range_succ, List.filter_append, h]
theorem spk_len (x : Hp) (k : Nat) : (spk x k).length ≤ k := by have := List.length_filter_le (fun i => speaksN (x.c i)) (List.range k); simpa [spk] using this
theorem spk_mem {x : Hp} {k i : Nat} : i ∈ spk x k ↔ i < k ∧ Speaks (x.c i) := by simp [spk, speaksN_iff]
theorem row_ext {a w w2 : World} {T : TypeId} {v : Value} {n : Nat} {vs : List Value} {o : Obj} (h : w.ownsRow a.heap.size T 1 v n vs) (e : Ext a w) (hg : (w.alloc o).grownBy w2 v.ownBlock) : Ext a w2 := by
  have hs : w.heap.size + 1 ≤ w2.heap.size := by have := hg.size; simpa using this
  refine Below.trans e ⟨hg.os, hg.tape, hg.output, by omega, fun k hk => ?_⟩
  have hkw : k < w.heap.size := Nat.lt_of_lt_of_le hk e.size
  rw [hg.block k (by simp; omega) (fun f => by have := (h.lt k f.symm).1; omega), Below.heap_alloc _ o k hkw]

set_option maxRecDepth 100000 in
set_option maxHeartbeats 2000000 in
theorem speakers_ord (x : Hp) (b : Nat) (w : World) {ar : Option Addr} {kr : Nat} {ac : Option Addr} {kc : Nat} {ag : Option Addr} {kg : Nat} {kn : Nat} (bn on : Nat) (h : VAt w b x ar kr ac kc ag kg (some ⟨bn, on, none⟩) kn) (hn8 : x.cells.length ≤ 8000) :
    Calls Tryz.prog 54 #[.pointer (some ⟨b, 0, none⟩)] w fun e w' => ∃ (g : Option Addr) (cap : Nat) (Ls : List Nat), Hid (e = .returned (.slice g Ls.length cap)) ∧ Hid (SpAns x w w' g bn on Ls) ∧ Hid (SrtN x Ls ∧ Ls.Perm (spk x x.cells.length)) ∧ Ext w w' := by
  obtain ⟨i0, hi0, hy0, hy1, hy2⟩ := info_parts infoNodeP
  have n13 := h.n13
  have HV := hide h
  clear h
  go_enter Tryz.func54, Tryz.ntmps54
  go_wp2_with fail
  go_loopw [3, 10] (fun v i wr => ∃ (k : Nat), k ≤ x.cells.length ∧ i = .int .i64 k ∧ Hid (wr.ownsRow w.heap.size 60 1 v (spk x k).length ((spk x k).map (fun i => ptr bn (on + i * 2)))) ∧ Ext w wr) (fun _ i _ => x.cells.length - (intOf i).toNat)
  case atStart => exact ⟨0, Nat.zero_le _, rfl, World.ownsRow_nil _ _ _ _, Ext.refl w⟩
  case round =>
    clear n13
    obtain ⟨k, hk, rfl, hrw, hbl⟩ := hrel
    have hlen := spk_len x k
    by_cases hlt : k < x.cells.length
    · have hh := (unhide HV).ext hbl
      have n13 := hh.n13
      obtain ⟨bc, oc, ap, kp, e1, C⟩ := hh.H.cell k hlt
      obtain ⟨bn', on', bc', oc', e2, e3, m0, m1⟩ := hh.N k hlt
      rw [e1] at e3
      cases e2; cases e3
      have HC := hide C
      have hb0 : b < wr.heap.size := cell_lt n13
      have hk0 : (0:Int) ≤ (k:Int) := by omega
      have hk1 : (k:Int) < (x.cells.length:Int) := by omega
      clear hh C m0 e1
      go_wp2_with fail
      refine (speaks_any (x.c k) bn (on + k * 2) bc (oc + k * 8) ap kp _ m1 (unhide HC)).mono ?_
      rintro e w1 ⟨rfl, rfl⟩
      clear m1 HC
      cases t : speaksN (x.c k)
      · have R := hide (show _ from spk_no t ▸ unhide hrw)
        clear t
        go_wp2_with fail
        go_roundw
        case rel => exact ⟨k + 1, by omega, by go_num, unhide R, hbl⟩
        case measure => simp [intOf]; omega
      · have T := hide t
        clear t
        go_wp2_with (at_builtin; refine wpList_append_lies _ rfl _ _ 102 rfl w.heap.size 60 i0 (.pointer none) 1 8 Tryz.underlying102 hi0 hy0 hy1 hy2 rfl (by decide) _ (spk x k).length ((spk x k).map (fun i => ptr bn (on + i * 2))) rfl ((unhide hrw).alloc _) _ 1 1 [ptr bn (on + k * 2)] rfl rfl ?c1 ?c2 (by decide) ?c3 ?c4 ?c5 _ rfl ?_)
        case c1 =>
          intro j u hj
          match j, hj with
          | 0, hj => simp at hj; subst hj; simp [Addr.add]
        case c2 => intro u hu; simp at hu; subst hu; rfl
        case c3 => unfold maxLen; omega
        case c4 => have := hbl.size; simp; omega
        case c5 => have := hbl.size; simp; omega
        intro g cap w2 hown hgrow hat hglt
        have R := hide (And.intro (show w2.ownsRow w.heap.size 60 1 (.slice (some ⟨g, 0, none⟩) ((spk x k).length + 1) cap) (spk x (k + 1)).length ((spk x (k + 1)).map (fun i => ptr bn (on + i * 2))) by rw [spk_yes (unhide T)]; simpa using hown) (row_ext (unhide hrw) hbl hgrow))
        clear hown hgrow hat hglt
        go_wp2_with fail
        go_roundw
        case rel => exact ⟨k + 1, by omega, by go_num, (unhide R).1, (unhide R).2⟩
        case measure => simp [intOf]; omega
    · have hk2 : k = x.cells.length := by omega
      subst hk2
      have VB := hide ((unhide HV).ext hbl)
      have BB := hide (show ∀ i, i < x.cells.length → ∃ bc oc, ac = some ⟨bc, oc, none⟩ ∧ bc < w.heap.size ∧ bn < w.heap.size from fun i hi => by
        obtain ⟨bn', on', bc, oc, e1, e2, m0, _⟩ := (unhide HV).N i hi
        obtain ⟨bc2, oc2, ap, kp, e3, C⟩ := (unhide HV).H.cell i hi
        rw [e2] at e3
        cases e1; cases e3
        exact ⟨bc, oc, e2, cell_lt C.p0, cell_lt m0⟩)
      go_wp2_with fail
      refine (sort_own x b w.heap.size _ (spk x x.cells.length) _ bn on (unhide VB) (unhide BB) (fun i hi => (spk_mem.1 hi).1) (by omega) (unhide hrw) hbl.size).mono ?_
      rintro e w3 ⟨rfl, hs, hb3⟩
      have x3 : Ext w w3 := Below.trans hbl hb3
      go_wp2_with fail
      go_ret
      obtain ⟨g, cap, L', e, hp, hc, hsr⟩ := unhide hs
      exact ⟨g, cap, L', by show _ = _; rw [e]; rfl, ⟨hc, by have := hp.length_eq; omega, fun i => by rw [hp.mem_iff]; exact spk_mem⟩, ⟨hsr, hp⟩, x3⟩
theorem speakers_any (x : Hp) (b : Nat) (w : World) {ar : Option Addr} {kr : Nat} {ac : Option Addr} {kc : Nat} {ag : Option Addr} {kg : Nat} {kn : Nat} (bn on : Nat) (h : VAt w b x ar kr ac kc ag kg (some ⟨bn, on, none⟩) kn) (hn8 : x.cells.length ≤ 8000) :
    Calls Tryz.prog 54 #[.pointer (some ⟨b, 0, none⟩)] w fun e w' => ∃ (g : Option Addr) (cap : Nat) (Ls : List Nat), Hid (e = .returned (.slice g Ls.length cap)) ∧ Hid (SpAns x w w' g bn on Ls) ∧ Ext w w' :=
  (speakers_ord x b w bn on h hn8).mono fun _ _ ⟨g, cap, Ls, a, b, _, c⟩ => ⟨g, cap, Ls, a, b, c⟩
end Go.Proofs.YtbcmjcomdjdjaaaGreat
