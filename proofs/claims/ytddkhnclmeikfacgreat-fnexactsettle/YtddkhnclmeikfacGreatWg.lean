import Derived.Test.YtddkhnclmeikfacGreatProg
import Derived.Shelf.SlSortCmp.Whole1
import Derived.Shelf.SlicesG.Cmp
import Derived.Ground.SlsfProg
import Derived.Ground.SlgcProg
import Derived.Test.YtddkhnclmeikfacGreatWh1
import Derived.Shelf.SlSortCmp.NoneTotal
import Derived.Test.YtddkhnclmeikfacGreatWf
import Derived.Test.YtddkhnclmeikfacGreatWh6
namespace Go.Proofs
open Go.Shelf
def Tryz.sortL_ren : Go.Shelf.Ren := ⟨fun | 6 => 243 | 15 => 276 | 14 => 275 | 28 => 292 | 29 => 293 | 20 => 284 | 21 => 285 | 22 => 286 | 23 => 287 | 24 => 288 | 25 => 289 | 26 => 290 | 27 => 291 | 46 => 295 | 47 => 296 | 48 => 297 | 49 => 298 | 50 => 299 | 57 => 300 | n => n, fun | 22 => 136 | 24 => 95 | 25 => 254 | 3 => 3 | 39 => 278 | 0 => 0 | 53 => 291 | 55 => 293 | 4 => 4 | 46 => 285 | 45 => 284 | 50 => 279 | 5 => 5 | 9 => 9 | 66 => 294 | 70 => 298 | 76 => 300 | 77 => 92 | n => n, fun | n => n⟩
theorem Tryz.sortL : Go.Proofs.SlLaysF.n6 Tryz.prog Tryz.sortL_ren := {
  mixed := by kernel_rfl
  f6 := ⟨Tryz.f243.name, by decide, Tryz.func243.trans (congrArg some (by kernel_rfl))⟩
  f14 := ⟨Tryz.f275.name, by decide, Tryz.func275.trans (congrArg some (by kernel_rfl))⟩
  f15 := Tryz.func276.trans (congrArg some (by kernel_rfl))
  f20 := ⟨Tryz.f284.name, by decide, Tryz.func284.trans (congrArg some (by kernel_rfl))⟩
  f21 := ⟨Tryz.f285.name, by decide, Tryz.func285.trans (congrArg some (by kernel_rfl))⟩
  f22 := ⟨Tryz.f286.name, by decide, Tryz.func286.trans (congrArg some (by kernel_rfl))⟩
  f23 := ⟨Tryz.f287.name, by decide, Tryz.func287.trans (congrArg some (by kernel_rfl))⟩
  f24 := ⟨Tryz.f288.name, by decide, Tryz.func288.trans (congrArg some (by kernel_rfl))⟩
  f25 := ⟨Tryz.f289.name, by decide, Tryz.func289.trans (congrArg some (by kernel_rfl))⟩
  f26 := ⟨Tryz.f290.name, by decide, Tryz.func290.trans (congrArg some (by kernel_rfl))⟩
  f27 := ⟨Tryz.f291.name, by decide, Tryz.func291.trans (congrArg some (by kernel_rfl))⟩
  f28 := Tryz.func292.trans (congrArg some (by kernel_rfl))
  f29 := Tryz.func293.trans (congrArg some (by kernel_rfl))
  f46 := ⟨Tryz.f295.name, by decide, Tryz.func295.trans (congrArg some (by kernel_rfl))⟩
  f47 := Tryz.func296.trans (congrArg some (by kernel_rfl))
  f48 := Tryz.func297.trans (congrArg some (by kernel_rfl))
  f49 := ⟨Tryz.f298.name, by decide, Tryz.func298.trans (congrArg some (by kernel_rfl))⟩
  f50 := ⟨Tryz.f299.name, by decide, Tryz.func299.trans (congrArg some (by kernel_rfl))⟩
  f57 := ⟨Tryz.f300.name, by decide, Tryz.func300.trans (congrArg some (by kernel_rfl))⟩
  t0 := Tryz.underlying0
  a0 := Tryz.isAgg0
  z0 := Tryz.sizeOf0
  v0 := Tryz.zeroValue0
  t3 := Tryz.underlying3
  a3 := Tryz.isAgg3
  z3 := Tryz.sizeOf3
  v3 := Tryz.zeroValue3
  t4 := Tryz.underlying4
  a4 := Tryz.isAgg4
  z4 := Tryz.sizeOf4
  v4 := Tryz.zeroValue4
  t5 := Tryz.underlying5
  a5 := Tryz.isAgg5
  z5 := Tryz.sizeOf5
  v5 := Tryz.zeroValue5
  t9 := Tryz.underlying9
  a9 := Tryz.isAgg9
  z9 := Tryz.sizeOf9
  v9 := Tryz.zeroValue9
  t22 := Tryz.underlying136
  a22 := Tryz.isAgg136
  z22 := Tryz.sizeOf136
  v22 := Tryz.zeroValue136
  a24 := Tryz.isAgg95
  z24 := Tryz.sizeOf95
  t25 := Tryz.underlying254
  a25 := Tryz.isAgg254
  z25 := Tryz.sizeOf254
  v25 := Tryz.zeroValue254
  t39 := Tryz.underlying278
  a39 := Tryz.isAgg278
  z39 := Tryz.sizeOf278
  v39 := Tryz.zeroValue278
  t45 := Tryz.underlying284
  a45 := Tryz.isAgg284
  z45 := Tryz.sizeOf284
  v45 := Tryz.zeroValue284
  t46 := Tryz.underlying285
  a46 := Tryz.isAgg285
  z46 := Tryz.sizeOf285
  v46 := Tryz.zeroValue285
  t50 := Tryz.underlying279
  a50 := Tryz.isAgg279
  z50 := Tryz.sizeOf279
  v50 := Tryz.zeroValue279
  t53 := Tryz.underlying291
  a53 := Tryz.isAgg291
  z53 := Tryz.sizeOf291
  v53 := Tryz.zeroValue291
  t55 := Tryz.underlying293
  a55 := Tryz.isAgg293
  z55 := Tryz.sizeOf293
  v55 := Tryz.zeroValue293
  t66 := Tryz.underlying294
  a66 := Tryz.isAgg294
  z66 := Tryz.sizeOf294
  v66 := Tryz.zeroValue294
  t70 := Tryz.underlying298
  a70 := Tryz.isAgg298
  z70 := Tryz.sizeOf298
  v70 := Tryz.zeroValue298
  t76 := Tryz.underlying300
  a76 := Tryz.isAgg300
  z76 := Tryz.sizeOf300
  v76 := Tryz.zeroValue300
  t77 := Tryz.underlying92
  a77 := Tryz.isAgg92
  z77 := Tryz.sizeOf92
  v77 := Tryz.zeroValue92 }
def Tryz.cmpL_ren : Go.Shelf.Ren := ⟨fun | 5 => 245 | 7 => 277 | n => n, fun | 22 => 3 | 3 => 3 | 4 => 4 | n => n, fun | n => n⟩
theorem Tryz.cmpL : Go.Proofs.SlLaysC2.n5 Tryz.prog Tryz.cmpL_ren := {
  mixed := by kernel_rfl
  f5 := ⟨Tryz.f245.name, by decide, Tryz.func245.trans (congrArg some (by kernel_rfl))⟩
  f7 := ⟨Tryz.f277.name, by decide, Tryz.func277.trans (congrArg some (by kernel_rfl))⟩
  t3 := Tryz.underlying3
  a3 := Tryz.isAgg3
  z3 := Tryz.sizeOf3
  v3 := Tryz.zeroValue3
  t4 := Tryz.underlying4
  a4 := Tryz.isAgg4
  z4 := Tryz.sizeOf4
  v4 := Tryz.zeroValue4
  t22 := Tryz.underlying3
  a22 := Tryz.isAgg3
  z22 := Tryz.sizeOf3
  v22 := Tryz.zeroValue3 }
end Go.Proofs

namespace Go.Proofs.YtddkhnclmeikfacGreat
open Go.RowKit
attribute [local go_sem ↓] Go.wp_at_zero Go.wp_at_succ

set_option maxHeartbeats 1000000 in
theorem spk_closure (x y : Int) (bn q1 q2 bc bd r1 r2 : Nat) (W : World) (m1 : W.cell? ⟨bn, q1 + 1, none⟩ = some (ptr bc r1)) (c1 : W.cell? ⟨bc, r1 + 4, none⟩ = some (iv x)) (m2 : W.cell? ⟨bn, q2 + 1, none⟩ = some (ptr bd r2)) (c2 : W.cell? ⟨bd, r2 + 4, none⟩ = some (iv y)) :
    Calls Tryz.prog 244 #[ptr bn q1, ptr bn q2] W fun e w' => e = .returned (.int .i64 (Lib.compareInt x y)) ∧ ∃ q, w' = W.drewN q := by
  have hcon := fun W => AnyG.cmp_Compare_int Tryz.cmpL x y W
  change ∀ W, Calls Tryz.prog 245 _ _ _ at hcon
  generalize Lib.compareInt x y = r at hcon ⊢
  have HC := hide hcon
  clear hcon
  go_enter Tryz.func244, Tryz.ntmps244
  go_wp2_with fail
  go_quiet ((go_at_call 245; exact Calls.quiet_of_same (unhide HC _)))
  go_wp2_with fail
  go_ret
  exact ⟨rfl, _, rfl⟩
end Go.Proofs.YtddkhnclmeikfacGreat

namespace Go.Proofs.YtddkhnclmeikfacGreat
open Go.RowKit Go.Lib Go.Sort Go.Shelf
def clN (n i : Nat) : Nat := if i < n then i else 0
theorem clN_lt {n i : Nat} (h : i < n) : clN n i = i := by simp [clN, h]
theorem clN_ok {n i : Nat} (h : 0 < n) : clN n i < n := by unfold clN; split <;> omega
def encN (bn on n i : Nat) : Value := ptr bn (on + clN n i * 2)
def cfN (x : Hp) (i j : Nat) : Int := Lib.compareInt (x.c (clN x.cells.length i)).born (x.c (clN x.cells.length j)).born
theorem ltN (x : Hp) (i j : Nat) : ltOf (cfN x) i j = decide ((x.c (clN x.cells.length i)).born < (x.c (clN x.cells.length j)).born) := by
  unfold ltOf cfN Lib.compareInt
  by_cases h1 : (x.c (clN x.cells.length i)).born < (x.c (clN x.cells.length j)).born
  · simp [h1]
  · by_cases h2 : (x.c (clN x.cells.length j)).born < (x.c (clN x.cells.length i)).born <;> simp [h1, h2]
theorem swoN (x : Hp) : SWO (ltOf (cfN x)) := {
  irrefl := fun i => by rw [ltN]; simp
  trans := fun i j k h1 h2 => by rw [ltN] at *; simp at *; omega
  ntrans := fun i j k h1 h2 => by rw [ltN] at *; simp at *; omega }

theorem block_sort {α : Type} [Inhabited α] (enc : α → Value) (w : World) (blk off m k : Nat) (d : Array α) (os : Array Obj) (hk : k ≠ blk) (hks : k < w.heap.size) : (sortWorld enc w blk off m d os).heap[k]? = w.heap[k]? := by
  have hs : (putRow enc (Sort.ahead w m) blk off d).heap.size = w.heap.size := by simp [putRow, mapBlock, Sort.ahead]
  show ((putRow enc (Sort.ahead w m) blk off d).heap ++ os)[k]? = w.heap[k]?
  rw [Array.getElem?_append_left (by omega)]
  show (w.heap.modify blk _)[k]? = w.heap[k]?
  rw [Array.getElem?_modify, if_neg (by omega)]
theorem below_sort {α : Type} [Inhabited α] (enc : α → Value) (w : World) (blk off m base : Nat) (d : Array α) (os : Array Obj) (hb : base ≤ blk) (hbs : base ≤ w.heap.size) : Go.RowKit.Below base w (sortWorld enc w blk off m d os) := by
  have hs : (putRow enc (Sort.ahead w m) blk off d).heap.size = w.heap.size := by simp [putRow, mapBlock, Sort.ahead]
  refine ⟨rfl, rfl, rfl, ?_, fun k hk => block_sort enc w blk off m k d os (by omega) (by omega)⟩
  simp [sortWorld, grow, hs]

/-- in the order of making -/
def SrtN (x : Hp) (L : List Nat) : Prop := ∀ i j (hi : i < L.length) (hj : j < L.length), i < j → (x.c L[i]).born ≤ (x.c L[j]).born

theorem sort_some (x : Hp) (b base g cap : Nat) (Ls : List Nat) (w : World) {ar : Option Addr} {kr : Nat} {ac : Nat → Option Addr} {kn : Nat} (bn on : Nat) (h : VNt w b x ar kr ac (some ⟨bn, on, none⟩) kn) (hbn : ∀ i, i < x.cells.length → ∃ bc oc, ac i = some ⟨bc, oc, none⟩ ∧ bc < base ∧ bn < base) (hL : ∀ i, i ∈ Ls → i < x.cells.length) (hne : 0 < x.cells.length) (h8 : Ls.length ≤ 8000)
    (hc : ∀ j (hj : j < Ls.length), w.cell? ⟨g, j, none⟩ = some (ptr bn (on + Ls[j] * 2)) ∧ w.frozen? ⟨g, j, none⟩ = false) (hg : base ≤ g) (hgs : g < w.heap.size) (hbs : base ≤ w.heap.size) :
    Calls Tryz.prog 243 #[.slice (some ⟨g, 0, none⟩) Ls.length cap, .func (.func 244) #[] #[]] w fun e w' => e = .returned (.tuple #[]) ∧ ∃ Ls', Hid (List.Perm Ls' Ls) ∧ Hid (∀ j (hj : j < Ls'.length), w'.cell? ⟨g, j, none⟩ = some (ptr bn (on + Ls'[j] * 2))) ∧ Hid (SrtN x Ls') ∧ Go.RowKit.Below base w w' := by
  have eg : ∀ args w, (callFunc 244 args).run Tryz.prog w = .ok (.enter 244 args) w := enters_of Tryz.func244 (by kernel_rfl) rfl
  have hH : Holds (encN bn on x.cells.length) w g 0 Ls.toArray := fun j hj => by
    have hj' : j < Ls.length := by simpa using hj
    have := hc j hj'
    rw [getElem!_pos _ j hj]
    simp only [Nat.zero_add, encN, List.getElem_toArray]
    rw [clN_lt (hL _ (List.getElem_mem hj'))]
    exact this
  have hR : CmpReads Tryz.prog 244 #[] (encN bn on x.cells.length) (cfN x) g 0 Ls.toArray.size w := fun m os dk hdk i j => by
    have key : ∀ i, ∃ bc oc, (sortWorld (encN bn on x.cells.length) w g 0 m dk os).cell? ⟨bn, on + clN x.cells.length i * 2 + 1, none⟩ = some (ptr bc oc) ∧ (sortWorld (encN bn on x.cells.length) w g 0 m dk os).cell? ⟨bc, oc + 4, none⟩ = some (iv (x.c (clN x.cells.length i)).born) := fun i => by
      obtain ⟨bc, oc, e0, l1, l2⟩ := hbn _ (clN_ok (i := i) hne)
      obtain ⟨bn', on', bc', oc', a1, a2, _, a3⟩ := h.N _ (clN_ok (i := i) hne)
      obtain ⟨bc2, oc2, ap, kp, a4, C⟩ := h.H.cell _ (clN_ok (i := i) hne)
      rw [e0] at a2 a4
      cases a1; cases a2; cases a4
      exact ⟨bc, oc, (World.cell?_of_block (w := w) (a := ⟨bn, _, none⟩) (block_sort _ _ _ _ _ bn _ _ (by omega) (by omega))).trans a3, (World.cell?_of_block (w := w) (a := ⟨bc, _, none⟩) (block_sort _ _ _ _ _ bc _ _ (by omega) (by omega))).trans C.p4⟩
    obtain ⟨bc, oc, k1, k2⟩ := key i
    obtain ⟨bd, od, k3, k4⟩ := key j
    exact spk_closure _ _ bn _ _ bc bd _ _ _ k1 k2 k3 k4
  have hS := Any.slices_SortFunc Tryz.sortL (encN bn on x.cells.length) (fun _ => rfl) (cfN x) (swoN x) 244 #[] g 0 cap Ls.toArray w eg hR.lays hH hgs (by simp; omega)
  change Calls Tryz.prog 243 _ _ _ at hS
  refine hS.mono fun e w' ⟨he, d', n, os, hp, hsd, hw⟩ => ⟨he, d'.toList, ?_, ?_, ?_, ?_⟩
  · obtain ⟨q1, _, q3⟩ := hp
    have e1 : d'.extract 0 Ls.toArray.size = d' := by rw [← q1]; simp
    have e2 : Ls.toArray.extract 0 Ls.toArray.size = Ls.toArray := by simp
    rw [e1, e2] at q3
    exact q3
  · obtain ⟨q1, _, q3⟩ := hp
    have e1 : d'.extract 0 Ls.toArray.size = d' := by rw [← q1]; simp
    have e2 : Ls.toArray.extract 0 Ls.toArray.size = Ls.toArray := by simp
    rw [e1, e2] at q3
    intro j hj
    have hj' : j < d'.size := by simpa using hj
    have := (holds_sortWorld (encN bn on x.cells.length) w g 0 n Ls.toArray d' os hgs hH q1 j hj').1
    rw [getElem!_pos _ j hj', ← hw] at this
    simp only [Nat.zero_add, encN] at this
    rw [clN_lt (hL _ (q3.mem_iff.1 (Array.getElem_mem_toList hj')))] at this
    simpa using this
  · obtain ⟨q1, _, q3⟩ := hp
    have e1 : d'.extract 0 Ls.toArray.size = d' := by rw [← q1]; simp
    have e2 : Ls.toArray.extract 0 Ls.toArray.size = Ls.toArray := by simp
    rw [e1, e2] at q3
    intro i j hi hj hij
    have hi' : i < d'.size := by simpa using hi
    have hj' : j < d'.size := by simpa using hj
    have := hsd i j (Nat.zero_le _) hij (by omega)
    rw [getElem!_pos _ i hi', getElem!_pos _ j hj', ltN, clN_lt (hL _ (q3.mem_iff.1 (Array.getElem_mem_toList hi'))), clN_lt (hL _ (q3.mem_iff.1 (Array.getElem_mem_toList hj')))] at this
    simp at this
    simpa using this
  · rw [hw]; exact below_sort _ _ _ _ _ _ _ _ hg hbs

end Go.Proofs.YtddkhnclmeikfacGreat

namespace Go.Proofs.YtddkhnclmeikfacGreat
open Go.RowKit
theorem sort_none (p : Option Addr) (cap : Nat) (w : World) :
    Calls Tryz.prog 243 #[.slice p 0 cap, .func (.func 244) #[] #[]] w fun e w' => e = .returned (.tuple #[]) ∧ w' = w :=
  AnyF.slices_SortFunc_none (P := Tryz.prog) (ρ := Tryz.sortL_ren) { Tryz.sortL with } p cap (.func (.func 244) #[] #[]) w

/-- the sort of a row that the caller owns -/
theorem sort_own (x : Hp) (b base : Nat) (v : Value) (Ls : List Nat) (w : World) {ar : Option Addr} {kr : Nat} {ac : Nat → Option Addr} {kn : Nat} (bn on : Nat) (h : VNt w b x ar kr ac (some ⟨bn, on, none⟩) kn) (hbn : ∀ i, i < x.cells.length → ∃ bc oc, ac i = some ⟨bc, oc, none⟩ ∧ bc < base ∧ bn < base) (hL : ∀ i, i ∈ Ls → i < x.cells.length) (h8 : Ls.length ≤ 8000)
    (hv : w.ownsRow base 95 1 v Ls.length (Ls.map (fun i => ptr bn (on + i * 2)))) (hbs : base ≤ w.heap.size) :
    Calls Tryz.prog 243 #[v, .func (.func 244) #[] #[]] w fun e w' => e = .returned (.tuple #[]) ∧ Hid (∃ g cap Ls', v = .slice g Ls'.length cap ∧ List.Perm Ls' Ls ∧ (∀ j (hj : j < Ls'.length), ∃ gb go, g = some ⟨gb, go, none⟩ ∧ w'.cell? ⟨gb, go + j, none⟩ = some (ptr bn (on + Ls'[j] * 2)) ∧ base ≤ gb) ∧ SrtN x Ls') ∧ Below base w w' := by
  by_cases h0 : Ls = []
  · subst h0
    obtain ⟨p, cap, rfl⟩ : ∃ p cap, v = .slice p 0 cap := by
      rcases hv.2 with ⟨e, _⟩ | ⟨g, cap, cur, e, _⟩
      · exact ⟨none, 0, e⟩
      · exact ⟨_, _, e⟩
    exact (sort_none p cap w).mono fun _ _ ⟨he, hw⟩ => by subst hw; exact ⟨he, ⟨p, cap, [], rfl, List.Perm.refl _, (fun j hj => by simp at hj), fun i j hi => by simp at hi⟩, Below.refl _ _⟩
  · have hpos : 0 < Ls.length := List.length_pos_iff.2 h0
    rcases hv.2 with ⟨_, e⟩ | ⟨g, cap, cur, rfl, hg, hb, _⟩
    · omega
    · have hgs : g < w.heap.size := by
        rcases Nat.lt_or_ge g w.heap.size with q | q
        · exact q
        · rw [Array.getElem?_eq_none q] at hb; cases hb
      have hne : 0 < x.cells.length := by have := hL _ (List.getElem_mem hpos); omega
      have hc : ∀ j (hj : j < Ls.length), w.cell? ⟨g, j, none⟩ = some (ptr bn (on + Ls[j] * 2)) ∧ w.frozen? ⟨g, j, none⟩ = false := fun j hj => by
        refine ⟨?_, World.ownsRow.frozenAt hv j⟩
        rw [World.ownsRow.cellAt hv j (by omega)]
        simp [List.getElem?_eq_getElem hj]
      exact (sort_some x b base g cap Ls w bn on h hbn hL hne h8 hc hg hgs hbs).mono fun _ w' ⟨he, L', hp, hc', hsr, hbl⟩ => ⟨he, ⟨some ⟨g, 0, none⟩, cap, L', by rw [(unhide hp).length_eq], unhide hp, fun j hj => ⟨g, 0, rfl, by rw [Nat.zero_add]; exact unhide hc' j hj, hg⟩, unhide hsr⟩, hbl⟩
end Go.Proofs.YtddkhnclmeikfacGreat

namespace Go.Proofs.YtddkhnclmeikfacGreat
open Go.RowKit
attribute [local go_sem ↓] Go.wp_at_zero Go.wp_at_succ

/-- those below k that speak -/
def spk (x : Hp) (k : Nat) : List Nat := (List.range k).filter (fun i => speaksN (x.c i))
theorem spk_no {x : Hp} {k : Nat} (h : speaksN (x.c k) = false) : spk x (k + 1) = spk x k := by simp [spk, List.range_succ, List.filter_append, h]
theorem spk_yes {x : Hp} {k : Nat} (h : speaksN (x.c k) = true) : spk x (k + 1) = spk x k ++ [k] := by simp [spk, List.range_succ, List.filter_append, h]
theorem spk_len (x : Hp) (k : Nat) : (spk x k).length ≤ k := by have := List.length_filter_le (fun i => speaksN (x.c i)) (List.range k); simpa [spk] using this
theorem spk_mem {x : Hp} {k i : Nat} : i ∈ spk x k ↔ i < k ∧ Speaks (x.c i) := by simp [spk, speaksN_iff]
theorem row_ext {a w w2 : World} {T : TypeId} {v : Value} {n : Nat} {vs : List Value} {o : Obj} (h : w.ownsRow a.heap.size T 1 v n vs) (e : Ext a w) (hg : (w.alloc o).grownBy w2 v.ownBlock) : Ext a w2 := by
  have hs : w.heap.size + 1 ≤ w2.heap.size := by have := hg.size; simpa using this
  refine Below.trans e ⟨hg.os, hg.tape, hg.output, by omega, fun k hk => ?_⟩
  have hkw : k < w.heap.size := Nat.lt_of_lt_of_le hk e.size
  rw [hg.block k (by simp; omega) (fun f => by have := (h.lt k f.symm).1; omega), Below.heap_alloc _ o k hkw]

set_option maxRecDepth 100000 in
set_option maxHeartbeats 2000000 in
theorem speakers_ord (x : Hp) (b : Nat) (w : World) {ar : Option Addr} {kr : Nat} {ac : Nat → Option Addr} {kn : Nat} (bn on : Nat) (h : VNt w b x ar kr ac (some ⟨bn, on, none⟩) kn) (hn8 : x.cells.length ≤ 8000) :
    Calls Tryz.prog 160 #[.pointer (some ⟨b, 0, none⟩)] w fun e w' => ∃ (g : Option Addr) (cap : Nat) (Ls : List Nat), Hid (e = .returned (.slice g Ls.length cap)) ∧ Hid (SpAns x w w' g bn on Ls) ∧ Hid (SrtN x Ls ∧ Ls.Perm (spk x x.cells.length)) ∧ Ext w w' := by
  obtain ⟨i0, hi0, hy0, hy1, hy2⟩ := info_parts infoNodeP
  have n13 := h.n13
  have HV := hide h
  clear h
  go_enter Tryz.func160, Tryz.ntmps160
  go_wp2_with fail
  go_loopw [3, 10] (fun v i wr => ∃ (k : Nat), k ≤ x.cells.length ∧ i = .int .i64 k ∧ Hid (wr.ownsRow w.heap.size 95 1 v (spk x k).length ((spk x k).map (fun i => ptr bn (on + i * 2)))) ∧ Ext w wr) (fun _ i _ => x.cells.length - (intOf i).toNat)
  case atStart => exact ⟨0, Nat.zero_le _, rfl, World.ownsRow_nil _ _ _ _, Ext.refl w⟩
  case round =>
    clear n13
    obtain ⟨k, hk, rfl, hrw, hbl⟩ := hrel
    have hlen := spk_len x k
    by_cases hlt : k < x.cells.length
    · have hh := (unhide HV).ext hbl
      have n13 := hh.n13
      obtain ⟨bc, oc, ap, kp, e1, C⟩ := hh.H.cell k hlt
      obtain ⟨bn', on', bc', oc', e2, e3, m0, m1⟩ := hh.N k hlt
      rw [e1] at e3
      cases e2; cases e3
      have HC := hide C
      have hb0 : b < wr.heap.size := cell_lt n13
      have hk0 : (0:Int) ≤ (k:Int) := by omega
      have hk1 : (k:Int) < (x.cells.length:Int) := by omega
      clear hh C m0 e1
      go_wp2_with fail
      refine (speaks_any (x.c k) bn (on + k * 2) bc oc ap kp _ m1 (unhide HC)).mono ?_
      rintro e w1 ⟨rfl, rfl⟩
      clear m1 HC
      cases t : speaksN (x.c k)
      · have R := hide (show _ from spk_no t ▸ unhide hrw)
        clear t
        go_wp2_with fail
        go_roundw
        case rel => exact ⟨k + 1, by omega, by go_num, unhide R, hbl⟩
        case measure => simp [intOf]; omega
      · have T := hide t
        clear t
        go_wp2_with (at_builtin; refine wpList_append_lies _ rfl _ _ 136 rfl w.heap.size 95 i0 (.pointer none) 1 8 Tryz.underlying136 hi0 hy0 hy1 hy2 rfl (by decide) _ (spk x k).length ((spk x k).map (fun i => ptr bn (on + i * 2))) rfl ((unhide hrw).alloc _) _ 1 1 [ptr bn (on + k * 2)] rfl rfl ?c1 ?c2 (by decide) ?c3 ?c4 ?c5 _ rfl ?_)
        case c1 =>
          intro j u hj
          match j, hj with
          | 0, hj => simp at hj; subst hj; simp [Addr.add]
        case c2 => intro u hu; simp at hu; subst hu; rfl
        case c3 => unfold maxLen; omega
        case c4 => have := hbl.size; simp; omega
        case c5 => have := hbl.size; simp; omega
        intro g cap w2 hown hgrow hat hglt
        have R := hide (And.intro (show w2.ownsRow w.heap.size 95 1 (.slice (some ⟨g, 0, none⟩) ((spk x k).length + 1) cap) (spk x (k + 1)).length ((spk x (k + 1)).map (fun i => ptr bn (on + i * 2))) by rw [spk_yes (unhide T)]; simpa using hown) (row_ext (unhide hrw) hbl hgrow))
        clear hown hgrow hat hglt
        go_wp2_with fail
        go_roundw
        case rel => exact ⟨k + 1, by omega, by go_num, (unhide R).1, (unhide R).2⟩
        case measure => simp [intOf]; omega
    · have hk2 : k = x.cells.length := by omega
      subst hk2
      have VB := hide ((unhide HV).ext hbl)
      have BB := hide (show ∀ i, i < x.cells.length → ∃ bc oc, ac i = some ⟨bc, oc, none⟩ ∧ bc < w.heap.size ∧ bn < w.heap.size from fun i hi => by
        obtain ⟨bn', on', bc, oc, e1, e2, m0, _⟩ := (unhide HV).N i hi
        obtain ⟨bc2, oc2, ap, kp, e3, C⟩ := (unhide HV).H.cell i hi
        rw [e2] at e3
        cases e1; cases e3
        exact ⟨bc, oc, e2, cell_lt C.p0, cell_lt m0⟩)
      go_wp2_with fail
      refine (sort_own x b w.heap.size _ (spk x x.cells.length) _ bn on (unhide VB) (unhide BB) (fun i hi => (spk_mem.1 hi).1) (by omega) (unhide hrw) hbl.size).mono ?_
      rintro e w3 ⟨rfl, hs, hb3⟩
      have x3 : Ext w w3 := Below.trans hbl hb3
      go_wp2_with fail
      go_ret
      obtain ⟨g, cap, L', e, hp, hc, hsr⟩ := unhide hs
      exact ⟨g, cap, L', by show _ = _; rw [e]; rfl, ⟨hc, by have := hp.length_eq; omega, fun i => by rw [hp.mem_iff]; exact spk_mem⟩, ⟨hsr, hp⟩, x3⟩
theorem speakers_any (x : Hp) (b : Nat) (w : World) {ar : Option Addr} {kr : Nat} {ac : Nat → Option Addr} {kn : Nat} (bn on : Nat) (h : VNt w b x ar kr ac (some ⟨bn, on, none⟩) kn) (hn8 : x.cells.length ≤ 8000) :
    Calls Tryz.prog 160 #[.pointer (some ⟨b, 0, none⟩)] w fun e w' => ∃ (g : Option Addr) (cap : Nat) (Ls : List Nat), Hid (e = .returned (.slice g Ls.length cap)) ∧ Hid (SpAns x w w' g bn on Ls) ∧ Ext w w' :=
  (speakers_ord x b w bn on h hn8).mono fun _ _ ⟨g, cap, Ls, a, b, _, c⟩ => ⟨g, cap, Ls, a, b, c⟩
end Go.Proofs.YtddkhnclmeikfacGreat

namespace Go.Proofs.YtddkhnclmeikfacGreat
open Go.RowKit
attribute [local go_sem ↓] Go.wp_at_zero Go.wp_at_succ

theorem scan_of {x z : Hp} (r : RestH z x) (hl : z.cells.length = x.cells.length) : scanI z = scanI x := by
  obtain ⟨_, _, _, r4, r5, r6, _⟩ := r
  unfold scanI
  rw [r4, r5, r6, hl]
theorem zis_of {x : Hp} (s : Snd x) (H : Nat → Bool) (hH : ∀ i, H i = true ↔ Held x i) (k : Nat) (hk : k < x.cells.length) (hh : H k = true) : ZIs x (stTo x H k) k := by
  have r := stTo_rest x H k
  have hl := stTo_len x H k
  have cu := stTo_cut x H k
  have g := goneTo_le x H s.ok.p200 k (by omega)
  have n8 := s.ok.n8
  obtain ⟨_, _, _, r4, r5, r6, _⟩ := r
  have hd := s.r1.hand
  have us : 0 ≤ x.used ∧ x.used ≤ 4000 := by have h3 := s.r3; have h1 := s.r1.room; unfold R3 at h3; omega
  refine ⟨hl, fun q => stTo_st x H k (by omega) q, ?_, hk, scan_of (stTo_rest x H k) hl, ?_, ?_, fun e => ?_, ?_, s.ok.p200 k hk⟩
  · rw [stTo_c x H k (by omega) k, if_neg (by omega)]
  · rw [r5, hl]; omega
  · rw [r6, hl]; exact s.r5.2.2
  · rw [cu.2, cutTo_sub x H k e k (Nat.le_refl _)]
    exact scan_sub s hk (((hH k).1 hh).good s.r2 s.r4).2.1 e
  · rw [cu.1, cutTo_used]; omega
set_option maxRecDepth 100000 in
set_option maxHeartbeats 2000000 in
theorem settle_any {B : Nat} {w : World} {b : Nat} {x : Hp} {ar : Option Addr} {kr : Nat} {v4 v8 : Value} {br bn : Nat} {cB cO : Nat → Nat} {pb : Nat → Nat} {pa : Nat → Option Addr} {pk : Nat → Nat} {kn hd : Nat} {vf : Value} {F : List Int} {vk : Value} {K : List Nat} {role : Nat → Nat} (h : SAt B w b x ar kr v4 v8 br cB cO bn pb pa pk kn hd vf F vk K role) (s : Snd x) (a : World) (ha : a.heap.size ≤ B) (hx : Ext a w) :
    Calls Tryz.prog 68 #[.pointer (some ⟨b, 0, none⟩)] w fun e w' => ∃ H : Nat → Bool, Hid (e = .returned (.tuple #[.int .i64 (goneTo x H x.cells.length), .int .i64 (dueN x H x.cells.length)])) ∧ Hid (∀ i, H i = true ↔ Held x i) ∧ Hid (SAt B w' b (settleH x H) ar kr v4 v8 br cB cO bn pb pa pk kn hd vf F vk K role) ∧ Ext a w' := by
  have n8 := s.ok.n8
  have p2 := hide s.ok.p200
  have V := hide (h.vn (by rw [s.r1.regs]; omega) s.ok.p200)
  have QH := hide (held_any x b w bn 0 (unhide V) s.r2 s.r4 n8 s.ok.p200 (fun w1 h1 => speakers_any x b w1 bn 0 h1 n8))
  have HS := hide h
  have SN := hide s
  have CP := hide h.rw.kp
  clear h s
  go_enter Tryz.func68, Tryz.ntmps68
  go_wp2_with fail
  refine (unhide QH).mono ?_
  rintro e w1 ⟨rfl, Mt, hm, hlt, hh, x1⟩
  have S1 := hide ((unhide HS).ext x1)
  have c13 := (unhide S1).sb.n13
  have hb1 : b < w1.heap.size := cell_lt c13
  obtain ⟨H, hH⟩ : ∃ H : Nat → Bool, H = fun i => decide (i ∈ Mt) := ⟨_, rfl⟩
  have HH := hide hH
  have HI := hide (show ∀ i, H i = true ↔ Held x i from fun i => by rw [hH]; show decide (i ∈ Mt) = true ↔ _; rw [decide_eq_true_iff]; exact unhide hh i)
  have M1 := hide (show MapAt w1 w.heap.size bn (Mt.map (fun i => i * 2)) ∧ w.heap.size < w1.heap.size from by
    refine ⟨?_, hlt⟩
    have := hm
    simp only [Nat.zero_add] at this
    exact this)
  have X1 := hide (hx.trans x1)
  have BL := hide (show b < w.heap.size ∧ bn < w.heap.size ∧ (∀ q, q < x.cells.length → cB q < w.heap.size) ∧ ∀ q, q < x.cells.length → 0 < (x.c q).prs.length → pb q < w.heap.size from
    ⟨(unhide HS).sb.nb.1, (unhide HS).sb.lo.2.2, fun q hq => ((unhide HS).rw.nc q hq).1.1, fun q hq hl => ((unhide HS).rw.pl q hq hl).2.1.1⟩)
  have GLE := hide (goneTo_le x H (unhide p2))
  clear hm hh hH x1 HS V QH hx
  go_wp2_with fail
  go_loopw [2, 3, 17] (fun g d i wr => ∃ k : Nat, k ≤ x.cells.length ∧ i = .int .i64 k ∧ g = .int .i64 (goneTo x H k) ∧ d = .int .i64 (dueN x H k) ∧ Hid (SAt B wr b (stTo x H k) ar kr v4 v8 br cB cO bn pb pa pk kn hd vf F vk K role) ∧ Hid (MapAt wr w.heap.size bn (Mt.map (fun i => i * 2)) ∧ w.heap.size < wr.heap.size) ∧ Hid (Ext a wr)) (fun _ _ i _ => x.cells.length - (intOf i).toNat)
  case atStart => exact ⟨0, Nat.zero_le _, rfl, rfl, rfl, unhide S1, unhide M1, unhide X1⟩
  case round =>
    clear S1 M1 X1 c13 hb1
    obtain ⟨k, hk, rfl, rfl, rfl, hS, hM, hX⟩ := hrel
    by_cases hlt2 : k < x.cells.length
    · have c13 := (unhide hS).sb.n13
      rw [stTo_len] at c13
      have hb2 : b < wr.heap.size := cell_lt c13
      have hk0 : (0:Int) ≤ (k:Int) := by omega
      have hk1 : (k:Int) < (x.cells.length:Int) := by omega
      have gle := unhide GLE k (by omega)
      have gle2 := unhide GLE (k + 1) (by omega)
      have dle := dueN_le x H k
      have hzk : k < (stTo x H k).cells.length := by rw [stTo_len]; exact hlt2
      go_wp2_with fail
      refine (has_any w.heap.size bn (k * 2) _ _ (unhide hM).1).mono ?_
      rintro e w2 ⟨rfl, q2⟩
      have D := hide (show decide (k * 2 ∈ Mt.map (fun i => i * 2)) = H k by rw [unhide HH, decide_eq_decide]; exact mem_two)
      rw [unhide D]
      have S2 := hide ((unhide hS).ext q2)
      have M2 := hide (show MapAt w2 w.heap.size bn (Mt.map (fun i => i * 2)) ∧ w.heap.size < w2.heap.size from ⟨(unhide hM).1.block (q2.block _ (unhide hM).2), Nat.lt_of_lt_of_le (unhide hM).2 q2.size⟩)
      have X2 := hide ((unhide hX).trans q2)
      clear hS hM hX q2 c13 hb2 D
      cases t : H k
      · have CK := hide (show (stTo x H k).c k = x.c k by rw [stTo_c x H k (by omega) k, if_neg (by omega)])
        have GN := hide (show goneTo x H (k + 1) = goneTo x H k by show (if H k = true then _ else _) = _; rw [if_neg (by simp [t])])
        have m1 := ((unhide S2).sb.nd k hzk).2
        have s7 := (unhide S2).rw.s k hzk
        rw [unhide CK] at s7
        have p3 := s7.2.2.2.1
        have hm1 : bn < w2.heap.size := cell_lt m1
        have hp3 : cB k < w2.heap.size := cell_lt p3
        cases tl : ((x.c k).last == 1)
        · have E := hide (show stTo x H (k + 1) = stTo x H k by show stNext x H k _ = _; unfold stNext; rw [if_neg (by simp [t]), if_neg (by simpa using tl)])
          have DN := hide (show dueN x H (k + 1) = dueN x H k by show (if dueB x H k = true then _ else _) = _; rw [if_neg (by simp [dueB, tl])])
          clear s7
          go_wp2_with fail
          go_roundw
          case rel => exact ⟨k + 1, by omega, by go_num, by rw [unhide GN], by rw [unhide DN], by rw [unhide E]; exact unhide S2, unhide M2, unhide X2⟩
          case measure => simp [intOf]; omega
        · have E := hide (show stTo x H (k + 1) = { stTo x H k with cells := (stTo x H k).cells.set k (dueC (x.c k)) } by show stNext x H k _ = _; unfold stNext; rw [if_neg (by simp [t]), if_pos (by simpa using tl)])
          have DN := hide (show dueN x H (k + 1) = dueN x H k + 1 by show (if dueB x H k = true then _ else _) = _; rw [if_pos (by simp [dueB, tl, t])])
          have nf := ((unhide S2).rw.nc k hzk).1
          have f3 := nf.2 (cO k + 3)
          have R := hide (show SAt B (w2.setCell ⟨cB k, cO k + 3, none⟩ (iv 2)) b (stTo x H (k + 1)) ar kr v4 v8 br cB cO bn pb pa pk kn hd vf F vk K role ∧ (MapAt (w2.setCell ⟨cB k, cO k + 3, none⟩ (iv 2)) w.heap.size bn (Mt.map (fun i => i * 2)) ∧ w.heap.size < (w2.setCell ⟨cB k, cO k + 3, none⟩ (iv 2)).heap.size) ∧ Ext a (w2.setCell ⟨cB k, cO k + 3, none⟩ (iv 2)) from by
            refine ⟨?_, ⟨(unhide M2).1.block (Below.heap_setCell _ _ _ _ (by show w.heap.size ≠ cB k; have := (unhide BL).2.2.1 k hlt2; omega)), by have := (unhide M2).2; simpa [World.setCell] using this⟩, (unhide X2).setCell (p := ⟨cB k, cO k + 3, none⟩) (Nat.le_trans ha ((unhide S2).rw.nc k hzk).2) _⟩
            rw [unhide E]
            refine (unhide S2).setc hzk (by rw [unhide CK]; rfl) (Only.setCell (S := fun q => q = cB k) (Only.refl _ w2) (p := ⟨cB k, cO k + 3, none⟩) rfl _) ?_ (fun j hj => cell_other _ (.inr (by omega))) (nf.set _ _)
            obtain ⟨a0, a1, a2, a3, a4, a5, a6⟩ := s7
            refine ⟨?_, ?_, ?_, World.cell?_setCell_same _ _ _ a3, ?_, ?_, ?_⟩
            · rw [cell_other _ (.inr (by omega))]; exact a0
            · rw [cell_other _ (.inr (by omega))]; exact a1
            · rw [cell_other _ (.inr (by omega))]; exact a2
            · rw [cell_other _ (.inr (by omega))]; exact a4
            · rw [cell_other _ (.inr (by omega))]; exact a5
            · rw [cell_other _ (.inr (by omega))]; exact a6)
          clear s7
          go_wp2_with fail
          go_roundw
          case rel => exact ⟨k + 1, by omega, by go_num, by rw [unhide GN], by rw [unhide DN]; go_num, (unhide R).1, (unhide R).2.1, (unhide R).2.2⟩
          case measure => simp [intOf]; omega
      · have GN := hide (show goneTo x H (k + 1) = goneTo x H k + goes x H (x.c k) (x.c k).prs by show (if H k = true then _ else _) = _; rw [if_pos t])
        have DN := hide (show dueN x H (k + 1) = dueN x H k by show (if dueB x H k = true then _ else _) = _; rw [if_neg (by simp [dueB, t])])
        have E := hide (show stTo x H (k + 1) = goH x H k (stTo x H k) by show stNext x H k _ = _; unfold stNext; rw [if_pos t]; rfl)
        have QL := hide (letGo_any (unhide S2) w.heap.size Mt k (unhide M2).1 (unhide M2).2 ⟨by have := (unhide BL).1; omega, fun j hj => by have := (unhide BL).2.2.1 j hj; omega, by have := (unhide BL).2.1; omega, fun q => by have := (unhide BL).2.2.2 k hlt2 q; omega⟩ (zis_of (unhide SN) H (unhide HI) k hlt2 t) (unhide SN).r2 (fun j hj => may_pair (unhide SN).r2 (unhide SN).r4 k j (((unhide HI k).1 t).good (unhide SN).r2 (unhide SN).r4) hj) (unhide CP k hlt2) a ha (unhide X2))
        rw [← unhide HH] at QL
        have ggl : goneTo x H k + goes x H (x.c k) (x.c k).prs ≤ 2000000 := by rw [← unhide GN]; omega
        go_wp2_with fail
        refine (unhide QL).mono ?_
        rintro e w3 ⟨rfl, S3, M3, X3⟩
        clear S2 M2 X2 QL
        go_wp2_with fail
        go_roundw
        case rel => exact ⟨k + 1, by omega, by go_num, by rw [unhide GN]; go_num, by rw [unhide DN], by rw [unhide E]; exact unhide S3, unhide M3, X3⟩
        case measure => simp [intOf]; omega
    · have ke : k = x.cells.length := by omega
      subst ke
      rw [stTo_all] at hS
      go_wp2_with fail
      go_ret2
      exact ⟨H, rfl, unhide HI, unhide hS, unhide hX⟩
end Go.Proofs.YtddkhnclmeikfacGreat
