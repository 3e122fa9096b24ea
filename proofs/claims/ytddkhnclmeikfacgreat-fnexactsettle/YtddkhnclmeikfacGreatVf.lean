import Derived.Test.YtddkhnclmeikfacGreatVd
import Derived.Deep.RegionWith
import Derived.Deep.DeepCutAuto
import Derived.Test.YtddkhnclmeikfacGreatEq
namespace Go.Proofs.YtddkhnclmeikfacGreat
open Go.RowKit

/-! A held cell is settled pair by pair, from the last one down (mathematics alone). -/
def inH (x : Hp) (H : Nat → Bool) (b : Hp) (i k : Nat) : Hp := { b with cells := b.cells.set i { x.c i with prs := (x.c i).prs.take k ++ stay x H (x.c i) ((x.c i).prs.drop k) }, used := b.used - goes x H (x.c i) ((x.c i).prs.drop k), sub := if scanI x = (i : Int) then b.sub - goes x H (x.c i) (((x.c i).prs.take b.sub.toNat).drop k) else b.sub }
theorem stay_cons (x : Hp) (H : Nat → Bool) (c : Cl) (p : Pr) (l : List Pr) : stay x H c (p :: l) = if goB x H c p = true then stay x H c l else p :: stay x H c l := by
  unfold stay
  cases h : goB x H c p <;> simp [h]
theorem goes_cons (x : Hp) (H : Nat → Bool) (c : Cl) (p : Pr) (l : List Pr) : goes x H c (p :: l) = if goB x H c p = true then goes x H c l + 1 else goes x H c l := by
  unfold goes
  cases h : goB x H c p <;> simp [h]
theorem goes_le (x : Hp) (H : Nat → Bool) (c : Cl) (l : List Pr) : goes x H c l ≤ l.length := by
  have := stay_goes x H c l; omega
theorem drop_cons (l : List Pr) (k : Nat) (h : k < l.length) : l.drop k = l[k] :: l.drop (k + 1) := List.drop_eq_getElem_cons h
theorem takedrop (l : List Pr) (s k : Nat) (h : k < s) (hs : s ≤ l.length) : (l.take s).drop k = (l[k]'(by omega)) :: (l.take s).drop (k + 1) := by
  rw [List.drop_eq_getElem_cons (by simp; omega)]
  simp
theorem inH_top (x : Hp) (H : Nat → Bool) (b : Hp) (i : Nat) (hi : i < b.cells.length) (hb : b.c i = x.c i) : inH x H b i (x.c i).prs.length = b := by
  have e1 : (x.c i).prs.drop (x.c i).prs.length = [] := List.drop_length
  have e2 : ((x.c i).prs.take b.sub.toNat).drop (x.c i).prs.length = [] := List.drop_eq_nil_of_le (by simp; omega)
  unfold inH
  rw [e1, e2, List.take_length]
  have e3 : b.cells.set i { x.c i with prs := (x.c i).prs ++ stay x H (x.c i) [] } = b.cells := by
    have : ({ x.c i with prs := (x.c i).prs ++ stay x H (x.c i) [] } : Cl) = b.cells[i] := by rw [Hp.c_eq b i hi, hb]; simp [stay]
    rw [this]; simp
  rw [e3]
  simp [goes]
theorem inH_keep (x : Hp) (H : Nat → Bool) (b : Hp) (i k : Nat) (hk : k < (x.c i).prs.length) (q : goB x H (x.c i) (x.c i).prs[k] = false) (hs : scanI x = (i : Int) → b.sub ≤ (x.c i).prs.length) : inH x H b i k = inH x H b i (k + 1) := by
  unfold inH
  rw [drop_cons _ k hk, stay_cons, goes_cons, if_neg (by simp [q]), if_neg (by simp [q]), List.take_succ_eq_append_getElem hk, List.append_assoc, List.singleton_append]
  congr 1
  by_cases e : scanI x = (i : Int)
  · rw [if_pos e, if_pos e]
    have hs := hs e
    by_cases hlt : k < b.sub.toNat
    · rw [takedrop _ _ k hlt (by omega), goes_cons, if_neg (by simp [q])]
    · rw [List.drop_eq_nil_of_le (by simp; omega), List.drop_eq_nil_of_le (by simp; omega)]
  · rw [if_neg e, if_neg e]
theorem inH_scan (x : Hp) (H : Nat → Bool) (b : Hp) (i k : Nat) (hsc : scanI b = scanI x) : scanI (inH x H b i k) = scanI x := by
  rw [← hsc]; unfold scanI inH; simp
theorem inH_len (x : Hp) (H : Nat → Bool) (b : Hp) (i k : Nat) : (inH x H b i k).cells.length = b.cells.length := by simp [inH]
theorem inH_c (x : Hp) (H : Nat → Bool) (b : Hp) (i k : Nat) (hi : i < b.cells.length) : (inH x H b i k).c i = { x.c i with prs := (x.c i).prs.take k ++ stay x H (x.c i) ((x.c i).prs.drop k) } := by
  have := Hp.c_set b i { x.c i with prs := (x.c i).prs.take k ++ stay x H (x.c i) ((x.c i).prs.drop k) } hi i
  rw [if_pos rfl] at this
  exact this
theorem inH_cut (x : Hp) (H : Nat → Bool) (b : Hp) (i k : Nat) (hi : i < b.cells.length) (hk : k < (x.c i).prs.length) (q : goB x H (x.c i) (x.c i).prs[k] = true) (hs : scanI x = (i : Int) → 0 ≤ b.sub ∧ b.sub ≤ (x.c i).prs.length) (hsc : scanI b = scanI x) : cutH (inH x H b i (k + 1)) i k = inH x H b i k := by
  have ec := inH_c x H b i (k + 1) hi
  have hl : ((x.c i).prs.take k).length = k := by simp; omega
  have e1 : (((x.c i).prs.take (k + 1) ++ stay x H (x.c i) ((x.c i).prs.drop (k + 1))).eraseIdx k) = (x.c i).prs.take k ++ stay x H (x.c i) ((x.c i).prs.drop k) := by
    rw [drop_cons _ k hk, stay_cons, if_pos q, List.take_succ_eq_append_getElem hk, List.append_assoc, List.eraseIdx_append_of_length_le (by omega), hl, Nat.sub_self]
    simp
  have e2 : goes x H (x.c i) ((x.c i).prs.drop k) = goes x H (x.c i) ((x.c i).prs.drop (k + 1)) + 1 := by rw [drop_cons _ k hk, goes_cons, if_pos q]
  have e3 : (if (k : Int) < (inH x H b i (k + 1)).sub ∧ scanI (inH x H b i (k + 1)) = (i : Int) then (inH x H b i (k + 1)).sub - 1 else (inH x H b i (k + 1)).sub) = (inH x H b i k).sub := by
    rw [inH_scan x H b i (k + 1) hsc]
    by_cases e : scanI x = (i : Int)
    · have hs := hs e
      simp only [inH, if_pos e]
      by_cases hlt : k < b.sub.toNat
      · have h1 := takedrop (x.c i).prs b.sub.toNat k hlt (by omega)
        have h2 := goes_le x H (x.c i) (((x.c i).prs.take b.sub.toNat).drop (k + 1))
        have h3 : (((x.c i).prs.take b.sub.toNat).drop (k + 1)).length = b.sub.toNat - (k + 1) := by simp; omega
        rw [if_pos ⟨by omega, e⟩, h1, goes_cons, if_pos q]
        omega
      · rw [List.drop_eq_nil_of_le (by simp; omega), List.drop_eq_nil_of_le (by simp; omega)]
        rw [if_neg (fun h => by have := h.1; simp [goes] at this; omega)]
    · rw [if_neg (fun h => e h.2)]
      simp only [inH, if_neg e]
  unfold cutH
  rw [e3, ec]
  simp only [e1]
  unfold inH
  simp only [e2, List.set_set]
  congr 1
  omega
end Go.Proofs.YtddkhnclmeikfacGreat

namespace Go.Proofs.YtddkhnclmeikfacGreat
open Go.RowKit
attribute [local go_sem ↓] Go.wp_at_zero Go.wp_at_succ

theorem l1resolve_may (x : Hp) (y : Wd) (b : Nat) (w : World) {ar : Option Addr} {kr : Nat} {ac : Option Addr} {kc : Nat} {ag : Option Addr} {kg : Nat} (h : HAt w b x ar kr ac kc ag kg) (hy : MayMark x y) :
    Calls Tryz.prog 198 #[.pointer (some ⟨b, 0, none⟩), y.v] w fun e w' => ∃ t : Wd, Hid (e = .returned t.v) ∧ Hid ((y.k ≠ 2 ∧ t = y) ∨ (y.k = 2 ∧ t = ⟨2, 0, (tgt x y : Int)⟩)) ∧ Ext w w' := by
  cases k2 : (y.k == 2)
  · exact (l1resolve_num y b w k2).mono fun _ _ ⟨he, hx⟩ => ⟨y, he, .inl ⟨by simpa using k2, rfl⟩, hx⟩
  · have hk : y.k = 2 := by simpa using k2
    obtain ⟨n0, a0, a1, ht, hg⟩ := hy hk
    obtain ⟨i, hi⟩ : ∃ i : Nat, y.a = (i : Int) := ⟨y.a.toNat, by omega⟩
    have et : tgt x y = lead2 x i := by unfold tgt; rw [hi]; simp
    have ev : (.agg #[iv 2, iv 0, iv i] : Value) = y.v := by rw [← hi, ← n0, ← hk]
    have ei : y.a.toNat = i := by omega
    rw [ei] at ht
    have := l1resolve_at x b i w h (by omega) ht
    rw [ev] at this
    exact this.mono fun _ _ ⟨he, hx⟩ => ⟨⟨2, 0, (tgt x y : Int)⟩, by rw [he, et]; rfl, .inr ⟨hk, rfl⟩, hx⟩

/-- the box of the cell at hand, apart from what marking turns -/
def BxAt (w : World) (B bs : Nat) (v : Value) (wk : Int) : Prop := w.cell? ⟨B, 2, none⟩ = some (iv wk) ∧ B ≠ bs ∧ v.ownBlock ≠ some B
theorem BxAt.ext {w w' : World} {B bs : Nat} {v : Value} {wk : Int} (h : BxAt w B bs v wk) (e : Ext w w') : BxAt w' B bs v wk := ⟨e.keep h.1, h.2⟩
theorem Mfr.apart {bs : Nat} {v v' : Value} {w w' : World} (m : Mfr bs v v' w w') {B : Nat} (hB : B < w.heap.size) (hv : v.ownBlock ≠ some B) : v'.ownBlock ≠ some B := fun e => by
  rcases m.own with q | ⟨g, q, hg⟩
  · rw [q] at e; exact hv e
  · rw [q] at e; cases e; omega
theorem BxAt.mfr {w w' : World} {B bs : Nat} {v v' : Value} {wk : Int} (h : BxAt w B bs v wk) (m : Mfr bs v v' w w') : BxAt w' B bs v' wk :=
  have hB := cell_lt h.1
  ⟨(World.cell?_of_block (a := ⟨B, 2, none⟩) (m.block B hB h.2.1 h.2.2)).trans h.1, h.2.1, m.apart hB h.2.2⟩
/-- the box of a pair -/
structure PBx (w : World) (B bs : Nat) (v : Value) (p : Pr) : Prop where
  c : w.cell? ⟨B, 0, none⟩ = some (.int .i64 p.key.k) ∧ w.cell? ⟨B, 1, none⟩ = some (.int .i64 p.key.n) ∧ w.cell? ⟨B, 2, none⟩ = some (.int .i64 p.key.a) ∧ w.cell? ⟨B, 3, none⟩ = some (.int .i64 p.val.k) ∧ w.cell? ⟨B, 4, none⟩ = some (.int .i64 p.val.n) ∧ w.cell? ⟨B, 5, none⟩ = some (.int .i64 p.val.a)
  n : B ≠ bs
  o : v.ownBlock ≠ some B
theorem PBx.ext {w w' : World} {B bs : Nat} {v : Value} {p : Pr} (h : PBx w B bs v p) (e : Ext w w') : PBx w' B bs v p := ⟨⟨e.keep h.c.1, e.keep h.c.2.1, e.keep h.c.2.2.1, e.keep h.c.2.2.2.1, e.keep h.c.2.2.2.2.1, e.keep h.c.2.2.2.2.2⟩, h.n, h.o⟩
theorem PBx.mfr {w w' : World} {B bs : Nat} {v v' : Value} {p : Pr} (h : PBx w B bs v p) (m : Mfr bs v v' w w') : PBx w' B bs v' p := by
  have hB : B < w.heap.size := cell_lt h.c.1
  have k := fun o => World.cell?_of_block (w := w) (w' := w') (a := ⟨B, o, none⟩) (m.block B hB h.n h.o)
  exact ⟨⟨(k 0).trans h.c.1, (k 1).trans h.c.2.1, (k 2).trans h.c.2.2.1, (k 3).trans h.c.2.2.2.1, (k 4).trans h.c.2.2.2.2.1, (k 5).trans h.c.2.2.2.2.2⟩, h.n, m.apart hB h.o⟩
theorem PBx.new {w : World} {base bs n : Nat} {v : Value} {T : List Int} {p : Pr} {t : TypeId} (h : Sn w base bs n v T) : PBx (w.alloc (.cells #[.int .i64 p.key.k, .int .i64 p.key.n, .int .i64 p.key.a, .int .i64 p.val.k, .int .i64 p.val.n, .int .i64 p.val.a] t)) w.heap.size bs v p :=
  ⟨by simp [go_sem], by have := h.hb.2; omega, fun e => by have := (h.own.lt _ e).2; omega⟩
theorem PairsH.more {x : Hp} {L0 : List Int} {j p : Nat} {T : List Int} (h : PairsH x L0 j p T) (hk : SK (x.c j) → ((x.c j).p p).key.k = 2 → (tgt x ((x.c j).p p).key : Int) ∈ T) (hv : SV (x.c j) → (((x.c j).p p).key.k = 2 → (tgt x ((x.c j).p p).key : Int) ∈ L0) → ((x.c j).p p).val.k = 2 → (tgt x ((x.c j).p p).val : Int) ∈ T) : PairsH x L0 j (p + 1) T := fun q hq => by
  by_cases e : q = p
  · subst e; exact ⟨hk, hv⟩
  · exact h q (by omega)
/-- the state of a pass at a cell -/
abbrev AtC (x : Hp) (L : List Int) (c j p : Nat) (T : List Int) : Prop := Pass x L c T ∧ it T c = (j : Int) ∧ c < T.length ∧ PairsH x L j p T
theorem AtC.mark {x : Hp} {L : List Int} {c j p : Nat} {T T5 : List Int} (h : AtC x L c j p T) (a : Add x ((x.c j).p p).key T T5) (hy : ((x.c j).p p).key.k = 2 → Held x (tgt x ((x.c j).p p).key)) : Pass x L c T5 ∧ it T5 c = (j : Int) ∧ c < T5.length ∧ PairsH x L j p T5 ∧ (SK (x.c j) → ((x.c j).p p).key.k = 2 → (tgt x ((x.c j).p p).key : Int) ∈ T5) := by
  obtain ⟨i1, i2, i3, i4⟩ := h
  obtain ⟨R, r⟩ := a.pre
  have l5 : T.length ≤ T5.length := by rw [r]; simp
  refine ⟨i1.add a (by omega) hy, ?_, by omega, i4.mono (fun z hz => a.sub hz), fun _ e => a.has e⟩
  rw [r, it_pre i3]; exact i2
theorem Pass.val {x : Hp} {L : List Int} {c j p : Nat} {T T8 : List Int} (h : Pass x L c T ∧ it T c = (j : Int) ∧ c < T.length ∧ PairsH x L j p T ∧ (SK (x.c j) → ((x.c j).p p).key.k = 2 → (tgt x ((x.c j).p p).key : Int) ∈ T)) (a : Add x ((x.c j).p p).val T T8) (hy : ((x.c j).p p).val.k = 2 → Held x (tgt x ((x.c j).p p).val)) : Pass x L c T8 ∧ it T8 c = (j : Int) ∧ c < T8.length ∧ PairsH x L j (p + 1) T8 := by
  obtain ⟨i1, i2, i3, i4, i5⟩ := h
  obtain ⟨R, r⟩ := a.pre
  have l5 : T.length ≤ T8.length := by rw [r]; simp
  refine ⟨i1.add a (by omega) hy, ?_, by omega, (i4.mono (fun z hz => a.sub hz)).more (fun s e => a.sub (i5 s e)) (fun _ _ e => a.has e)⟩
  rw [r, it_pre i3]; exact i2

set_option maxRecDepth 100000 in
set_option maxHeartbeats 8000000 in
theorem l2holds_any (x : Hp) (b : Nat) (w : World) {ar : Option Addr} {kr : Nat} {ac : Option Addr} {kc : Nat} {ag : Option Addr} {kg : Nat} (h : HAt w b x ar kr ac kc ag kg) (r2 : R2 x) (r4 : R4 x) (hn8 : x.cells.length ≤ 8000) :
    Calls Tryz.prog 117 #[.pointer (some ⟨b, 0, none⟩)] w fun e w' => ∃ v L, Hid (e = .returned (.slice (some ⟨w.heap.size, 0, none⟩) x.cells.length x.cells.length)) ∧ Sn w' w.heap.size w.heap.size x.cells.length v L ∧ Hid (∀ i : Nat, (i : Int) ∈ L ↔ Held x i) ∧ Ext w w' := by
  have c4 := h.c4
  have c3 := h.c3
  have lr := h.lr
  have hb : b < w.heap.size := cell_lt c4
  have HH := hide h
  have Q2 := hide r2
  have Q4 := hide r4
  clear h r2 r4
  obtain ⟨z, hmk, hz⟩ := mkBools x.cells.length (by omega) w
  have S0 := hide (Sn.start w x.cells.length 4)
  rw [← hz] at S0
  clear hz
  go_enter Tryz.func117, Tryz.ntmps117
  go_wp2_with fail
  go_loopw [4, 26] (fun v i wr => ∃ (k : Nat) (L : List Int), k ≤ x.regs.length ∧ i = .int .i64 k ∧ Sn wr w.heap.size w.heap.size x.cells.length v L ∧ Hid (OnlyH x L ∧ RegsIn x k L) ∧ Ext w wr) (fun _ i _ => x.regs.length - (intOf i).toNat)
  case atStart => exact ⟨0, [], Nat.zero_le _, rfl, unhide S0, ⟨(fun z hz => by cases hz), fun j _ hj => by omega⟩, (Ext.refl w).alloc _⟩
  case round =>
    clear S0 hmk c4 c3
    obtain ⟨k, L, hk, rfl, hs, hinv, hbl⟩ := hrel
    have HS := hide hs
    clear hs
    by_cases hlt : k < x.regs.length
    · have hh := (unhide HH).ext hbl
      obtain ⟨b', o, e1, p0, p1, p2⟩ := hh.R k hlt
      have d3 := hh.c3
      rw [e1] at d3
      have hk0 : (0:Int) ≤ (k:Int) := by omega
      have hk1 : (k:Int) < (x.regs.length:Int) := by omega
      have xa := (Ext.refl wr).alloc (.cells #[iv x.regs[k].k, iv x.regs[k].n, iv x.regs[k].a] 147)
      subst e1
      clear hh
      go_wp2_with fail
      refine (l2mark_any x x.regs[k] b w.heap.size w.heap.size _ L _ ((unhide HH).ext (hbl.trans xa)) (may_reg (unhide Q2) (unhide Q4) k hlt) ((unhide HS).ext xa) (hbl.trans xa).size hn8).mono ?_
      rintro e w2 ⟨v', L', rfl, hs', ha, hm⟩
      have R := hide (show Sn w2 w.heap.size w.heap.size x.cells.length v' L' ∧ (OnlyH x L' ∧ RegsIn x (k + 1) L') ∧ Ext w w2 from
        ⟨hs', ⟨(unhide hinv).1.add (unhide ha) (fun e => Held.reg k hlt e), fun j hj hjk e => by
          by_cases q : j = k
          · subst q; exact (unhide ha).has e
          · exact (unhide ha).sub ((unhide hinv).2 j hj (by omega) e)⟩, ((unhide HS).ext xa).mext hm (hbl.trans xa)⟩)
      clear hs' ha hm xa
      go_wp2_with fail
      go_roundw
      case rel => exact ⟨k + 1, L', by omega, by go_num, (unhide R).1, (unhide R).2.1, (unhide R).2.2⟩
      case measure => simp [intOf]; omega
    · have hk2 : k = x.regs.length := by omega
      subst hk2
      have c4 := ((unhide HH).ext hbl).c4
      have B0 := hide hbl
      clear hlt hk
      go_wp2_with fail
      clear hbl
      go_loopw [4, 41] (fun v i wr => ∃ (k : Nat) (L : List Int), k ≤ x.cells.length ∧ i = .int .i64 k ∧ Sn wr w.heap.size w.heap.size x.cells.length v L ∧ Hid (OnlyH x L ∧ RegsIn x x.regs.length L ∧ DueIn x k L) ∧ Ext w wr) (fun _ i _ => x.cells.length - (intOf i).toNat)
      case atStart => exact ⟨0, L, Nat.zero_le _, rfl, unhide HS, ⟨(unhide hinv).1, (unhide hinv).2, fun i hi => by omega⟩, unhide B0⟩
      case round =>
        clear HS hinv B0 c4 L
        obtain ⟨k, L, hk, rfl, hs, hinv, hbl⟩ := hrel
        have HS := hide hs
        clear hs
        by_cases hlt : k < x.cells.length
        · have hh := (unhide HH).ext hbl
          obtain ⟨b', o, ap, kp, e1, p0, p1, p2, p3, p4, p5, p6, p7, lp, P⟩ := hh.cell k hlt
          have hb' : b' < wr.heap.size := cell_lt p0
          have d4 := hh.c4
          rw [e1] at d4
          have hk0 : (0:Int) ≤ (k:Int) := by omega
          have hk1 : (k:Int) < (x.cells.length:Int) := by omega
          have xa := (Ext.refl wr).alloc (.cells #[iv (x.c k).st, iv (x.c k).kind, iv (x.c k).weak, iv (x.c k).last, iv (x.c k).born, iv (x.c k).color, iv (x.c k).to, .slice ap (x.c k).prs.length kp] 150)
          subst e1
          clear P hh
          cases tl : ((x.c k).last == 2)
          · have R := hide (show DueIn x (k + 1) L from fun i hi hn e => by
              by_cases q : i = k
              · subst q; simp at tl; exact (tl e).elim
              · exact (unhide hinv).2.2 i (by omega) hn e)
            have A := hide (And.intro ((unhide HS).ext xa) (hbl.trans xa))
            clear xa
            go_wp2_with fail
            go_roundw
            case rel => exact ⟨k + 1, L, by omega, by go_num, (unhide A).1, ⟨(unhide hinv).1, (unhide hinv).2.1, unhide R⟩, (unhide A).2⟩
            case measure => simp [intOf]; omega
          · have hl2 : (x.c k).last = 2 := by simpa using tl
            have HL := hide hl2
            have hst := speaks_used (unhide Q2) k hlt (.inr hl2)
            have et : tgt x ⟨2, 0, (k : Int)⟩ = k := by unfold tgt lead2; simp [hst]
            have MY := hide (show MayMark x ⟨2, 0, (k : Int)⟩ from fun _ => ⟨rfl, by simp, by simpa using hlt, (fun h => by simp [hst] at h), by rw [et]; exact good_want (unhide Q4) k hlt hst (.inr hl2)⟩)
            have ET := hide et
            clear hl2 hst et
            go_wp2_with fail
            refine (l2mark_any x ⟨2, 0, (k : Int)⟩ b w.heap.size w.heap.size _ L _ ((unhide HH).ext (hbl.trans xa)) (unhide MY) ((unhide HS).ext xa) (hbl.trans xa).size hn8).mono ?_
            rintro e w2 ⟨v', L', rfl, hs', ha, hm⟩
            have R := hide (show Sn w2 w.heap.size w.heap.size x.cells.length v' L' ∧ (OnlyH x L' ∧ RegsIn x x.regs.length L' ∧ DueIn x (k + 1) L') ∧ Ext w w2 from
              ⟨hs', ⟨(unhide hinv).1.add (unhide ha) (fun _ => by rw [unhide ET]; exact Held.due k hlt (unhide HL)), fun j hj hjk e => (unhide ha).sub ((unhide hinv).2.1 j hj hjk e), fun i hi hn e => by
                by_cases q : i = k
                · subst q; have := (unhide ha).has rfl; rw [unhide ET] at this; exact this
                · exact (unhide ha).sub ((unhide hinv).2.2 i (by omega) hn e)⟩, ((unhide HS).ext xa).mext hm (hbl.trans xa)⟩)
            clear hs' ha hm xa
            go_wp2_with fail
            go_roundw
            case rel => exact ⟨k + 1, L', by omega, by go_num, (unhide R).1, (unhide R).2.1, (unhide R).2.2⟩
            case measure => simp [intOf]; omega
        · have hk2 : k = x.cells.length := by omega
          subst hk2
          have B0 := hide hbl
          have R0 := hide (show Rest x (-1) L from ⟨(unhide hinv).1, (unhide hinv).2.1, (unhide hinv).2.2, ⟨by omega, by omega⟩, fun e => by omega⟩)
          clear hlt hk hinv hbl
          go_wp2_with fail
          go_loopw [4, 9] (fun v n wr => ∃ (m : Int) (L : List Int), n = .int .i64 m ∧ Sn wr w.heap.size w.heap.size x.cells.length v L ∧ Hid (Rest x m L) ∧ Ext w wr) (fun _ n _ => ((x.cells.length : Int) - intOf n).toNat)
          case atStart => exact ⟨-1, L, rfl, unhide HS, unhide R0, unhide B0⟩
          case round =>
            clear HS R0 B0 L
            obtain ⟨m, L, rfl, hs, hre, hbl⟩ := hrel
            have HS := hide hs
            have hLn := hs.len
            have hmb := (unhide hre).b
            obtain ⟨ad, cap, rfl, hgl⟩ := hs.form
            clear hs hgl
            by_cases hml : m = (L.length : Int)
            · have D := hide (show ∀ i : Nat, (i : Int) ∈ L ↔ Held x i by have := unhide hre; rw [hml] at this; exact this.done)
              have hnn : (m != (L.length : Int)) = false := by simp [hml]
              clear hre
              go_wp2_with fail
              go_ret
              exact ⟨_, L, rfl, unhide HS, unhide D, hbl⟩
            · have hnn : (m != (L.length : Int)) = true := by simp [hml]
              have P0 := hide (unhide hre).begin
              have B0 := hide hbl
              have hm2 : m < (L.length : Int) := by omega
              clear hre hbl hml
              go_wp2_with fail
              go_loopw [4, 10] (fun v i wr => ∃ (c : Nat) (T : List Int), c ≤ T.length ∧ i = .int .i64 c ∧ Sn wr w.heap.size w.heap.size x.cells.length v T ∧ Hid (Pass x L c T) ∧ Ext w wr) (fun _ i _ => x.cells.length - (intOf i).toNat)
              case atStart => exact ⟨0, L, Nat.zero_le _, rfl, unhide HS, unhide P0, unhide B0⟩
              case round =>
                clear HS P0 B0
                obtain ⟨c, T, hc, rfl, hs, hpa, hbl⟩ := hrel
                have HS := hide hs
                obtain ⟨ad, cap, rfl, hgl⟩ := hs.form
                have hTn := hs.len
                by_cases hlt : c < T.length
                · obtain ⟨g, rfl⟩ := hgl (by omega)
                  obtain ⟨a1, a2, a3⟩ := (Rw1.mk hs.own).cell c hlt
                  obtain ⟨j, ej, hrj⟩ := (unhide hpa).o _ (it_mem T c hlt)
                  rw [ej] at a1
                  have hgj := hrj.good (unhide Q2) (unhide Q4)
                  have hh := (unhide HH).ext hbl
                  obtain ⟨b', o, ap, kp, e1, C⟩ := (unhide HH).cell j hgj.1
                  have d4 := hh.c4
                  rw [e1] at d4
                  have q0 := hbl.keep C.p0
                  have q1 := hbl.keep C.p1
                  have q2 := hbl.keep C.p2
                  have q3 := hbl.keep C.p3
                  have q4 := hbl.keep C.p4
                  have q5 := hbl.keep C.p5
                  have q6 := hbl.keep C.p6
                  have q7 := hbl.keep C.p7
                  have hbq : b' < wr.heap.size := cell_lt q0
                  have hbd : b < wr.heap.size := cell_lt d4
                  have hbg : g < wr.heap.size := cell_lt a1
                  have lp := C.lp
                  have HP := hide C.P
                  have EJ := hide ej
                  have RJ := hide hrj
                  have GJ := hide hgj
                  have hjn := hgj.1
                  have c0 : (0:Int) ≤ (c:Int) := by omega
                  have c1 : (c:Int) < (T.length:Int) := by omega
                  have j0 : (0:Int) ≤ (j:Int) := by omega
                  have j1 : (j:Int) < (x.cells.length:Int) := by omega
                  clear hs C hh e1 ej hrj hgj a3 a2
                  obtain ⟨WR, hWR⟩ : ∃ W, W = wr := ⟨_, rfl⟩
                  subst hWR
                  have hwk : (x.c j).weak = 0 ∨ (x.c j).weak = 1 ∨ (x.c j).weak = 2 ∨ (x.c j).weak = 3 := by
                    have h2 := (unhide GJ).2.1
                    rcases (unhide Q2).1 j hjn with z | z | z
                    · omega
                    · omega
                    · have := z.2.2.1; omega
                  have OB := hide (show ∀ q, WR.heap.size ≤ q → (Value.slice (some ⟨g, 0, none⟩) T.length cap).ownBlock ≠ some q from fun q hq e => by have := ((unhide HS).own.lt _ e).2; omega)
                  have PA := hide (unhide hpa)
                  clear hpa
                  go_wp2_with fail
                  go_cut [11] (fun s11 wx => ∃ B : Nat, s11 = .pointer (some ⟨B, 0, none⟩) ∧ Hid (wx.cell? ⟨B, 2, none⟩ = some (iv (x.c j).weak) ∧ wx.cell? ⟨B, 7, none⟩ = some (.slice ap (x.c j).prs.length kp) ∧ WR.heap.size ≤ B) ∧ Ext WR wx)
                  case first =>
                    go_region_with (fail)
                    all_goals
                      go_wp2_with fail
                      go_meet
                      exact ⟨_, rfl, ⟨by simp [go_sem], by simp [go_sem], Nat.le_refl _⟩, ((Ext.refl WR).alloc _).drew⟩
                  case rest =>
                    obtain ⟨B, rfl, hbx, xB⟩ := hcut
                    have b7 := (unhide hbx).2.1
                    have X0 := hide (hbl.trans xB)
                    have S0 := hide ((unhide HS).ext xB)
                    have B0 := hide (show BxAt wc B w.heap.size (.slice (some ⟨g, 0, none⟩) T.length cap) (x.c j).weak from ⟨(unhide hbx).1, by have := hbl.size; have := (unhide hbx).2.2; have := (unhide HS).hb.2; omega, unhide OB B (unhide hbx).2.2⟩)
                    clear hbx xB hbl HS OB q0 q1 q2 q3 q4 q5 q6 q7 d4 a1 hbq hbd hbg
                    go_wp2_with fail
                    go_loopw [4, 81] (fun v i wz => ∃ (p : Nat) (T' : List Int), p ≤ (x.c j).prs.length ∧ i = .int .i64 p ∧ Sn wz w.heap.size w.heap.size x.cells.length v T' ∧ Hid (Pass x L c T' ∧ it T' c = (j : Int) ∧ c < T'.length ∧ PairsH x L j p T') ∧ Hid (BxAt wz B w.heap.size v (x.c j).weak) ∧ Ext w wz) (fun _ i _ => (x.c j).prs.length - (intOf i).toNat)
                    case atStart => exact ⟨0, T, Nat.zero_le _, rfl, unhide S0, ⟨unhide PA, unhide EJ, hlt, fun p hp => by omega⟩, unhide B0, unhide X0⟩
                    case round =>
                      clear S0 PA B0 X0 b7
                      obtain ⟨p, T, hp, rfl, hs, hinv, hbo, hbl⟩ := hrel
                      have HS := hide hs
                      have hTn := hs.len
                      by_cases hpl : p < (x.c j).prs.length
                      · obtain ⟨b2, o2, rfl, q0, q1, q2, q3, q4, q5⟩ := unhide HP p hpl
                        have e0 := hbl.keep q0
                        have e1 := hbl.keep q1
                        have e2 := hbl.keep q2
                        have e3 := hbl.keep q3
                        have e4 := hbl.keep q4
                        have e5 := hbl.keep q5
                        have hb2 : b2 < wr.heap.size := cell_lt e0
                        have hBl : B < wr.heap.size := cell_lt (unhide hbo).1
                        clear q0 q1 q2 q3 q4 q5 hs
                        have hp0 : (0:Int) ≤ (p:Int) := by omega
                        have hp1 : (p:Int) < ((x.c j).prs.length:Int) := by omega
                        have xa := (Ext.refl wr).alloc (.cells #[.int .i64 ((x.c j).p p).key.k, .int .i64 ((x.c j).p p).key.n, .int .i64 ((x.c j).p p).key.a, .int .i64 ((x.c j).p p).val.k, .int .i64 ((x.c j).p p).val.n, .int .i64 ((x.c j).p p).val.a] 152)
                        have hMM := hide (may_pair (unhide Q2) (unhide Q4) j p (unhide GJ) hpl)
                        have bx := (unhide hbo).1
                        have HSA := hide ((unhide HS).ext xa)
                        have BXA := hide ((unhide hbo).ext xa)
                        have XA := hbl.trans xa
                        have PB := hide (show PBx (wr.alloc (.cells #[.int .i64 ((x.c j).p p).key.k, .int .i64 ((x.c j).p p).key.n, .int .i64 ((x.c j).p p).key.a, .int .i64 ((x.c j).p p).val.k, .int .i64 ((x.c j).p p).val.n, .int .i64 ((x.c j).p p).val.a] 152)) wr.heap.size w.heap.size _ ((x.c j).p p) from PBx.new (unhide HS))
                        rcases hwk with hwk | hwk | hwk | hwk
                        · have bx2 := bx
                          rw [hwk] at bx2
                          go_wp2_with fail
                          refine (l2mark_any x ((x.c j).p p).key b w.heap.size w.heap.size _ T _ ((unhide HH).ext XA) (unhide hMM).1 (unhide HSA) XA.size hn8).mono ?_
                          rintro e w5 ⟨v5, T5, rfl, hs5, ha5, hm5⟩
                          have X5 := (unhide HSA).mext hm5 XA
                          have S5 := hide hs5
                          have A5 := hide (unhide ha5)
                          have B5 := hide ((unhide BXA).mfr hm5)
                          have P5 := hide ((unhide PB).mfr hm5)
                          have bx5 := (unhide B5).1
                          rw [hwk] at bx5
                          have G5 := hide (show Pass x L c T5 ∧ it T5 c = (j : Int) ∧ c < T5.length ∧ PairsH x L j p T5 ∧ (SK (x.c j) → ((x.c j).p p).key.k = 2 → (tgt x ((x.c j).p p).key : Int) ∈ T5) from AtC.mark (unhide hinv) (unhide A5) (fun e => Held.key j p (unhide RJ) hpl ⟨by omega, by omega⟩ e))
                          obtain ⟨u0, u1, u2, u3, u4, u5⟩ := (unhide P5).c
                          clear hm5 hs5 ha5 e0 e1 e2 e3 e4 e5 bx2
                          go_wp2_with fail
                          refine (l1resolve_may x ((x.c j).p p).key b _ ((unhide HH).ext X5) (unhide hMM).1).mono ?_
                          rintro e w6 ⟨t, rfl, ht, hq6⟩
                          have X6 := X5.trans hq6
                          have S6 := hide ((unhide S5).ext hq6)
                          have B6 := hide ((unhide B5).ext hq6)
                          have P6 := hide ((unhide P5).ext hq6)
                          have bx6 := (unhide B6).1
                          rw [hwk] at bx6
                          have hB6 : B < w6.heap.size := cell_lt bx6
                          obtain ⟨z0, z1, z2, z3, z4, z5⟩ := (unhide P6).c
                          have hp6 : wr.heap.size < w6.heap.size := cell_lt z0
                          have hs6 : w.heap.size < w6.heap.size := (unhide S6).hb.2
                          have xk := (Ext.refl w6).alloc (.cells #[iv t.k, iv t.n, iv t.a] 147)
                          have X7 := X6.trans xk
                          have S7 := hide ((unhide S6).ext xk)
                          have B7 := hide ((unhide B6).ext xk)
                          clear hq6 u0 u1 u2 u3 u4 u5 bx5
                          rcases unhide ht with ⟨hk, rfl⟩ | ⟨hk, rfl⟩
                          · have hkb : (((x.c j).p p).key.k != 2) = true := by simp [hk]
                            go_wp2_with fail
                            refine (l2mark_any x ((x.c j).p p).val b w.heap.size w.heap.size _ T5 _ ((unhide HH).ext X7) (unhide hMM).2 (unhide S7) X7.size hn8).mono ?_
                            rintro e w8 ⟨v8, T8, rfl, hs8, ha8, hm8⟩
                            have R := hide (show Sn w8 w.heap.size w.heap.size x.cells.length v8 T8 ∧ (Pass x L c T8 ∧ it T8 c = (j : Int) ∧ c < T8.length ∧ PairsH x L j (p + 1) T8) ∧ BxAt w8 B w.heap.size v8 (x.c j).weak ∧ Ext w w8 from
                              ⟨hs8, Pass.val (unhide G5) (unhide ha8) (fun e => Held.val j p (unhide RJ) hpl ⟨by omega, by omega⟩ (fun e => (hk e).elim) e), (unhide B7).mfr hm8, (unhide S7).mext hm8 X7⟩)
                            clear hs8 ha8 hm8
                            go_wp2_with fail
                            go_roundw
                            case rel => exact ⟨p + 1, T8, by omega, by go_num, (unhide R).1, (unhide R).2.1, (unhide R).2.2.1, (unhide R).2.2.2⟩
                            case measure => simp [intOf]; omega
                          · have htl : tgt x ((x.c j).p p).key < x.cells.length := ((unhide hMM).1 hk).2.2.2.2.1
                            have sn := (unhide S7).s _ htl
                            obtain ⟨tg, etg⟩ : ∃ q, q = tgt x ((x.c j).p p).key := ⟨_, rfl⟩
                            rw [← etg] at sn htl xk S7 B7 X7 ⊢
                            have ETG := hide etg
                            clear etg
                            have t0 : (0:Int) ≤ (tg:Int) := by omega
                            have t1 : (tg:Int) < (x.cells.length:Int) := by omega
                            by_cases hm : (tg : Int) ∈ T5
                            · have E : decide ((tg : Int) ∈ T5) = true := decide_eq_true hm
                              rw [E] at sn
                              clear E
                              go_wp2_with fail
                              refine (l2mark_any x ((x.c j).p p).val b w.heap.size w.heap.size _ T5 _ ((unhide HH).ext X7) (unhide hMM).2 (unhide S7) X7.size hn8).mono ?_
                              rintro e w8 ⟨v8, T8, rfl, hs8, ha8, hm8⟩
                              have R := hide (show Sn w8 w.heap.size w.heap.size x.cells.length v8 T8 ∧ (Pass x L c T8 ∧ it T8 c = (j : Int) ∧ c < T8.length ∧ PairsH x L j (p + 1) T8) ∧ BxAt w8 B w.heap.size v8 (x.c j).weak ∧ Ext w w8 from
                                ⟨hs8, Pass.val (unhide G5) (unhide ha8) (fun e => Held.val j p (unhide RJ) hpl ⟨by omega, by omega⟩ (fun _ => by rw [← unhide ETG]; obtain ⟨q, eq, hq⟩ := (unhide G5).1.o _ hm; have e3 : tg = q := (by omega); rw [e3]; exact hq) e), (unhide B7).mfr hm8, (unhide S7).mext hm8 X7⟩)
                              clear hs8 ha8 hm8
                              go_wp2_with fail
                              go_roundw
                              case rel => exact ⟨p + 1, T8, by omega, by go_num, (unhide R).1, (unhide R).2.1, (unhide R).2.2.1, (unhide R).2.2.2⟩
                              case measure => simp [intOf]; omega
                            · have E : decide ((tg : Int) ∈ T5) = false := decide_eq_false hm
                              rw [E] at sn
                              clear E
                              have R := hide (show PairsH x L j (p + 1) T5 from (unhide G5).2.2.2.1.more (unhide G5).2.2.2.2 (fun _ hh => (hm (by obtain ⟨R, e⟩ := (unhide G5).1.e; rw [e]; exact List.mem_append_left _ (by rw [unhide ETG]; exact hh hk))).elim))
                              go_wp2_with fail
                              go_roundw
                              case rel => exact ⟨p + 1, T5, by omega, by go_num, unhide S7, ⟨(unhide G5).1, (unhide G5).2.1, (unhide G5).2.2.1, unhide R⟩, unhide B7, X7⟩
                              case measure => simp [intOf]; omega
                        · have bx2 := bx
                          rw [hwk] at bx2
                          go_wp2_with fail
                          have X5 := XA
                          have S5 := hide (unhide HSA)
                          have B5 := hide (unhide BXA)
                          have P5 := hide (unhide PB)
                          have G5 := hide (show Pass x L c T ∧ it T c = (j : Int) ∧ c < T.length ∧ PairsH x L j p T ∧ (SK (x.c j) → ((x.c j).p p).key.k = 2 → (tgt x ((x.c j).p p).key : Int) ∈ T) from ⟨(unhide hinv).1, (unhide hinv).2.1, (unhide hinv).2.2.1, (unhide hinv).2.2.2, fun s => by unfold SK at s; omega⟩)
                          refine (l1resolve_may x ((x.c j).p p).key b _ ((unhide HH).ext X5) (unhide hMM).1).mono ?_
                          rintro e w6 ⟨t, rfl, ht, hq6⟩
                          have X6 := X5.trans hq6
                          have S6 := hide ((unhide S5).ext hq6)
                          have B6 := hide ((unhide B5).ext hq6)
                          have P6 := hide ((unhide P5).ext hq6)
                          have bx6 := (unhide B6).1
                          rw [hwk] at bx6
                          have hB6 : B < w6.heap.size := cell_lt bx6
                          obtain ⟨z0, z1, z2, z3, z4, z5⟩ := (unhide P6).c
                          have hp6 : wr.heap.size < w6.heap.size := cell_lt z0
                          have hs6 : w.heap.size < w6.heap.size := (unhide S6).hb.2
                          have xk := (Ext.refl w6).alloc (.cells #[iv t.k, iv t.n, iv t.a] 147)
                          have X7 := X6.trans xk
                          have S7 := hide ((unhide S6).ext xk)
                          have B7 := hide ((unhide B6).ext xk)
                          clear hq6 e0 e1 e2 e3 e4 e5 bx2
                          rcases unhide ht with ⟨hk, rfl⟩ | ⟨hk, rfl⟩
                          · have hkb : (((x.c j).p p).key.k != 2) = true := by simp [hk]
                            go_wp2_with fail
                            refine (l2mark_any x ((x.c j).p p).val b w.heap.size w.heap.size _ T _ ((unhide HH).ext X7) (unhide hMM).2 (unhide S7) X7.size hn8).mono ?_
                            rintro e w8 ⟨v8, T8, rfl, hs8, ha8, hm8⟩
                            have R := hide (show Sn w8 w.heap.size w.heap.size x.cells.length v8 T8 ∧ (Pass x L c T8 ∧ it T8 c = (j : Int) ∧ c < T8.length ∧ PairsH x L j (p + 1) T8) ∧ BxAt w8 B w.heap.size v8 (x.c j).weak ∧ Ext w w8 from
                              ⟨hs8, Pass.val (unhide G5) (unhide ha8) (fun e => Held.val j p (unhide RJ) hpl ⟨by omega, by omega⟩ (fun e => (hk e).elim) e), (unhide B7).mfr hm8, (unhide S7).mext hm8 X7⟩)
                            clear hs8 ha8 hm8
                            go_wp2_with fail
                            go_roundw
                            case rel => exact ⟨p + 1, T8, by omega, by go_num, (unhide R).1, (unhide R).2.1, (unhide R).2.2.1, (unhide R).2.2.2⟩
                            case measure => simp [intOf]; omega
                          · have htl : tgt x ((x.c j).p p).key < x.cells.length := ((unhide hMM).1 hk).2.2.2.2.1
                            have sn := (unhide S7).s _ htl
                            obtain ⟨tg, etg⟩ : ∃ q, q = tgt x ((x.c j).p p).key := ⟨_, rfl⟩
                            rw [← etg] at sn htl xk S7 B7 X7 ⊢
                            have ETG := hide etg
                            clear etg
                            have t0 : (0:Int) ≤ (tg:Int) := by omega
                            have t1 : (tg:Int) < (x.cells.length:Int) := by omega
                            by_cases hm : (tg : Int) ∈ T
                            · have E : decide ((tg : Int) ∈ T) = true := decide_eq_true hm
                              rw [E] at sn
                              clear E
                              go_wp2_with fail
                              refine (l2mark_any x ((x.c j).p p).val b w.heap.size w.heap.size _ T _ ((unhide HH).ext X7) (unhide hMM).2 (unhide S7) X7.size hn8).mono ?_
                              rintro e w8 ⟨v8, T8, rfl, hs8, ha8, hm8⟩
                              have R := hide (show Sn w8 w.heap.size w.heap.size x.cells.length v8 T8 ∧ (Pass x L c T8 ∧ it T8 c = (j : Int) ∧ c < T8.length ∧ PairsH x L j (p + 1) T8) ∧ BxAt w8 B w.heap.size v8 (x.c j).weak ∧ Ext w w8 from
                                ⟨hs8, Pass.val (unhide G5) (unhide ha8) (fun e => Held.val j p (unhide RJ) hpl ⟨by omega, by omega⟩ (fun _ => by rw [← unhide ETG]; obtain ⟨q, eq, hq⟩ := (unhide G5).1.o _ hm; have e3 : tg = q := (by omega); rw [e3]; exact hq) e), (unhide B7).mfr hm8, (unhide S7).mext hm8 X7⟩)
                              clear hs8 ha8 hm8
                              go_wp2_with fail
                              go_roundw
                              case rel => exact ⟨p + 1, T8, by omega, by go_num, (unhide R).1, (unhide R).2.1, (unhide R).2.2.1, (unhide R).2.2.2⟩
                              case measure => simp [intOf]; omega
                            · have E : decide ((tg : Int) ∈ T) = false := decide_eq_false hm
                              rw [E] at sn
                              clear E
                              have R := hide (show PairsH x L j (p + 1) T from (unhide G5).2.2.2.1.more (unhide G5).2.2.2.2 (fun _ hh => (hm (by obtain ⟨R, e⟩ := (unhide G5).1.e; rw [e]; exact List.mem_append_left _ (by rw [unhide ETG]; exact hh hk))).elim))
                              go_wp2_with fail
                              go_roundw
                              case rel => exact ⟨p + 1, T, by omega, by go_num, unhide S7, ⟨(unhide G5).1, (unhide G5).2.1, (unhide G5).2.2.1, unhide R⟩, unhide B7, X7⟩
                              case measure => simp [intOf]; omega
                        · have bx2 := bx
                          rw [hwk] at bx2
                          go_wp2_with fail
                          refine (l2mark_any x ((x.c j).p p).key b w.heap.size w.heap.size _ T _ ((unhide HH).ext XA) (unhide hMM).1 (unhide HSA) XA.size hn8).mono ?_
                          rintro e w5 ⟨v5, T5, rfl, hs5, ha5, hm5⟩
                          have X5 := (unhide HSA).mext hm5 XA
                          have S5 := hide hs5
                          have A5 := hide (unhide ha5)
                          have B5 := hide ((unhide BXA).mfr hm5)
                          have P5 := hide ((unhide PB).mfr hm5)
                          have bx5 := (unhide B5).1
                          rw [hwk] at bx5
                          have G5 := hide (show Pass x L c T5 ∧ it T5 c = (j : Int) ∧ c < T5.length ∧ PairsH x L j p T5 ∧ (SK (x.c j) → ((x.c j).p p).key.k = 2 → (tgt x ((x.c j).p p).key : Int) ∈ T5) from AtC.mark (unhide hinv) (unhide A5) (fun e => Held.key j p (unhide RJ) hpl ⟨by omega, by omega⟩ e))
                          obtain ⟨u0, u1, u2, u3, u4, u5⟩ := (unhide P5).c
                          clear hm5 hs5 ha5 e0 e1 e2 e3 e4 e5 bx2
                          go_wp2_with fail
                          refine (l1resolve_may x ((x.c j).p p).key b _ ((unhide HH).ext X5) (unhide hMM).1).mono ?_
                          rintro e w6 ⟨t, rfl, ht, hq6⟩
                          have X6 := X5.trans hq6
                          have S6 := hide ((unhide S5).ext hq6)
                          have B6 := hide ((unhide B5).ext hq6)
                          have P6 := hide ((unhide P5).ext hq6)
                          have bx6 := (unhide B6).1
                          rw [hwk] at bx6
                          have hB6 : B < w6.heap.size := cell_lt bx6
                          obtain ⟨z0, z1, z2, z3, z4, z5⟩ := (unhide P6).c
                          have hp6 : wr.heap.size < w6.heap.size := cell_lt z0
                          have hs6 : w.heap.size < w6.heap.size := (unhide S6).hb.2
                          have xk := (Ext.refl w6).alloc (.cells #[iv t.k, iv t.n, iv t.a] 147)
                          have X7 := X6.trans xk
                          have S7 := hide ((unhide S6).ext xk)
                          have B7 := hide ((unhide B6).ext xk)
                          clear hq6 u0 u1 u2 u3 u4 u5 bx5
                          have R := hide (show PairsH x L j (p + 1) T5 from (unhide G5).2.2.2.1.more (unhide G5).2.2.2.2 (fun s => by unfold SV at s; omega))
                          go_wp2_with fail
                          go_roundw
                          case rel => exact ⟨p + 1, T5, by omega, by go_num, unhide S7, ⟨(unhide G5).1, (unhide G5).2.1, (unhide G5).2.2.1, unhide R⟩, unhide B7, X7⟩
                          case measure => simp [intOf]; omega
                        · have bx2 := bx
                          rw [hwk] at bx2
                          go_wp2_with fail
                          have X5 := XA
                          have S5 := hide (unhide HSA)
                          have B5 := hide (unhide BXA)
                          have P5 := hide (unhide PB)
                          have G5 := hide (show Pass x L c T ∧ it T c = (j : Int) ∧ c < T.length ∧ PairsH x L j p T ∧ (SK (x.c j) → ((x.c j).p p).key.k = 2 → (tgt x ((x.c j).p p).key : Int) ∈ T) from ⟨(unhide hinv).1, (unhide hinv).2.1, (unhide hinv).2.2.1, (unhide hinv).2.2.2, fun s => by unfold SK at s; omega⟩)
                          refine (l1resolve_may x ((x.c j).p p).key b _ ((unhide HH).ext X5) (unhide hMM).1).mono ?_
                          rintro e w6 ⟨t, rfl, ht, hq6⟩
                          have X6 := X5.trans hq6
                          have S6 := hide ((unhide S5).ext hq6)
                          have B6 := hide ((unhide B5).ext hq6)
                          have P6 := hide ((unhide P5).ext hq6)
                          have bx6 := (unhide B6).1
                          rw [hwk] at bx6
                          have hB6 : B < w6.heap.size := cell_lt bx6
                          obtain ⟨z0, z1, z2, z3, z4, z5⟩ := (unhide P6).c
                          have hp6 : wr.heap.size < w6.heap.size := cell_lt z0
                          have hs6 : w.heap.size < w6.heap.size := (unhide S6).hb.2
                          have xk := (Ext.refl w6).alloc (.cells #[iv t.k, iv t.n, iv t.a] 147)
                          have X7 := X6.trans xk
                          have S7 := hide ((unhide S6).ext xk)
                          have B7 := hide ((unhide B6).ext xk)
                          clear hq6 e0 e1 e2 e3 e4 e5 bx2
                          have R := hide (show PairsH x L j (p + 1) T from (unhide G5).2.2.2.1.more (unhide G5).2.2.2.2 (fun s => by unfold SV at s; omega))
                          go_wp2_with fail
                          go_roundw
                          case rel => exact ⟨p + 1, T, by omega, by go_num, unhide S7, ⟨(unhide G5).1, (unhide G5).2.1, (unhide G5).2.2.1, unhide R⟩, unhide B7, X7⟩
                          case measure => simp [intOf]; omega
                      · have hpe : p = (x.c j).prs.length := by omega
                        have R := hide (show Pass x L (c + 1) T ∧ c + 1 ≤ T.length by
                          obtain ⟨i1, i2, i3, i4⟩ := unhide hinv
                          rw [hpe] at i4
                          exact ⟨i1.step i2 i4, i3⟩)
                        clear hs hpe
                        go_wp2_with fail
                        go_roundw
                        case rel => exact ⟨c + 1, T, (unhide R).2, by go_num, unhide HS, (unhide R).1, hbl⟩
                        case measure => simp [intOf]; omega
                · have hce : c = T.length := by omega
                  have R := hide (show Rest x (L.length : Int) T by have := unhide hpa; rw [hce] at this; exact this.rest)
                  clear hs hce hgl hpa
                  go_wp2_with fail
                  go_roundw
                  case rel => exact ⟨_, T, rfl, unhide HS, unhide R, hbl⟩
                  case measure => simp [intOf]; omega
end Go.Proofs.YtddkhnclmeikfacGreat

namespace Go.Proofs.YtddkhnclmeikfacGreat
open Go.RowKit
attribute [local go_sem ↓] Go.wp_at_zero Go.wp_at_succ

/-- the model's heap, as its readers see it -/
theorem GAt.hat {B : Nat} {w : World} {g : Nat} {x : Hp} {ar : Option Addr} {kr : Nat} {ac : Option Addr} {kc : Nat} {vg : Value} {br bc : Nat} {pb : Nat → Nat} {pa : Nat → Option Addr} {pk : Nat → Nat} {role : Nat → Nat} (h : GAt B w g x ar kr ac kc vg br bc pb pa pk role) (s : Snd x) : ∃ ag kg, HAt w g x ar kr ac kc ag kg := by
  obtain ⟨ag, kg, hvg⟩ := h.gr.form
  subst hvg
  have n8 := s.ok.n8
  have ng := s.r1.gray
  obtain ⟨⟨ar', kr', e1, _, hr⟩, ⟨ac', kc', e2, _, hc⟩, ⟨ag', kg', e3, _, hg⟩⟩ := h.rd (by rw [s.r1.regs]; omega) (by omega) (fun q hq => s.ok.p200 q hq) (by omega)
  injection e1 with e1; injection e2 with e2; injection e3 with e3
  subst e1 e2 e3
  obtain ⟨b0, b1, b2, b3, b4, b5, b6, b7, b8, b9, b10, b11, b12⟩ := h.bx
  exact ⟨ag, kg, b0, b1, b2, b3, b4, b5, b6, b7, b8, b9, b10, b11, b12, by rw [s.r1.regs]; omega, by omega, by omega, hr, fun i hi => by obtain ⟨b', o, e, q⟩ := hc i hi; rw [Hp.c_eq x i hi] at q; exact ⟨b', o, e, q⟩, hg⟩
theorem res_in {x : Hp} (r2 : R2 x) {y : Wd} (hy : Formed y x.cells.length) : (resW x y).k = 2 → 0 ≤ (resW x y).a ∧ (resW x y).a < x.cells.length := fun hk => by
  unfold Formed at hy
  unfold resW at hk ⊢
  split
  · rename_i h
    have hi : y.a.toNat < x.cells.length := by omega
    have := r2.1 y.a.toNat hi
    unfold CellOk MovedOk at this
    show 0 ≤ (x.c y.a.toNat).to ∧ (x.c y.a.toNat).to < x.cells.length
    omega
  · rename_i h
    rw [if_neg h] at hk
    omega
theorem res_same {x z : Hp} (h : ∀ q, (z.c q).st = (x.c q).st ∧ (z.c q).to = (x.c q).to) (y : Wd) : resW z y = resW x y := by
  unfold resW
  rw [(h _).1, (h _).2]
theorem lost_same {x z : Hp} (h : ∀ q, (z.c q).st = (x.c q).st ∧ (z.c q).to = (x.c q).to) (H : Nat → Bool) (y : Wd) : lostB z H y = lostB x H y := by
  unfold lostB; rw [res_same h]
/-- the pairs of a held cell lead to cells -/
theorem held_pair {x : Hp} (s : Snd x) {i : Nat} (h : Held x i) (k : Nat) (hk : k < (x.c i).prs.length) : Formed ((x.c i).p k).key x.cells.length ∧ Formed ((x.c i).p k).val x.cells.length := by
  have g := h.good s.r2 s.r4
  have p := ((s.r4.2 i g.1).2 k hk).2 g.2.2
  exact ⟨p.1.1, p.2.1⟩
theorem inH_st (x : Hp) (H : Nat → Bool) (b : Hp) (i k : Nat) (hi : i < b.cells.length) (hb : ∀ q, (b.c q).st = (x.c q).st ∧ (b.c q).to = (x.c q).to) (q : Nat) : ((inH x H b i k).c q).st = (x.c q).st ∧ ((inH x H b i k).c q).to = (x.c q).to := by
  have := Hp.c_set b i { x.c i with prs := (x.c i).prs.take k ++ stay x H (x.c i) ((x.c i).prs.drop k) } hi q
  have e : (inH x H b i k).c q = ({ b with cells := b.cells.set i { x.c i with prs := (x.c i).prs.take k ++ stay x H (x.c i) ((x.c i).prs.drop k) } } : Hp).c q := rfl
  rw [e, this]
  by_cases c : q = i
  · rw [if_pos c, c]; exact ⟨rfl, rfl⟩
  · rw [if_neg c]; exact hb q
theorem cutTo_st (x : Hp) (H : Nat → Bool) (k : Nat) (hk : k ≤ x.cells.length) (q : Nat) : ((cutTo x H k).c q).st = (x.c q).st ∧ ((cutTo x H k).c q).to = (x.c q).to := by
  rw [cutTo_c x H k hk q]
  split
  · exact ⟨rfl, rfl⟩
  · exact ⟨rfl, rfl⟩
theorem cutTo_same (x : Hp) (H : Nat → Bool) : ∀ k, (cutTo x H k).phase = x.phase ∧ (cutTo x H k).hand = x.hand ∧ (cutTo x H k).gray = x.gray ∧ (cutTo x H k).regs = x.regs
  | 0 => ⟨rfl, rfl, rfl, rfl⟩
  | k + 1 => by
    unfold cutTo
    split
    · exact cutTo_same x H k
    · exact cutTo_same x H k
theorem cutTo_scan (x : Hp) (H : Nat → Bool) (k : Nat) : scanI (cutTo x H k) = scanI x := by
  obtain ⟨a, b, c, _⟩ := cutTo_same x H k
  unfold scanI
  rw [a, b, c, cutTo_len]
theorem cutTo_sub (x : Hp) (H : Nat → Bool) (i : Nat) (e : scanI x = (i : Int)) : ∀ k, k ≤ i → (cutTo x H k).sub = x.sub
  | 0, _ => rfl
  | k + 1, hk => by
    have ih := cutTo_sub x H i e k (by omega)
    unfold cutTo
    split
    · show letSub x H k (cutTo x H k).sub = x.sub
      unfold letSub
      rw [if_neg (by rw [e]; omega)]; exact ih
    · exact ih
theorem cutTo_inH (x : Hp) (H : Nat → Bool) (i : Nat) (h : H i = true) : cutTo x H (i + 1) = inH x H (cutTo x H i) i 0 := by
  show (if H i = true then _ else _) = _
  rw [if_pos h]
  unfold inH letC letSub
  simp
theorem goneTo_le (x : Hp) (H : Nat → Bool) (hp : ∀ i, i < x.cells.length → (x.c i).prs.length ≤ 200) : ∀ k, k ≤ x.cells.length → goneTo x H k ≤ 200 * k
  | 0, _ => Nat.le_refl _
  | k + 1, hk => by
    have ih := goneTo_le x H hp k (by omega)
    have h1 := goes_le x H (x.c k) (x.c k).prs
    have h2 := hp k (by omega)
    unfold goneTo
    split <;> omega
theorem cutTo_used (x : Hp) (H : Nat → Bool) : ∀ k, (cutTo x H k).used = x.used - goneTo x H k
  | 0 => by simp [cutTo, goneTo]
  | k + 1 => by
    have ih := cutTo_used x H k
    unfold cutTo goneTo
    split
    · show (cutTo x H k).used - goes x H (x.c k) (x.c k).prs = _
      rw [ih]; omega
    · exact ih
theorem cutTo_subr (x : Hp) (H : Nat → Bool) (hp : ∀ i, i < x.cells.length → (x.c i).prs.length ≤ 200) : ∀ k, k ≤ x.cells.length → x.sub - 200 * k ≤ (cutTo x H k).sub ∧ (cutTo x H k).sub ≤ x.sub
  | 0, _ => by simp [cutTo]
  | k + 1, hk => by
    have ih := cutTo_subr x H hp k (by omega)
    unfold cutTo
    split
    · show x.sub - 200 * ((k + 1 : Nat) : Int) ≤ letSub x H k (cutTo x H k).sub ∧ letSub x H k (cutTo x H k).sub ≤ x.sub
      unfold letSub
      have h1 := goes_le x H (x.c k) ((x.c k).prs.take (cutTo x H k).sub.toNat)
      have h2 := hp k (by omega)
      have h3 : ((x.c k).prs.take (cutTo x H k).sub.toNat).length ≤ 200 := by simp; omega
      split <;> omega
    · omega
theorem inH_num (x : Hp) (H : Nat → Bool) (hp : ∀ i, i < x.cells.length → (x.c i).prs.length ≤ 200) (i k : Nat) (hi : i < x.cells.length) (n8 : x.cells.length ≤ 8000) (hu : 0 ≤ x.used ∧ x.used ≤ 4000) (hs : 0 ≤ x.sub ∧ x.sub ≤ 200) :
    (-3000000 ≤ (inH x H (cutTo x H i) i k).used ∧ (inH x H (cutTo x H i) i k).used ≤ 1000000) ∧ (-3000000 ≤ (inH x H (cutTo x H i) i k).sub ∧ (inH x H (cutTo x H i) i k).sub ≤ 1000000) := by
  have h1 := goneTo_le x H hp i (by omega)
  have h2 := cutTo_used x H i
  have h3 := cutTo_subr x H hp i (by omega)
  have h4 := goes_le x H (x.c i) ((x.c i).prs.drop k)
  have h5 := hp i hi
  have h6 : ((x.c i).prs.drop k).length ≤ 200 := by simp; omega
  have h7 := goes_le x H (x.c i) (((x.c i).prs.take (cutTo x H i).sub.toNat).drop k)
  have h8 : (((x.c i).prs.take (cutTo x H i).sub.toNat).drop k).length ≤ 200 := by simp; omega
  unfold inH
  refine ⟨?_, ?_⟩
  · simp only; omega
  · simp only; split <;> omega
theorem dueTo_len (x z : Hp) (H : Nat → Bool) : ∀ k, (dueTo x z H k).cells.length = z.cells.length
  | 0 => rfl
  | k + 1 => by
    unfold dueTo
    split
    · simp [dueTo_len x z H k]
    · exact dueTo_len x z H k
theorem dueTo_c (x z : Hp) (H : Nat → Bool) : ∀ k, k ≤ z.cells.length → ∀ q, k ≤ q → (dueTo x z H k).c q = z.c q
  | 0, _, q, _ => rfl
  | k + 1, hk, q, hq => by
    have ih := dueTo_c x z H k (by omega) q (by omega)
    unfold dueTo
    split
    · have := Hp.c_set (dueTo x z H k) k (dueC (x.c k)) (by rw [dueTo_len]; omega) q
      rw [this, if_neg (by omega)]; exact ih
    · exact ih
theorem dueN_le (x : Hp) (H : Nat → Bool) : ∀ k, dueN x H k ≤ k
  | 0 => Nat.le_refl _
  | k + 1 => by
    have := dueN_le x H k
    unfold dueN
    split <;> omega
/-- the cell whose pairs are gone through has so many -/
theorem scan_sub {x : Hp} (s : Snd x) {i : Nat} (hi : i < x.cells.length) (h1 : (x.c i).st = 1) (e : scanI x = (i : Int)) : 0 ≤ x.sub ∧ x.sub ≤ (x.c i).prs.length := by
  refine ⟨s.r1.sub.1, ?_⟩
  unfold scanI at e
  split at e
  · rename_i h
    have := (s.r6.2.1 h.1).2.2 (by omega)
    have e2 : x.g0 = i := by unfold Hp.g0; rw [e]; simp
    rw [e2] at this; exact this
  · split at e
    · rename_i h
      have e2 : x.hand.toNat = i := by omega
      have := (s.r6.2.2.1 h.1).2
      rw [e2] at this
      exact this ⟨by omega, h1⟩
    · omega
end Go.Proofs.YtddkhnclmeikfacGreat
