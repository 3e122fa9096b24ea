import Derived.Test.YtkabcfhemljnbaaGreatL2a
import Derived.Test.YtkabcfhemljnbaaGreatImpR
namespace Go.Proofs.YtkabcfhemljnbaaGreat
open Go.RowKit
attribute [local go_sem ↓] Go.wp_at_zero Go.wp_at_succ

def bo (x : Hp) (z : Int) : Int := (x.c z.toNat).born
/-- in the order of making -/
def SrtI (x : Hp) (M : List Int) : Prop := ∀ a b, a < b → b < M.length → bo x (it M a) ≤ bo x (it M b)
/-- so, but for the one at j, which is no greater than those behind it -/
def But (x : Hp) (N : List Int) (j : Nat) : Prop := (∀ a b, a < b → b < N.length → a ≠ j → b ≠ j → bo x (it N a) ≤ bo x (it N b)) ∧ (∀ b, j < b → b < N.length → bo x (it N j) ≤ bo x (it N b))
theorem it_app {L R : List Int} {q : Nat} (h : q < L.length) : it (L ++ R) q = it L q := by unfold it; simp [List.getElem?_append_left h]
theorem But.start {x : Hp} {M : List Int} {z : Int} (h : SrtI x M) : But x (M ++ [z]) M.length := by
  refine ⟨fun a b hab hb ha hb2 => ?_, fun b hb1 hb2 => by simp at hb2; omega⟩
  simp at hb
  rw [it_app (by omega), it_app (by omega)]
  exact h a b hab (by omega)
theorem But.zero {x : Hp} {N : List Int} (h : But x N 0) : SrtI x N := fun a b hab hb => by
  by_cases e : a = 0
  · subst e; exact h.2 b hab hb
  · exact h.1 a b hab hb e (by omega)
theorem But.stop {x : Hp} {N : List Int} {j : Nat} (h : But x N (j + 1)) (hj : j + 1 < N.length) (hle : bo x (it N j) ≤ bo x (it N (j + 1))) : SrtI x N := fun a b hab hb => by
  by_cases e : a = j + 1
  · subst e; exact h.2 b hab hb
  · by_cases f : b = j + 1
    · subst f
      by_cases g : a = j
      · subst g; exact hle
      · have := h.1 a j (by omega) (by omega) e (by omega); omega
    · exact h.1 a b hab hb e f
theorem But.swap {x : Hp} {N : List Int} {j : Nat} (h : But x N (j + 1)) (hj : j + 1 < N.length) (hle : bo x (it N (j + 1)) ≤ bo x (it N j)) : But x (swp N j (j + 1)) j := by
  have s := fun k => swp_it N j (j + 1) k (by omega) hj
  refine ⟨fun a b hab hb ha hb2 => ?_, fun b hb1 hb2 => ?_⟩
  · rw [swp_len] at hb
    rw [s a, s b]
    by_cases e : b = j + 1
    · rw [if_neg (by omega), if_neg ha, if_pos e]
      exact h.1 a j (by omega) (by omega) (by omega) (by omega)
    · by_cases f : a = j + 1
      · rw [if_pos f, if_neg e, if_neg hb2]
        exact h.1 j b (by omega) hb (by omega) e
      · rw [if_neg f, if_neg ha, if_neg e, if_neg hb2]
        exact h.1 a b hab hb f e
  · rw [swp_len] at hb2
    rw [s j, s b, if_neg (by omega), if_pos rfl]
    by_cases e : b = j + 1
    · rw [if_pos e]; exact hle
    · rw [if_neg e, if_neg (by omega)]; exact h.2 b (by omega) hb2

set_option maxRecDepth 100000 in
set_option maxHeartbeats 4000000 in
theorem l2wants_ord (x : Hp) (b : Nat) (w : World) {ar : Option Addr} {kr : Nat} {ac : Option Addr} {kc : Nat} {ag : Option Addr} {kg : Nat} (h : HAt w b x ar kr ac kc ag kg) (hn8 : x.cells.length ≤ 8000) :
    Calls Tryz.prog 96 #[.pointer (some ⟨b, 0, none⟩)] w fun e w' => ∃ v M, Hid (e = .returned v) ∧ Rw1 w' w.heap.size v M ∧ (M.Perm (wants x x.cells.length) ∧ SrtI x M) ∧ Ext w w' := by
  obtain ⟨i0, hi0, hz0, hz1, hz2⟩ := info_parts infoInt2
  have c4 := h.c4
  have hb : b < w.heap.size := cell_lt c4
  have HH := hide h
  clear h
  go_enter Tryz.func96, Tryz.ntmps96
  go_wp2_with fail
  go_loopw [3, 14] (fun v i wr => ∃ (k : Nat) (M : List Int), k ≤ x.cells.length ∧ i = .int .i64 k ∧ Rw1 wr w.heap.size v M ∧ Hid (M.Perm (wants x k) ∧ SrtI x M) ∧ Ext w wr) (fun _ i _ => x.cells.length - (intOf i).toNat)
  case atStart => exact ⟨0, [], Nat.zero_le _, rfl, ⟨World.ownsRow_nil _ _ _ _⟩, ⟨List.Perm.refl _, fun a b _ hb => by simp at hb⟩, Ext.refl _⟩
  case round =>
    clear c4
    obtain ⟨k, M, hk, rfl, hrw, hp, hbl⟩ := hrel
    by_cases hlt : k < x.cells.length
    · have hh := (unhide HH).ext hbl
      obtain ⟨b', o, ap, kp, rfl, p0, p1, p2, p3, p4, p5, p6, p7, lp, P⟩ := hh.cell k hlt
      have hb' : b' < wr.heap.size := cell_lt p0
      have HRW := hide hrw
      have hk0 : (0:Int) ≤ (k:Int) := by omega
      have hk1 : (k:Int) < (x.cells.length:Int) := by omega
      have xa := hbl.alloc (.cells #[iv (x.c k).st, iv (x.c k).kind, iv (x.c k).weak, iv (x.c k).last, iv (x.c k).born, iv (x.c k).color, iv (x.c k).to, .slice ap (x.c k).prs.length kp] 86)
      clear P hh hrw
      have hlenM : M.length ≤ k := by have := (unhide hp).1.length_eq; have := valsTo_len (wantB x) castI k; unfold wants at *; omega
      have go_no : wantB x k = false → Hid (M.Perm (wants x (k + 1))) := fun q => by
        have := (unhide hp).1; unfold wants at *; rw [valsTo_no _ _ _ q]; exact this
      have GN := hide go_no
      clear go_no
      cases t1 : ((x.c k).st == 1)
      · have t1b : ((x.c k).st != 1) = true := by simpa using t1
        have P2 := unhide GN (by simp [wantB, t1])
        go_wp2_with fail
        go_roundw
        case rel => exact ⟨k + 1, M, by omega, by go_num, (unhide HRW).ext ((Ext.refl wr).alloc _), ⟨P2, (unhide hp).2⟩, xa⟩
        case measure => simp [intOf]; omega
      · have t1b : ((x.c k).st != 1) = false := by simpa using t1
        cases t2 : ((x.c k).last == 1)
        · have t2b : ((x.c k).last != 1) = true := by simpa using t2
          cases t3 : ((x.c k).last == 2)
          · have t3b : ((x.c k).last != 2) = true := by simpa using t3
            have P2 := unhide GN (by simp [wantB, t2, t3])
            go_wp2_with fail
            go_roundw
            case rel => exact ⟨k + 1, M, by omega, by go_num, (unhide HRW).ext ((Ext.refl wr).alloc _), ⟨P2, (unhide hp).2⟩, xa⟩
            case measure => simp [intOf]; omega
          · have t3b : ((x.c k).last != 2) = false := by simpa using t3
            have QW := hide (show wantB x k = true by simp [wantB, t1, t3])
            go_wp2_with (at_builtin; refine wpList_append_lies _ rfl _ _ 24 rfl w.heap.size 3 i0 (.int .i64 0) 1 8 Tryz.underlying24 hi0 hz0 hz1 hz2 rfl (by decide) _ M.length (M.map iv) rfl (((unhide HRW).own.alloc _).alloc _) _ 1 1 [.int .i64 k] rfl rfl ?c1 ?c2 (by decide) ?c3 ?c4 ?c5 _ rfl ?_)
            case c1 =>
              intro q u hk
              match q, hk with
              | 0, hk => simp at hk; subst hk; simp [Addr.add, go_sem]
            case c2 => intro u hu; simp at hu; subst hu; rfl
            case c3 => unfold maxLen; omega
            case c4 => omega
            case c5 => have := hbl.size; simp; omega
            intro g cap w2 hown hgrow hat hglt
            obtain ⟨R1, E1, S1⟩ := Rw1.ext_of ((unhide HRW).ext ((Ext.refl wr).alloc _)) rfl hown hgrow xa (Nat.le_refl _)
            have PW := hide (show (M ++ [(k : Int)]).Perm (wants x (k + 1)) by
              have := (unhide hp).1; unfold wants at *; rw [valsTo_yes _ _ _ (unhide QW)]; exact this.append_right _)
            have Q1 := hide R1
            have BT := hide (But.start (z := (k : Int)) (unhide hp).2)
            clear R1 hown hgrow hat p0 p1 p2 p3 p4 p5 p6 p7 xa S1 HRW hp GN
            go_wp2_with fail
            go_loopw [6] (fun sk wi => ∃ (j : Nat) (N : List Int), j < N.length ∧ sk = .int .i64 j ∧ N.length = M.length + 1 ∧ Rw1 wi w.heap.size (.slice (some ⟨g, 0, none⟩) (M.length + 1) cap) N ∧ Hid (N.Perm (wants x (k + 1)) ∧ But x N j) ∧ Ext w wi) (fun sk _ => (intOf sk).toNat)
            case atStart => exact ⟨M.length, M ++ [(k : Int)], by simp, by go_num, by simp, unhide Q1, ⟨unhide PW, unhide BT⟩, E1⟩
            case round =>
              clear Q1 PW BT E1 hbl
              obtain ⟨j, N, hj, rfl, hNl, hrw, hp, hbl⟩ := hrel
              have HRW := hide hrw
              have hh := (unhide HH).ext hbl
              have d4 := hh.c4
              have EXIT := hide (And.intro (unhide HRW) (And.intro (unhide hp) hbl))
              cases j with
              | zero =>
                clear hrw hh
                go_wp2_with fail
                go_quiet (fail)
                go_wp2_with fail
                go_roundw
                case rel => exact ⟨k + 1, N, by omega, by go_num, (by have q := unhide HRW; rw [← hNl] at q ⊢; exact q.ext ((Ext.refl _).drewN _)), ⟨(unhide hp).1, (unhide hp).2.zero⟩, hbl.drewN _⟩
                case measure => simp [intOf]; omega
              | succ j =>
                obtain ⟨a1, a2, a3⟩ := hrw.cell j (by omega)
                obtain ⟨b1, b2, b3⟩ := hrw.cell (j + 1) (by omega)
                have rng : ∀ z, z ∈ N → ∃ q : Nat, z = (q : Int) ∧ q < x.cells.length := fun z hz => by
                  obtain ⟨q, hq, _, e⟩ := (valsTo_mem _ _ _ _).1 ((unhide hp).1.mem_iff.1 hz)
                  exact ⟨q, e.symm, by omega⟩
                obtain ⟨ia, ea, hia⟩ := rng _ (it_mem N j (by omega))
                obtain ⟨ib, eb, hib⟩ := rng _ (it_mem N (j + 1) hj)
                have ea0 := ea
                have eb0 := eb
                obtain ⟨b1', o1, ap1, kp1, e1, CA⟩ := hh.cell ia hia
                cases e1
                obtain ⟨b2', o2, ap2, kp2, e2, CB⟩ := hh.cell ib hib
                cases e2
                have pa := CA.p4
                have pb := CB.p4
                have SW := hide (hrw.swap j (j + 1))
                rw [ea, eb] at SW
                have hgl := hrw.base_le
                have BE := hide (fun h : ¬ (x.c ib).born < (x.c ia).born => (unhide hp).2.stop hj (show bo x (it N j) ≤ bo x (it N (j + 1)) by unfold bo; rw [ea0, eb0]; simp; omega))
                have BN := hide (fun h : (x.c ib).born < (x.c ia).born => (unhide hp).2.swap hj (show bo x (it N (j + 1)) ≤ bo x (it N j) by unfold bo; rw [ea0, eb0]; simp; omega))
                have PSW := hide ((swp_perm N j (j + 1) (by omega) hj).trans (unhide hp).1)
                rw [ea] at a1
                rw [eb] at b1
                have j0 : (0 : Int) ≤ (j : Int) := by omega
                have j1 : (j : Int) < (M.length : Int) + 1 := by omega
                have j2 : (j : Int) + 1 < (M.length : Int) + 1 := by omega
                have j3 : (0 : Int) ≤ (j : Int) + 1 := by omega
                have j4 : ((j : Int) + 1).toNat = j + 1 := by omega
                have j5 : (0 : Int) < (j : Int) + 1 := by omega
                have q0 : (0 : Int) ≤ (ia : Int) := by omega
                have q1 : (ia : Int) < (x.cells.length : Int) := by omega
                have q2 : (0 : Int) ≤ (ib : Int) := by omega
                have q3 : (ib : Int) < (x.cells.length : Int) := by omega
                have hmk : M.length ≤ 8000 := by omega
                clear hrw hh CA CB rng a3 b3 ea eb ea0 eb0
                cases tb : decide ((x.c ib).born < (x.c ia).born)
                · go_wp2_with fail
                  go_quiet (fail)
                  go_wp2_with fail
                  go_roundw
                  case rel => exact ⟨k + 1, N, by omega, by go_num, (by have q := unhide HRW; rw [← hNl] at q ⊢; exact q.ext ((Ext.refl _).drewN _)), ⟨(unhide hp).1, unhide BE (Int.not_lt.1 (of_decide_eq_false tb))⟩, hbl.drewN _⟩
                  case measure => simp [intOf]; omega
                · have tb2 := of_decide_eq_true tb
                  clear tb
                  go_wp2_with fail
                  go_quiet (fail)
                  go_wp2_with fail
                  go_roundw
                  case rel => exact ⟨j, swp N j (j + 1), by rw [swp_len]; omega, by go_num, by rw [swp_len]; omega, ⟨ownsRow_of_block (unhide SW).own (fun q _ => rfl)⟩, ⟨unhide PSW, unhide BN tb2⟩, ((hbl.drewN _).setCell hgl.1 _).setCell hgl.1 _⟩
                  case measure => simp [intOf]
        · have t2b : ((x.c k).last != 1) = false := by simpa using t2
          have QW := hide (show wantB x k = true by simp [wantB, t1, t2])
          go_wp2_with (at_builtin; refine wpList_append_lies _ rfl _ _ 24 rfl w.heap.size 3 i0 (.int .i64 0) 1 8 Tryz.underlying24 hi0 hz0 hz1 hz2 rfl (by decide) _ M.length (M.map iv) rfl (((unhide HRW).own.alloc _).alloc _) _ 1 1 [.int .i64 k] rfl rfl ?c1 ?c2 (by decide) ?c3 ?c4 ?c5 _ rfl ?_)
          case c1 =>
            intro q u hk
            match q, hk with
            | 0, hk => simp at hk; subst hk; simp [Addr.add, go_sem]
          case c2 => intro u hu; simp at hu; subst hu; rfl
          case c3 => unfold maxLen; omega
          case c4 => omega
          case c5 => have := hbl.size; simp; omega
          intro g cap w2 hown hgrow hat hglt
          obtain ⟨R1, E1, S1⟩ := Rw1.ext_of ((unhide HRW).ext ((Ext.refl wr).alloc _)) rfl hown hgrow xa (Nat.le_refl _)
          have PW := hide (show (M ++ [(k : Int)]).Perm (wants x (k + 1)) by
            have := (unhide hp).1; unfold wants at *; rw [valsTo_yes _ _ _ (unhide QW)]; exact this.append_right _)
          have Q1 := hide R1
          have BT := hide (But.start (z := (k : Int)) (unhide hp).2)
          clear R1 hown hgrow hat p0 p1 p2 p3 p4 p5 p6 p7 xa S1 HRW hp GN
          go_wp2_with fail
          go_loopw [6] (fun sk wi => ∃ (j : Nat) (N : List Int), j < N.length ∧ sk = .int .i64 j ∧ N.length = M.length + 1 ∧ Rw1 wi w.heap.size (.slice (some ⟨g, 0, none⟩) (M.length + 1) cap) N ∧ Hid (N.Perm (wants x (k + 1)) ∧ But x N j) ∧ Ext w wi) (fun sk _ => (intOf sk).toNat)
          case atStart => exact ⟨M.length, M ++ [(k : Int)], by simp, by go_num, by simp, unhide Q1, ⟨unhide PW, unhide BT⟩, E1⟩
          case round =>
            clear Q1 PW BT E1 hbl
            obtain ⟨j, N, hj, rfl, hNl, hrw, hp, hbl⟩ := hrel
            have HRW := hide hrw
            have hh := (unhide HH).ext hbl
            have d4 := hh.c4
            have EXIT := hide (And.intro (unhide HRW) (And.intro (unhide hp) hbl))
            cases j with
            | zero =>
              clear hrw hh
              go_wp2_with fail
              go_quiet (fail)
              go_wp2_with fail
              go_roundw
              case rel => exact ⟨k + 1, N, by omega, by go_num, (by have q := unhide HRW; rw [← hNl] at q ⊢; exact q.ext ((Ext.refl _).drewN _)), ⟨(unhide hp).1, (unhide hp).2.zero⟩, hbl.drewN _⟩
              case measure => simp [intOf]; omega
            | succ j =>
              obtain ⟨a1, a2, a3⟩ := hrw.cell j (by omega)
              obtain ⟨b1, b2, b3⟩ := hrw.cell (j + 1) (by omega)
              have rng : ∀ z, z ∈ N → ∃ q : Nat, z = (q : Int) ∧ q < x.cells.length := fun z hz => by
                obtain ⟨q, hq, _, e⟩ := (valsTo_mem _ _ _ _).1 ((unhide hp).1.mem_iff.1 hz)
                exact ⟨q, e.symm, by omega⟩
              obtain ⟨ia, ea, hia⟩ := rng _ (it_mem N j (by omega))
              obtain ⟨ib, eb, hib⟩ := rng _ (it_mem N (j + 1) hj)
              have ea0 := ea
              have eb0 := eb
              obtain ⟨b1', o1, ap1, kp1, e1, CA⟩ := hh.cell ia hia
              cases e1
              obtain ⟨b2', o2, ap2, kp2, e2, CB⟩ := hh.cell ib hib
              cases e2
              have pa := CA.p4
              have pb := CB.p4
              have SW := hide (hrw.swap j (j + 1))
              rw [ea, eb] at SW
              have hgl := hrw.base_le
              have BE := hide (fun h : ¬ (x.c ib).born < (x.c ia).born => (unhide hp).2.stop hj (show bo x (it N j) ≤ bo x (it N (j + 1)) by unfold bo; rw [ea0, eb0]; simp; omega))
              have BN := hide (fun h : (x.c ib).born < (x.c ia).born => (unhide hp).2.swap hj (show bo x (it N (j + 1)) ≤ bo x (it N j) by unfold bo; rw [ea0, eb0]; simp; omega))
              have PSW := hide ((swp_perm N j (j + 1) (by omega) hj).trans (unhide hp).1)
              rw [ea] at a1
              rw [eb] at b1
              have j0 : (0 : Int) ≤ (j : Int) := by omega
              have j1 : (j : Int) < (M.length : Int) + 1 := by omega
              have j2 : (j : Int) + 1 < (M.length : Int) + 1 := by omega
              have j3 : (0 : Int) ≤ (j : Int) + 1 := by omega
              have j4 : ((j : Int) + 1).toNat = j + 1 := by omega
              have j5 : (0 : Int) < (j : Int) + 1 := by omega
              have q0 : (0 : Int) ≤ (ia : Int) := by omega
              have q1 : (ia : Int) < (x.cells.length : Int) := by omega
              have q2 : (0 : Int) ≤ (ib : Int) := by omega
              have q3 : (ib : Int) < (x.cells.length : Int) := by omega
              have hmk : M.length ≤ 8000 := by omega
              clear hrw hh CA CB rng a3 b3 ea eb ea0 eb0
              cases tb : decide ((x.c ib).born < (x.c ia).born)
              · go_wp2_with fail
                go_quiet (fail)
                go_wp2_with fail
                go_roundw
                case rel => exact ⟨k + 1, N, by omega, by go_num, (by have q := unhide HRW; rw [← hNl] at q ⊢; exact q.ext ((Ext.refl _).drewN _)), ⟨(unhide hp).1, unhide BE (Int.not_lt.1 (of_decide_eq_false tb))⟩, hbl.drewN _⟩
                case measure => simp [intOf]; omega
              · have tb2 := of_decide_eq_true tb
                clear tb
                go_wp2_with fail
                go_quiet (fail)
                go_wp2_with fail
                go_roundw
                case rel => exact ⟨j, swp N j (j + 1), by rw [swp_len]; omega, by go_num, by rw [swp_len]; omega, ⟨ownsRow_of_block (unhide SW).own (fun q _ => rfl)⟩, ⟨unhide PSW, unhide BN tb2⟩, ((hbl.drewN _).setCell hgl.1 _).setCell hgl.1 _⟩
                case measure => simp [intOf]
    · have hk2 : k = x.cells.length := by omega
      subst hk2
      have HRW := hide hrw
      clear hrw
      go_wp2_with fail
      go_ret
      exact ⟨_, M, rfl, unhide HRW, unhide hp, hbl⟩
end Go.Proofs.YtkabcfhemljnbaaGreat

namespace Go.Proofs.YtkabcfhemljnbaaGreat
open Go.RowKit
attribute [local go_sem ↓] Go.wp_at_zero Go.wp_at_succ

/-! The order in which cells are met, as a function. -/
def zs (O : List Nat) : List Int := O.map (fun i : Nat => (i : Int))
def ad (O : List Nat) (o : Option Nat) : List Nat := match o with | none => O | some i => if i ∈ O then O else O ++ [i]
def wq (x : Hp) (y : Wd) : Option Nat := if y.k = 2 then some (tgt x y) else none
def regO (x : Hp) (k : Nat) : List Nat := (x.regs.take k).foldl (fun O y => ad O (wq x y)) []
def wantO (x : Hp) (M : List Nat) (k : Nat) : List Nat := (M.take k).foldl (fun O i => ad O (some i)) (regO x x.regs.length)
def prO (x : Hp) (j p : Nat) (O : List Nat) : List Nat := ((x.c j).prs.take p).foldl (fun O q => ad (ad O (wq x q.key)) (wq x q.val)) O
def clO (x : Hp) : Nat → Nat → List Nat → List Nat
  | 0, _, O => O
  | f + 1, c, O => if h : c < O.length then clO x f (c + 1) (prO x O[c] (x.c O[c]).prs.length O) else O
def ordO (x : Hp) (M : List Nat) : List Nat := clO x (x.cells.length + 1) 0 (wantO x M M.length)
theorem mem_zs {O : List Nat} {i : Nat} : (i : Int) ∈ zs O ↔ i ∈ O := by
  unfold zs
  rw [List.mem_map]
  constructor
  · rintro ⟨j, hj, e⟩
    have : j = i := by omega
    rw [← this]; exact hj
  · intro h; exact ⟨i, h, rfl⟩
theorem it_zs {O : List Nat} {c : Nat} (h : c < O.length) : it (zs O) c = (O[c] : Int) := by unfold it zs; simp [h]
theorem add_ad {x : Hp} {y : Wd} {O : List Nat} {L' : List Int} (h : Add x y (zs O) L') : L' = zs (ad O (wq x y)) := by
  unfold wq
  rcases h with ⟨k, e⟩ | ⟨k, ⟨m, e⟩ | ⟨m, e⟩⟩
  · rw [if_neg k, e]; rfl
  · rw [if_pos k, e]; unfold ad; simp only [if_pos (mem_zs.1 m)]
  · rw [if_pos k, e]; unfold ad; simp only [if_neg (fun q => m (mem_zs.2 q))]; simp [zs]
theorem take_step {α β : Type} (f : β → α → β) (b : β) (l : List α) (k : Nat) (h : k < l.length) : (l.take (k + 1)).foldl f b = f ((l.take k).foldl f b) l[k] := by
  rw [List.take_succ_eq_append_getElem h, List.foldl_append]; rfl
theorem regO_step {x : Hp} (k : Nat) (h : k < x.regs.length) : regO x (k + 1) = ad (regO x k) (wq x x.regs[k]) := take_step _ _ _ k h
theorem wantO_step {x : Hp} {M : List Nat} (k : Nat) (h : k < M.length) : wantO x M (k + 1) = ad (wantO x M k) (some M[k]) := take_step _ _ _ k h
theorem prO_step {x : Hp} {j : Nat} {O : List Nat} (p : Nat) (h : p < (x.c j).prs.length) : prO x j (p + 1) O = ad (ad (prO x j p O) (wq x ((x.c j).p p).key)) (wq x ((x.c j).p p).val) := by
  have e : (x.c j).p p = (x.c j).prs[p] := by simp [Cl.p, h]
  rw [e]; exact take_step _ _ _ p h
theorem ad_len (O : List Nat) (o : Option Nat) : O.length ≤ (ad O o).length := by
  unfold ad
  split
  · exact Nat.le_refl _
  · split <;> simp
theorem fold_len {α : Type} (f : List Nat → α → List Nat) (hf : ∀ O a, O.length ≤ (f O a).length) : ∀ (l : List α) (O : List Nat), O.length ≤ (l.foldl f O).length
  | [], _ => Nat.le_refl _
  | a :: l, O => Nat.le_trans (hf O a) (fold_len f hf l (f O a))
theorem prO_len (x : Hp) (j p : Nat) (O : List Nat) : O.length ≤ (prO x j p O).length := fold_len _ (fun O _ => Nat.le_trans (ad_len O _) (ad_len _ _)) _ O
theorem clO_step {x : Hp} {f c j : Nat} {O : List Nat} (h : c < O.length) (e : O[c] = j) : clO x f (c + 1) (prO x j (x.c j).prs.length O) = clO x (f + 1) c O := by
  subst e; simp only [clO, h, dite_true]
theorem clO_end {x : Hp} {f c : Nat} {O : List Nat} (h : c = O.length) : clO x f c O = O := by
  cases f with
  | zero => rfl
  | succ f => simp only [clO, show ¬ c < O.length by omega, dite_false]
/-- the cells that want a last word or are due, in the order of making -/
structure IsW (x : Hp) (N : List Nat) : Prop where
  m : ∀ i, i ∈ N ↔ i < x.cells.length ∧ Speaks (x.c i)
  nd : N.Nodup
  s : ∀ i j (hi : i < N.length) (hj : j < N.length), i < j → (x.c N[i]).born ≤ (x.c N[j]).born
theorem wants_nat {x : Hp} (r2 : R2 x) {M : List Int} (hp : M.Perm (wants x x.cells.length)) (hs : SrtI x M) : ∃ N : List Nat, M = zs N ∧ IsW x N := by
  have hm : ∀ z, z ∈ M → ∃ q : Nat, z = (q : Int) ∧ q < x.cells.length ∧ Speaks (x.c q) := fun z hz => by
    obtain ⟨q, h1, h2, e⟩ := (valsTo_mem _ _ _ _).1 (hp.mem_iff.1 hz)
    exact ⟨q, e.symm, h1, (wantB_iff.1 h2).2⟩
  have e : M = zs (M.map Int.toNat) := by
    unfold zs
    rw [List.map_map]
    conv => lhs; rw [← List.map_id M]
    refine List.map_congr_left fun z hz => ?_
    obtain ⟨q, rfl, _⟩ := hm z hz
    simp
  refine ⟨M.map Int.toNat, e, ⟨fun i => ?_, ?_, fun i j hi hj hij => ?_⟩⟩
  · constructor
    · intro h
      obtain ⟨z, hz, rfl⟩ := List.mem_map.1 h
      obtain ⟨q, rfl, h1, h2⟩ := hm z hz
      simpa using ⟨h1, h2⟩
    · rintro ⟨h1, h2⟩
      refine List.mem_map.2 ⟨(i : Int), hp.mem_iff.2 ((valsTo_mem _ _ _ _).2 ⟨i, h1, wantB_iff.2 ⟨speaks_used r2 i h1 h2, h2⟩, rfl⟩), by simp⟩
  · have nd : M.Nodup := by
      refine hp.nodup_iff.2 ?_
      exact List.Pairwise.map castI (fun (a b : Nat) (h : a ≠ b) e => h (by unfold castI at e; omega)) (List.Pairwise.filter _ List.nodup_range)
    rw [e] at nd
    exact List.Pairwise.of_map (S := fun a b => a ≠ b) (fun i : Nat => (i : Int)) (fun a b h e => h (by rw [e])) nd
  · have := hs i j hij (by simpa using hj)
    unfold bo at this
    simp only [List.getElem_map]
    rw [← it_eq M i (by simpa using hi), ← it_eq M j (by simpa using hj)] at this
    exact this

set_option maxRecDepth 100000 in
set_option maxHeartbeats 8000000 in
theorem l2reach_ord (x : Hp) (b : Nat) (w : World) {ar : Option Addr} {kr : Nat} {ac : Option Addr} {kc : Nat} {ag : Option Addr} {kg : Nat} (h : HAt w b x ar kr ac kc ag kg) (r2 : R2 x) (r4 : R4 x) (hn8 : x.cells.length ≤ 8000) :
    Calls Tryz.prog 48 #[.pointer (some ⟨b, 0, none⟩)] w fun e w' => ∃ v O N, Hid (e = .returned (.tuple #[.slice (some ⟨w.heap.size, 0, none⟩) x.cells.length x.cells.length, v])) ∧ Sn w' w.heap.size w.heap.size x.cells.length v (zs O) ∧ Hid (O = ordO x N ∧ IsW x N ∧ ∀ i, i ∈ O → Reached x i) ∧ Ext w w' := by
  have c4 := h.c4
  have c3 := h.c3
  have lr := h.lr
  have hb : b < w.heap.size := cell_lt c4
  have HH := hide h
  have Q2 := hide r2
  have Q4 := hide r4
  clear h r2 r4
  obtain ⟨z, hmk, hz⟩ := mkBools x.cells.length (by omega) w
  have S0 := hide (Sn.start w x.cells.length 4)
  rw [← hz] at S0
  clear hz
  go_enter Tryz.func48, Tryz.ntmps48
  go_wp2_with fail
  go_loopw [5, 24] (fun v i wr => ∃ (k : Nat) (L : List Int), k ≤ x.regs.length ∧ i = .int .i64 k ∧ Sn wr w.heap.size w.heap.size x.cells.length v L ∧ Hid (OnlyR x L ∧ L = zs (regO x k)) ∧ Ext w wr) (fun _ i _ => x.regs.length - (intOf i).toNat)
  case atStart => exact ⟨0, [], Nat.zero_le _, rfl, unhide S0, ⟨(fun z hz => by cases hz), rfl⟩, (Ext.refl w).alloc _⟩
  case round =>
    clear S0 hmk c4 c3
    obtain ⟨k, L, hk, rfl, hs, hinv, hbl⟩ := hrel
    have HS := hide hs
    clear hs
    by_cases hlt : k < x.regs.length
    · have hh := (unhide HH).ext hbl
      obtain ⟨b', o, e1, p0, p1, p2⟩ := hh.R k hlt
      have d3 := hh.c3
      rw [e1] at d3
      have hk0 : (0:Int) ≤ (k:Int) := by omega
      have hk1 : (k:Int) < (x.regs.length:Int) := by omega
      have xa := (Ext.refl wr).alloc (.cells #[iv x.regs[k].k, iv x.regs[k].n, iv x.regs[k].a] 90)
      subst e1
      clear hh
      go_wp2_with fail
      refine (l2mark_any x x.regs[k] b w.heap.size w.heap.size _ L _ ((unhide HH).ext (hbl.trans xa)) (may_reg (unhide Q2) (unhide Q4) k hlt) ((unhide HS).ext xa) (hbl.trans xa).size hn8).mono ?_
      rintro e w2 ⟨v', L', rfl, hs', ha, hm⟩
      have R := hide (show Sn w2 w.heap.size w.heap.size x.cells.length v' L' ∧ (OnlyR x L' ∧ L' = zs (regO x (k + 1))) ∧ Ext w w2 from
        ⟨hs', ⟨(unhide hinv).1.add (unhide ha) (fun e => Reached.reg k hlt e), by
          have h1 := unhide ha
          rw [(unhide hinv).2] at h1
          rw [add_ad h1, regO_step k hlt]⟩, ((unhide HS).ext xa).mext hm (hbl.trans xa)⟩)
      clear hs' ha hm xa
      go_wp2_with fail
      go_roundw
      case rel => exact ⟨k + 1, L', by omega, by go_num, (unhide R).1, (unhide R).2.1, (unhide R).2.2⟩
      case measure => simp [intOf]; omega
    · have hk2 : k = x.regs.length := by omega
      subst hk2
      go_wp2_with fail
      refine (l2wants_ord x b _ ((unhide HH).ext hbl) hn8).mono ?_
      rintro e w3 ⟨vw, M, rfl, hrw, ⟨hpm, hsr⟩, hq⟩
      have hx3 := hbl.trans hq
      obtain ⟨BW, hBW⟩ : ∃ n, n = wr.heap.size := ⟨_, rfl⟩
      rw [← hBW] at hrw
      obtain ⟨adw, capw, rfl, hgw⟩ := hrw.form
      have hMl : M.length ≤ 8000 := by have := hpm.length_eq; have := valsTo_len (wantB x) castI x.cells.length; unfold wants at *; omega
      have WM := hide (show ∀ j, j < M.length → ∃ q : Nat, it M j = (q : Int) ∧ q < x.cells.length ∧ (x.c q).st = 1 ∧ Speaks (x.c q) from fun j hj => by
        obtain ⟨q, hq1, hq2, e⟩ := (valsTo_mem _ _ _ _).1 (hpm.mem_iff.1 (it_mem M j hj))
        exact ⟨q, e.symm, hq1, wantB_iff.1 hq2⟩)
      have WA := hide (show ∀ i, i < x.cells.length → (x.c i).st = 1 → Speaks (x.c i) → (i : Int) ∈ M from fun i hi h1 h2 => hpm.mem_iff.2 ((valsTo_mem _ _ _ _).2 ⟨i, hi, wantB_iff.2 ⟨h1, h2⟩, rfl⟩))
      obtain ⟨N, hMN, hWN⟩ := wants_nat (unhide Q2) hpm hsr
      have WN := hide (And.intro hMN hWN)
      clear hMN hWN hsr
      have S3 := hide ((unhide HS).ext hq)
      have AP := hide (show ∀ q, (Value.slice adw M.length capw).ownBlock = some q → ¬ (Value.ownBlock (Value.slice adw M.length capw) = some w.heap.size) from fun q _ e => by
        have := (hrw.own.lt _ e).1
        have := (unhide HS).hb.2
        omega)
      have AP2 := hide (fun q (e : (Value.slice adw M.length capw).ownBlock = some q) => (show ∀ u : Value, Sn wr w.heap.size w.heap.size x.cells.length u L → u.ownBlock ≠ some q from fun u hu f => by
        have := (hu.own.lt q f).2
        have := (hrw.own.lt q e).1
        omega))
      have APU := hide (fun q e => unhide AP2 q e _ (unhide HS))
      have RW := hide hrw
      have HI := hide (unhide hinv)
      clear hrw hpm hq hlt hk AP2 hinv HS hBW
      go_wp2_with fail
      go_loopw [5, 37] (fun v i wx => ∃ (k : Nat) (K : List Int), k ≤ M.length ∧ i = .int .i64 k ∧ Sn wx w.heap.size w.heap.size x.cells.length v K ∧ Rw1 wx BW (.slice adw M.length capw) M ∧ Hid (∀ q, (Value.slice adw M.length capw).ownBlock = some q → v.ownBlock ≠ some q) ∧ Hid (OnlyR x K ∧ K = zs (wantO x N k)) ∧ Ext w wx) (fun _ i _ => M.length - (intOf i).toNat)
      case atStart => exact ⟨0, L, Nat.zero_le _, rfl, unhide S3, unhide RW, unhide APU, ⟨(unhide HI).1, (unhide HI).2⟩, hx3⟩
      case round =>
        clear S3 RW APU HI hbl hx3
        obtain ⟨k, K, hk, rfl, hs, hrw, hap, hinv, hbl⟩ := hrel
        have HS := hide hs
        have RW := hide hrw
        by_cases hlt : k < M.length
        · obtain ⟨g, rfl⟩ := hgw (by omega)
          obtain ⟨a1, a2, a3⟩ := hrw.cell k hlt
          obtain ⟨q, eq, hq1, hq2, hq3⟩ := unhide WM k hlt
          rw [eq] at a1
          have EQ := hide eq
          have hk0 : (0:Int) ≤ (k:Int) := by omega
          have hk1 : (k:Int) < (M.length:Int) := by omega
          have et : tgt x ⟨2, 0, (q : Int)⟩ = q := by unfold tgt lead2; simp [hq2]
          have MY : MayMark x ⟨2, 0, (q : Int)⟩ := fun _ => ⟨rfl, by simp, by simpa using hq1, (fun h => by simp [hq2] at h), by rw [et]; exact good_want (unhide Q4) q hq1 hq2 hq3⟩
          have MYH := hide MY
          have RQ := hide (show Reached x (tgt x ⟨2, 0, (q : Int)⟩) by rw [et]; exact Reached.last q hq1 hq2 hq3)
          have ET := hide et
          have hvb := hide (show (Value.slice (some ⟨g, 0, none⟩) M.length capw).ownBlock ≠ some w.heap.size from fun e => unhide AP _ rfl e)
          clear hs hrw a3 eq et MY hq2 hq3
          go_wp2_with fail
          refine (l2mark_any x ⟨2, 0, (q : Int)⟩ b w.heap.size w.heap.size _ K _ ((unhide HH).ext hbl) (unhide MYH) (unhide HS) hbl.size hn8).mono ?_
          rintro e w2 ⟨v', L', rfl, hs', ha, hm⟩
          have R := hide (show Sn w2 w.heap.size w.heap.size x.cells.length v' L' ∧ Rw1 w2 BW (.slice (some ⟨g, 0, none⟩) M.length capw) M ∧ (∀ q, (Value.slice (some ⟨g, 0, none⟩) M.length capw).ownBlock = some q → v'.ownBlock ≠ some q) ∧ (OnlyR x L' ∧ L' = zs (wantO x N (k + 1))) ∧ Ext w w2 from
            ⟨hs', (unhide RW).mfr hm (unhide hvb) (unhide hap), mfr_apart (unhide RW) hm (unhide hap), ⟨(unhide hinv).1.add (unhide ha) (fun _ => unhide RQ), by
              have h1 := unhide ha
              rw [(unhide hinv).2] at h1
              rw [add_ad h1, wantO_step k (by have := (unhide WN).1; rw [this] at hlt; simpa [zs] using hlt)]
              congr 2
              have h2 := unhide EQ
              rw [(unhide WN).1, it_zs (by have := (unhide WN).1; rw [this] at hlt; simpa [zs] using hlt)] at h2
              have h3 := unhide ET
              unfold wq
              rw [if_pos rfl, h3]
              congr 1; omega⟩, (unhide HS).mext hm hbl⟩)
          clear hs' ha hm
          go_wp2_with fail
          go_roundw
          case rel => exact ⟨k + 1, L', by omega, by go_num, (unhide R).1, (unhide R).2.1, (unhide R).2.2.1, (unhide R).2.2.2.1, (unhide R).2.2.2.2⟩
          case measure => simp [intOf]; omega
        · have G0 := hide (show OnlyR x K ∧ ∃ O, K = zs O ∧ clO x (x.cells.length + 1 - 0) 0 O = ordO x N from ⟨(unhide hinv).1, wantO x N N.length, by
            have h1 := (unhide hinv).2
            have h2 : k = N.length := by have h3 := (unhide WN).1; have h4 : M.length = N.length := by rw [h3]; simp [zs]
                                         omega
            rw [h2] at h1; exact h1, rfl⟩)
          clear hs hrw RW hap hinv WM WA AP hgw
          go_wp2_with fail
          go_loopw [5, 10] (fun v i wy => ∃ (c : Nat) (J : List Int), c ≤ J.length ∧ i = .int .i64 c ∧ Sn wy w.heap.size w.heap.size x.cells.length v J ∧ Hid (OnlyR x J ∧ ∃ O, J = zs O ∧ clO x (x.cells.length + 1 - c) c O = ordO x N) ∧ Ext w wy) (fun _ i _ => x.cells.length - (intOf i).toNat)
          case atStart => exact ⟨0, K, Nat.zero_le _, rfl, unhide HS, unhide G0, hbl⟩
          case round =>
            clear G0 HS hbl
            obtain ⟨c, J, hc, rfl, hs, hgo, hbl⟩ := hrel
            have HS := hide hs
            obtain ⟨ad, cap, rfl, hgl⟩ := hs.form
            have hJn := hs.len
            by_cases hlt : c < J.length
            · obtain ⟨g, rfl⟩ := hgl (by omega)
              obtain ⟨a1, a2, a3⟩ := (Rw1.mk hs.own).cell c hlt
              obtain ⟨j, ej, hrj⟩ := (unhide hgo).1 _ (it_mem J c hlt)
              rw [ej] at a1
              have hgj := hrj.good (unhide Q2) (unhide Q4)
              have hh := (unhide HH).ext hbl
              obtain ⟨b', o, ap, kp, e1, C⟩ := (unhide HH).cell j hgj.1
              have d4 := hh.c4
              rw [e1] at d4
              have p7 := hbl.keep C.p7
              have lp := C.lp
              have HP := hide C.P
              have EJ := hide ej
              have RJ := hide hrj
              have GJ := hide hgj
              have hjn := hgj.1
              have c0 : (0:Int) ≤ (c:Int) := by omega
              have c1 : (c:Int) < (J.length:Int) := by omega
              have j0 : (0:Int) ≤ (j:Int) := by omega
              have j1 : (j:Int) < (x.cells.length:Int) := by omega
              clear hs C hh e1 ej hrj hgj a3 a2
              go_wp2_with fail
              go_quiet (fail)
              go_wp2_with fail
              go_loopw [5, 66] (fun v i wz => ∃ (p : Nat) (T : List Int), p ≤ (x.c j).prs.length ∧ i = .int .i64 p ∧ Sn wz w.heap.size w.heap.size x.cells.length v T ∧ Hid (OnlyR x T ∧ ∃ O, T = zs (prO x j p O) ∧ c < O.length ∧ (∀ h : c < O.length, O[c] = j) ∧ clO x (x.cells.length + 1 - c) c O = ordO x N) ∧ Ext w wz) (fun _ i _ => (x.c j).prs.length - (intOf i).toNat)
              case atStart => exact ⟨0, J, Nat.zero_le _, rfl, (unhide HS).ext ((Ext.refl _).drewN _), ⟨(unhide hgo).1, by
                obtain ⟨O, h1, h2⟩ := (unhide hgo).2
                have h3 : c < O.length := by rw [h1] at hlt; simpa [zs] using hlt
                refine ⟨O, h1, h3, fun h => ?_, h2⟩
                have h4 := unhide EJ
                rw [h1, it_zs h] at h4; omega⟩, hbl.drewN _⟩
              case round =>
                clear HS hgo a1 d4 p7 hbl
                obtain ⟨p, T, hp, rfl, hs, hinv, hbl2⟩ := hrel
                have HS := hide hs
                have hTn := hs.len
                by_cases hpl : p < (x.c j).prs.length
                · obtain ⟨b2, o2, rfl, q0, q1, q2, q3, q4, q5⟩ := unhide HP p hpl
                  have e0 := hbl2.keep q0
                  have e1 := hbl2.keep q1
                  have e2 := hbl2.keep q2
                  have e3 := hbl2.keep q3
                  have e4 := hbl2.keep q4
                  have e5 := hbl2.keep q5
                  have hb2 : b2 < wr.heap.size := cell_lt e0
                  clear q0 q1 q2 q3 q4 q5 hs
                  have hp0 : (0:Int) ≤ (p:Int) := by omega
                  have hp1 : (p:Int) < ((x.c j).prs.length:Int) := by omega
                  have xa := (Ext.refl wr).alloc (.cells #[.int .i64 ((x.c j).p p).key.k, .int .i64 ((x.c j).p p).key.n, .int .i64 ((x.c j).p p).key.a, .int .i64 ((x.c j).p p).val.k, .int .i64 ((x.c j).p p).val.n, .int .i64 ((x.c j).p p).val.a] 123)
                  have hMM := hide (may_pair (unhide Q2) (unhide Q4) j p (unhide GJ) hpl)
                  have wW : Ext w wr := hbl2
                  go_wp2_with fail
                  refine (l2mark_any x ((x.c j).p p).key b w.heap.size w.heap.size _ T _ ((unhide HH).ext (wW.trans xa)) (unhide hMM).1 ((unhide HS).ext xa) (wW.trans xa).size hn8).mono ?_
                  rintro e w5 ⟨v5, T5, rfl, hs5, ha5, hm5⟩
                  have x5 : Ext w w5 := ((unhide HS).ext xa).mext hm5 (wW.trans xa)
                  have hvl := ((unhide HS).ext xa).own.lt
                  have u := fun (o : Nat) (v : Value) (hc : (wr.alloc (.cells #[.int .i64 ((x.c j).p p).key.k, .int .i64 ((x.c j).p p).key.n, .int .i64 ((x.c j).p p).key.a, .int .i64 ((x.c j).p p).val.k, .int .i64 ((x.c j).p p).val.n, .int .i64 ((x.c j).p p).val.a] 123)).cell? ⟨wr.heap.size, o, none⟩ = some v) => (World.cell?_of_block (w' := w5) (a := ⟨wr.heap.size, o, none⟩) (hm5.block wr.heap.size (by simp) (by have := (unhide HS).hb.2; omega) (fun f => by have := ((unhide HS).own.lt _ f).2; omega))).trans hc
                  have u3 := u 3 _ (by simp [go_sem]; rfl)
                  have u4 := u 4 _ (by simp [go_sem]; rfl)
                  have u5 := u 5 _ (by simp [go_sem]; rfl)
                  have hb5 : wr.heap.size < w5.heap.size := by have := hm5.size; simp at this; omega
                  have S5 := hide hs5
                  have A5 := hide (unhide ha5)
                  clear u hm5 hs5 ha5 e0 e1 e2 e3 e4 e5 hvl xa
                  go_wp2_with fail
                  refine (l2mark_any x ((x.c j).p p).val b w.heap.size w.heap.size _ T5 _ ((unhide HH).ext x5) (unhide hMM).2 (unhide S5) x5.size hn8).mono ?_
                  rintro e w6 ⟨v6, T6, rfl, hs6, ha6, hm6⟩
                  have R := hide (show Sn w6 w.heap.size w.heap.size x.cells.length v6 T6 ∧ (OnlyR x T6 ∧ ∃ O, T6 = zs (prO x j (p + 1) O) ∧ c < O.length ∧ (∀ h : c < O.length, O[c] = j) ∧ clO x (x.cells.length + 1 - c) c O = ordO x N) ∧ Ext w w6 by
                    obtain ⟨i1, O, i2, i3, i4, i5⟩ := unhide hinv
                    have h5 := unhide A5
                    rw [i2] at h5
                    have f5 := add_ad h5
                    have h6 := unhide ha6
                    rw [f5] at h6
                    have f6 := add_ad h6
                    exact ⟨hs6, ⟨(i1.add (unhide A5) (fun e => Reached.key j p (unhide RJ) hpl e)).add (unhide ha6) (fun e => Reached.val j p (unhide RJ) hpl e), O, by rw [f6, prO_step p hpl], i3, i4, i5⟩, (unhide S5).mext hm6 x5⟩)
                  clear hs6 ha6 hm6
                  go_wp2_with fail
                  go_roundw
                  case rel => exact ⟨p + 1, T6, by omega, by go_num, (unhide R).1, (unhide R).2.1, (unhide R).2.2⟩
                  case measure => simp [intOf]; omega
                · have hpe : p = (x.c j).prs.length := by omega
                  have R := hide (show (OnlyR x T ∧ ∃ O, T = zs O ∧ clO x (x.cells.length + 1 - (c + 1)) (c + 1) O = ordO x N) ∧ c + 1 ≤ T.length by
                    obtain ⟨i1, O, i2, i3, i4, i5⟩ := unhide hinv
                    rw [hpe] at i2
                    have l1 := prO_len x j (x.c j).prs.length O
                    refine ⟨⟨i1, _, i2, ?_⟩, by rw [i2]; simp [zs]; omega⟩
                    rw [← i5, clO_step (x := x) (f := x.cells.length + 1 - (c + 1)) i3 (i4 i3), show x.cells.length + 1 - (c + 1) + 1 = x.cells.length + 1 - c by omega])
                  clear hs hpe
                  go_wp2_with fail
                  go_roundw
                  case rel => exact ⟨c + 1, T, (unhide R).2, by go_num, unhide HS, (unhide R).1, hbl2⟩
                  case measure => simp [intOf]; omega
            · have hce : c = J.length := by omega
              obtain ⟨O, h1, h2⟩ := (unhide hgo).2
              have D := hide (show O = ordO x N ∧ IsW x N ∧ ∀ i, i ∈ O → Reached x i from ⟨by rw [← h2]; exact (clO_end (by rw [hce, h1]; simp [zs])).symm, (unhide WN).2, fun i hi => by
                obtain ⟨q, e, hq⟩ := (unhide hgo).1 (i : Int) (by rw [h1]; exact List.mem_map.2 ⟨i, hi, rfl⟩)
                have : i = q := by omega
                rw [this]; exact hq⟩)
              have HS2 := hide (show Sn _ w.heap.size w.heap.size x.cells.length (Value.slice ad J.length cap) (zs O) by have h5 := unhide HS; generalize J.length = jl at h5 ⊢; rw [h1] at h5; exact h5)
              clear hs hce h1 h2
              go_wp2_with fail
              go_ret2
              exact ⟨_, O, N, rfl, unhide HS2, unhide D, hbl⟩
end Go.Proofs.YtkabcfhemljnbaaGreat

namespace Go.Proofs.YtkabcfhemljnbaaGreat
open Go.RowKit

theorem ad_sub {O : List Nat} {o : Option Nat} {i : Nat} (h : i ∈ O) : i ∈ ad O o := by
  unfold ad
  split
  · exact h
  · split
    · exact h
    · exact List.mem_append_left _ h
theorem ad_has {O : List Nat} {i : Nat} : i ∈ ad O (some i) := by
  unfold ad
  simp only
  split
  · assumption
  · simp
theorem ad_mem {O : List Nat} {o : Option Nat} {i : Nat} (h : i ∈ ad O o) : i ∈ O ∨ o = some i := by
  unfold ad at h
  split at h
  · exact .inl h
  · split at h
    · exact .inl h
    · rcases List.mem_append.1 h with q | q
      · exact .inl q
      · simp at q; exact .inr (by rw [q])
theorem ad_nd {O : List Nat} {o : Option Nat} (h : O.Nodup) : (ad O o).Nodup := by
  unfold ad
  split
  · exact h
  · split
    · exact h
    · rename_i n
      rw [List.nodup_append]; exact ⟨h, by simp, fun a ha b hb => by simp at hb; rw [hb]; intro e; exact n (e ▸ ha)⟩
theorem ad_pre (O : List Nat) (o : Option Nat) : ∃ R, ad O o = O ++ R := by
  unfold ad
  split
  · exact ⟨[], by simp⟩
  · split
    · exact ⟨[], by simp⟩
    · exact ⟨_, rfl⟩
theorem wq_some {x : Hp} {y : Wd} {i : Nat} (h : wq x y = some i) : y.k = 2 ∧ i = tgt x y := by
  unfold wq at h
  split at h
  · rename_i k; cases h; exact ⟨k, rfl⟩
  · cases h
theorem wq_pos {x : Hp} {y : Wd} (h : y.k = 2) : wq x y = some (tgt x y) := by unfold wq; rw [if_pos h]

/-- the pairs of j are gone through -/
def PIn (x : Hp) (j p : Nat) (O : List Nat) : Prop := ∀ q, q < p → q < (x.c j).prs.length → (((x.c j).p q).key.k = 2 → tgt x ((x.c j).p q).key ∈ O) ∧ (((x.c j).p q).val.k = 2 → tgt x ((x.c j).p q).val ∈ O)
theorem PIn.mono {x : Hp} {j p : Nat} {O O' : List Nat} (h : PIn x j p O) (s : ∀ i, i ∈ O → i ∈ O') : PIn x j p O' := fun q h1 h2 => ⟨fun e => s _ ((h q h1 h2).1 e), fun e => s _ ((h q h1 h2).2 e)⟩
theorem prO_is {x : Hp} {j : Nat} {O : List Nat} (hj : Reached x j) (ho : ∀ i, i ∈ O → Reached x i) (hn : O.Nodup) (p : Nat) (hp : p ≤ (x.c j).prs.length) : (∀ i, i ∈ prO x j p O → Reached x i) ∧ (prO x j p O).Nodup ∧ PIn x j p (prO x j p O) ∧ ∃ R, prO x j p O = O ++ R := by
  induction p with
  | zero => exact ⟨ho, hn, fun q h => by omega, [], by simp [prO]⟩
  | succ p ih =>
    obtain ⟨a, b, c, R, d⟩ := ih (by omega)
    rw [prO_step p (by omega)]
    refine ⟨fun i hi => ?_, ad_nd (ad_nd b), fun q h1 h2 => ?_, ?_⟩
    · rcases ad_mem hi with h | h
      · rcases ad_mem h with h | h
        · exact a i h
        · obtain ⟨k, rfl⟩ := wq_some h; exact Reached.key j p hj (by omega) k
      · obtain ⟨k, rfl⟩ := wq_some h; exact Reached.val j p hj (by omega) k
    · by_cases e : q = p
      · subst e
        exact ⟨fun k => ad_sub (by rw [wq_pos k]; exact ad_has), fun k => by rw [wq_pos k]; exact ad_has⟩
      · have := c q (by omega) h2
        exact ⟨fun k => ad_sub (ad_sub (this.1 k)), fun k => ad_sub (ad_sub (this.2 k))⟩
    · obtain ⟨R1, e1⟩ := ad_pre (prO x j p O) (wq x ((x.c j).p p).key)
      obtain ⟨R2, e2⟩ := ad_pre (ad (prO x j p O) (wq x ((x.c j).p p).key)) (wq x ((x.c j).p p).val)
      exact ⟨R ++ R1 ++ R2, by rw [e2, e1, d]; simp⟩
theorem len_le {O : List Nat} {n : Nat} (hn : O.Nodup) (h : ∀ i, i ∈ O → i < n) : O.length ≤ n := by
  have := List.Nodup.length_le_of_subset hn (fun z hz => List.mem_range.2 (h z hz))
  simpa using this
/-- what the order is -/
structure OrdIs (x : Hp) (O : List Nat) : Prop where
  r : ∀ i, i ∈ O → Reached x i
  nd : O.Nodup
  g : ∀ k (h : k < x.regs.length), x.regs[k].k = 2 → tgt x x.regs[k] ∈ O
  s : ∀ i, i < x.cells.length → Speaks (x.c i) → i ∈ O
  p : ∀ j, j ∈ O → PIn x j (x.c j).prs.length O
theorem clO_is {x : Hp} (hr : ∀ i, Reached x i → i < x.cells.length) : ∀ (f c : Nat) (O : List Nat), x.cells.length + 1 ≤ f + c → c ≤ O.length → (∀ i, i ∈ O → Reached x i) → O.Nodup → (∀ q (h : q < O.length), q < c → PIn x O[q] (x.c O[q]).prs.length O) →
    (∀ i, i ∈ clO x f c O → Reached x i) ∧ (clO x f c O).Nodup ∧ (∀ j, j ∈ clO x f c O → PIn x j (x.c j).prs.length (clO x f c O)) ∧ (∀ i, i ∈ O → i ∈ clO x f c O)
  | 0, c, O, hf, hc, ho, hn, _ => by
    have := len_le hn (fun i hi => hr i (ho i hi))
    omega
  | f + 1, c, O, hf, hc, ho, hn, hp => by
    by_cases h : c < O.length
    · have hj := ho O[c] (List.getElem_mem h)
      obtain ⟨a, b, d, R, e⟩ := prO_is hj ho hn (x.c O[c]).prs.length (Nat.le_refl _)
      have hl := prO_len x O[c] (x.c O[c]).prs.length O
      have sub : ∀ i, i ∈ O → i ∈ prO x O[c] (x.c O[c]).prs.length O := fun i hi => by rw [e]; exact List.mem_append_left _ hi
      have ih := clO_is hr f (c + 1) (prO x O[c] (x.c O[c]).prs.length O) (by omega) (by omega) a b (fun q hq hqc => by
        have hq2 : q < O.length := by omega
        have eq : (prO x O[c] (x.c O[c]).prs.length O)[q] = O[q] := by simp only [e]; exact List.getElem_append_left hq2
        rw [eq]
        by_cases z : q = c
        · subst z; exact d
        · exact (hp q hq2 (by omega)).mono sub)
      simp only [clO, h, dite_true]
      exact ⟨ih.1, ih.2.1, ih.2.2.1, fun i hi => ih.2.2.2 i (sub i hi)⟩
    · simp only [clO, h, dite_false]
      refine ⟨ho, hn, fun j hj => ?_, fun i hi => hi⟩
      obtain ⟨q, hq, e⟩ := List.getElem_of_mem hj
      have := hp q hq (by omega)
      rw [e] at this; exact this
theorem regO_is {x : Hp} (k : Nat) (hk : k ≤ x.regs.length) : (∀ i, i ∈ regO x k → Reached x i) ∧ (regO x k).Nodup ∧ ∀ j (h : j < x.regs.length), j < k → x.regs[j].k = 2 → tgt x x.regs[j] ∈ regO x k := by
  induction k with
  | zero => exact ⟨fun i hi => by simp [regO] at hi, by simp [regO], fun j _ h => by omega⟩
  | succ k ih =>
    obtain ⟨a, b, c⟩ := ih (by omega)
    rw [regO_step k (by omega)]
    refine ⟨fun i hi => ?_, ad_nd b, fun j h hj e => ?_⟩
    · rcases ad_mem hi with q | q
      · exact a i q
      · obtain ⟨z, rfl⟩ := wq_some q; exact Reached.reg k (by omega) z
    · by_cases z : j = k
      · subst z; rw [wq_pos e]; exact ad_has
      · exact ad_sub (c j h (by omega) e)
theorem wantO_is {x : Hp} (r2 : R2 x) {N : List Nat} (hN : IsW x N) (k : Nat) (hk : k ≤ N.length) : (∀ i, i ∈ wantO x N k → Reached x i) ∧ (wantO x N k).Nodup ∧ (∀ j (h : j < x.regs.length), x.regs[j].k = 2 → tgt x x.regs[j] ∈ wantO x N k) ∧ ∀ j (h : j < N.length), j < k → N[j] ∈ wantO x N k := by
  induction k with
  | zero =>
    obtain ⟨a, b, c⟩ := regO_is (x := x) x.regs.length (Nat.le_refl _)
    exact ⟨a, b, fun j h e => c j h h e, fun j _ h => by omega⟩
  | succ k ih =>
    obtain ⟨a, b, c, d⟩ := ih (by omega)
    rw [wantO_step k (by omega)]
    refine ⟨fun i hi => ?_, ad_nd b, fun j h e => ad_sub (c j h e), fun j h hj => ?_⟩
    · rcases ad_mem hi with q | q
      · exact a i q
      · cases q
        have := (hN.m N[k]).1 (List.getElem_mem (by omega))
        exact Reached.last _ this.1 (speaks_used r2 _ this.1 this.2) this.2
    · by_cases z : j = k
      · subst z; exact ad_has
      · exact ad_sub (d j h (by omega))
theorem ord_is {x : Hp} (r2 : R2 x) (r4 : R4 x) {N : List Nat} (hN : IsW x N) : OrdIs x (ordO x N) := by
  obtain ⟨a, b, c, d⟩ := wantO_is r2 hN N.length (Nat.le_refl _)
  obtain ⟨e, f, g, h⟩ := clO_is (fun i hi => (hi.good r2 r4).1) (x.cells.length + 1) 0 (wantO x N N.length) (by omega) (Nat.zero_le _) a b (fun q _ h => by omega)
  refine ⟨e, f, fun k hk z => h _ (c k hk z), fun i hi hs => ?_, g⟩
  obtain ⟨q, hq, z⟩ := List.getElem_of_mem ((hN.m i).2 ⟨hi, hs⟩)
  have := h _ (d q hq hq)
  rw [z] at this; exact this
/-- there is one such list only -/
theorem IsW.uniq {x : Hp} (r2 : R2 x) {N N' : List Nat} (h : IsW x N) (k : IsW x N') : N = N' := by
  refine List.Perm.eq_of_pairwise (le := fun a b => (x.c a).born ≤ (x.c b).born) (fun a b ha hb l1 l2 => ?_) (List.pairwise_iff_getElem.2 h.s) (List.pairwise_iff_getElem.2 k.s) ((List.perm_ext_iff_of_nodup h.nd k.nd).2 (fun i => by rw [h.m, k.m]))
  have a1 := (h.m a).1 ha
  have b1 := (k.m b).1 hb
  have sa := speaks_used r2 a a1.1 a1.2
  have sb := speaks_used r2 b b1.1 b1.2
  have ta : (x.c a).to = 0 := by rcases r2.1 a a1.1 with z | z | z; omega; omega; exact z.2.2.2.2.2.2.1
  have tb : (x.c b).to = 0 := by rcases r2.1 b b1.1 with z | z | z; omega; omega; exact z.2.2.2.2.2.2.1
  rcases Nat.lt_trichotomy a b with q | q | q
  · exact (r2.2 b b1.1 (by omega) a q ⟨by omega, by omega, by omega⟩).elim
  · exact q
  · exact (r2.2 a a1.1 (by omega) b q ⟨by omega, by omega, by omega⟩).elim
end Go.Proofs.YtkabcfhemljnbaaGreat
