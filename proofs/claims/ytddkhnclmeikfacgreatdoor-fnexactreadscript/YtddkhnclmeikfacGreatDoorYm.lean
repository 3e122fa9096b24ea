import Derived.Test.YtddkhnclmeikfacGreatDoorYl
import Derived.Test.YtddkhnclmeikfacGreatDoorXg0
import Derived.Deep.RegionWith
namespace Go.Proofs.YtddkhnclmeikfacGreatDoor
open Go.RowKit
attribute [local go_sem ↓] Go.wp_at_zero Go.wp_at_succ

/-! The program's acts, read. -/
set_option maxRecDepth 100000 in
theorem withField_any (x : Ak) (c n : Int) (w : World) : Calls Tryz.prog 253 #[x.v, .int .i32 c, .int .i64 n] w fun e w' => e = .returned (x.put c n).v ∧ Ext w w' := by
  by_cases q1 : c = 65
  · subst q1
    go_enter Tryz.func253, Tryz.ntmps253
    go_wp2
    exact bodyPost_ret (v := (x.put 65 n).v) (by simp [results, Tryz.results253, go_sem, Ak.put]) rfl ⟨rfl, ((Ext.refl _).alloc _).alloc _⟩
  · by_cases q2 : c = 66
    · subst q2
      go_enter Tryz.func253, Tryz.ntmps253
      go_wp2
      exact bodyPost_ret (v := (x.put 66 n).v) (by simp [results, Tryz.results253, go_sem, Ak.put]) rfl ⟨rfl, ((Ext.refl _).alloc _).alloc _⟩
    · by_cases q3 : c = 67
      · subst q3
        go_enter Tryz.func253, Tryz.ntmps253
        go_wp2
        exact bodyPost_ret (v := (x.put 67 n).v) (by simp [results, Tryz.results253, go_sem, Ak.put]) rfl ⟨rfl, ((Ext.refl _).alloc _).alloc _⟩
      · have E := hide (show x.put c n = { x with n := n } by unfold Ak.put; rw [if_neg q1, if_neg q2, if_neg q3])
        have r1 : (c == 65) = false := by simpa using q1
        have r2 : (c == 66) = false := by simpa using q2
        have r3 : (c == 67) = false := by simpa using q3
        clear q1 q2 q3
        rw [unhide E]
        go_enter Tryz.func253, Tryz.ntmps253
        go_wp2
        exact bodyPost_ret (v := ({ x with n := n } : Ak).v) (by simp [results, Tryz.results253, go_sem]) rfl ⟨rfl, ((Ext.refl _).alloc _).alloc _⟩
/-- the act with its first j fields -/
def actP (k : Nat) (ws : List (List UInt8)) (j : Nat) : Ak := mkAct k (((letL (k : Nat)).zip (ws.map numV)).take j)
theorem actP_zero (k : Nat) (ws : List (List UInt8)) : actP k ws 0 = ⟨k, 0, 0, 0, 0⟩ := rfl
theorem actP_step (k : Nat) (ws : List (List UInt8)) (j : Nat) (h1 : j < (letL (k : Nat)).length) (h2 : j < ws.length) : actP k ws (j + 1) = (actP k ws j).put (((letL (k : Nat))[j].toNat : Nat) : Int) (numV ws[j]) := by
  unfold actP mkAct
  have hz : j < ((letL (k : Nat)).zip (ws.map numV)).length := by simp; omega
  rw [List.take_succ_eq_append_getElem hz, List.foldl_append]
  simp
theorem actP_end (k : Nat) (ws : List (List UInt8)) (h : ws.length = (letL (k : Nat)).length) : actP k ws (letL (k : Nat)).length = actOf k ws := by
  unfold actP actOf
  rw [List.take_of_length_le (by simp; omega)]
theorem good_no_len {k : Nat} {ws : List (List UInt8)} (h : ws.length ≠ (letL (k : Nat)).length) : actGood k ws = false := by
  unfold actGood; rw [decide_eq_false h]; rfl
theorem good_no_num {k : Nat} {ws : List (List UInt8)} {j : Nat} (hj : j < ws.length) (h : numB ws[j] = false) : actGood k ws = false := by
  cases q : actGood k ws with
  | false => rfl
  | true =>
    have := (good_num q).2.1 _ (List.getElem_mem hj)
    rw [h] at this; cases this
theorem good_last {k : Nat} {ws : List (List UInt8)} (h : ws.length = (letL (k : Nat)).length) (hn : ∀ x ∈ ws, numB x = true) : actGood k ws = okA (actOf k ws) := by
  unfold actGood
  rw [decide_eq_true h, List.all_eq_true.2 hn]; rfl
/-- how the reading of an act ends -/
def ActEnd (k : Nat) (ws : List (List UInt8)) (ln : Nat) (e : Ending) : Prop := (actGood k ws = true ∧ e = .returned (actOf k ws).v) ∨ (actGood k ws = false ∧ e = faultP ln)
theorem set5_at {w : World} {b : Nat} (y : Ak) (h : ∀ o, o < 5 → Open w b o) : AkAt (set5 w b y) b 0 y ∧ ∀ o, o < 5 → Open (set5 w b y) b o := by
  refine ⟨⟨?_, ?_, ?_, ?_, ?_⟩, fun o ho => ((((((h o ho).set _ _).set _ _).set _ _).set _ _).set _ _)⟩
  · unfold set5
    rw [cell_other _ (.inr (by omega)), cell_other _ (.inr (by omega)), cell_other _ (.inr (by omega)), cell_other _ (.inr (by omega))]
    exact (h 0 (by omega)).same _
  · unfold set5
    rw [cell_other _ (.inr (by omega)), cell_other _ (.inr (by omega)), cell_other _ (.inr (by omega))]
    exact ((h 1 (by omega)).set _ _).same _
  · unfold set5
    rw [cell_other _ (.inr (by omega)), cell_other _ (.inr (by omega))]
    exact (((h 2 (by omega)).set _ _).set _ _).same _
  · unfold set5
    rw [cell_other _ (.inr (by omega))]
    exact ((((h 3 (by omega)).set _ _).set _ _).set _ _).same _
  · unfold set5
    exact (((((h 4 (by omega)).set _ _).set _ _).set _ _).set _ _).same _
theorem set5_ext {w W : World} {b : Nat} (y : Ak) (h : Ext w W) (hb : w.heap.size ≤ b) : Ext w (set5 W b y) :=
  ((((h.setCell (p := ⟨b, 0, none⟩) hb (iv y.op)).setCell (p := ⟨b, 1, none⟩) hb (iv y.a)).setCell (p := ⟨b, 2, none⟩) hb (iv y.b)).setCell (p := ⟨b, 3, none⟩) hb (iv y.c)).setCell (p := ⟨b, 4, none⟩) hb (iv y.n)
theorem number_yes (b ln : Nat) (rest l : List UInt8) (W : World) (h : RdAt W b rest ln) (hL : LibAt W) (hp : PowAt W) (hl : l.length ≤ 20000) (q : numB l = true) :
    Calls Tryz.prog 176 #[.pointer (some ⟨b, 0, none⟩), .string (sB l)] W fun e w' => e = .returned (.int .i64 (numV l)) ∧ Ext W w' := by
  refine (number_any b ln rest l W h hL hp hl).mono ?_
  rintro e w' ⟨h1 | h1, x⟩
  · exact ⟨unhide h1.2, x⟩
  · rw [q] at h1; cases h1.1
theorem number_no (b ln : Nat) (rest l : List UInt8) (W : World) (h : RdAt W b rest ln) (hL : LibAt W) (hp : PowAt W) (hl : l.length ≤ 20000) (q : numB l = false) :
    Calls Tryz.prog 176 #[.pointer (some ⟨b, 0, none⟩), .string (sB l)] W fun e w' => e = faultP ln ∧ Ext W w' := by
  refine (number_any b ln rest l W h hL hp hl).mono ?_
  rintro e w' ⟨h1 | h1, x⟩
  · rw [q] at h1; cases h1.1
  · exact ⟨unhide h1.2, x⟩
set_option maxRecDepth 100000 in
set_option maxHeartbeats 1000000 in
theorem act_any (w0 W : World) (b ln k g cap : Nat) (ad : Option Addr) (rest : List UInt8) (ws : List (List UInt8)) (had : 0 < ws.length → ad = some ⟨g, 1, none⟩) (hcx : Cx w0 W b) (h : RdAt W b rest ln) (hk1 : 1 ≤ k) (hk2 : k ≤ 24) (hwl : ∀ x ∈ ws, x.length ≤ 20000) (hc : ∀ i (hi : i < ws.length), W.cell? ⟨g, 1 + i, none⟩ = some (.string (sB ws[i]))) :
    Calls Tryz.prog 177 #[.pointer (some ⟨b, 0, none⟩), .int .i64 k, .slice ad ws.length cap] W fun e w' => Hid (ActEnd k ws ln e) ∧ Ext W w' := by
  have HC := hide hcx
  have RD := hide h
  have HAD := hide had
  clear had
  have CS := hide hc
  have WL := hide hwl
  have f1 := (hcx.tab.2 k (by omega)).2
  have g0 : 0 < W.heap.size := cell_lt f1
  have LL := letL_len (k : Int)
  have LA := hide (letL_ascii (k : Int))
  obtain ⟨lt, hlt⟩ : ∃ s, s = letL (k : Nat) := ⟨_, rfl⟩
  have HLT := hide hlt
  rw [← hlt] at f1 LL LA
  have hk0 : (0 : Int) ≤ (k : Int) := by omega
  have hk3 : (k : Int) < 25 := by omega
  clear hcx h hc hwl hlt
  go_enter Tryz.func177, Tryz.ntmps177
  go_wp2_with fail
  obtain ⟨WA, hWA⟩ : ∃ V, V = (W.alloc (.cells #[.int .i64 0, .int .i64 0, .int .i64 0, .int .i64 0, .int .i64 0] 40)).alloc (.cells #[.int .i64 (k : Int), .int .i64 0, .int .i64 0, .int .i64 0, .int .i64 0] 40) := ⟨_, rfl⟩
  rw [← hWA]
  have xA : Ext W WA := hWA ▸ ((Ext.refl W).alloc _).alloc _
  have sA : WA.heap.size = W.heap.size + 1 + 1 := by rw [hWA]; simp
  have AA := hide (show AkAt WA (W.heap.size + 1) 0 (actP k ws 0) by
    rw [hWA, actP_zero]
    exact ⟨by simp [go_sem], by simp [go_sem], by simp [go_sem], by simp [go_sem], by simp [go_sem]⟩)
  have OA := hide (show ∀ j, j < 5 → Open WA (W.heap.size + 1) j from fun j hj => by
    rw [hWA]
    match j, hj with
    | 0, _ => exact ⟨⟨iv (k : Int), by simp [go_sem]⟩, by simp [go_sem]⟩
    | 1, _ => exact ⟨⟨iv 0, by simp [go_sem]⟩, by simp [go_sem]⟩
    | 2, _ => exact ⟨⟨iv 0, by simp [go_sem]⟩, by simp [go_sem]⟩
    | 3, _ => exact ⟨⟨iv 0, by simp [go_sem]⟩, by simp [go_sem]⟩
    | 4, _ => exact ⟨⟨iv 0, by simp [go_sem]⟩, by simp [go_sem]⟩)
  have OR := hide (show ∀ j, j < 5 → Open WA W.heap.size j from fun j hj => by
    rw [hWA]
    match j, hj with
    | 0, _ => exact ⟨⟨iv 0, by simp [go_sem]⟩, by simp [go_sem]⟩
    | 1, _ => exact ⟨⟨iv 0, by simp [go_sem]⟩, by simp [go_sem]⟩
    | 2, _ => exact ⟨⟨iv 0, by simp [go_sem]⟩, by simp [go_sem]⟩
    | 3, _ => exact ⟨⟨iv 0, by simp [go_sem]⟩, by simp [go_sem]⟩
    | 4, _ => exact ⟨⟨iv 0, by simp [go_sem]⟩, by simp [go_sem]⟩)
  clear hWA f1 g0
  by_cases hlen : ws.length = lt.length
  rotate_left
  · have NO := hide (show actGood k ws = false from good_no_len (by rw [← unhide HLT]; exact hlen))
    have q1 : ((ws.length : Int) == (lt.length : Int)) = false := by simp; omega
    rw [q1]
    refine (must_no b ln rest WA ((unhide RD).ext xA)).mono ?_
    rintro e w3 ⟨rfl, hw3⟩
    subst hw3
    exact ⟨rfl, hide (.inr ⟨unhide NO, rfl⟩), xA⟩
  · have q1 : ((ws.length : Int) == (lt.length : Int)) = true := by simp; omega
    rw [q1]
    clear q1
    refine (must_yes b WA).mono ?_
    rintro e w3 ⟨rfl, hw3⟩
    subst hw3
    have IT := hide (show (w3.iter ⟨lt.toArray⟩ 0).heap[W.heap.size + 1 + 1]? = some (.stringIter ⟨lt.toArray⟩ 0) by
      have := World.iter_heap w3 ⟨lt.toArray⟩ 0
      rwa [sA] at this)
    have HLEN := hide hlen
    clear hlen
    go_wp2_with fail
    go_loopw [] (fun wr => ∃ j : Nat, j ≤ lt.length ∧ Hid (wr.heap[W.heap.size + 1 + 1]? = some (.stringIter ⟨lt.toArray⟩ j)) ∧ Hid (AkAt wr (W.heap.size + 1) 0 (actP k ws j)) ∧ Hid (∀ o, o < 5 → Open wr (W.heap.size + 1) o) ∧ Hid (∀ o, o < 5 → Open wr W.heap.size o) ∧ Hid (∀ i (hi : i < ws.length), i < j → numB ws[i] = true) ∧ Ext W wr) (fun wr => lt.length - wr.iterPos (W.heap.size + 1 + 1))
    case atStart => exact ⟨0, by omega, unhide IT, hide (by have := unhide AA; exact this.ext ((Ext.refl w3).alloc _)), hide (fun o ho => (unhide OA o ho).ext ((Ext.refl w3).alloc _)), hide (fun o ho => (unhide OR o ho).ext ((Ext.refl w3).alloc _)), hide (fun i hi h => by omega), xA.trans ((Ext.refl w3).alloc _)⟩
    case round =>
      obtain ⟨j, hj, hit, haa, hoa, hor, hnb, hbl⟩ := hrel
      by_cases hjl : j < lt.length
      · have hjw : j < ws.length := by have := unhide HLEN; omega
        obtain rfl := unhide HAD (by omega)
        have hnx := fun ty => next_let (unhide hit) hjl (unhide LA) ty
        have IT2 := hide (Lib.iterAt_heap wr (W.heap.size + 1 + 1) ⟨lt.toArray⟩ j (j + 1) (unhide hit))
        have XB := hide (show Ext W (wr.iterAt (W.heap.size + 1 + 1) ⟨lt.toArray⟩ (j + 1)) from Lib.below_iterAt hbl (k := W.heap.size + 1 + 1) (Nat.le_succ_of_le (Nat.le_succ _)) ⟨lt.toArray⟩ (j + 1))
        have BL := hide (show ∀ q, q ≠ W.heap.size + 1 + 1 → (wr.iterAt (W.heap.size + 1 + 1) ⟨lt.toArray⟩ (j + 1)).heap[q]? = wr.heap[q]? from fun q hq => Lib.iterAt_other wr _ q _ _ hq)
        obtain ⟨W1, hW1⟩ : ∃ V, V = wr.iterAt (W.heap.size + 1 + 1) ⟨lt.toArray⟩ (j + 1) := ⟨_, rfl⟩
        rw [← hW1] at IT2 XB BL
        have hnx2 : ∀ ty, (Instr.next (.pointer (some ⟨W.heap.size + 1 + 1, 0, none⟩)) true ty).run Tryz.prog wr = .ok (.tuple #[.bool true, .int .i64 j, .int .i32 (lt[j].toNat : Int)]) W1 := fun ty => hW1 ▸ hnx ty
        clear hnx hW1
        have R1 := hide ((unhide RD).ext (unhide XB))
        have C1 := hide ((unhide HC).ext (unhide XB))
        have cA : ∀ o, W1.cell? ⟨W.heap.size + 1, o, none⟩ = wr.cell? ⟨W.heap.size + 1, o, none⟩ := fun o => World.cell?_of_block (a := ⟨W.heap.size + 1, o, none⟩) (unhide BL (W.heap.size + 1) (by omega))
        have OA1 := hide (fun o (ho : o < 5) => open_of_block (unhide hoa o ho) (unhide BL (W.heap.size + 1) (by omega)))
        have OR1 := hide (fun o (ho : o < 5) => open_of_block (unhide hor o ho) (unhide BL W.heap.size (by omega)))
        have ew := (unhide XB).keep (unhide CS j hjw)
        have WB := hide (unhide WL ws[j] (List.getElem_mem hjw))
        have SP := hide (actP_step k ws j (by rw [← unhide HLT]; exact hjl) hjw)
        obtain ⟨x, hx⟩ : ∃ x, x = actP k ws j := ⟨_, rfl⟩
        have hax := unhide haa
        rw [← hx] at hax SP
        have a0 := (cA 0).trans hax.1
        have a1 := (cA 1).trans hax.2.1
        have a2 := (cA 2).trans hax.2.2.1
        have a3 := (cA 3).trans hax.2.2.2.1
        have a4 := (cA 4).trans hax.2.2.2.2
        have LTJ := hide (show (letL (k : Nat))[j]'(by rw [← unhide HLT]; exact hjl) = lt[j] by simp only [unhide HLT])
        obtain ⟨wd, hwd⟩ : ∃ y, y = ws[j] := ⟨_, rfl⟩
        rw [← hwd] at ew WB SP
        have HWD := hide hwd
        clear cA hax hx hwd
        have hj0 : (0 : Int) ≤ (j : Int) := by omega
        have hj1 : (j : Int) < (ws.length : Int) := by omega
        have hA1 : W.heap.size + 1 < W1.heap.size := cell_lt a0
        cases qb : numB wd
        · have NO := hide (show actGood k ws = false from good_no_num hjw (by rw [← unhide HWD]; exact qb))
          go_wp2_with fail
          go_region_with (first | (go_at_call 176; refine (number_no b ln rest wd _ ((unhide R1).ext (Ext.refl W1).drew) ((unhide C1).ext (Ext.refl W1).drew).lib ((unhide C1).ext (Ext.refl W1).drew).tab.1 (unhide WB) qb).mono ?_; rintro e w4 ⟨rfl, x4⟩; refine (fun (_ : wpAny Tryz.prog Region.Mode.any #[] (fun _ _ _ => True) 0 #[] ⟨#[], []⟩ w4) => ⟨rfl, hide (.inr ⟨unhide NO, rfl⟩), (unhide XB).trans (Ext.trans (Ext.refl W1).drew x4)⟩) ?_))
          all_goals exact trivial
        · go_wp2_with fail
          go_region_with (first | (have _ := LAA; go_at_call 253; refine (withField_any x _ _ _).mono ?_; rintro e w5 ⟨rfl, x5⟩; obtain ⟨⟨p0, t0⟩, g0⟩ := (unhide OA1 0 (by omega)).ext (Ext.trans x14 x5); obtain ⟨⟨p1, t1⟩, g1⟩ := (unhide OA1 1 (by omega)).ext (Ext.trans x14 x5); obtain ⟨⟨p2, t2⟩, g2⟩ := (unhide OA1 2 (by omega)).ext (Ext.trans x14 x5); obtain ⟨⟨p3, t3⟩, g3⟩ := (unhide OA1 3 (by omega)).ext (Ext.trans x14 x5); obtain ⟨⟨p4, t4⟩, g4⟩ := (unhide OA1 4 (by omega)).ext (Ext.trans x14 x5)) | (go_at_call 176; refine (number_yes b ln rest wd _ ((unhide R1).ext (Ext.refl W1).drew) ((unhide C1).ext (Ext.refl W1).drew).lib ((unhide C1).ext (Ext.refl W1).drew).tab.1 (unhide WB) qb).mono ?_; rintro e w4 ⟨rfl, x4⟩; have LAA := True.intro; have x14 := Ext.trans (Ext.refl W1).drew x4; have b0 := x14.keep a0; have b1 := x14.keep a1; have b2 := x14.keep a2; have b3 := x14.keep a3; have b4 := x14.keep a4))
          all_goals
            have x15 := Ext.trans x14 x5
            have S5 := hide (set5_at (x.put (lt[j].toNat : Int) (numV wd)) (fun o ho => (unhide OA1 o ho).ext x15))
            have X6 := hide (set5_ext (b := W.heap.size + 1) (x.put (lt[j].toNat : Int) (numV wd)) ((unhide XB).trans x15) (by omega))
            have I6 := hide (show (set5 w5 (W.heap.size + 1) (x.put (lt[j].toNat : Int) (numV wd))).heap[W.heap.size + 1 + 1]? = some (.stringIter ⟨lt.toArray⟩ (j + 1)) from (set5_block _ _ _ _ (by omega)).trans ((x15.block _ (by rcases Array.getElem?_eq_some_iff.1 (unhide IT2) with ⟨h, _⟩; exact h)).trans (unhide IT2)))
            have O6 := hide (fun o (ho : o < 5) => open_of_block (W' := set5 w5 (W.heap.size + 1) (x.put (lt[j].toNat : Int) (numV wd))) ((unhide OR1 o ho).ext x15) (set5_block _ _ _ _ (by omega)))
            have N6 := hide (show ∀ i (hi : i < ws.length), i < j + 1 → numB ws[i] = true from fun i hi h => by
              by_cases e : i = j
              · subst e; rw [← unhide HWD]; exact qb
              · exact unhide hnb i hi (by omega))
            have SP2 := hide (show actP k ws (j + 1) = x.put (lt[j].toNat : Int) (numV wd) by rw [unhide SP, unhide LTJ])
            go_wp2_with fail
            go_roundw
            case rel => exact ⟨j + 1, by omega, unhide I6, hide (by rw [unhide SP2]; exact (unhide S5).1), hide (unhide S5).2, unhide O6, unhide N6, unhide X6⟩
            case measure =>
              have i6 := unhide I6
              unfold set5 at i6
              simp only [World.iterPos, i6, unhide hit]; omega
      · have hnx := fun ty => next_end (unhide hit) hjl ty
        have e : j = lt.length := by omega
        have AE := hide (show actP k ws j = actOf k ws by rw [e, unhide HLT]; exact actP_end k ws (by rw [← unhide HLT]; exact unhide HLEN))
        have ALL := hide (show ∀ x ∈ ws, numB x = true from fun x hx => by
          obtain ⟨i, hi, rfl⟩ := List.getElem_of_mem hx
          exact unhide hnb i hi (by have := unhide HLEN; omega))
        have GL := hide (good_last (k := k) (by rw [← unhide HLT]; exact unhide HLEN) (unhide ALL))
        have hax := unhide haa
        rw [unhide AE] at hax
        obtain ⟨x, hx⟩ : ∃ x, x = actOf k ws := ⟨_, rfl⟩
        rw [← hx] at hax GL
        have HX := hide hx
        obtain ⟨a0, a1, a2, a3, a4⟩ := hax
        simp only [Nat.zero_add] at a1 a2 a3 a4
        have RR := hide ((unhide RD).ext hbl)
        clear e hx
        cases q5 : okA x
        · have QO := hide (fun V => implActOk_r x false q5 V)
          have NO := hide (show actGood k ws = false by rw [unhide GL]; exact q5)
          go_wp2_with fail
          refine (unhide QO _).mono ?_
          rintro e w4 ⟨rfl, x4⟩
          go_wp2_with fail
          refine (must_no b ln rest w4 ((unhide RR).ext x4)).mono ?_
          rintro e w6 ⟨rfl, hw6⟩
          subst hw6
          exact ⟨rfl, hide (.inr ⟨unhide NO, rfl⟩), hbl.trans x4⟩
        · have QO := hide (fun V => implActOk_r x true q5 V)
          have YS := hide (show actGood k ws = true by rw [unhide GL]; exact q5)
          go_wp2_with fail
          refine (unhide QO _).mono ?_
          rintro e w4 ⟨rfl, x4⟩
          have b0 := x4.keep a0
          have b1 := x4.keep a1
          have b2 := x4.keep a2
          have b3 := x4.keep a3
          have b4 := x4.keep a4
          obtain ⟨⟨o0, r0⟩, f0⟩ := (unhide hor 0 (by omega)).ext x4
          obtain ⟨⟨o1, r1⟩, f1⟩ := (unhide hor 1 (by omega)).ext x4
          obtain ⟨⟨o2, r2⟩, f2⟩ := (unhide hor 2 (by omega)).ext x4
          obtain ⟨⟨o3, r3⟩, f3⟩ := (unhide hor 3 (by omega)).ext x4
          obtain ⟨⟨o4, r4⟩, f4⟩ := (unhide hor 4 (by omega)).ext x4
          go_wp2_with fail
          refine (must_yes b w4).mono ?_
          rintro e w6 ⟨rfl, hw6⟩
          subst hw6
          go_wp2_with fail
          refine bodyPost_ret (v := x.v) (by simp [results, Tryz.results177, go_sem, r0, r1, r2, r3, r4]) rfl ?_
          exact ⟨hide (.inl ⟨unhide YS, by rw [← unhide HX]⟩), ext5 (hbl.trans x4) _ _ _ _ _⟩
end Go.Proofs.YtddkhnclmeikfacGreatDoor
