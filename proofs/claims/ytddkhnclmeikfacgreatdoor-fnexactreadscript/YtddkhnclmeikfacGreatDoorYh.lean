import Derived.Test.YtddkhnclmeikfacGreatDoorYg
import Derived.Test.YtddkhnclmeikfacGreatDoorKb0
namespace Go.Proofs.YtddkhnclmeikfacGreatDoor
open Go.RowKit
attribute [local go_sem ↓] Go.wp_at_zero Go.wp_at_succ

/-! The model's reading of a text. -/
theorem own_mono {w : World} {B B' : Nat} {e : TypeId} {s n : Nat} {v : Value} {xs : List Value} (h : w.ownsRow B e s v n xs) (hb : B' ≤ B) : w.ownsRow B' e s v n xs := by
  refine ⟨h.1, ?_⟩
  rcases h.2 with hn | ⟨g, cap, cur, rfl, hg, rest⟩
  · exact .inl hn
  · exact .inr ⟨g, cap, cur, rfl, Nat.le_trans hb hg, rest⟩
theorem cutN_seg (a b : List UInt8) (h : ∀ c ∈ a, c ≠ 10) : cutN (a ++ 10 :: b) = some (a, b) := by
  induction a with
  | nil => simp [cutN]
  | cons c r ih =>
    have h1 := ih (fun x hx => h x (List.mem_cons_of_mem _ hx))
    have h2 := h c (List.mem_cons_self ..)
    rw [List.cons_append]
    simp [cutN, h2, h1]
theorem cutN_none (a : List UInt8) (h : ∀ c ∈ a, c ≠ 10) : cutN a = none := by
  induction a with
  | nil => rfl
  | cons c r ih =>
    have h1 := ih (fun x hx => h x (List.mem_cons_of_mem _ hx))
    have h2 := h c (List.mem_cons_self ..)
    simp [cutN, h2, h1]
/-- where the search for a newline stands -/
def NlI (tx : List UInt8) (a e : Nat) : Prop := a ≤ e ∧ e ≤ tx.length ∧ ∀ c ∈ (tx.take e).drop a, c ≠ 10
theorem NlI.start {tx : List UInt8} {a : Nat} (h : a ≤ tx.length) : NlI tx a a := ⟨Nat.le_refl _, h, by
  have : (tx.take a).drop a = [] := List.drop_eq_nil_of_le (by simp; omega)
  rw [this]; simp⟩
theorem NlI.on {tx : List UInt8} {a e : Nat} (h : NlI tx a e) (he : e < tx.length) (hc : tx[e] ≠ 10) : NlI tx a (e + 1) := by
  refine ⟨by have := h.1; omega, by omega, fun c hx => ?_⟩
  rw [take_drop_succ tx e a he h.1] at hx
  rcases List.mem_append.1 hx with hx | hx
  · exact h.2.2 c hx
  · rw [List.mem_singleton.1 hx]; exact hc
theorem NlI.hit {tx : List UInt8} {a e : Nat} (h : NlI tx a e) (he : e < tx.length) (hc : tx[e] = 10) : cutN (tx.drop a) = some ((tx.take e).drop a, tx.drop (e + 1)) := by
  rw [seg_split tx e a he h.1, hc]
  exact cutN_seg _ _ h.2.2
theorem NlI.miss {tx : List UInt8} {a : Nat} (h : NlI tx a tx.length) : cutN (tx.drop a) = none := by
  have := h.2.2
  rw [List.take_length] at this
  exact cutN_none _ this
/-- where the model's reading stands: n lines are read -/
def RdI (tx : List UInt8) (n a : Nat) (room : Int) (acc : List Ak) : Prop := a ≤ tx.length ∧ ((n = 0 ∧ a = 0 ∧ acc = [] ∧ room = 0) ∨ (1 ≤ n ∧ ∃ fuel, (tx.drop a).length ≤ fuel ∧ rdActs room fuel n acc (tx.drop a) = rdText tx)) ∧ acc.length ≤ 1000 ∧ n ≤ a
theorem RdI.start (tx : List UInt8) : RdI tx 0 0 0 [] := ⟨Nat.zero_le _, .inl ⟨rfl, rfl, rfl, rfl⟩, by simp, Nat.le_refl _⟩
theorem RdI.cut {tx : List UInt8} {n a : Nat} {room : Int} {acc : List Ak} (hl : tx.length ≤ 20000) (h : RdI tx n a room acc) (ha : a < tx.length ∨ n = 0) (hc : cutN (tx.drop a) = none) : rdText tx = .bad (n + 1) := by
  rcases h.2.1 with ⟨rfl, rfl, _, _⟩ | ⟨h1, fuel, hf, hr⟩
  · rw [List.drop_zero] at hc
    unfold rdText
    rw [if_neg (by omega), hc]
  · rw [← hr]
    refine rdActs_cut hf (fun e => ?_) hc
    have := congrArg List.length e
    rcases ha with ha | ha
    · simp at this; omega
    · omega
theorem RdI.room {tx line rest : List UInt8} {a : Nat} {room : Int} {acc : List Ak} (hl : tx.length ≤ 20000) (h : RdI tx 0 a room acc) (hc : cutN (tx.drop a) = some (line, rest)) : acc = [] ∧ room = 0 ∧ (roomO line = none → rdText tx = .bad 1) ∧ ∀ r, roomO line = some r → rdText tx = rdActs r rest.length 1 [] rest := by
  rcases h.2.1 with ⟨_, rfl, h3, h4⟩ | ⟨h1, _⟩
  · rw [List.drop_zero] at hc
    refine ⟨h3, h4, fun hr => ?_, fun r hr => ?_⟩
    · unfold rdText; rw [if_neg (by omega), hc]; simp only [hr]
    · unfold rdText; rw [if_neg (by omega), hc]; simp only [hr]
  · omega
theorem RdI.done {tx : List UInt8} {n a : Nat} {room : Int} {acc : List Ak} (h : RdI tx n a room acc) (h1 : 1 ≤ n) (h2 : tx.length ≤ a) : rdText tx = .good room acc := by
  rcases h.2.1 with ⟨rfl, _⟩ | ⟨_, fuel, _, hr⟩
  · omega
  · rw [← hr]
    have e : tx.drop a = [] := List.drop_eq_nil_of_le h2
    rw [e, rdActs_end]
theorem RdI.roomed {tx rest : List UInt8} {e : Nat} {r : Int} (he : e < tx.length) (hr : tx.drop (e + 1) = rest) (hd : rdText tx = rdActs r rest.length 1 [] rest) : RdI tx 1 (e + 1) r [] :=
  ⟨by omega, .inr ⟨Nat.le_refl _, rest.length, by rw [hr]; exact Nat.le_refl _, by rw [hr, hd]⟩, by simp, by omega⟩
theorem RdI.act {tx line : List UInt8} {n a e : Nat} {room : Int} {acc : List Ak} {y : Ak} (h : RdI tx n a room acc) (hn : 1 ≤ n) (hae : a ≤ e) (he : e < tx.length) (hc : cutN (tx.drop a) = some (line, tx.drop (e + 1))) (h2 : acc.length < 1000) (hy : actO line = some y) : RdI tx (n + 1) (e + 1) room (acc ++ [y]) := by
  rcases h.2.1 with ⟨h0, _⟩ | ⟨_, fuel, hf, hr⟩
  · omega
  · refine ⟨by omega, .inr ⟨by omega, fuel - 1, ?_, ?_⟩, by simp; omega, by have := h.2.2.2; omega⟩
    · have := cutN_len hc
      omega
    · rw [← hr, rdActs_step hf hc h2 hy]
theorem RdI.bad {tx line rest : List UInt8} {n a : Nat} {room : Int} {acc : List Ak} (h : RdI tx n a room acc) (hn : 1 ≤ n) (hc : cutN (tx.drop a) = some (line, rest)) (hb : acc.length < 1000 → actO line = none) : rdText tx = .bad (n + 1) := by
  rcases h.2.1 with ⟨h0, _⟩ | ⟨_, fuel, hf, hr⟩
  · omega
  · rw [← hr]
    by_cases h2 : acc.length < 1000
    · exact rdActs_no hf hc (hb h2)
    · exact rdActs_many hf hc h2
/-- a script that is being read, in memory -/
def ScrAt (W : World) (b : Nat) (room : Int) (v : Value) : Prop := W.cell? ⟨b, 0, none⟩ = some (.bool true) ∧ W.cell? ⟨b, 1, none⟩ = some (.int .i64 0) ∧ W.cell? ⟨b, 2, none⟩ = some (iv room) ∧ W.cell? ⟨b, 3, none⟩ = some v ∧ W.frozen? ⟨b, 2, none⟩ = false ∧ W.frozen? ⟨b, 3, none⟩ = false
theorem ScrAt.of_block {W W' : World} {b : Nat} {room : Int} {v : Value} (h : ScrAt W b room v) (e : W'.heap[b]? = W.heap[b]?) : ScrAt W' b room v := by
  have c : ∀ o, W'.cell? ⟨b, o, none⟩ = W.cell? ⟨b, o, none⟩ := fun o => World.cell?_of_block (a := ⟨b, o, none⟩) e
  have f : ∀ o, W'.frozen? ⟨b, o, none⟩ = W.frozen? ⟨b, o, none⟩ := fun o => by unfold World.frozen?; rw [e]
  exact ⟨(c 0).trans h.1, (c 1).trans h.2.1, (c 2).trans h.2.2.1, (c 3).trans h.2.2.2.1, (f 2).trans h.2.2.2.2.1, (f 3).trans h.2.2.2.2.2⟩
theorem ScrAt.ext {W W' : World} {b : Nat} {room : Int} {v : Value} (h : ScrAt W b room v) (x : Ext W W') : ScrAt W' b room v := h.of_block (x.block b (cell_lt h.1))
theorem ScrAt.putRoom {W : World} {b : Nat} {room : Int} {v : Value} (h : ScrAt W b room v) (r : Int) : ScrAt (W.setCell ⟨b, 2, none⟩ (iv r)) b r v := by
  have o2 : Open W b 2 := ⟨⟨_, h.2.2.1⟩, h.2.2.2.2.1⟩
  have o3 : Open W b 3 := ⟨⟨_, h.2.2.2.1⟩, h.2.2.2.2.2⟩
  exact ⟨by rw [cell_other _ (.inr (by omega))]; exact h.1, by rw [cell_other _ (.inr (by omega))]; exact h.2.1, o2.same _, by rw [cell_other _ (.inr (by omega))]; exact h.2.2.2.1, (o2.set _ _).2, (o3.set _ _).2⟩
theorem ScrAt.putActs {W : World} {b : Nat} {room : Int} {v : Value} (h : ScrAt W b room v) (u : Value) : ScrAt (W.setCell ⟨b, 3, none⟩ u) b room u := by
  have o2 : Open W b 2 := ⟨⟨_, h.2.2.1⟩, h.2.2.2.2.1⟩
  have o3 : Open W b 3 := ⟨⟨_, h.2.2.2.1⟩, h.2.2.2.2.2⟩
  exact ⟨by rw [cell_other _ (.inr (by omega))]; exact h.1, by rw [cell_other _ (.inr (by omega))]; exact h.2.1, by rw [cell_other _ (.inr (by omega))]; exact h.2.2.1, o3.same _, (o2.set _ _).2, (o3.set _ _).2⟩
theorem ext4 {w W : World} (h : Ext w W) (a b c d : Value) : Ext w ((((W.setCell ⟨w.heap.size, 0, none⟩ a).setCell ⟨w.heap.size, 1, none⟩ b).setCell ⟨w.heap.size, 2, none⟩ c).setCell ⟨w.heap.size, 3, none⟩ d) :=
  (((h.setCell (p := ⟨w.heap.size, 0, none⟩) (Nat.le_refl _) a).setCell (p := ⟨w.heap.size, 1, none⟩) (Nat.le_refl _) b).setCell (p := ⟨w.heap.size, 2, none⟩) (Nat.le_refl _) c).setCell (p := ⟨w.heap.size, 3, none⟩) (Nat.le_refl _) d
/-- an act laid over a row of one's own -/
def set5 (W : World) (b : Nat) (y : Ak) : World := ((((W.setCell ⟨b, 0, none⟩ (iv y.op)).setCell ⟨b, 1, none⟩ (iv y.a)).setCell ⟨b, 2, none⟩ (iv y.b)).setCell ⟨b, 3, none⟩ (iv y.c)).setCell ⟨b, 4, none⟩ (iv y.n)
theorem set5_block (W : World) (b : Nat) (y : Ak) (q : Nat) (h : q ≠ b) : (set5 W b y).heap[q]? = W.heap[q]? := by
  unfold set5
  rw [Below.heap_setCell _ _ _ _ h, Below.heap_setCell _ _ _ _ h, Below.heap_setCell _ _ _ _ h, Below.heap_setCell _ _ _ _ h, Below.heap_setCell _ _ _ _ h]
theorem set5_size (W : World) (b : Nat) (y : Ak) : (set5 W b y).heap.size = W.heap.size := by simp [set5]
theorem open_of_block {W W' : World} {b o : Nat} (h : Open W b o) (e : W'.heap[b]? = W.heap[b]?) : Open W' b o := by
  obtain ⟨⟨v, hv⟩, hf⟩ := h
  exact ⟨⟨v, (World.cell?_of_block (a := ⟨b, o, none⟩) e).trans hv⟩, by unfold World.frozen? at hf ⊢; rw [e]; exact hf⟩
theorem rd_long {tx : List UInt8} (h : 20000 < tx.length) : rdText tx = .bad 0 := by unfold rdText; rw [if_pos h]
set_option maxRecDepth 100000 in
set_option maxHeartbeats 600000 in
theorem specRead_nil (w : World) : Calls Tryz.prog 17 #[.string (sB [])] w fun e w' => ∃ v, Hid (e = .returned ((rdText []).v v)) ∧ Hid (w'.ownsRow w.heap.size 40 5 v (rdText []).acts.length ((rdText []).acts.flatMap fA)) ∧ Ext w w' := by
  go_enter Tryz.func17, Tryz.ntmps17
  go_wp2_with fail
  go_loopw [4, 5] (fun nn aa wr => nn = .int .i64 0 ∧ aa = .int .i64 0 ∧ Hid (∀ j, j < 4 → Open wr w.heap.size j) ∧ Ext w wr) (fun _ _ _ => 0)
  case atStart =>
    refine ⟨rfl, rfl, hide (fun j hj => ?_), ((Ext.refl w).alloc _).alloc _⟩
    match j, hj with
    | 0, _ => exact ⟨⟨.bool false, by simp [go_sem]⟩, by simp [go_sem]⟩
    | 1, _ => exact ⟨⟨.int .i64 0, by simp [go_sem]⟩, by simp [go_sem]⟩
    | 2, _ => exact ⟨⟨.int .i64 0, by simp [go_sem]⟩, by simp [go_sem]⟩
    | 3, _ => exact ⟨⟨.slice none 0 0, by simp [go_sem]⟩, by simp [go_sem]⟩
  case round =>
    obtain ⟨rfl, rfl, hop, hbl⟩ := hrel
    go_wp2_with fail
    obtain ⟨WO, hWO⟩ : ∃ W, W = wr := ⟨_, rfl⟩
    subst hWO
    go_loopw [6] (fun ee wr => ee = .int .i64 0 ∧ wr = WO) (fun _ _ => 0)
    case atStart => exact ⟨rfl, rfl⟩
    case round =>
      obtain ⟨rfl, rfl⟩ := hrel
      obtain ⟨⟨o0, r0⟩, f0⟩ := unhide hop 0 (by omega)
      obtain ⟨⟨o1, r1⟩, f1⟩ := unhide hop 1 (by omega)
      obtain ⟨⟨o2, r2⟩, f2⟩ := unhide hop 2 (by omega)
      obtain ⟨⟨o3, r3⟩, f3⟩ := unhide hop 3 (by omega)
      go_wp2_with fail
      refine bodyPost_ret (v := .agg #[.bool false, .int .i64 1, .int .i64 0, .slice none 0 0]) (by simp [results, Tryz.results17, go_sem, r0, r1, r2, r3]) rfl ?_
      exact ⟨.slice none 0 0, hide rfl, hide (World.ownsRow_nil _ _ _ _), ext4 hbl _ _ _ _⟩
set_option maxRecDepth 100000 in
set_option maxHeartbeats 3000000 in
theorem specRead_any (tx : List UInt8) (hl : tx.length ≤ 1048576) (w : World) : Calls Tryz.prog 17 #[.string (sB tx)] w fun e w' => ∃ v, Hid (e = .returned ((rdText tx).v v)) ∧ Hid (w'.ownsRow w.heap.size 40 5 v (rdText tx).acts.length ((rdText tx).acts.flatMap fA)) ∧ Ext w w' := by
  by_cases h0 : 20000 < tx.length
  · have E := hide (rd_long h0)
    go_enter Tryz.func17, Tryz.ntmps17
    go_wp2_with fail
    refine bodyPost_ret (v := .agg #[.bool false, .int .i64 0, .int .i64 0, .slice none 0 0]) (by simp [results, Tryz.results17, go_sem]) rfl ?_
    exact ⟨.slice none 0 0, hide (by rw [unhide E]; rfl), hide (by rw [unhide E]; exact World.ownsRow_nil _ _ _ _), (Ext.refl w).alloc _⟩
  · by_cases hne : tx = []
    · subst hne; exact specRead_nil w
    obtain ⟨i0, hi0, hz0, hz1, hz2⟩ := info_parts infoActs
    go_enter Tryz.func17, Tryz.ntmps17
    go_wp2_with fail
    go_loopw [4, 5] (fun nn aa wr => ∃ (n a : Nat) (room : Int) (acc : List Ak) (v : Value), nn = .int .i64 n ∧ aa = .int .i64 a ∧ Hid (RdI tx n a room acc) ∧ Hid (ScrAt wr (w.heap.size + 1) room v) ∧ Hid (wr.ownsRow (w.heap.size + 2) 40 5 v acc.length (acc.flatMap fA)) ∧ Hid (∀ j, j < 4 → Open wr w.heap.size j) ∧ Ext w wr) (fun _ aa _ => tx.length + 1 - (intOf aa).toNat)
    case atStart =>
      refine ⟨0, 0, 0, [], .slice none 0 0, rfl, rfl, RdI.start tx, hide ⟨by simp [go_sem], by simp [go_sem], by simp [go_sem], by simp [go_sem], by simp [go_sem], by simp [go_sem]⟩, World.ownsRow_nil _ _ _ _, hide (fun j hj => ?_), ((Ext.refl w).alloc _).alloc _⟩
      match j, hj with
      | 0, _ => exact ⟨⟨.bool false, by simp [go_sem]⟩, by simp [go_sem]⟩
      | 1, _ => exact ⟨⟨.int .i64 0, by simp [go_sem]⟩, by simp [go_sem]⟩
      | 2, _ => exact ⟨⟨.int .i64 0, by simp [go_sem]⟩, by simp [go_sem]⟩
      | 3, _ => exact ⟨⟨.slice none 0 0, by simp [go_sem]⟩, by simp [go_sem]⟩
    case round =>
      obtain ⟨n, a, room, acc, v, rfl, rfl, hri, hsc, hown, hop, hbl⟩ := hrel
      obtain ⟨ad, cap, hv⟩ : ∃ ad cap, v = .slice ad acc.length cap := by
        rcases (unhide hown).2 with ⟨h1, h2⟩ | ⟨g, cap, _, h1, _⟩
        · exact ⟨none, 0, by rw [h1, h2]⟩
        · exact ⟨_, _, h1⟩
      subst hv
      have nb : n ≤ 20000 := by have := (unhide hri).2.2.2; have := (unhide hri).1; omega
      have al := (unhide hri).2.2.1
      by_cases ha : a < tx.length
      rotate_left
      · have n1 : 1 ≤ n := by
          rcases (unhide hri).2.1 with ⟨rfl, rfl, _⟩ | ⟨h, _⟩
          · exact absurd hne (by simpa using ha)
          · exact h
        have E := hide ((unhide hri).done n1 (by omega))
        have q1 : ((n : Int) == 0) = false := by simp; omega
        obtain ⟨s0, s1, s2, s3, _, _⟩ := unhide hsc
        obtain ⟨⟨o0, r0⟩, f0⟩ := unhide hop 0 (by omega)
        obtain ⟨⟨o1, r1⟩, f1⟩ := unhide hop 1 (by omega)
        obtain ⟨⟨o2, r2⟩, f2⟩ := unhide hop 2 (by omega)
        obtain ⟨⟨o3, r3⟩, f3⟩ := unhide hop 3 (by omega)
        go_wp2_with fail
        refine bodyPost_ret (v := .agg #[.bool true, .int .i64 0, .int .i64 room, .slice ad acc.length cap]) (by simp [results, Tryz.results17, go_sem, r0, r1, r2, r3]) rfl ?_
        refine ⟨.slice ad acc.length cap, hide (by rw [unhide E]; rfl), hide ?_, ext4 hbl _ _ _ _⟩
        rw [unhide E]
        exact own_mono (ownsRow_of_block (unhide hown) (fun q hq => by
          have := ((unhide hown).lt q hq).1
          rw [Below.heap_setCell _ _ _ _ (fun e => by simp only at e; omega), Below.heap_setCell _ _ _ _ (fun e => by simp only at e; omega), Below.heap_setCell _ _ _ _ (fun e => by simp only at e; omega), Below.heap_setCell _ _ _ _ (fun e => by simp only at e; omega)])) (by omega)
      · go_wp2_with fail
        obtain ⟨WO, hWO⟩ : ∃ W, W = wr := ⟨_, rfl⟩
        subst hWO
        go_loopw [6] (fun ee wr => ∃ e : Nat, ee = .int .i64 e ∧ Hid (NlI tx a e) ∧ e ≤ tx.length ∧ wr = WO) (fun ee _ => tx.length - (intOf ee).toNat)
        case atStart => exact ⟨a, rfl, NlI.start (by omega), by omega, rfl⟩
        case round =>
          obtain ⟨e, rfl, hnl, he, rfl⟩ := hrel
          by_cases hlt : e < tx.length
          · have hs : e < (sB tx).size := by simpa [ByteArray.size] using hlt
            cases q : ((((sB tx)[e]'hs).toNat : Int) == 10)
            · have q2 : ((((sB tx)[e]'hs).toNat : Int) != 10) = true := by simp [bne, q]
              have NX := hide ((unhide hnl).on hlt (by
                intro e1
                have e2 : ((sB tx)[e]'hs).toNat = 10 := by rw [lt_get tx e hlt hs, e1]; rfl
                rw [e2] at q; simp at q))
              go_wp2_with fail
              go_roundw
              case rel => exact ⟨e + 1, by go_num, unhide NX, by omega, trivial⟩
              case measure => simp [intOf]; omega
            · have q2 : ((((sB tx)[e]'hs).toNat : Int) != 10) = false := by simp [bne, q]
              have HIT := hide ((unhide hnl).hit hlt (by
                have e2 : ((sB tx)[e]'hs).toNat = 10 := by simp at q; omega
                rw [lt_get tx e hlt hs] at e2
                exact UInt8.toNat_inj.1 e2))
              have qe : ((e : Int) == (tx.length : Int)) = false := by simp; omega
              have ae : a ≤ e := (unhide hnl).1
              have LB := hide (show ((tx.take e).drop a).length ≤ 20000 by rw [List.length_drop, List.length_take]; omega)
              obtain ⟨s0, s1, s2, s3, z2, z3⟩ := unhide hsc
              obtain ⟨line, hline⟩ : ∃ x, x = (tx.take e).drop a := ⟨_, rfl⟩
              have SUB := hide (show (sB tx).extract a e = sB line by rw [hline]; exact sub_str tx a e)
              rw [← hline] at HIT LB
              clear hline
              have QR := hide (fun W => l7room_any line (unhide LB) W)
              have QA := hide (fun W => l7act_any line (unhide LB) W)
              rw [← unhide SUB] at QR QA
              by_cases n0 : n = 0
              · subst n0
                have RM := hide ((unhide hri).room (by omega) (unhide HIT))
                go_wp2_with fail
                refine (unhide QR _).mono ?_
                rintro e2 w3 ⟨r, he2, hr, x3⟩
                have e3 := unhide he2
                clear he2
                subst e3
                have SC3 := hide ((unhide hsc).ext x3)
                have OP3 := hide (fun j (hj : j < 4) => ((unhide hop j hj).ext x3).set ⟨w.heap.size + 1, 2, none⟩ (iv r))
                have XQ := hide (show Ext w (w3.setCell ⟨w.heap.size + 1, 2, none⟩ (iv r)) from (hbl.trans x3).setCell (p := ⟨w.heap.size + 1, 2, none⟩) (by simp) (iv r))
                have SC4 := hide ((unhide SC3).putRoom r)
                obtain ⟨t0, t1, t2, t3, t4, t5⟩ := unhide SC3
                have OW4 := hide (ownsRow_of_block (w' := w3.setCell ⟨w.heap.size + 1, 2, none⟩ (iv r)) (unhide hown) (fun q hq => by
                  have := ((unhide hown).lt q hq).1
                  rw [Below.heap_setCell _ _ _ _ (fun e => by simp only at e; omega)]
                  exact x3.block q ((unhide hown).lt q hq).2))
                cases qo : roomO line with
                | none =>
                  have E := hide ((unhide RM).2.2.1 qo)
                  have O3 := hide (fun j (hj : j < 4) => (unhide hop j hj).ext x3)
                  obtain ⟨⟨o0, r0⟩, f0⟩ := unhide O3 0 (by omega)
                  obtain ⟨⟨o1, r1⟩, f1⟩ := unhide O3 1 (by omega)
                  obtain ⟨⟨o2, r2⟩, f2⟩ := unhide O3 2 (by omega)
                  obtain ⟨⟨o3, r3⟩, f3⟩ := unhide O3 3 (by omega)
                  go_wp2_with fail
                  refine bodyPost_ret (v := .agg #[.bool false, .int .i64 (1), .int .i64 0, .slice none 0 0]) (by simp [results, Tryz.results17, go_sem, r0, r1, r2, r3]) rfl ?_
                  exact ⟨.slice none 0 0, hide (by rw [unhide E]; rfl), hide (by rw [unhide E]; exact World.ownsRow_nil _ _ _ _), ext4 (unhide XQ) _ _ _ _⟩
                | some rr =>
                  have E := hide ((unhide RM).2.2.2 rr qo)
                  have ER := unhide hr rr qo
                  subst ER
                  have AE := (unhide RM).1
                  subst AE
                  have NX := hide (RdI.roomed hlt rfl (unhide E))
                  go_wp2_with fail
                  go_roundw
                  case rel => exact ⟨1, e + 1, r, [], _, rfl, by go_num, unhide NX, unhide SC4, unhide OW4, unhide OP3, unhide XQ⟩
                  case measure => simp [intOf]; omega
              · have nn1 : ¬ (n : Int) + 1 = 1 := by omega
                by_cases h1000 : acc.length < 1000
                · go_wp2_with fail
                  refine (unhide QA _).mono ?_
                  rintro e2 w3 ⟨hans, x3⟩
                  obtain ⟨y, hy1, hy2⟩ := unhide hans
                  subst hy1
                  have HY := hide hy2
                  clear hans hy2
                  have AB := hide (show ∀ j, j < 5 → Open w3 wr.heap.size j from fun j hj => Open.ext (by
                    match j, hj with
                    | 0, _ => exact ⟨⟨iv 0, by simp [go_sem]⟩, by simp [go_sem]⟩
                    | 1, _ => exact ⟨⟨iv 0, by simp [go_sem]⟩, by simp [go_sem]⟩
                    | 2, _ => exact ⟨⟨iv 0, by simp [go_sem]⟩, by simp [go_sem]⟩
                    | 3, _ => exact ⟨⟨iv 0, by simp [go_sem]⟩, by simp [go_sem]⟩
                    | 4, _ => exact ⟨⟨iv 0, by simp [go_sem]⟩, by simp [go_sem]⟩) x3)
                  have X3 := hide (show Ext wr w3 from ((Ext.refl wr).alloc _).trans x3)
                  obtain ⟨⟨a0, b0⟩, c0⟩ := unhide AB 0 (by omega)
                  obtain ⟨⟨a1, b1⟩, c1⟩ := unhide AB 1 (by omega)
                  obtain ⟨⟨a2, b2⟩, c2⟩ := unhide AB 2 (by omega)
                  obtain ⟨⟨a3, b3⟩, c3⟩ := unhide AB 3 (by omega)
                  obtain ⟨⟨a4, b4⟩, c4⟩ := unhide AB 4 (by omega)
                  have SC3 := hide ((unhide hsc).ext (unhide X3))
                  obtain ⟨t0, t1, t2, t3, t4, t5⟩ := unhide SC3
                  have hws : w.heap.size + 1 < wr.heap.size := cell_lt s0
                  have hne1 : ¬ w.heap.size + 1 = wr.heap.size := by omega
                  have hne2 : ¬ w.heap.size = wr.heap.size := by omega
                  obtain ⟨bo, hbo⟩ : ∃ b, b = (actO line).isSome := ⟨_, rfl⟩
                  rw [← hbo]
                  have HBO := hide hbo
                  clear hbo x3 s0 s1 s2 s3
                  have O3 := hide (ownsRow_of_block (w' := set5 w3 wr.heap.size y) (unhide hown) (fun q hq => by
                    have h1 := ((unhide hown).lt q hq)
                    rw [set5_block _ _ _ _ (by omega)]
                    exact (unhide X3).block q h1.2))
                  have X4 := hide (show Ext w (set5 w3 wr.heap.size y) from ((((((hbl.trans (unhide X3)).setCell (p := ⟨wr.heap.size, 0, none⟩) (by simp only; omega) (iv y.op)).setCell (p := ⟨wr.heap.size, 1, none⟩) (by simp only; omega) (iv y.a)).setCell (p := ⟨wr.heap.size, 2, none⟩) (by simp only; omega) (iv y.b)).setCell (p := ⟨wr.heap.size, 3, none⟩) (by simp only; omega) (iv y.c)).setCell (p := ⟨wr.heap.size, 4, none⟩) (by simp only; omega) (iv y.n)))
                  have h34 := (unhide X3).size
                  have OPW := hide (fun j (hj : j < 4) => (unhide hop j hj).ext (unhide X3))
                  go_wp2_with (at_builtin; refine wpList_append_lies _ rfl _ _ 47 rfl (w.heap.size + 2) 40 i0 (.agg #[iv 0, iv 0, iv 0, iv 0, iv 0]) 5 40 Tryz.underlying47 hi0 hz0 hz1 hz2 rfl (by decide) _ acc.length (acc.flatMap fA) rfl ((unhide O3).alloc _) _ 1 1 (fA y) rfl rfl ?c1 ?c2 (by decide) ?c3 ?c4 ?c5 _ rfl ?_)
                  case c1 =>
                    intro q u hk
                    match q, hk with
                    | 0, hk => simp [fA] at hk; subst hk; simp [Addr.add, go_sem]
                    | 1, hk => simp [fA] at hk; subst hk; simp [Addr.add, go_sem]
                    | 2, hk => simp [fA] at hk; subst hk; simp [Addr.add, go_sem]
                    | 3, hk => simp [fA] at hk; subst hk; simp [Addr.add, go_sem]
                    | 4, hk => simp [fA] at hk; subst hk; simp [Addr.add, go_sem]
                    | q + 5, hk => simp [fA] at hk
                  case c2 => intro u hu; simp [fA] at hu; rcases hu with e | e | e | e | e <;> subst e <;> rfl
                  case c3 => unfold maxLen; omega
                  case c4 => omega
                  case c5 => simp; omega
                  intro g cap' w5 hown5 hgrow hat hglt
                  have BLK := hide (show ∀ q, q < w.heap.size + 2 → w5.heap[q]? = w3.heap[q]? from fun q h2 => (hgrow.block q (by simp; omega) (fun e => by have := (((unhide O3).alloc (.cells #[iv y.op, iv y.a, iv y.b, iv y.c, iv y.n] 40)).lt q e.symm).1; omega)).trans ((Lib.alloc_old _ _ q (by simp; omega)).trans (set5_block w3 wr.heap.size y q (by omega))))
                  have X5 := hide (grown_ext ((unhide X4).alloc _) ((unhide O3).alloc _) (by omega) hgrow)
                  have SC5 := hide ((unhide SC3).of_block (unhide BLK (w.heap.size + 1) (by omega)))
                  have OP5 := hide (fun j (hj : j < 4) => open_of_block (unhide OPW j hj) (unhide BLK w.heap.size (by omega)))
                  have R5 := hide (show w5.ownsRow (w.heap.size + 2) 40 5 (.slice (some ⟨g, 0, none⟩) (acc.length + 1) cap') (acc ++ [y]).length ((acc ++ [y]).flatMap fA) by
                    rw [List.flatMap_append]
                    simpa using hown5)
                  clear hown5 hgrow hat b0 b1 b2 b3 b4 c0 c1 c2 c3 c4 t0 t1 t2 t3 t4 t5
                  obtain ⟨t0, t1, t2, t3, t4, t5⟩ := unhide SC5
                  have X6 := hide ((unhide X5).setCell (p := ⟨w.heap.size + 1, 3, none⟩) (by simp) (.slice (some ⟨g, 0, none⟩) (acc.length + 1) cap'))
                  cases bo with
                  | false =>
                    have E := hide ((unhide hri).bad (by omega) (unhide HIT) (fun _ => by
                      have := unhide HBO
                      cases q : actO line with
                      | none => rfl
                      | some z => rw [q] at this; cases this))
                    obtain ⟨⟨o0, r0⟩, f0⟩ := unhide OP5 0 (by omega)
                    obtain ⟨⟨o1, r1⟩, f1⟩ := unhide OP5 1 (by omega)
                    obtain ⟨⟨o2, r2⟩, f2⟩ := unhide OP5 2 (by omega)
                    obtain ⟨⟨o3, r3⟩, f3⟩ := unhide OP5 3 (by omega)
                    go_wp2_with fail
                    refine bodyPost_ret (v := .agg #[.bool false, .int .i64 ((n : Int) + 1), .int .i64 0, .slice none 0 0]) (by simp [results, Tryz.results17, go_sem, r0, r1, r2, r3]) rfl ?_
                    exact ⟨.slice none 0 0, hide (by rw [unhide E]; rfl), hide (by rw [unhide E]; exact World.ownsRow_nil _ _ _ _), ext4 (unhide X6) _ _ _ _⟩
                  | true =>
                    have AY := hide (show actO line = some y by
                      have := unhide HBO
                      cases q : actO line with
                      | none => rw [q] at this; cases this
                      | some z => rw [unhide HY z q])
                    have NX := hide ((unhide hri).act (by omega) ae hlt (unhide HIT) h1000 (unhide AY))
                    have SC6 := hide ((unhide SC5).putActs (.slice (some ⟨g, 0, none⟩) (acc.length + 1) cap'))
                    have OP6 := hide (fun j (hj : j < 4) => (unhide OP5 j hj).set ⟨w.heap.size + 1, 3, none⟩ (.slice (some ⟨g, 0, none⟩) (acc.length + 1) cap'))
                    have R6 := hide (ownsRow_of_block (w' := w5.setCell ⟨w.heap.size + 1, 3, none⟩ (.slice (some ⟨g, 0, none⟩) (acc.length + 1) cap')) (unhide R5) (fun q hq => by
                      have := ((unhide R5).lt q hq).1
                      rw [Below.heap_setCell _ _ _ _ (fun e => by simp only at e; omega)]))
                    go_wp2_with fail
                    go_roundw
                    case rel => exact ⟨n + 1, e + 1, room, acc ++ [y], _, by go_num, by go_num, unhide NX, unhide SC6, unhide R6, unhide OP6, unhide X6⟩
                    case measure => simp [intOf]; omega
                · have E := hide ((unhide hri).bad (by omega) (unhide HIT) (fun h => absurd h h1000))
                  obtain ⟨⟨o0, r0⟩, f0⟩ := unhide hop 0 (by omega)
                  obtain ⟨⟨o1, r1⟩, f1⟩ := unhide hop 1 (by omega)
                  obtain ⟨⟨o2, r2⟩, f2⟩ := unhide hop 2 (by omega)
                  obtain ⟨⟨o3, r3⟩, f3⟩ := unhide hop 3 (by omega)
                  go_wp2_with fail
                  refine bodyPost_ret (v := .agg #[.bool false, .int .i64 ((n : Int) + 1), .int .i64 0, .slice none 0 0]) (by simp [results, Tryz.results17, go_sem, r0, r1, r2, r3]) rfl ?_
                  exact ⟨.slice none 0 0, hide (by rw [unhide E]; rfl), hide (by rw [unhide E]; exact World.ownsRow_nil _ _ _ _), ext4 hbl _ _ _ _⟩
          · have e1 : e = tx.length := by omega
            have MS := hide ((unhide hri).cut (by omega) (.inl ha) (by have := unhide hnl; rw [e1] at this; exact this.miss))
            have qe : ((e : Int) == (tx.length : Int)) = true := by simp; omega
            have E := MS
            clear e1
            obtain ⟨⟨o0, r0⟩, f0⟩ := unhide hop 0 (by omega)
            obtain ⟨⟨o1, r1⟩, f1⟩ := unhide hop 1 (by omega)
            obtain ⟨⟨o2, r2⟩, f2⟩ := unhide hop 2 (by omega)
            obtain ⟨⟨o3, r3⟩, f3⟩ := unhide hop 3 (by omega)
            go_wp2_with fail
            refine bodyPost_ret (v := .agg #[.bool false, .int .i64 ((n : Int) + 1), .int .i64 0, .slice none 0 0]) (by simp [results, Tryz.results17, go_sem, r0, r1, r2, r3]) rfl ?_
            exact ⟨.slice none 0 0, hide (by rw [unhide E]; rfl), hide (by rw [unhide E]; exact World.ownsRow_nil _ _ _ _), ext4 hbl _ _ _ _⟩
end Go.Proofs.YtddkhnclmeikfacGreatDoor
