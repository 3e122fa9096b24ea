import Derived.Test.YtddkhnclmeikfacGreatDoorXc
import Derived.Lib.AppendStr
import Derived.Lib.UnsafeStr
namespace Go.Proofs.YtddkhnclmeikfacGreatDoor
open Go.RowKit
attribute [local go_sem ↓] Go.wp_at_zero Go.wp_at_succ

/-! WriteScript, the model's. -/
def okA (x : Ak) : Bool := actOkB x.op x.a x.b x.c x.n
def roomL (room : Int) : List UInt8 := [114, 111, 111, 109, 32] ++ Lib.itoa room ++ [10]
def textL (room : Int) (xs : List Ak) : List UInt8 := roomL room ++ xs.flatMap (fun x => lineL x ++ [10])
def writeB (room : Int) (xs : List Ak) : Bool := l1inB room 1 4000 && (decide (xs.length ≤ 1000) && (xs.all okA && decide ((textL room xs).length ≤ 20000)))
def writeL (room : Int) (xs : List Ak) : List UInt8 := if writeB room xs = true then textL room xs else []
theorem write_no {room : Int} {xs : List Ak} (h : l1inB room 1 4000 = false ∨ 1000 < xs.length ∨ xs.all okA = false ∨ 20000 < (textL room xs).length) : writeL room xs = [] := by
  unfold writeL
  rw [if_neg]
  unfold writeB
  rcases h with h | h | h | h
  · simp [h]
  · simp [show ¬ xs.length ≤ 1000 by omega]
  · simp [h]
  · simp [show ¬ (textL room xs).length ≤ 20000 by omega]
theorem write_yes {room : Int} {xs : List Ak} (h1 : l1inB room 1 4000 = true) (h2 : xs.length ≤ 1000) (h3 : xs.all okA = true) (h4 : (textL room xs).length ≤ 20000) : writeL room xs = textL room xs := by
  unfold writeL
  rw [if_pos]
  unfold writeB
  simp [h1, h2, h3, h4]
theorem okA_op {x : Ak} (h : okA x = true) : 1 ≤ x.op ∧ x.op ≤ 24 := by
  unfold okA actOkB at h
  simp at h
  omega
theorem text_take (room : Int) (xs : List Ak) (k : Nat) (hk : k < xs.length) : textL room (xs.take (k + 1)) = textL room (xs.take k) ++ (lineL xs[k] ++ [10]) := by
  unfold textL
  rw [List.take_succ_eq_append_getElem hk, List.flatMap_append]
  simp
theorem room_len (room : Int) (h0 : -9223372036854775808 ≤ room) (h1 : room ≤ 9223372036854775807) : (roomL room).length ≤ 27 := by
  have := Lib.itoa_length_le room h0 h1
  unfold roomL; simp; omega
theorem text_len (room : Int) (h0 : -9223372036854775808 ≤ room) (h1 : room ≤ 9223372036854775807) (xs : List Ak) (hf : ∀ x ∈ xs, x.Fit) : (textL room xs).length ≤ 27 + 95 * xs.length := by
  have hr := room_len room h0 h1
  unfold textL
  rw [List.length_append]
  have : ∀ ys : List Ak, (∀ x ∈ ys, x.Fit) → (ys.flatMap (fun x => lineL x ++ [10])).length ≤ 95 * ys.length := by
    intro ys
    induction ys with
    | nil => simp
    | cons y ys ih =>
      intro h
      have h1 := ih (fun x hx => h x (List.mem_cons_of_mem _ hx))
      have h2 := line_len (h y (List.mem_cons_self ..))
      rw [List.flatMap_cons, List.length_append, List.length_append, List.length_singleton, List.length_cons]
      omega
  have := this xs hf
  omega
theorem room_str (room : Int) : (⟨#[114, 111, 111, 109, 32]⟩ : ByteArray) ++ ⟨(Lib.itoa room).toArray⟩ ++ ⟨#[10]⟩ = ⟨(roomL room).toArray⟩ := by
  have h1 := str_app [114, 111, 111, 109, 32] (Lib.itoa room)
  have h2 := str_app ([114, 111, 111, 109, 32] ++ Lib.itoa room) [10]
  exact (congrArg (· ++ (⟨#[10]⟩ : ByteArray)) h1).trans h2
theorem line_str (x : Ak) : (⟨(lineL x).toArray⟩ : ByteArray) ++ ⟨#[10]⟩ = ⟨(lineL x ++ [10]).toArray⟩ := str_app (lineL x) [10]
theorem strCells_of {s : ByteArray} {l : List UInt8} (h : s = ⟨l.toArray⟩) : Lib.strCells s = Lib.byteCells l := by subst h; rfl
theorem size_of {s : ByteArray} {l : List UInt8} (h : s = ⟨l.toArray⟩) : s.size = l.length := by subst h; simp [ByteArray.size]
theorem text_zero (room : Int) (xs : List Ak) : textL room (xs.take 0) = roomL room := by simp [textL]
theorem specActOk_r (y : Ak) (r : Bool) (h : okA y = r) (w : World) : Calls Tryz.prog 57 #[y.v] w fun e w' => e = .returned (.bool r) ∧ Ext w w' := h ▸ specActOk_any y.op y.a y.b y.c y.n w
theorem all_take (xs : List Ak) (k : Nat) (hk : k < xs.length) (h : okA xs[k] = false) : xs.all okA = false := by
  rw [List.all_eq_false]
  exact ⟨xs[k], List.getElem_mem hk, by simp [h]⟩
theorem bytes_conv {w : World} {B : Nat} {v : Value} {L : List UInt8} (h0 : L ≠ []) (h : w.ownsRow B 5 1 v L.length (Lib.byteCells L)) : ∃ g cap, v = .slice (some ⟨g, 0, none⟩) L.length cap ∧ (convert 94 9 (.slice (some ⟨g, 0, none⟩) L.length cap)).run Tryz.prog w = .ok (.string ⟨L.toArray⟩) w := by
  have e : Lib.byteCells L = L.flatMap bC := by
    clear h h0
    induction L with
    | nil => rfl
    | cons a l ih => rw [List.flatMap_cons, ← ih]; rfl
  rw [e] at h
  obtain ⟨ad, cap, rfl, hx⟩ := own_bytes h
  have hl : 0 < L.length := List.length_pos_iff.2 h0
  obtain ⟨g, rfl, _, _⟩ := hx 0 hl
  refine ⟨g, cap, rfl, run_convert_bytes_back (P := Tryz.prog) w 94 9 5 ⟨g, 0, none⟩ cap L Tryz.underlying94 Tryz.underlying5 Tryz.underlying9 (fun j hj => ?_)⟩
  obtain ⟨g', e', _, hc⟩ := hx j hj
  cases e'
  have e2 : (⟨g, 0, none⟩ : Addr).add j = ⟨g, j, none⟩ := by by_cases hj0 : j = 0 <;> simp [Addr.add, hj0]
  rw [e2]; exact hc
set_option maxRecDepth 100000 in
set_option maxHeartbeats 600000 in
theorem specWrite_any (room : Int) (xs : List Ak) (v : Value) (w : World) (hr0 : -9223372036854775808 ≤ room) (hr1 : room ≤ 9223372036854775807) (h : SlA w v xs) (hf : ∀ x ∈ xs, x.Fit) (hn : xs.length ≤ 1048576) :
    Calls Tryz.prog 23 #[.int .i64 room, v] w fun e w' => e = .returned (.string ⟨(writeL room xs).toArray⟩) ∧ Ext w w' := by
  obtain ⟨i0, hi0, hz0, hz1, hz2⟩ := info_parts infoU8
  obtain ⟨ad, cap, rfl, _, hx⟩ := h
  have HX := hide hx
  clear hx
  cases q1 : l1inB room 1 4000
  · have QI := hide (fun W => l1in_r room 1 4000 false q1 W)
    have E := hide (write_no (room := room) (xs := xs) (.inl q1))
    go_enter Tryz.func23, Tryz.ntmps23
    go_wp2_with (first | (go_at_call 55; refine (unhide QI _).mono ?_; rintro e w2 ⟨rfl, rfl⟩))
    go_ret
    exact ⟨by rw [unhide E]; rfl, Ext.refl _⟩
  · have QI := hide (fun W => l1in_r room 1 4000 true q1 W)
    by_cases q2 : 1000 < xs.length
    · have E := hide (write_no (room := room) (xs := xs) (.inr (.inl q2)))
      go_enter Tryz.func23, Tryz.ntmps23
      go_wp2_with (first | (go_at_call 55; refine (unhide QI _).mono ?_; rintro e w2 ⟨rfl, rfl⟩))
      go_ret
      exact ⟨by rw [unhide E]; rfl, Ext.refl _⟩
    · have QD := hide (fun W => l7decimal_any room hr0 hr1 W)
      have b1 := Lib.itoa_length_le room hr0 hr1
      have TL := hide (fun k => text_len room hr0 hr1 (xs.take k) (fun x hx => hf x (List.mem_of_mem_take hx)))
      have TK := hide (fun k hk => text_take room xs k hk)
      have RL := hide (room_len room hr0 hr1)
      have YES := hide (fun h3 h4 => write_yes (room := room) (xs := xs) q1 (by omega) h3 h4)
      have N3 := hide (fun h => write_no (room := room) (xs := xs) (.inr (.inr (.inl h))))
      have N4 := hide (fun h => write_no (room := room) (xs := xs) (.inr (.inr (.inr h))))
      have FT := hide hf
      clear hf
      go_enter Tryz.func23, Tryz.ntmps23
      go_wp2_with (first | (go_at_call 55; refine (unhide QI _).mono ?_; rintro e w2 ⟨rfl, rfl⟩))
      refine (unhide QD _).mono ?_
      rintro e w3 ⟨rfl, x3⟩
      go_wp2_with (at_builtin; refine Lib.wpList_append_own_string _ rfl _ _ 94 9 rfl w2.heap.size 5 i0 Tryz.underlying94 Tryz.underlying9 hi0 hz0 hz1 hz2 _ 0 [] rfl (World.ownsRow_nil _ _ _ _) _ rfl ?c1 ?c2 ?c3 ?_)
      case c1 => rw [size_of (room_str room)]; have := unhide RL; unfold maxLen; omega
      case c2 => rw [size_of (room_str room)]; have := unhide RL; omega
      case c3 => exact x3.size
      intro v4 w4 hown4 hgrow _
      have R0 := hide (show w4.ownsRow w2.heap.size 5 1 v4 (textL room (xs.take 0)).length (Lib.byteCells (textL room (xs.take 0))) by
        rw [strCells_of (room_str room)] at hown4
        rw [text_zero]
        have e : (roomL room).length = 5 + (Lib.itoa room).length + 1 := by unfold roomL; simp; omega
        rw [e]; exact hown4)
      have X4 := hide (grown_ext x3 (World.ownsRow_nil _ _ 5 1) (Nat.le_refl _) hgrow)
      clear hown4 hgrow
      go_wp2_with fail
      go_loopw [5, 24] (fun v i wr => ∃ k : Nat, k ≤ xs.length ∧ i = .int .i64 k ∧ Hid (∀ x ∈ xs.take k, okA x = true) ∧ Hid (wr.ownsRow w2.heap.size 5 1 v (textL room (xs.take k)).length (Lib.byteCells (textL room (xs.take k)))) ∧ Ext w2 wr) (fun _ i _ => xs.length - (intOf i).toNat)
      case atStart => exact ⟨0, Nat.zero_le _, rfl, hide (by simp), unhide R0, unhide X4⟩
      case round =>
        obtain ⟨k, hk, rfl, hall, hown, hbl⟩ := hrel
        by_cases hlt : k < xs.length
        · obtain ⟨b, o, rfl, p0, p1, p2, p3, p4⟩ := unhide HX k hlt
          have e0 := hbl.keep p0
          have e1 := hbl.keep p1
          have e2 := hbl.keep p2
          have e3 := hbl.keep p3
          have e4 := hbl.keep p4
          clear p0 p1 p2 p3 p4
          have hb' : b < wr.heap.size := cell_lt e0
          have hk0 : (0:Int) ≤ (k:Int) := by omega
          have hk1 : (k:Int) < (xs.length:Int) := by omega
          have FX := hide (unhide FT xs[k] (List.getElem_mem hlt))
          have NX := hide (unhide TK k hlt)
          have TLk := hide (unhide TL k)
          have AT := hide (fun h => all_take xs k hlt h)
          have AY := hide (show okA xs[k] = true → ∀ x ∈ xs.take (k + 1), okA x = true from fun hy x hx => by
            rw [List.take_succ_eq_append_getElem hlt, List.mem_append] at hx
            rcases hx with hx | hx
            · exact unhide hall x hx
            · rw [List.mem_singleton.1 hx]; exact hy)
          obtain ⟨y, hy⟩ : ∃ y, y = xs[k] := ⟨_, rfl⟩
          rw [← hy] at e0 e1 e2 e3 e4 FX NX AT AY
          clear hy
          have xa := (Ext.refl wr).alloc (.cells #[iv y.op, iv y.a, iv y.b, iv y.c, iv y.n] 40)
          cases q3 : okA y
          · have QO := hide (fun W => specActOk_r y false q3 W)
            have E := hide (unhide N3 (unhide AT q3))
            go_wp2_with fail
            refine (unhide QO _).mono ?_
            rintro e w5 ⟨rfl, x5⟩
            go_wp2_with fail
            go_ret
            exact ⟨by rw [unhide E]; rfl, (hbl.trans xa).trans x5⟩
          · have QO := hide (fun W => specActOk_r y true q3 W)
            have OP := hide (okA_op q3)
            have QL := hide (fun W => l7line_any y (unhide OP).1 (unhide OP).2 (unhide FX) W)
            have b2 := line_len (unhide FX)
            have hb0 := hbl.size
            go_wp2_with fail
            refine (unhide QO _).mono ?_
            rintro e w5 ⟨rfl, x5⟩
            have t0 : w5.cell? ⟨wr.heap.size, 0, none⟩ = some (iv y.op) := x5.keep (by simp [go_sem])
            have t1 : w5.cell? ⟨wr.heap.size, 1, none⟩ = some (iv y.a) := x5.keep (by simp [go_sem])
            have t2 : w5.cell? ⟨wr.heap.size, 2, none⟩ = some (iv y.b) := x5.keep (by simp [go_sem])
            have t3 : w5.cell? ⟨wr.heap.size, 3, none⟩ = some (iv y.c) := x5.keep (by simp [go_sem])
            have t4 : w5.cell? ⟨wr.heap.size, 4, none⟩ = some (iv y.n) := x5.keep (by simp [go_sem])
            go_wp2_with fail
            refine (unhide QL _).mono ?_
            rintro e w6 ⟨rfl, x6⟩
            have X6 := hide ((xa.trans x5).trans x6)
            have O6 := hide (ownsRow_of_block (unhide hown) (fun q hq => (unhide X6).block q ((unhide hown).lt q hq).2))
            go_wp2_with (at_builtin; refine Lib.wpList_append_own_string _ rfl _ _ 94 9 rfl w2.heap.size 5 i0 Tryz.underlying94 Tryz.underlying9 hi0 hz0 hz1 hz2 _ _ _ rfl (unhide O6) _ rfl ?c1 ?c2 ?c3 ?_)
            case c1 => rw [size_of (line_str y)]; have := unhide TLk; simp at this ⊢; unfold maxLen; omega
            case c2 => rw [size_of (line_str y)]; have := unhide TLk; simp at this ⊢; omega
            case c3 => have := (unhide X6).size; omega
            intro v7 w7 hown7 hgrow _
            have R := hide (show w7.ownsRow w2.heap.size 5 1 v7 (textL room (xs.take (k + 1))).length (Lib.byteCells (textL room (xs.take (k + 1)))) by
              rw [strCells_of (line_str y)] at hown7
              rw [unhide NX, List.length_append, Lib.byteCells_append]
              have e : (lineL y ++ [10]).length = (lineL y).length + 1 := by simp
              rw [e]; exact hown7)
            have X7 := hide (grown_ext (hbl.trans (unhide X6)) (unhide O6) (Nat.le_refl _) hgrow)
            clear hown7 hgrow
            go_wp2_with fail
            go_roundw
            case rel => exact ⟨k + 1, by omega, by go_num, unhide AY q3, unhide R, unhide X7⟩
            case measure => simp [intOf]; omega
        · have e : k = xs.length := by omega
          subst e
          have R := hown
          rw [List.take_length] at R
          have ALL := hide (show xs.all okA = true from List.all_eq_true.2 (fun x hx => unhide hall x (by rw [List.take_length]; exact hx)))
          obtain ⟨g, cap', hv, hcv⟩ := bytes_conv (show textL room xs ≠ [] by unfold textL roomL; simp) (unhide R)
          subst hv
          by_cases q4 : 20000 < (textL room xs).length
          · have E := hide (unhide N4 q4)
            clear hcv
            go_wp2_with fail
            go_ret
            exact ⟨by rw [unhide E]; rfl, hbl⟩
          · have E := hide (unhide YES (unhide ALL) (by omega))
            go_wp2_with fail
            go_ret
            exact ⟨by rw [unhide E]; rfl, hbl⟩
end Go.Proofs.YtddkhnclmeikfacGreatDoor
