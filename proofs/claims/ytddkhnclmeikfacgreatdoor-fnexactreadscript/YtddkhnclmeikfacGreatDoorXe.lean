import Derived.Test.YtddkhnclmeikfacGreatDoorXd
import Derived.Test.YtddkhnclmeikfacGreatDoorXs
import Derived.Lib.AppendIntMem
namespace Go.Proofs.YtddkhnclmeikfacGreatDoor
open Go.RowKit
attribute [local go_sem ↓] Go.wp_at_zero Go.wp_at_succ

/-! The program's numbers and lines. -/
/-- the name of the library's table of powers of ten -/
def powName : String := "internal/strconv.uint64pow10"
def PowAt (w : World) : Prop := Lib.TabIs Tryz.prog w powName .u64 Lib.pow10Tab
theorem PowAt.ext {w w' : World} (h : PowAt w) (e : Ext w w') : PowAt w' := Lib.tabBelow_of_tabIs h w' e
theorem tab_as {w : World} {s t : String} (e : s = t) (h : Lib.TabIs Tryz.prog w t .u64 Lib.pow10Tab) : Lib.TabIs Tryz.prog w s .u64 Lib.pow10Tab := e ▸ h
def letT : List (List UInt8) := [[], [65, 66, 67], [65, 78], [65], [65, 66], [65, 66, 67], [65, 66, 67], [65, 66, 67], [65, 66, 67], [65, 67], [65, 67], [65, 67], [65, 67], [65, 66], [65], [65], [65], [65], [], [65], [], [], [67], [66, 67], []]
def letL (op : Int) : List UInt8 := letT.getD op.toNat []
/-- the program's table of acts lies as it is written -/
def FormsAt (w : World) : Prop := ∀ k : Nat, k < 25 → w.cell? ⟨0, k * 2, none⟩ = some (.string ⟨(nameL k).toArray⟩) ∧ w.cell? ⟨0, k * 2 + 1, none⟩ = some (.string ⟨(letL k).toArray⟩)
theorem FormsAt.ext {w w' : World} (h : FormsAt w) (e : Ext w w') : FormsAt w' := fun k hk => ⟨e.keep (h k hk).1, e.keep (h k hk).2⟩
def Tab (w : World) : Prop := PowAt w ∧ FormsAt w
theorem Tab.ext {w w' : World} (h : Tab w) (e : Ext w w') : Tab w' := ⟨h.1.ext e, h.2.ext e⟩
set_option maxRecDepth 100000 in
theorem decimal_any (n : Int) (h0 : -9223372036854775808 ≤ n) (h1 : n ≤ 9223372036854775807) (w : World) (hp : PowAt w) : Calls Tryz.prog 70 #[.int .i64 n] w fun e w' => e = .returned (.string ⟨(Lib.itoa n).toArray⟩) ∧ Ext w w' := by
  have Q := hide (fun W (h : PowAt W) => Any.strconv_FormatInt_10 Tryz.laysM173 n h0 h1 W (tab_as (by kernel_rfl) h))
  have HP := hide hp
  clear hp
  go_enter Tryz.func70, Tryz.ntmps70
  go_wp2_with (go_at_call 128; refine (unhide Q _ (unhide HP)).mono ?_; rintro e w2 ⟨rfl, k, os, rfl⟩)
  go_ret
  exact ⟨rfl, Lib.below_grow _ w (Nat.le_refl _) k os⟩
def Ak.byLet (x : Ak) (c : Int) : Int := if c = 65 then x.a else if c = 66 then x.b else if c = 67 then x.c else x.n
set_option maxRecDepth 100000 in
theorem field_any (x : Ak) (c : Int) (w : World) : Calls Tryz.prog 123 #[x.v, .int .i32 c] w fun e w' => e = .returned (.int .i64 (x.byLet c)) ∧ Ext w w' := by
  by_cases q1 : c = 65
  · subst q1
    go_enter Tryz.func123, Tryz.ntmps123
    go_wp2
    go_ret
    exact ⟨rfl, (Ext.refl _).alloc _⟩
  · by_cases q2 : c = 66
    · subst q2
      go_enter Tryz.func123, Tryz.ntmps123
      go_wp2
      go_ret
      exact ⟨rfl, (Ext.refl _).alloc _⟩
    · by_cases q3 : c = 67
      · subst q3
        go_enter Tryz.func123, Tryz.ntmps123
        go_wp2
        go_ret
        exact ⟨rfl, (Ext.refl _).alloc _⟩
      · have E := hide (show x.byLet c = x.n by unfold Ak.byLet; rw [if_neg q1, if_neg q2, if_neg q3])
        have r1 : (c == 65) = false := by simpa using q1
        have r2 : (c == 66) = false := by simpa using q2
        have r3 : (c == 67) = false := by simpa using q3
        clear q1 q2 q3
        go_enter Tryz.func123, Tryz.ntmps123
        go_wp2
        go_ret
        exact ⟨by rw [unhide E]; rfl, (Ext.refl _).alloc _⟩
/-- a word and the numbers behind it -/
def numsT (ns : List Int) : List UInt8 := ns.flatMap (fun n => 32 :: Lib.itoa n)
theorem nums_take (ns : List Int) (k : Nat) (hk : k < ns.length) : numsT (ns.take (k + 1)) = numsT (ns.take k) ++ 32 :: Lib.itoa ns[k] := by
  unfold numsT
  rw [List.take_succ_eq_append_getElem hk, List.flatMap_append]; simp
def FitN (ns : List Int) : Prop := ∀ n ∈ ns, -9223372036854775808 ≤ n ∧ n ≤ 9223372036854775807
theorem nums_len {ns : List Int} (h : FitN ns) : (numsT ns).length ≤ 22 * ns.length := by
  unfold numsT
  induction ns with
  | nil => simp
  | cons n ns ih =>
    have h1 := ih (fun m hm => h m (List.mem_cons_of_mem _ hm))
    have h2 := h n (List.mem_cons_self ..)
    have h3 := Lib.itoa_length_le n h2.1 h2.2
    rw [List.flatMap_cons, List.length_append, List.length_cons, List.length_cons]
    omega
set_option maxRecDepth 100000 in
set_option maxHeartbeats 600000 in
theorem lineOf_any (wd : List UInt8) (ns : List Int) (v : Value) (w : World) (hv : SlI w v ns) (hf : FitN ns) (hw : wd.length ≤ 100) (hn : ns.length ≤ 4) (hp : PowAt w) :
    Calls Tryz.prog 61 #[.string ⟨wd.toArray⟩, v] w fun e w' => e = .returned (.string ⟨(wd ++ numsT ns ++ [10]).toArray⟩) ∧ Ext w w' := by
  obtain ⟨ad, cap, rfl, _, hx⟩ := hv
  have HX := hide hx
  clear hx
  have HP := hide hp
  clear hp
  have LN := hide (fun k => nums_len (ns := ns.take k) (fun n hn => hf n (List.mem_of_mem_take hn)))
  go_enter Tryz.func61, Tryz.ntmps61
  go_wp2_with fail
  go_loopw [0, 9] (fun v i wr => ∃ k : Nat, k ≤ ns.length ∧ i = .int .i64 k ∧ v = .string ⟨(wd ++ numsT (ns.take k)).toArray⟩ ∧ Ext w wr) (fun _ i _ => ns.length - (intOf i).toNat)
  case atStart => exact ⟨0, by omega, rfl, by simp [numsT], Ext.refl _⟩
  case round =>
    obtain ⟨k, hk, rfl, rfl, hb⟩ := hrel
    have ln := unhide LN k
    rw [List.length_take] at ln
    by_cases hlt : k < ns.length
    · obtain ⟨b, o, rfl, c0⟩ := unhide HX k hlt
      have e0 : wr.cell? ⟨b, o + k, none⟩ = some (.int .i64 ns[k]) := by have := hb.keep c0; simpa using this
      clear c0
      have FT := hf ns[k] (List.getElem_mem hlt)
      have b1 := Lib.itoa_length_le ns[k] FT.1 FT.2
      have QD := hide (decimal_any ns[k] FT.1 FT.2 wr ((unhide HP).ext hb))
      have NX := hide (nums_take ns k hlt)
      obtain ⟨y, hy⟩ : ∃ y, y = ns[k] := ⟨_, rfl⟩
      rw [← hy] at e0 b1 QD NX
      clear hy FT
      have hk0 : (0 : Int) ≤ (k : Int) := by omega
      have hk1 : (k : Int) < (ns.length : Int) := by omega
      go_wp2_with fail
      refine (unhide QD).mono ?_
      rintro e w4 ⟨rfl, x4⟩
      go_wp2_with fail
      go_roundw
      case rel => exact ⟨k + 1, by omega, by go_num, by rw [unhide NX]; exact congrArg Value.string ((congrArg _ (str_app [32] _)).trans ((str_app _ _).trans (by simp))), hb.trans x4⟩
      case measure => simp [intOf]; omega
    · have e : k = ns.length := by omega
      subst e
      rw [List.take_length] at ln ⊢
      go_wp2_with fail
      go_ret
      exact ⟨congrArg (fun s => Ending.returned (Value.string s)) (str_app _ [10]), hb⟩
end Go.Proofs.YtddkhnclmeikfacGreatDoor
