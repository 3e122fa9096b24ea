import Derived.Test.YtddkhnclmeikfacGreatDoorYj
import Derived.Shelf.Strconv.ParseIntPublic10
namespace Go.Proofs.YtddkhnclmeikfacGreatDoor
open Go.RowKit
attribute [local go_sem ↓] Go.wp_at_zero Go.wp_at_succ

/-! The program's numbers, read. -/
theorem parseInt_any (l : List UInt8) (hl : l.length ≤ 20000) (W : World) (hL : LibAt W) : Calls Tryz.prog 252 #[.string (sB l), .int .i64 10, .int .i64 64] W fun e w' =>
    (∃ n : Int, Lib.parseIntB 64 l = .ok n ∧ e = .returned (.tuple #[.int .i64 n, .nilIface]) ∧ Ext W w') ∨ ((∀ n, Lib.parseIntB 64 l ≠ .ok n) ∧ ∃ (n : Int) (t : TypeId) (N : Nat), e = .returned (.tuple #[.int .i64 n, .iface t (.pointer (some ⟨N, 0, none⟩))]) ∧ Ext W w') := by
  have hs : (sB l).data.toList = l := rfl
  have hz : (sB l).size = l.length := by simp [ByteArray.size]
  cases q : Lib.parseIntB 64 l with
  | ok n =>
    refine (Any.strconv_ParseInt_10_at64_ok Tryz.laysC174 (sB l) (by omega) n (by rw [hs]; exact q) W).mono ?_
    rintro e w' ⟨rfl, hw⟩
    refine .inl ⟨n, rfl, rfl, ?_⟩
    rcases hw with rfl | ⟨t, rfl⟩
    · exact Ext.refl _
    · exact Lib.bytesWorld_below ..
  | «syntax» =>
    obtain ⟨t, p, hc⟩ := hL.2.1
    refine (Any.strconv_ParseInt_10_at64_syntax Tryz.laysC174 (sB l) (by omega) (by rw [hs]; exact q) _ W hc (.inr ⟨t, p, rfl⟩)).mono ?_
    rintro e w' ⟨N, rfl, _, _, hb⟩
    exact .inr ⟨(fun n h => by cases h), _, _, N, rfl, hb⟩
  | range =>
    obtain ⟨t, p, hc⟩ := hL.2.2
    refine (Any.strconv_ParseInt_10_at64_range Tryz.laysC174 (sB l) (by omega) (by rw [hs]; exact q) _ W hc (.inr ⟨t, p, rfl⟩)).mono ?_
    rintro e w' ⟨N, rfl, _, _, hb⟩
    exact .inr ⟨(fun n h => by cases h), _, _, N, rfl, hb⟩
set_option maxRecDepth 100000 in
set_option maxHeartbeats 600000 in
theorem number_any (b ln : Nat) (rest l : List UInt8) (W : World) (h : RdAt W b rest ln) (hL : LibAt W) (hp : PowAt W) (hl : l.length ≤ 20000) :
    Calls Tryz.prog 176 #[.pointer (some ⟨b, 0, none⟩), .string (sB l)] W fun e w' => ((numB l = true ∧ Hid (e = .returned (.int .i64 (numV l)))) ∨ (numB l = false ∧ Hid (e = faultP ln))) ∧ Ext W w' := by
  have QP := hide (parseInt_any l hl W hL)
  have RD := hide h
  have HP := hide hp
  clear h hp hL
  go_enter Tryz.func176, Tryz.ntmps176
  go_wp2_with fail
  refine (unhide QP).mono ?_
  rintro e w2 (⟨n, hn, rfl, x2⟩ | ⟨hno, n, t, N, rfl, x2⟩)
  · have IN := parse_in hn
    have QD := hide (decimal_any n IN.1 IN.2 w2 ((unhide HP).ext x2))
    have R2 := hide ((unhide RD).ext x2)
    cases q : (Lib.itoa n == l)
    · have NB := hide (show numB l = false by
        cases qb : numB l with
        | false => rfl
        | true =>
          have h1 := (numB_iff l).1 qb
          have h2 := parse_itoa h1.1
          rw [← h1.2, hn] at h2
          have h3 := Lib.NumEnd.ok.inj h2
          rw [h3, ← h1.2] at q
          simp at q)
      go_wp2_with (go_at_call 70; refine (unhide QD).mono ?_; rintro e w3 ⟨rfl, x3⟩)
      refine (must_no b ln rest w3 ((unhide R2).ext x3)).mono ?_
      rintro e w4 ⟨rfl, hw4⟩
      subst hw4
      exact ⟨rfl, .inr ⟨unhide NB, rfl⟩, x2.trans x3⟩
    · have NB := hide (numB_of (l := l) (n := n) ⟨IN, by simpa using (beq_iff_eq.1 q).symm⟩)
      go_wp2_with (go_at_call 70; refine (unhide QD).mono ?_; rintro e w3 ⟨rfl, x3⟩)
      refine (must_yes b w3).mono ?_
      rintro e w4 ⟨rfl, hw4⟩
      subst hw4
      go_wp2_with fail
      go_ret
      exact ⟨.inl ⟨(unhide NB).1, hide (by rw [(unhide NB).2]; rfl)⟩, x2.trans x3⟩
  · have NB := hide (show numB l = false by
      cases qb : numB l with
      | false => rfl
      | true =>
        have h1 := (numB_iff l).1 qb
        have h2 := parse_itoa h1.1
        rw [← h1.2] at h2
        exact absurd h2 (hno _))
    go_wp2_with fail
    refine (must_no b ln rest w2 ((unhide RD).ext x2)).mono ?_
    rintro e w4 ⟨rfl, hw4⟩
    subst hw4
    exact ⟨rfl, .inr ⟨unhide NB, rfl⟩, x2⟩
end Go.Proofs.YtddkhnclmeikfacGreatDoor
