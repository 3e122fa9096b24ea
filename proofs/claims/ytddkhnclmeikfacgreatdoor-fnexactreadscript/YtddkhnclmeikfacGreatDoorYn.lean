import Derived.Test.YtddkhnclmeikfacGreatDoorYm
import Derived.Test.YtddkhnclmeikfacGreatDoorKb0
import Derived.WalkMore
namespace Go.Proofs.YtddkhnclmeikfacGreatDoor
open Go.RowKit
attribute [local go_sem ↓] Go.wp_at_zero Go.wp_at_succ

/-! The program's lines of acts. -/
def slen : Option Value → Nat
  | some (.string s) => s.size
  | _ => 0
theorem only_grown {S : Nat → Prop} {a W w5 : World} {v : Value} {base : Nat} {t : TypeId} {c n : Nat} {xs : List Value} (oa : Only S a W) (hown : W.ownsRow base t c v n xs) (hb : a.heap.size ≤ base) (hg : W.grownBy w5 v.ownBlock) : Only S a w5 := by
  have h2 : Only (fun q => S q ∨ base ≤ q) W w5 := ⟨hg.os, hg.tape, hg.output, hg.size, fun k hk hs => hg.block k hk (fun e => hs (.inr (hown.lt k e.symm).1))⟩
  have h3 := (oa.mono (T := fun q => S q ∨ base ≤ q) (fun k h => .inl h)).trans h2
  exact ⟨h3.os, h3.tape, h3.output, h3.size, fun k hk hs => h3.block k hk (fun h => by
    rcases h with h | h
    · exact hs h
    · omega)⟩
/-- how the reading of all acts ends -/
def ActsEnd (R : Rd) (room : Int) (B : Nat) (e : Ending) (w' : World) : Prop := (∃ v acc, R = .good room acc ∧ e = .returned v ∧ w'.ownsRow B 40 5 v acc.length (acc.flatMap fA)) ∨ (∃ n, R = .bad n ∧ e = faultP n)
set_option maxRecDepth 100000 in
set_option maxHeartbeats 1000000 in
theorem acts_any (w0 W : World) (b : Nat) (room : Int) (rest0 : List UInt8) (hcx : Cx w0 W b) (h : RdAt W b rest0 1) (hl : rest0.length ≤ 20000) :
    Calls Tryz.prog 117 #[.pointer (some ⟨b, 0, none⟩)] W fun e w' => Hid (ActsEnd (rdActs room rest0.length 1 [] rest0) room W.heap.size e w') ∧ Only (fun q => q = b) W w' := by
  obtain ⟨i0, hi0, hz0, hz1, hz2⟩ := info_parts infoActs
  have HC := hide hcx
  have RD := hide h
  have hbW : b < W.heap.size := cell_lt h.1
  obtain ⟨R, hR⟩ : ∃ R, R = rdActs room rest0.length 1 [] rest0 := ⟨_, rfl⟩
  rw [← hR]
  have HR := hide hR
  clear hR hcx h
  go_enter Tryz.func117, Tryz.ntmps117
  go_wp2_with fail
  go_step3
  go_wp2_with fail
  go_step3
  go_wp2_with fail
  go_loopw [3] (fun v wr => ∃ (n fuel : Nat) (acc : List Ak) (rest : List UInt8), Hid (rest.length ≤ fuel ∧ rdActs room fuel n acc rest = R) ∧ Hid (RdAt wr b rest n) ∧ Hid (wr.ownsRow W.heap.size 40 5 v acc.length (acc.flatMap fA)) ∧ 1 ≤ n ∧ rest.length + n ≤ 20001 ∧ acc.length ≤ 1000 ∧ Only (fun q => q = b) W wr) (fun _ wr => slen (wr.cell? ⟨b, 0, none⟩))
  case atStart => exact ⟨1, rest0.length, [], rest0, hide ⟨Nat.le_refl _, (unhide HR).symm⟩, unhide RD, World.ownsRow_nil _ _ _ _, Nat.le_refl _, by omega, by simp, Only.refl _ _⟩
  case round =>
    obtain ⟨n, fuel, acc, rest, hfr, hrd, hown, hn1, hlen, hal, hon⟩ := hrel
    obtain ⟨s0, s1, s2, s3⟩ := unhide hrd
    have CX := hide ((unhide HC).on hon)
    obtain ⟨ad, cap, hv⟩ : ∃ ad cap, u3 = .slice ad acc.length cap := by
      rcases (unhide hown).2 with ⟨h1, h2⟩ | ⟨g, cap, _, h1, _⟩
      · exact ⟨none, 0, by rw [h1, h2]⟩
      · exact ⟨_, _, h1⟩
    subst hv
    by_cases he : rest = []
    · subst he
      have E := hide (show R = .good room acc by rw [← (unhide hfr).2, rdActs_end])
      go_wp2_with fail
      (try rw [Exit.noGoto_ret])
      go_ret
      exact ⟨hide (.inl ⟨_, acc, unhide E, rfl, unhide hown⟩), hon⟩
    · have q1 : (rest == []) = false := by simpa using he
      have hpos := List.length_pos_iff.2 he
      cases qc : cutN rest with
      | none =>
        have QW := hide (words_none b n rest wr (unhide hrd) (unhide CX).far (unhide CX).lib (by omega) (by omega) qc)
        have E := hide (show R = .bad (n + 1) by rw [← (unhide hfr).2]; exact rdActs_cut (unhide hfr).1 he qc)
        go_wp2_with fail
        refine (unhide QW).mono ?_
        rintro e w2 ⟨he2, o2⟩
        have e2 := unhide he2
        subst e2
        exact ⟨rfl, hide (.inr ⟨n + 1, unhide E, rfl⟩), hon.trans o2⟩
      | some lr =>
        obtain ⟨line, rest'⟩ := lr
        have hcl := cutN_len qc
        have QW := hide (words_some b n rest line rest' wr (unhide hrd) (unhide CX).far (unhide CX).lib (by omega) (by omega) qc)
        have QC := hide qc
        clear qc
        go_wp2_with fail
        refine (unhide QW).mono ?_
        rintro e w2 ⟨v, he2, hwo, hr2, o2⟩
        have e2 := unhide he2
        clear he2
        subst e2
        have C2 := hide ((unhide CX).on o2)
        have R2 := hide hr2
        have ON2 := hide (hon.trans o2)
        have OW2 := hide (ownsRow_of_block (unhide hown) (fun q hq => o2.block q ((unhide hown).lt q hq).2 (fun e => by have := ((unhide hown).lt q hq).1; omega)))
        obtain ⟨wd, ws, hw⟩ : ∃ w0 ws, wordsL line = w0 :: ws := by
          cases q : wordsL line with
          | nil => exact absurd q (words_ne line)
          | cons a b => exact ⟨a, b, rfl⟩
        have WL := hide (fun x (hx : x ∈ ws) => word_le (l := line) x (by rw [hw]; exact List.mem_cons_of_mem _ hx))
        have HW := hide hw
        have LN := hide (show (wordsL line).length = ws.length + 1 by rw [hw]; rfl)
        have SH := hide (show ws.length ≤ 20000 by
          have := words_len line
          rw [hw, List.length_cons] at this; omega)
        obtain ⟨adw, capw, hvw, hxw⟩ := own_strs (unhide hwo)
        subst hvw
        have C0 := hide (show ∃ g, adw = some ⟨g, 0, none⟩ ∧ (w2.cell? ⟨g, 0, none⟩ = some (.string (sB wd)) ∧ ∀ i (hi : i < ws.length), w2.cell? ⟨g, 1 + i, none⟩ = some (.string (sB ws[i]))) by
          obtain ⟨g, hg, c0⟩ := hxw 0 (by rw [hw]; simp)
          refine ⟨g, hg, by simpa [hw] using c0, fun i hi => ?_⟩
          obtain ⟨g1, hg1, c1⟩ := hxw (i + 1) (by rw [hw]; simp; omega)
          rw [hg] at hg1
          cases hg1
          rw [Nat.add_comm 1 i]
          simpa [hw] using c1)
        have CAP := hide (show ws.length + 1 ≤ capw by
          rcases (unhide hwo).2 with ⟨h1, h2⟩ | ⟨g, cap, cur, h1, _, _, h3, _⟩
          · rw [hw] at h2; simp at h2
          · injection h1 with _ _ h4
            rw [h4, ← unhide LN]; exact h3)
        obtain ⟨g, rfl, c0, cs⟩ := unhide C0
        have CS := hide cs
        rw [unhide LN]
        have capw1 := unhide CAP
        clear hxw hwo hw C0 cs QW LN hr2 s0 s1 s2 s3
        by_cases h1000 : acc.length < 1000
        rotate_left
        · have E := hide (show R = .bad (n + 1) by rw [← (unhide hfr).2]; exact rdActs_many (unhide hfr).1 (unhide QC) h1000)
          have hI : ((acc.length : Int) < 1000) = False := by simp; omega
          go_wp2_with fail
          refine (must_no b (n + 1) rest' w2 (unhide R2)).mono ?_
          rintro e w3 ⟨he3, hw3⟩
          subst hw3
          unfold faultP at he3
          subst he3
          go_wp2_with fail
          exact ⟨rfl, hide (.inr ⟨n + 1, unhide E, rfl⟩), unhide ON2⟩
        · have hI : (acc.length : Int) < 1000 := by omega
          go_wp2_with fail
          refine (must_yes b w2).mono ?_
          rintro e w3 ⟨rfl, hw3⟩
          subst hw3
          go_wp2_with fail
          obtain ⟨WO, hWO⟩ : ∃ V, V = wr := ⟨_, rfl⟩
          subst hWO
          go_loopw [3, 5] (fun va o wr => ∃ k : Nat, va = .slice ad acc.length cap ∧ 1 ≤ k ∧ k ≤ 25 ∧ o = .int .i64 k ∧ Hid (∀ j : Nat, 1 ≤ j → j < k → nameL (j : Nat) ≠ wd) ∧ Ext w3 wr) (fun _ o _ => 25 - (intOf o).toNat)
          case atStart => exact ⟨1, rfl, by omega, by omega, rfl, hide (fun j h1 h2 => by omega), Ext.refl _⟩
          case round =>
            obtain ⟨k, rfl, hk1, hk2, rfl, hno, hbl⟩ := hrel
            have R3 := hide ((unhide R2).ext hbl)
            by_cases hlt : k ≤ 24
            rotate_left
            · have E := hide (show R = .bad (n + 1) by
                rw [← (unhide hfr).2]
                exact rdActs_no (unhide hfr).1 (unhide QC) (actO_none (unhide HW) (fun j h1 h2 => unhide hno j h1 (by omega))))
              obtain ⟨s0, s1, s2, s3⟩ := unhide R3
              go_wp2_with fail
              exact ⟨rfl, hide (.inr ⟨n + 1, unhide E, rfl⟩), (unhide ON2).trans (Only.of_ext hbl)⟩
            · have e0 := hbl.keep c0
              have ff := ((unhide C2).tab.ext hbl).2 k (by omega)
              have f0 := ff.1
              have hk0 : (0 : Int) ≤ (k : Int) := by omega
              have hk3 : (k : Int) < 25 := by omega
              have hk4 : (k : Int) ≤ 24 := by omega
              obtain ⟨nm, hnm⟩ : ∃ s, s = nameL (k : Nat) := ⟨_, rfl⟩
              rw [← hnm] at f0
              have HNM := hide hnm
              clear hnm ff
              cases q : (wd == nm)
              · have NX := hide (show ∀ j : Nat, 1 ≤ j → j < k + 1 → nameL (j : Nat) ≠ wd from fun j h1 h2 => by
                  by_cases e : j = k
                  · subst e; rw [← unhide HNM]; intro e2; rw [e2] at q; simp at q
                  · exact unhide hno j h1 (by omega))
                go_wp2_with fail
                go_region
                go_wp2_with fail
                exact ⟨⟨k + 1, rfl, by omega, by omega, by go_num, unhide NX, Ext.drew hbl⟩, by simp [intOf]; omega⟩
              · have AO := hide (actO_op (unhide HW) hk1 hlt (by rw [← unhide HNM]; exact (beq_iff_eq.1 q).symm))
                have QA := hide (fun ad had cp => act_any w0 wr.drew b (n + 1) k g cp ad rest' ws had ((unhide C2).ext (Ext.drew hbl)) ((unhide R3).ext (Ext.drew (Ext.refl wr))) hk1 hlt (fun x hx => by have := unhide WL x hx; omega) (fun i hi => (Ext.drew hbl).keep (unhide CS i hi)))
                have sh := unhide SH
                go_wp2_with fail
                go_region
                go_wp2_with fail
                all_goals
                  refine (unhide QA _ (fun h => by first | rfl | omega) _).mono ?_
                  rintro e w4 ⟨hans, x4⟩
                  have X4 := hide (show Ext w3 w4 from (Ext.drew hbl).trans x4)
                  rcases unhide hans with ⟨hg, he4⟩ | ⟨hg, he4⟩
                  · subst he4
                    have AY := hide (show actO line = some (actOf k ws) by rw [unhide AO, hg]; rfl)
                    obtain ⟨y, hy⟩ : ∃ y, y = actOf k ws := ⟨_, rfl⟩
                    rw [← hy] at AY ⊢
                    clear hy hans
                    have NX := hide (show rest'.length ≤ fuel - 1 ∧ rdActs room (fuel - 1) (n + 1) (acc ++ [y]) rest' = R by
                      have h1 := (unhide hfr).1
                      exact ⟨by omega, by rw [← (unhide hfr).2, rdActs_step h1 (unhide QC) h1000 (unhide AY)]⟩)
                    have O4 := hide (ownsRow_of_block (unhide OW2) (fun q hq => (unhide X4).block q ((unhide OW2).lt q hq).2))
                    have hbs := (unhide ON2).size
                    have hxs := (unhide X4).size
                    clear x4
                    go_wp2_with (at_builtin; refine wpList_append_lies _ rfl _ _ 47 rfl W.heap.size 40 i0 (.agg #[iv 0, iv 0, iv 0, iv 0, iv 0]) 5 40 Tryz.underlying47 hi0 hz0 hz1 hz2 rfl (by decide) _ acc.length (acc.flatMap fA) rfl ((unhide O4).alloc _) _ 1 1 (fA y) rfl rfl ?c1 ?c2 (by decide) ?c3 ?c4 ?c5 _ rfl ?_)
                    case c1 =>
                      intro q u hk
                      match q, hk with
                      | 0, hk => simp [fA] at hk; subst hk; simp [Addr.add, go_sem]
                      | 1, hk => simp [fA] at hk; subst hk; simp [Addr.add, go_sem]
                      | 2, hk => simp [fA] at hk; subst hk; simp [Addr.add, go_sem]
                      | 3, hk => simp [fA] at hk; subst hk; simp [Addr.add, go_sem]
                      | 4, hk => simp [fA] at hk; subst hk; simp [Addr.add, go_sem]
                      | q + 5, hk => simp [fA] at hk
                    case c2 => intro u hu; simp [fA] at hu; rcases hu with e | e | e | e | e <;> subst e <;> rfl
                    case c3 => unfold maxLen; omega
                    case c4 => omega
                    case c5 => simp; omega
                    intro gg cap' w5 hown5 hgrow hat hglt
                    have R5 := hide (show w5.ownsRow W.heap.size 40 5 (.slice (some ⟨gg, 0, none⟩) (acc.length + 1) cap') (acc ++ [y]).length ((acc ++ [y]).flatMap fA) by
                      rw [List.flatMap_append]
                      simpa using hown5)
                    have ON5 := hide (only_grown (((unhide ON2).trans (Only.of_ext (unhide X4))).trans (Only.of_ext ((Ext.refl w4).alloc _))) ((unhide O4).alloc _) (Nat.le_refl _) hgrow)
                    have RD5 := hide (((unhide R2).ext (unhide X4)).of_block (W' := w5) ((hgrow.block b (by simp; omega) (fun e => by have := (((unhide O4).alloc (.cells #[iv y.op, iv y.a, iv y.b, iv y.c, iv y.n] 40)).lt b e.symm).1; omega)).trans (Lib.alloc_old _ _ b (by omega))))
                    have M5 := hide (show slen (w5.cell? ⟨b, 0, none⟩) < slen (WO.cell? ⟨b, 0, none⟩) by
                      rw [(unhide RD5).1, (unhide hrd).1]
                      show (sB rest').size < (sB rest).size
                      simp only [ByteArray.size, List.size_toArray]; omega)
                    clear hown5 hgrow hat
                    go_wp2_with fail
                    go_roundw
                    case rel => exact ⟨n + 1, fuel - 1, acc ++ [y], rest', unhide NX, unhide RD5, unhide R5, by omega, by omega, by simp; omega, unhide ON5⟩
                    case measure => exact unhide M5
                  · have E := hide (show R = .bad (n + 1) by
                      rw [← (unhide hfr).2]
                      exact rdActs_no (unhide hfr).1 (unhide QC) (act_refuse (unhide AO) hg))
                    unfold faultP at he4
                    subst he4
                    go_wp2_with fail
                    exact ⟨rfl, hide (.inr ⟨n + 1, unhide E, rfl⟩), (unhide ON2).trans (Only.of_ext (unhide X4))⟩
end Go.Proofs.YtddkhnclmeikfacGreatDoor
