import Derived.Test.YtbcmjcomdjdjaaaGreatImpS
import Derived.Test.YtbcmjcomdjdjaaaGreatImpP
import Derived.Test.YtbcmjcomdjdjaaaGreatImpR
import Derived.Laws.EntriesVeiled
namespace Go.Proofs.YtbcmjcomdjdjaaaGreat
open Go.RowKit
attribute [local go_sem ↓] Go.wp_at_zero Go.wp_at_succ

def Rn (x : Hp) : Nat → Prop
  | 0 => R1 x
  | 1 => R2 x
  | 2 => R3 x
  | 3 => R4 x
  | 4 => R5 x
  | 5 => R6 x
  | 6 => R7 x
  | _ => R8 x
theorem okis_fail {x : Hp} {k : Nat} (hk : k < 8) (h : ∀ j, j < k → Rn x j) (hn : ¬ Rn x k) : OkIs x ((k : Int) + 1) := by
  unfold OkIs
  have h0 := h 0
  have h1 := h 1
  have h2 := h 2
  have h3 := h 3
  have h4 := h 4
  have h5 := h 5
  have h6 := h 6
  simp only [Rn] at h0 h1 h2 h3 h4 h5 h6
  match k, hk with
  | 0, _ => exact .inl ⟨hn, rfl⟩
  | 1, _ => exact .inr (.inl ⟨h0 (by omega), hn, rfl⟩)
  | 2, _ => exact .inr (.inr (.inl ⟨h0 (by omega), h1 (by omega), hn, rfl⟩))
  | 3, _ => exact .inr (.inr (.inr (.inl ⟨h0 (by omega), h1 (by omega), h2 (by omega), hn, rfl⟩)))
  | 4, _ => exact .inr (.inr (.inr (.inr (.inl ⟨h0 (by omega), h1 (by omega), h2 (by omega), h3 (by omega), hn, rfl⟩))))
  | 5, _ => exact .inr (.inr (.inr (.inr (.inr (.inl ⟨h0 (by omega), h1 (by omega), h2 (by omega), h3 (by omega), h4 (by omega), hn, rfl⟩)))))
  | 6, _ => exact .inr (.inr (.inr (.inr (.inr (.inr (.inl ⟨h0 (by omega), h1 (by omega), h2 (by omega), h3 (by omega), h4 (by omega), h5 (by omega), hn, rfl⟩))))))
  | 7, _ => exact .inr (.inr (.inr (.inr (.inr (.inr (.inr (.inl ⟨h0 (by omega), h1 (by omega), h2 (by omega), h3 (by omega), h4 (by omega), h5 (by omega), h6 (by omega), hn, rfl⟩)))))))
theorem okis_ok {x : Hp} (h : ∀ j, j < 8 → Rn x j) : OkIs x 0 := by
  unfold OkIs
  exact .inr (.inr (.inr (.inr (.inr (.inr (.inr (.inr ⟨h 0 (by omega), h 1 (by omega), h 2 (by omega), h 3 (by omega), h 4 (by omega), h 5 (by omega), h 6 (by omega), h 7 (by omega), rfl⟩)))))))
theorem rn_step {x : Hp} {k : Nat} (h : ∀ j, j < k → Rn x j) (hn : Rn x k) : ∀ j, j < k + 1 → Rn x j := fun j hj => by
  by_cases e : j = k
  · rw [e]; exact hn
  · exact h j (by omega)

theorem prs200 {x : Hp} (r2 : R2 x) (i : Nat) (hi : i < x.cells.length) : (x.c i).prs.length ≤ 200 := by
  rcases r2.1 i hi with c | c | c
  · have := c.2.1.2.2.2.2.2; omega
  · have := c.2.1.2.2.2.2.2; omega
  · exact c.2.2.2.2.2.2.2

theorem fault_idx (b : Nat) : (∀ w, (Instr.index 128 (.agg #[.func (.func 95) #[.pointer (some ⟨b, 0, none⟩)] #[], .func (.func 97) #[.pointer (some ⟨b, 0, none⟩)] #[], .func (.func 98) #[.pointer (some ⟨b, 0, none⟩)] #[], .func (.func 99) #[.pointer (some ⟨b, 0, none⟩)] #[], .func (.func 100) #[.pointer (some ⟨b, 0, none⟩)] #[], .func (.func 101) #[.pointer (some ⟨b, 0, none⟩)] #[], .func (.func 102) #[.pointer (some ⟨b, 0, none⟩)] #[], .func (.func 103) #[.pointer (some ⟨b, 0, none⟩)] #[]]) (.int .i64 0)).run Tryz.prog w = .ok (.func (.func 95) #[.pointer (some ⟨b, 0, none⟩)] #[]) w) ∧ (∀ w, (Instr.index 128 (.agg #[.func (.func 95) #[.pointer (some ⟨b, 0, none⟩)] #[], .func (.func 97) #[.pointer (some ⟨b, 0, none⟩)] #[], .func (.func 98) #[.pointer (some ⟨b, 0, none⟩)] #[], .func (.func 99) #[.pointer (some ⟨b, 0, none⟩)] #[], .func (.func 100) #[.pointer (some ⟨b, 0, none⟩)] #[], .func (.func 101) #[.pointer (some ⟨b, 0, none⟩)] #[], .func (.func 102) #[.pointer (some ⟨b, 0, none⟩)] #[], .func (.func 103) #[.pointer (some ⟨b, 0, none⟩)] #[]]) (.int .i64 1)).run Tryz.prog w = .ok (.func (.func 97) #[.pointer (some ⟨b, 0, none⟩)] #[]) w) ∧ (∀ w, (Instr.index 128 (.agg #[.func (.func 95) #[.pointer (some ⟨b, 0, none⟩)] #[], .func (.func 97) #[.pointer (some ⟨b, 0, none⟩)] #[], .func (.func 98) #[.pointer (some ⟨b, 0, none⟩)] #[], .func (.func 99) #[.pointer (some ⟨b, 0, none⟩)] #[], .func (.func 100) #[.pointer (some ⟨b, 0, none⟩)] #[], .func (.func 101) #[.pointer (some ⟨b, 0, none⟩)] #[], .func (.func 102) #[.pointer (some ⟨b, 0, none⟩)] #[], .func (.func 103) #[.pointer (some ⟨b, 0, none⟩)] #[]]) (.int .i64 2)).run Tryz.prog w = .ok (.func (.func 98) #[.pointer (some ⟨b, 0, none⟩)] #[]) w) ∧ (∀ w, (Instr.index 128 (.agg #[.func (.func 95) #[.pointer (some ⟨b, 0, none⟩)] #[], .func (.func 97) #[.pointer (some ⟨b, 0, none⟩)] #[], .func (.func 98) #[.pointer (some ⟨b, 0, none⟩)] #[], .func (.func 99) #[.pointer (some ⟨b, 0, none⟩)] #[], .func (.func 100) #[.pointer (some ⟨b, 0, none⟩)] #[], .func (.func 101) #[.pointer (some ⟨b, 0, none⟩)] #[], .func (.func 102) #[.pointer (some ⟨b, 0, none⟩)] #[], .func (.func 103) #[.pointer (some ⟨b, 0, none⟩)] #[]]) (.int .i64 3)).run Tryz.prog w = .ok (.func (.func 99) #[.pointer (some ⟨b, 0, none⟩)] #[]) w) ∧ (∀ w, (Instr.index 128 (.agg #[.func (.func 95) #[.pointer (some ⟨b, 0, none⟩)] #[], .func (.func 97) #[.pointer (some ⟨b, 0, none⟩)] #[], .func (.func 98) #[.pointer (some ⟨b, 0, none⟩)] #[], .func (.func 99) #[.pointer (some ⟨b, 0, none⟩)] #[], .func (.func 100) #[.pointer (some ⟨b, 0, none⟩)] #[], .func (.func 101) #[.pointer (some ⟨b, 0, none⟩)] #[], .func (.func 102) #[.pointer (some ⟨b, 0, none⟩)] #[], .func (.func 103) #[.pointer (some ⟨b, 0, none⟩)] #[]]) (.int .i64 4)).run Tryz.prog w = .ok (.func (.func 100) #[.pointer (some ⟨b, 0, none⟩)] #[]) w) ∧ (∀ w, (Instr.index 128 (.agg #[.func (.func 95) #[.pointer (some ⟨b, 0, none⟩)] #[], .func (.func 97) #[.pointer (some ⟨b, 0, none⟩)] #[], .func (.func 98) #[.pointer (some ⟨b, 0, none⟩)] #[], .func (.func 99) #[.pointer (some ⟨b, 0, none⟩)] #[], .func (.func 100) #[.pointer (some ⟨b, 0, none⟩)] #[], .func (.func 101) #[.pointer (some ⟨b, 0, none⟩)] #[], .func (.func 102) #[.pointer (some ⟨b, 0, none⟩)] #[], .func (.func 103) #[.pointer (some ⟨b, 0, none⟩)] #[]]) (.int .i64 5)).run Tryz.prog w = .ok (.func (.func 101) #[.pointer (some ⟨b, 0, none⟩)] #[]) w) ∧ (∀ w, (Instr.index 128 (.agg #[.func (.func 95) #[.pointer (some ⟨b, 0, none⟩)] #[], .func (.func 97) #[.pointer (some ⟨b, 0, none⟩)] #[], .func (.func 98) #[.pointer (some ⟨b, 0, none⟩)] #[], .func (.func 99) #[.pointer (some ⟨b, 0, none⟩)] #[], .func (.func 100) #[.pointer (some ⟨b, 0, none⟩)] #[], .func (.func 101) #[.pointer (some ⟨b, 0, none⟩)] #[], .func (.func 102) #[.pointer (some ⟨b, 0, none⟩)] #[], .func (.func 103) #[.pointer (some ⟨b, 0, none⟩)] #[]]) (.int .i64 6)).run Tryz.prog w = .ok (.func (.func 102) #[.pointer (some ⟨b, 0, none⟩)] #[]) w) ∧ (∀ w, (Instr.index 128 (.agg #[.func (.func 95) #[.pointer (some ⟨b, 0, none⟩)] #[], .func (.func 97) #[.pointer (some ⟨b, 0, none⟩)] #[], .func (.func 98) #[.pointer (some ⟨b, 0, none⟩)] #[], .func (.func 99) #[.pointer (some ⟨b, 0, none⟩)] #[], .func (.func 100) #[.pointer (some ⟨b, 0, none⟩)] #[], .func (.func 101) #[.pointer (some ⟨b, 0, none⟩)] #[], .func (.func 102) #[.pointer (some ⟨b, 0, none⟩)] #[], .func (.func 103) #[.pointer (some ⟨b, 0, none⟩)] #[]]) (.int .i64 7)).run Tryz.prog w = .ok (.func (.func 103) #[.pointer (some ⟨b, 0, none⟩)] #[]) w) :=
  ⟨fun _ => by kernel_rfl, fun _ => by kernel_rfl, fun _ => by kernel_rfl, fun _ => by kernel_rfl, fun _ => by kernel_rfl, fun _ => by kernel_rfl, fun _ => by kernel_rfl, fun _ => by kernel_rfl⟩

set_option maxRecDepth 100000 in
set_option maxHeartbeats 4000000 in
theorem fault_bad (x : Hp) (b : Nat) (w : World) {ar : Option Addr} {kr : Nat} {ac : Option Addr} {kc : Nat} {ag : Option Addr} {kg : Nat} (h : HAt w b x ar kr ac kc ag kg) (hn : ¬ R1 x) :
    Calls Tryz.prog 50 #[.pointer (some ⟨b, 0, none⟩)] w fun e w' => ∃ n : Int, Hid (e = .returned (.int .i64 n)) ∧ OkIs x n ∧ Ext w w' := by
  obtain ⟨i0, _⟩ := fault_idx b
  have HH := hide h
  clear h
  go_enter Tryz.func50, Tryz.ntmps50
  go_wp2_with fail
  go_loopw [24] (fun i wr => i = .int .i64 0 ∧ Ext w wr) (fun _ _ => 0)
  case atStart => exact ⟨rfl, (Ext.refl w).alloc _⟩
  case round =>
    obtain ⟨rfl, hbl⟩ := hrel
    go_wp2_with fail
    refine (limitsKept_any x b _ ((unhide HH).ext hbl)).mono ?_
    rintro e w2 ⟨r, rfl, hr, hq⟩
    have x2 := hbl.trans hq
    cases r
    · have Y := hide (okis_fail (x := x) (k := 0) (by omega) (fun j hj => by omega) hn)
      clear hr
      go_wp2_with fail
      go_ret
      exact ⟨1, rfl, unhide Y, x2⟩
    · exact (hn (hr.1 rfl)).elim

set_option maxRecDepth 100000 in
set_option maxHeartbeats 8000000 in
theorem fault_good (x : Hp) (b : Nat) (w : World) {ar : Option Addr} {kr : Nat} {ac : Option Addr} {kc : Nat} {ag : Option Addr} {kg : Nat} {an : Option Addr} {kn : Nat} {base : Nat} {vf : Value} {F : List Int} (h : VAt w b x ar kr ac kc ag kg an kn) (hF : FAt w b x base vf F) (hcap : CapAt w x ac) (r1 : R1 x) :
    Calls Tryz.prog 50 #[.pointer (some ⟨b, 0, none⟩)] w fun e w' => ∃ n : Int, Hid (e = .returned (.int .i64 n)) ∧ OkIs x n ∧ Ext w w' := by
  obtain ⟨i0, i1, i2, i3, i4, i5, i6, i7⟩ := fault_idx b
  have hn8 : x.cells.length ≤ 8000 := by have := r1.room; have := r1.cells; omega
  have hg8 : x.gray.length ≤ 8000 := by have := r1.gray; omega
  have HV := hide h
  have HFF := hide hF
  have HCAP := hide hcap
  clear h hF hcap r1
  go_enter Tryz.func50, Tryz.ntmps50
  go_wp2_with fail
  go_loopw [24] (fun i wr => ∃ k : Nat, k ≤ 8 ∧ i = .int .i64 k ∧ Hid (∀ j, j < k → Rn x j) ∧ Ext w wr) (fun i _ => 8 - (intOf i).toNat)
  case atStart => exact ⟨0, by omega, rfl, fun j hj => by omega, (Ext.refl w).alloc _⟩
  case round =>
    obtain ⟨k, hk, rfl, HA, hbl⟩ := hrel
    have hv := hide ((unhide HV).ext hbl)
    obtain rfl | rfl | rfl | rfl | rfl | rfl | rfl | rfl | rfl : k = 0 ∨ k = 1 ∨ k = 2 ∨ k = 3 ∨ k = 4 ∨ k = 5 ∨ k = 6 ∨ k = 7 ∨ k = 8 := by omega
    · go_wp2_with fail
      refine (limitsKept_any x b _ (unhide hv).H).mono ?_
      rintro e w2 ⟨r, rfl, hr, hq⟩
      have x2 := hbl.trans hq
      cases r
      · have Y := hide (okis_fail (x := x) (k := 0) (by omega) (unhide HA) (fun q => by have := hr.2 q; simp at this))
        clear hr
        go_wp2_with fail
        go_ret
        exact ⟨1, rfl, unhide Y, x2⟩
      · have S := hide (rn_step (unhide HA) (show Rn x 0 from hr.1 rfl))
        clear hr
        go_wp2_with fail
        go_roundw
        case rel => exact ⟨1, by omega, by go_num, unhide S, x2⟩
        case measure => simp [intOf]
    · go_wp2_with fail
      refine (cellsKept_any x b _ (unhide hv) ((unhide HFF).ext hbl) hn8).mono ?_
      rintro e w2 ⟨r, rfl, hr, hq⟩
      have x2 := hbl.trans hq
      cases r
      · have Y := hide (okis_fail (x := x) (k := 1) (by omega) (unhide HA) (fun q => by have := hr.2 q; simp at this))
        clear hr
        go_wp2_with fail
        go_ret
        exact ⟨2, rfl, unhide Y, x2⟩
      · have S := hide (rn_step (unhide HA) (show Rn x 1 from hr.1 rfl))
        clear hr
        go_wp2_with fail
        go_roundw
        case rel => exact ⟨2, by omega, by go_num, unhide S, x2⟩
        case measure => simp [intOf]
    · go_wp2_with fail
      refine (roomKept_any x b _ (unhide hv) hn8 (prs200 (unhide HA 1 (by omega)))).mono ?_
      rintro e w2 ⟨r, rfl, hr, hq⟩
      have x2 := hbl.trans hq
      cases r
      · have Y := hide (okis_fail (x := x) (k := 2) (by omega) (unhide HA) (fun q => by have := hr.2 q; simp at this))
        clear hr
        go_wp2_with fail
        go_ret
        exact ⟨3, rfl, unhide Y, x2⟩
      · have S := hide (rn_step (unhide HA) (show Rn x 2 from hr.1 rfl))
        clear hr
        go_wp2_with fail
        go_roundw
        case rel => exact ⟨3, by omega, by go_num, unhide S, x2⟩
        case measure => simp [intOf]
    · go_wp2_with fail
      refine (wordsKept_any x b _ (unhide hv)).mono ?_
      rintro e w2 ⟨r, rfl, hr, hq⟩
      have x2 := hbl.trans hq
      cases r
      · have Y := hide (okis_fail (x := x) (k := 3) (by omega) (unhide HA) (fun q => by have := hr.2 q; simp at this))
        clear hr
        go_wp2_with fail
        go_ret
        exact ⟨4, rfl, unhide Y, x2⟩
      · have S := hide (rn_step (unhide HA) (show Rn x 3 from hr.1 rfl))
        clear hr
        go_wp2_with fail
        go_roundw
        case rel => exact ⟨4, by omega, by go_num, unhide S, x2⟩
        case measure => simp [intOf]
    · go_wp2_with fail
      refine (colorsKept_any x b _ (unhide hv) hg8 hn8).mono ?_
      rintro e w2 ⟨r, rfl, hr, hq⟩
      have x2 := hbl.trans hq
      cases r
      · have Y := hide (okis_fail (x := x) (k := 4) (by omega) (unhide HA) (fun q => by have := hr.2 q; simp at this))
        clear hr
        go_wp2_with fail
        go_ret
        exact ⟨5, rfl, unhide Y, x2⟩
      · have S := hide (rn_step (unhide HA) (show Rn x 4 from hr.1 rfl))
        clear hr
        go_wp2_with fail
        go_roundw
        case rel => exact ⟨5, by omega, by go_num, unhide S, x2⟩
        case measure => simp [intOf]
    · go_wp2_with fail
      refine (progressKept_any x b _ (unhide hv) (unhide HA 0 (by omega)) (unhide HA 1 (by omega)) (unhide HA 4 (by omega))).mono ?_
      rintro e w2 ⟨r, rfl, hr, hq⟩
      have x2 := hbl.trans hq
      cases r
      · have Y := hide (okis_fail (x := x) (k := 5) (by omega) (unhide HA) (fun q => by have := hr.2 q; simp at this))
        clear hr
        go_wp2_with fail
        go_ret
        exact ⟨6, rfl, unhide Y, x2⟩
      · have S := hide (rn_step (unhide HA) (show Rn x 5 from hr.1 rfl))
        clear hr
        go_wp2_with fail
        go_roundw
        case rel => exact ⟨6, by omega, by go_num, unhide S, x2⟩
        case measure => simp [intOf]
    · go_wp2_with fail
      refine (marksKept_any x b _ (unhide hv) (CapAt.ext (unhide HCAP) (unhide HV).H hbl) (unhide HA 0 (by omega)) (unhide HA 1 (by omega)) (unhide HA 3 (by omega)) (unhide HA 4 (by omega)) (unhide HA 5 (by omega))).mono ?_
      rintro e w2 ⟨r, rfl, hr, hq⟩
      have x2 := hbl.trans hq
      cases r
      · have Y := hide (okis_fail (x := x) (k := 6) (by omega) (unhide HA) (fun q => by have := hr.2 q; simp at this))
        clear hr
        go_wp2_with fail
        go_ret
        exact ⟨7, rfl, unhide Y, x2⟩
      · have S := hide (rn_step (unhide HA) (show Rn x 6 from hr.1 rfl))
        clear hr
        go_wp2_with fail
        go_roundw
        case rel => exact ⟨7, by omega, by go_num, unhide S, x2⟩
        case measure => simp [intOf]
    · go_wp2_with fail
      refine (closingKept_any x b _ (unhide hv)).mono ?_
      rintro e w2 ⟨r, rfl, hr, hq⟩
      have x2 := hbl.trans hq
      cases r
      · have Y := hide (okis_fail (x := x) (k := 7) (by omega) (unhide HA) (fun q => by have := hr.2 q; simp at this))
        clear hr
        go_wp2_with fail
        go_ret
        exact ⟨8, rfl, unhide Y, x2⟩
      · have S := hide (rn_step (unhide HA) (show Rn x 7 from hr.1 rfl))
        clear hr
        go_wp2_with fail
        go_roundw
        case rel => exact ⟨8, by omega, by go_num, unhide S, x2⟩
        case measure => simp [intOf]
    · have Y := hide (okis_ok (x := x) (unhide HA))
      go_wp2_with fail
      go_ret
      exact ⟨0, rfl, unhide Y, hbl⟩
theorem CapAt.extS {w w' : World} {x : Hp} {ac : Option Addr} {kc : Nat} (h : CapAt w x ac) (hC : SlC w (.slice ac x.cells.length kc) x.cells) (e : Ext w w') : CapAt w' x ac := fun i hi bc oc ad l c ha hc => by
  obtain ⟨b2, o2, e2, _, vp, _, _, _, _, _, _, _, p7, hp⟩ := SlC.nth hC i hi
  rw [ha] at e2
  cases e2
  have := e.keep p7
  rw [this] at hc
  cases hc
  exact h i hi _ _ _ _ _ ha p7
end Go.Proofs.YtbcmjcomdjdjaaaGreat
