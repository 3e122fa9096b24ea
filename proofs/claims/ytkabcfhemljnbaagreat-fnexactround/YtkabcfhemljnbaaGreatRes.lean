import Derived.Test.YtkabcfhemljnbaaGreatGx
import Derived.Test.YtkabcfhemljnbaaGreatImpK
import Derived.Test.YtkabcfhemljnbaaGreatImpR2
import Derived.Laws.EntriesVeiled
namespace Go.Proofs.YtkabcfhemljnbaaGreat
open Go.RowKit
attribute [local go_sem ↓] Go.wp_at_zero Go.wp_at_succ

def Rn (x : Hp) : Nat → Prop
  | 0 => R1 x
  | 1 => R2 x
  | 2 => R3 x
  | 3 => R4 x
  | 4 => R5 x
  | 5 => R6 x
  | 6 => R7 x
  | _ => R8 x
theorem okis_fail {x : Hp} {k : Nat} (hk : k < 8) (h : ∀ j, j < k → Rn x j) (hn : ¬ Rn x k) : OkIs x ((k : Int) + 1) := by
  unfold OkIs
  have h0 := h 0
  have h1 := h 1
  have h2 := h 2
  have h3 := h 3
  have h4 := h 4
  have h5 := h 5
  have h6 := h 6
  simp only [Rn] at h0 h1 h2 h3 h4 h5 h6
  match k, hk with
  | 0, _ => exact .inl ⟨hn, rfl⟩
  | 1, _ => exact .inr (.inl ⟨h0 (by omega), hn, rfl⟩)
  | 2, _ => exact .inr (.inr (.inl ⟨h0 (by omega), h1 (by omega), hn, rfl⟩))
  | 3, _ => exact .inr (.inr (.inr (.inl ⟨h0 (by omega), h1 (by omega), h2 (by omega), hn, rfl⟩)))
  | 4, _ => exact .inr (.inr (.inr (.inr (.inl ⟨h0 (by omega), h1 (by omega), h2 (by omega), h3 (by omega), hn, rfl⟩))))
  | 5, _ => exact .inr (.inr (.inr (.inr (.inr (.inl ⟨h0 (by omega), h1 (by omega), h2 (by omega), h3 (by omega), h4 (by omega), hn, rfl⟩)))))
  | 6, _ => exact .inr (.inr (.inr (.inr (.inr (.inr (.inl ⟨h0 (by omega), h1 (by omega), h2 (by omega), h3 (by omega), h4 (by omega), h5 (by omega), hn, rfl⟩))))))
  | 7, _ => exact .inr (.inr (.inr (.inr (.inr (.inr (.inr (.inl ⟨h0 (by omega), h1 (by omega), h2 (by omega), h3 (by omega), h4 (by omega), h5 (by omega), h6 (by omega), hn, rfl⟩)))))))
theorem okis_ok {x : Hp} (h : ∀ j, j < 8 → Rn x j) : OkIs x 0 := by
  unfold OkIs
  exact .inr (.inr (.inr (.inr (.inr (.inr (.inr (.inr ⟨h 0 (by omega), h 1 (by omega), h 2 (by omega), h 3 (by omega), h 4 (by omega), h 5 (by omega), h 6 (by omega), h 7 (by omega), rfl⟩)))))))
theorem rn_step {x : Hp} {k : Nat} (h : ∀ j, j < k → Rn x j) (hn : Rn x k) : ∀ j, j < k + 1 → Rn x j := fun j hj => by
  by_cases e : j = k
  · rw [e]; exact hn
  · exact h j (by omega)

theorem prs200 {x : Hp} (r2 : R2 x) (i : Nat) (hi : i < x.cells.length) : (x.c i).prs.length ≤ 200 := by
  rcases r2.1 i hi with c | c | c
  · have := c.2.1.2.2.2.2.2; omega
  · have := c.2.1.2.2.2.2.2; omega
  · exact c.2.2.2.2.2.2.2

theorem fault_idx (b : Nat) : (∀ w, (Instr.index 165 (.agg #[.func (.func 142) #[.pointer (some ⟨b, 0, none⟩)] #[], .func (.func 144) #[.pointer (some ⟨b, 0, none⟩)] #[], .func (.func 145) #[.pointer (some ⟨b, 0, none⟩)] #[], .func (.func 146) #[.pointer (some ⟨b, 0, none⟩)] #[], .func (.func 147) #[.pointer (some ⟨b, 0, none⟩)] #[], .func (.func 148) #[.pointer (some ⟨b, 0, none⟩)] #[], .func (.func 149) #[.pointer (some ⟨b, 0, none⟩)] #[], .func (.func 150) #[.pointer (some ⟨b, 0, none⟩)] #[]]) (.int .i64 0)).run Tryz.prog w = .ok (.func (.func 142) #[.pointer (some ⟨b, 0, none⟩)] #[]) w) ∧ (∀ w, (Instr.index 165 (.agg #[.func (.func 142) #[.pointer (some ⟨b, 0, none⟩)] #[], .func (.func 144) #[.pointer (some ⟨b, 0, none⟩)] #[], .func (.func 145) #[.pointer (some ⟨b, 0, none⟩)] #[], .func (.func 146) #[.pointer (some ⟨b, 0, none⟩)] #[], .func (.func 147) #[.pointer (some ⟨b, 0, none⟩)] #[], .func (.func 148) #[.pointer (some ⟨b, 0, none⟩)] #[], .func (.func 149) #[.pointer (some ⟨b, 0, none⟩)] #[], .func (.func 150) #[.pointer (some ⟨b, 0, none⟩)] #[]]) (.int .i64 1)).run Tryz.prog w = .ok (.func (.func 144) #[.pointer (some ⟨b, 0, none⟩)] #[]) w) ∧ (∀ w, (Instr.index 165 (.agg #[.func (.func 142) #[.pointer (some ⟨b, 0, none⟩)] #[], .func (.func 144) #[.pointer (some ⟨b, 0, none⟩)] #[], .func (.func 145) #[.pointer (some ⟨b, 0, none⟩)] #[], .func (.func 146) #[.pointer (some ⟨b, 0, none⟩)] #[], .func (.func 147) #[.pointer (some ⟨b, 0, none⟩)] #[], .func (.func 148) #[.pointer (some ⟨b, 0, none⟩)] #[], .func (.func 149) #[.pointer (some ⟨b, 0, none⟩)] #[], .func (.func 150) #[.pointer (some ⟨b, 0, none⟩)] #[]]) (.int .i64 2)).run Tryz.prog w = .ok (.func (.func 145) #[.pointer (some ⟨b, 0, none⟩)] #[]) w) ∧ (∀ w, (Instr.index 165 (.agg #[.func (.func 142) #[.pointer (some ⟨b, 0, none⟩)] #[], .func (.func 144) #[.pointer (some ⟨b, 0, none⟩)] #[], .func (.func 145) #[.pointer (some ⟨b, 0, none⟩)] #[], .func (.func 146) #[.pointer (some ⟨b, 0, none⟩)] #[], .func (.func 147) #[.pointer (some ⟨b, 0, none⟩)] #[], .func (.func 148) #[.pointer (some ⟨b, 0, none⟩)] #[], .func (.func 149) #[.pointer (some ⟨b, 0, none⟩)] #[], .func (.func 150) #[.pointer (some ⟨b, 0, none⟩)] #[]]) (.int .i64 3)).run Tryz.prog w = .ok (.func (.func 146) #[.pointer (some ⟨b, 0, none⟩)] #[]) w) ∧ (∀ w, (Instr.index 165 (.agg #[.func (.func 142) #[.pointer (some ⟨b, 0, none⟩)] #[], .func (.func 144) #[.pointer (some ⟨b, 0, none⟩)] #[], .func (.func 145) #[.pointer (some ⟨b, 0, none⟩)] #[], .func (.func 146) #[.pointer (some ⟨b, 0, none⟩)] #[], .func (.func 147) #[.pointer (some ⟨b, 0, none⟩)] #[], .func (.func 148) #[.pointer (some ⟨b, 0, none⟩)] #[], .func (.func 149) #[.pointer (some ⟨b, 0, none⟩)] #[], .func (.func 150) #[.pointer (some ⟨b, 0, none⟩)] #[]]) (.int .i64 4)).run Tryz.prog w = .ok (.func (.func 147) #[.pointer (some ⟨b, 0, none⟩)] #[]) w) ∧ (∀ w, (Instr.index 165 (.agg #[.func (.func 142) #[.pointer (some ⟨b, 0, none⟩)] #[], .func (.func 144) #[.pointer (some ⟨b, 0, none⟩)] #[], .func (.func 145) #[.pointer (some ⟨b, 0, none⟩)] #[], .func (.func 146) #[.pointer (some ⟨b, 0, none⟩)] #[], .func (.func 147) #[.pointer (some ⟨b, 0, none⟩)] #[], .func (.func 148) #[.pointer (some ⟨b, 0, none⟩)] #[], .func (.func 149) #[.pointer (some ⟨b, 0, none⟩)] #[], .func (.func 150) #[.pointer (some ⟨b, 0, none⟩)] #[]]) (.int .i64 5)).run Tryz.prog w = .ok (.func (.func 148) #[.pointer (some ⟨b, 0, none⟩)] #[]) w) ∧ (∀ w, (Instr.index 165 (.agg #[.func (.func 142) #[.pointer (some ⟨b, 0, none⟩)] #[], .func (.func 144) #[.pointer (some ⟨b, 0, none⟩)] #[], .func (.func 145) #[.pointer (some ⟨b, 0, none⟩)] #[], .func (.func 146) #[.pointer (some ⟨b, 0, none⟩)] #[], .func (.func 147) #[.pointer (some ⟨b, 0, none⟩)] #[], .func (.func 148) #[.pointer (some ⟨b, 0, none⟩)] #[], .func (.func 149) #[.pointer (some ⟨b, 0, none⟩)] #[], .func (.func 150) #[.pointer (some ⟨b, 0, none⟩)] #[]]) (.int .i64 6)).run Tryz.prog w = .ok (.func (.func 149) #[.pointer (some ⟨b, 0, none⟩)] #[]) w) ∧ (∀ w, (Instr.index 165 (.agg #[.func (.func 142) #[.pointer (some ⟨b, 0, none⟩)] #[], .func (.func 144) #[.pointer (some ⟨b, 0, none⟩)] #[], .func (.func 145) #[.pointer (some ⟨b, 0, none⟩)] #[], .func (.func 146) #[.pointer (some ⟨b, 0, none⟩)] #[], .func (.func 147) #[.pointer (some ⟨b, 0, none⟩)] #[], .func (.func 148) #[.pointer (some ⟨b, 0, none⟩)] #[], .func (.func 149) #[.pointer (some ⟨b, 0, none⟩)] #[], .func (.func 150) #[.pointer (some ⟨b, 0, none⟩)] #[]]) (.int .i64 7)).run Tryz.prog w = .ok (.func (.func 150) #[.pointer (some ⟨b, 0, none⟩)] #[]) w) :=
  ⟨fun _ => by kernel_rfl, fun _ => by kernel_rfl, fun _ => by kernel_rfl, fun _ => by kernel_rfl, fun _ => by kernel_rfl, fun _ => by kernel_rfl, fun _ => by kernel_rfl, fun _ => by kernel_rfl⟩

set_option maxRecDepth 100000 in
set_option maxHeartbeats 4000000 in
theorem fault_bad (x : Hp) (b : Nat) (w : World) {ar : Option Addr} {kr : Nat} {ac : Option Addr} {kc : Nat} {ag : Option Addr} {kg : Nat} (h : HAt w b x ar kr ac kc ag kg) (hn : ¬ R1 x) :
    Calls Tryz.prog 100 #[.pointer (some ⟨b, 0, none⟩)] w fun e w' => ∃ n : Int, Hid (e = .returned (.int .i64 n)) ∧ OkIs x n ∧ Ext w w' := by
  obtain ⟨i0, _⟩ := fault_idx b
  have HH := hide h
  clear h
  go_enter Tryz.func100, Tryz.ntmps100
  go_wp2_with fail
  go_loopw [24] (fun i wr => i = .int .i64 0 ∧ Ext w wr) (fun _ _ => 0)
  case atStart => exact ⟨rfl, (Ext.refl w).alloc _⟩
  case round =>
    obtain ⟨rfl, hbl⟩ := hrel
    go_wp2_with fail
    refine (limitsKept_any x b _ ((unhide HH).ext hbl)).mono ?_
    rintro e w2 ⟨r, rfl, hr, hq⟩
    have x2 := hbl.trans hq
    cases r
    · have Y := hide (okis_fail (x := x) (k := 0) (by omega) (fun j hj => by omega) hn)
      clear hr
      go_wp2_with fail
      go_ret
      exact ⟨1, rfl, unhide Y, x2⟩
    · exact (hn (hr.1 rfl)).elim

set_option maxRecDepth 100000 in
set_option maxHeartbeats 8000000 in
theorem fault_good (x : Hp) (b : Nat) (w : World) {ar : Option Addr} {kr : Nat} {ac : Option Addr} {kc : Nat} {ag : Option Addr} {kg : Nat} {an : Option Addr} {kn : Nat} {base : Nat} {vf : Value} {F : List Int} (h : VAt w b x ar kr ac kc ag kg an kn) (hF : FAt w b x base vf F) (hcap : CapAt w x ac) (r1 : R1 x) :
    Calls Tryz.prog 100 #[.pointer (some ⟨b, 0, none⟩)] w fun e w' => ∃ n : Int, Hid (e = .returned (.int .i64 n)) ∧ OkIs x n ∧ Ext w w' := by
  obtain ⟨i0, i1, i2, i3, i4, i5, i6, i7⟩ := fault_idx b
  have hn8 : x.cells.length ≤ 8000 := by have := r1.room; have := r1.cells; omega
  have hg8 : x.gray.length ≤ 8000 := by have := r1.gray; omega
  have HV := hide h
  have HFF := hide hF
  have HCAP := hide hcap
  clear h hF hcap r1
  go_enter Tryz.func100, Tryz.ntmps100
  go_wp2_with fail
  go_loopw [24] (fun i wr => ∃ k : Nat, k ≤ 8 ∧ i = .int .i64 k ∧ Hid (∀ j, j < k → Rn x j) ∧ Ext w wr) (fun i _ => 8 - (intOf i).toNat)
  case atStart => exact ⟨0, by omega, rfl, fun j hj => by omega, (Ext.refl w).alloc _⟩
  case round =>
    obtain ⟨k, hk, rfl, HA, hbl⟩ := hrel
    have hv := hide ((unhide HV).ext hbl)
    obtain rfl | rfl | rfl | rfl | rfl | rfl | rfl | rfl | rfl : k = 0 ∨ k = 1 ∨ k = 2 ∨ k = 3 ∨ k = 4 ∨ k = 5 ∨ k = 6 ∨ k = 7 ∨ k = 8 := by omega
    · go_wp2_with fail
      refine (limitsKept_any x b _ (unhide hv).H).mono ?_
      rintro e w2 ⟨r, rfl, hr, hq⟩
      have x2 := hbl.trans hq
      cases r
      · have Y := hide (okis_fail (x := x) (k := 0) (by omega) (unhide HA) (fun q => by have := hr.2 q; simp at this))
        clear hr
        go_wp2_with fail
        go_ret
        exact ⟨1, rfl, unhide Y, x2⟩
      · have S := hide (rn_step (unhide HA) (show Rn x 0 from hr.1 rfl))
        clear hr
        go_wp2_with fail
        go_roundw
        case rel => exact ⟨1, by omega, by go_num, unhide S, x2⟩
        case measure => simp [intOf]
    · go_wp2_with fail
      refine (cellsKept_any x b _ (unhide hv) ((unhide HFF).ext hbl) hn8).mono ?_
      rintro e w2 ⟨r, rfl, hr, hq⟩
      have x2 := hbl.trans hq
      cases r
      · have Y := hide (okis_fail (x := x) (k := 1) (by omega) (unhide HA) (fun q => by have := hr.2 q; simp at this))
        clear hr
        go_wp2_with fail
        go_ret
        exact ⟨2, rfl, unhide Y, x2⟩
      · have S := hide (rn_step (unhide HA) (show Rn x 1 from hr.1 rfl))
        clear hr
        go_wp2_with fail
        go_roundw
        case rel => exact ⟨2, by omega, by go_num, unhide S, x2⟩
        case measure => simp [intOf]
    · go_wp2_with fail
      refine (roomKept_any x b _ (unhide hv) hn8 (prs200 (unhide HA 1 (by omega)))).mono ?_
      rintro e w2 ⟨r, rfl, hr, hq⟩
      have x2 := hbl.trans hq
      cases r
      · have Y := hide (okis_fail (x := x) (k := 2) (by omega) (unhide HA) (fun q => by have := hr.2 q; simp at this))
        clear hr
        go_wp2_with fail
        go_ret
        exact ⟨3, rfl, unhide Y, x2⟩
      · have S := hide (rn_step (unhide HA) (show Rn x 2 from hr.1 rfl))
        clear hr
        go_wp2_with fail
        go_roundw
        case rel => exact ⟨3, by omega, by go_num, unhide S, x2⟩
        case measure => simp [intOf]
    · go_wp2_with fail
      refine (wordsKept_any x b _ (unhide hv)).mono ?_
      rintro e w2 ⟨r, rfl, hr, hq⟩
      have x2 := hbl.trans hq
      cases r
      · have Y := hide (okis_fail (x := x) (k := 3) (by omega) (unhide HA) (fun q => by have := hr.2 q; simp at this))
        clear hr
        go_wp2_with fail
        go_ret
        exact ⟨4, rfl, unhide Y, x2⟩
      · have S := hide (rn_step (unhide HA) (show Rn x 3 from hr.1 rfl))
        clear hr
        go_wp2_with fail
        go_roundw
        case rel => exact ⟨4, by omega, by go_num, unhide S, x2⟩
        case measure => simp [intOf]
    · go_wp2_with fail
      refine (colorsKept_any x b _ (unhide hv) hg8 hn8).mono ?_
      rintro e w2 ⟨r, rfl, hr, hq⟩
      have x2 := hbl.trans hq
      cases r
      · have Y := hide (okis_fail (x := x) (k := 4) (by omega) (unhide HA) (fun q => by have := hr.2 q; simp at this))
        clear hr
        go_wp2_with fail
        go_ret
        exact ⟨5, rfl, unhide Y, x2⟩
      · have S := hide (rn_step (unhide HA) (show Rn x 4 from hr.1 rfl))
        clear hr
        go_wp2_with fail
        go_roundw
        case rel => exact ⟨5, by omega, by go_num, unhide S, x2⟩
        case measure => simp [intOf]
    · go_wp2_with fail
      refine (progressKept_any x b _ (unhide hv) (unhide HA 0 (by omega)) (unhide HA 1 (by omega)) (unhide HA 4 (by omega))).mono ?_
      rintro e w2 ⟨r, rfl, hr, hq⟩
      have x2 := hbl.trans hq
      cases r
      · have Y := hide (okis_fail (x := x) (k := 5) (by omega) (unhide HA) (fun q => by have := hr.2 q; simp at this))
        clear hr
        go_wp2_with fail
        go_ret
        exact ⟨6, rfl, unhide Y, x2⟩
      · have S := hide (rn_step (unhide HA) (show Rn x 5 from hr.1 rfl))
        clear hr
        go_wp2_with fail
        go_roundw
        case rel => exact ⟨6, by omega, by go_num, unhide S, x2⟩
        case measure => simp [intOf]
    · go_wp2_with fail
      refine (marksKept_any x b _ (unhide hv) (CapAt.ext (unhide HCAP) (unhide HV).H hbl) (unhide HA 0 (by omega)) (unhide HA 1 (by omega)) (unhide HA 3 (by omega)) (unhide HA 4 (by omega)) (unhide HA 5 (by omega))).mono ?_
      rintro e w2 ⟨r, rfl, hr, hq⟩
      have x2 := hbl.trans hq
      cases r
      · have Y := hide (okis_fail (x := x) (k := 6) (by omega) (unhide HA) (fun q => by have := hr.2 q; simp at this))
        clear hr
        go_wp2_with fail
        go_ret
        exact ⟨7, rfl, unhide Y, x2⟩
      · have S := hide (rn_step (unhide HA) (show Rn x 6 from hr.1 rfl))
        clear hr
        go_wp2_with fail
        go_roundw
        case rel => exact ⟨7, by omega, by go_num, unhide S, x2⟩
        case measure => simp [intOf]
    · go_wp2_with fail
      refine (closingKept_any x b _ (unhide hv)).mono ?_
      rintro e w2 ⟨r, rfl, hr, hq⟩
      have x2 := hbl.trans hq
      cases r
      · have Y := hide (okis_fail (x := x) (k := 7) (by omega) (unhide HA) (fun q => by have := hr.2 q; simp at this))
        clear hr
        go_wp2_with fail
        go_ret
        exact ⟨8, rfl, unhide Y, x2⟩
      · have S := hide (rn_step (unhide HA) (show Rn x 7 from hr.1 rfl))
        clear hr
        go_wp2_with fail
        go_roundw
        case rel => exact ⟨8, by omega, by go_num, unhide S, x2⟩
        case measure => simp [intOf]
    · have Y := hide (okis_ok (x := x) (unhide HA))
      go_wp2_with fail
      go_ret
      exact ⟨0, rfl, unhide Y, hbl⟩
theorem CapAt.extS {w w' : World} {x : Hp} {ac : Option Addr} {kc : Nat} (h : CapAt w x ac) (hC : SlC w (.slice ac x.cells.length kc) x.cells) (e : Ext w w') : CapAt w' x ac := fun i hi bc oc ad l c ha hc => by
  obtain ⟨b2, o2, e2, _, vp, _, _, _, _, _, _, _, p7, hp⟩ := SlC.nth hC i hi
  rw [ha] at e2
  cases e2
  have := e.keep p7
  rw [this] at hc
  cases hc
  exact h i hi _ _ _ _ _ ha p7
end Go.Proofs.YtkabcfhemljnbaaGreat

namespace Go.Proofs.YtkabcfhemljnbaaGreat
open Go.RowKit
attribute [local go_sem ↓] Go.wp_at_zero Go.wp_at_succ

def W0 : Wd := ⟨0, 0, 0⟩
/-- what a word leads to, in a sound heap -/
def resB (x : Hp) (y : Wd) : Wd :=
  if formedB y x.cells.length = true then
    if (y.k == 2) = true then
      if ((x.c y.a.toNat).st == 0) = true then W0 else if ((x.c y.a.toNat).st == 2) = true then ⟨2, 0, (x.c y.a.toNat).to⟩ else y
    else y
  else W0

theorem OkIs.r2 {x : Hp} (h : OkIs x 0) : R2 x := by
  unfold OkIs at h
  rcases h with h | h | h | h | h | h | h | h | h
  · omega
  · omega
  · omega
  · omega
  · omega
  · omega
  · omega
  · omega
  · exact h.2.1

set_option maxRecDepth 100000 in
set_option maxHeartbeats 2000000 in
theorem sound_any (x : Hp) (w : World) {ar : Option Addr} {kr : Nat} {ac : Option Addr} {kc : Nat} {ag : Option Addr} {kg : Nat} (hR : SlW w (.slice ar x.regs.length kr) x.regs) (hC : SlC w (.slice ac x.cells.length kc) x.cells) (hG : SlI w (.slice ag x.gray.length kg) x.gray) (hcap : CapAt w x ac) :
    Calls Tryz.prog 52 #[x.v (.slice ar x.regs.length kr) (.slice ac x.cells.length kc) (.slice ag x.gray.length kg)] w fun e w' => Ext w w' ∧ Hid ((¬ OkIs x 0 ∧ e = .returned (.tuple #[.pointer none, .bool false])) ∨ (OkIs x 0 ∧ ∃ b an kn, e = .returned (.tuple #[.pointer (some ⟨b, 0, none⟩), .bool true]) ∧ VAt w' b x ar kr ac kc ag kg an kn ∧ Hid (∃ bn on, an = some ⟨bn, on, none⟩))) := by
  have x1 := (Ext.refl w).alloc (.cells #[iv x.room, iv x.used, iv x.born, .slice ar x.regs.length kr, .slice ac x.cells.length kc, iv x.phase, iv x.hand, iv x.sub, .slice ag x.gray.length kg, iv x.per, iv x.start, iv x.rounds, iv x.forced] 33)
  have S1 := hide (SlW.ext x1 hR)
  have S2 := hide (SlC.ext x1 hC)
  have S3 := hide (SlI.ext x1 hG)
  have S4 := hide (hcap.extS hC x1)
  clear hR hC hG hcap
  go_enter Tryz.func52, Tryz.ntmps52
  go_wp2_with fail
  refine (open_any x _ (unhide S1) (unhide S2) (unhide S3)).mono ?_
  rintro e w2 ⟨b, rfl, hq, hor⟩
  have x2 := x1.trans hq
  rcases unhide hor with ⟨hn, hh⟩ | ⟨hr, an, kn, base, vf, F, hv, hf, han⟩
  · have HH := hide hh
    clear hor hh
    go_wp2_with fail
    refine (fault_bad x b _ (unhide HH) hn).mono ?_
    rintro e w3 ⟨n, rfl, hok, hq3⟩
    have x3 := x2.trans hq3
    have OK := hide hok
    clear hok
    cases t : (n == 0)
    · have t2 : (n != 0) = true := by simpa using t
      have N := hide (show ¬ OkIs x 0 from fun h => by have := OkIs.uniq h (unhide OK); simp at t; omega)
      go_wp2_with fail
      go_ret2
      exact ⟨x3, .inl ⟨unhide N, rfl⟩⟩
    · exfalso
      have h0 : OkIs x 0 := by have := unhide OK; simp at t; rw [t] at this; exact this
      have h1 : OkIs x 1 := .inl ⟨hn, rfl⟩
      have := OkIs.uniq h0 h1
      omega
  · have HV := hide hv
    have HF := hide hf
    have HC := hide ((unhide S4).extS (unhide S2) hq)
    have HR := hide hr
    clear hor hv hf hr
    go_wp2_with fail
    refine (fault_good x b _ (unhide HV) (unhide HF) (unhide HC) (unhide HR)).mono ?_
    rintro e w3 ⟨n, rfl, hok, hq3⟩
    have x3 := x2.trans hq3
    have OK := hide hok
    have V3 := hide ((unhide HV).ext hq3)
    clear hok
    cases t : (n == 0)
    · have t2 : (n != 0) = true := by simpa using t
      have N := hide (show ¬ OkIs x 0 from fun h => by have := OkIs.uniq h (unhide OK); simp at t; omega)
      go_wp2_with fail
      go_ret2
      exact ⟨x3, .inl ⟨unhide N, rfl⟩⟩
    · have t2 : (n != 0) = false := by simpa using t
      have Y := hide (show OkIs x 0 by have := unhide OK; simp at t; rw [t] at this; exact this)
      go_wp2_with fail
      go_ret2
      exact ⟨x3, .inr ⟨unhide Y, b, an, kn, rfl, unhide V3, han⟩⟩

theorem follow_none (y : Wd) (b : Nat) (w : World) (k2 : (y.k == 2) = false) :
    Calls Tryz.prog 106 #[.pointer (some ⟨b, 0, none⟩), y.v] w fun e w' => e = .returned (.pointer none) ∧ Ext w w' := by
  go_enter Tryz.func106, Tryz.ntmps106
  go_wp2_with fail
  refine (find_none y b _ k2).mono ?_
  rintro e w1 ⟨rfl, hq⟩
  go_wp2_with fail
  go_ret
  exact ⟨rfl, Ext.trans ((Ext.refl w).alloc _) hq⟩

/-- the place to which a place leads -/
def lead (x : Hp) (i : Nat) : Nat := if ((x.c i).st == 2) = true then (x.c i).to.toNat else i

theorem follow_some (x : Hp) (y : Wd) (b i : Nat) (w : World) {ar : Option Addr} {kr : Nat} {ac : Option Addr} {kc : Nat} {ag : Option Addr} {kg : Nat} {an : Option Addr} {kn : Nat} (h : VAt w b x ar kr ac kc ag kg an kn) (r2 : R2 x) (k2 : (y.k == 2) = true) (hi : i < x.cells.length) (bn on : Nat) (ha : an = some ⟨bn, on, none⟩) :
    Calls Tryz.prog 106 #[.pointer (some ⟨b, 0, none⟩), .agg #[iv y.k, iv y.n, iv i]] w fun e w' => e = .returned (.pointer (some ⟨bn, on + lead x i * 2, none⟩)) ∧ Ext w w' := by
  subst ha
  have x1 := (Ext.refl w).alloc (.cells #[iv y.k, iv y.n, iv i] 90)
  cases ts : ((x.c i).st == 2)
  · have L := hide (show lead x i = i by simp only [lead, ts]; simp)
    obtain ⟨bn', on', bc, oc, e1, rfl, m0, m1⟩ := h.N i hi
    cases e1
    obtain ⟨bc', oc', ap, kp, e2, C⟩ := h.H.cell i hi
    cases e2
    have p0 := C.p0
    have n13 := h.n13
    clear C h r2 m0
    go_enter Tryz.func106, Tryz.ntmps106
    go_wp2_with fail
    refine (find_some y b x.cells.length bn on kn i _ k2 (x1.keep n13) hi).mono ?_
    rintro e w1 ⟨rfl, hq⟩
    have x2 := x1.trans hq
    have m1' := x2.keep m1
    have p0' := x2.keep p0
    clear m1 p0 n13
    go_wp2_with fail
    go_ret
    exact ⟨by rw [unhide L]; rfl, x2⟩
  · have hs : (x.c i).st = 2 := by simpa using ts
    obtain ⟨t, ht⟩ : ∃ t : Nat, (x.c i).to = (t : Int) := ⟨(x.c i).to.toNat, by
      have := r2.1 i hi
      unfold CellOk MovedOk at this
      omega⟩
    have hti : t < i := by
      have := r2.1 i hi
      unfold CellOk MovedOk at this
      omega
    have L := hide (show lead x i = t by simp only [lead, ts]; simp [ht])
    obtain ⟨bn', on', bc, oc, e1, rfl, m0, m1⟩ := h.N i hi
    cases e1
    obtain ⟨bc', oc', ap, kp, e2, C⟩ := h.H.cell i hi
    cases e2
    have p0 := C.p0
    have p6 := C.p6
    rw [ht] at p6
    have n13 := h.n13
    have t0 : (0 : Int) ≤ (t : Int) := by omega
    have t1 : (t : Int) < (x.cells.length : Int) := by omega
    clear C h r2 m0 ht hs
    go_enter Tryz.func106, Tryz.ntmps106
    go_wp2_with fail
    refine (find_some y b x.cells.length bn on kn i _ k2 (x1.keep n13) hi).mono ?_
    rintro e w1 ⟨rfl, hq⟩
    have x2 := x1.trans hq
    have m1' := x2.keep m1
    have p0' := x2.keep p0
    have p6' := x2.keep p6
    have n13' := x2.keep n13
    clear m1 p0 n13 p6
    go_wp2_with fail
    go_quiet (fail)
    go_wp2_with fail
    go_ret
    exact ⟨by rw [unhide L]; rfl, x2.drewN _⟩
end Go.Proofs.YtkabcfhemljnbaaGreat
