import Derived.Test.YtbcmjcomdjdjaaaGreatImpT
namespace Go.Proofs.YtbcmjcomdjdjaaaGreat
open Go.RowKit
attribute [local go_sem ↓] Go.wp_at_zero Go.wp_at_succ

def W0 : Wd := ⟨0, 0, 0⟩
/-- what a word leads to, in a sound heap -/
def resB (x : Hp) (y : Wd) : Wd :=
  if formedB y x.cells.length = true then
    if (y.k == 2) = true then
      if ((x.c y.a.toNat).st == 0) = true then W0 else if ((x.c y.a.toNat).st == 2) = true then ⟨2, 0, (x.c y.a.toNat).to⟩ else y
    else y
  else W0

theorem OkIs.r2 {x : Hp} (h : OkIs x 0) : R2 x := by
  unfold OkIs at h
  rcases h with h | h | h | h | h | h | h | h | h
  · omega
  · omega
  · omega
  · omega
  · omega
  · omega
  · omega
  · omega
  · exact h.2.1

set_option maxRecDepth 100000 in
set_option maxHeartbeats 2000000 in
theorem sound_any (x : Hp) (w : World) {ar : Option Addr} {kr : Nat} {ac : Option Addr} {kc : Nat} {ag : Option Addr} {kg : Nat} (hR : SlW w (.slice ar x.regs.length kr) x.regs) (hC : SlC w (.slice ac x.cells.length kc) x.cells) (hG : SlI w (.slice ag x.gray.length kg) x.gray) (hcap : CapAt w x ac) :
    Calls Tryz.prog 24 #[x.v (.slice ar x.regs.length kr) (.slice ac x.cells.length kc) (.slice ag x.gray.length kg)] w fun e w' => Ext w w' ∧ Hid ((¬ OkIs x 0 ∧ e = .returned (.tuple #[.pointer none, .bool false])) ∨ (OkIs x 0 ∧ ∃ b an kn, e = .returned (.tuple #[.pointer (some ⟨b, 0, none⟩), .bool true]) ∧ VAt w' b x ar kr ac kc ag kg an kn ∧ Hid (∃ bn on, an = some ⟨bn, on, none⟩))) := by
  have x1 := (Ext.refl w).alloc (.cells #[iv x.room, iv x.used, iv x.born, .slice ar x.regs.length kr, .slice ac x.cells.length kc, iv x.phase, iv x.hand, iv x.sub, .slice ag x.gray.length kg, iv x.per, iv x.start, iv x.rounds, iv x.forced] 32)
  have S1 := hide (SlW.ext x1 hR)
  have S2 := hide (SlC.ext x1 hC)
  have S3 := hide (SlI.ext x1 hG)
  have S4 := hide (hcap.extS hC x1)
  clear hR hC hG hcap
  go_enter Tryz.func24, Tryz.ntmps24
  go_wp2_with fail
  refine (open_any x _ (unhide S1) (unhide S2) (unhide S3)).mono ?_
  rintro e w2 ⟨b, rfl, hq, hor⟩
  have x2 := x1.trans hq
  rcases unhide hor with ⟨hn, hh⟩ | ⟨hr, an, kn, base, vf, F, hv, hf, han⟩
  · have HH := hide hh
    clear hor hh
    go_wp2_with fail
    refine (fault_bad x b _ (unhide HH) hn).mono ?_
    rintro e w3 ⟨n, rfl, hok, hq3⟩
    have x3 := x2.trans hq3
    have OK := hide hok
    clear hok
    cases t : (n == 0)
    · have t2 : (n != 0) = true := by simpa using t
      have N := hide (show ¬ OkIs x 0 from fun h => by have := OkIs.uniq h (unhide OK); simp at t; omega)
      go_wp2_with fail
      go_ret2
      exact ⟨x3, .inl ⟨unhide N, rfl⟩⟩
    · exfalso
      have h0 : OkIs x 0 := by have := unhide OK; simp at t; rw [t] at this; exact this
      have h1 : OkIs x 1 := .inl ⟨hn, rfl⟩
      have := OkIs.uniq h0 h1
      omega
  · have HV := hide hv
    have HF := hide hf
    have HC := hide ((unhide S4).extS (unhide S2) hq)
    have HR := hide hr
    clear hor hv hf hr
    go_wp2_with fail
    refine (fault_good x b _ (unhide HV) (unhide HF) (unhide HC) (unhide HR)).mono ?_
    rintro e w3 ⟨n, rfl, hok, hq3⟩
    have x3 := x2.trans hq3
    have OK := hide hok
    have V3 := hide ((unhide HV).ext hq3)
    clear hok
    cases t : (n == 0)
    · have t2 : (n != 0) = true := by simpa using t
      have N := hide (show ¬ OkIs x 0 from fun h => by have := OkIs.uniq h (unhide OK); simp at t; omega)
      go_wp2_with fail
      go_ret2
      exact ⟨x3, .inl ⟨unhide N, rfl⟩⟩
    · have t2 : (n != 0) = false := by simpa using t
      have Y := hide (show OkIs x 0 by have := unhide OK; simp at t; rw [t] at this; exact this)
      go_wp2_with fail
      go_ret2
      exact ⟨x3, .inr ⟨unhide Y, b, an, kn, rfl, unhide V3, han⟩⟩

theorem follow_none (y : Wd) (b : Nat) (w : World) (k2 : (y.k == 2) = false) :
    Calls Tryz.prog 57 #[.pointer (some ⟨b, 0, none⟩), y.v] w fun e w' => e = .returned (.pointer none) ∧ Ext w w' := by
  go_enter Tryz.func57, Tryz.ntmps57
  go_wp2_with fail
  refine (find_none y b _ k2).mono ?_
  rintro e w1 ⟨rfl, hq⟩
  go_wp2_with fail
  go_ret
  exact ⟨rfl, Ext.trans ((Ext.refl w).alloc _) hq⟩

/-- the place to which a place leads -/
def lead (x : Hp) (i : Nat) : Nat := if ((x.c i).st == 2) = true then (x.c i).to.toNat else i

theorem follow_some (x : Hp) (y : Wd) (b i : Nat) (w : World) {ar : Option Addr} {kr : Nat} {ac : Option Addr} {kc : Nat} {ag : Option Addr} {kg : Nat} {an : Option Addr} {kn : Nat} (h : VAt w b x ar kr ac kc ag kg an kn) (r2 : R2 x) (k2 : (y.k == 2) = true) (hi : i < x.cells.length) (bn on : Nat) (ha : an = some ⟨bn, on, none⟩) :
    Calls Tryz.prog 57 #[.pointer (some ⟨b, 0, none⟩), .agg #[iv y.k, iv y.n, iv i]] w fun e w' => e = .returned (.pointer (some ⟨bn, on + lead x i * 2, none⟩)) ∧ Ext w w' := by
  subst ha
  have x1 := (Ext.refl w).alloc (.cells #[iv y.k, iv y.n, iv i] 85)
  cases ts : ((x.c i).st == 2)
  · have L := hide (show lead x i = i by simp only [lead, ts]; simp)
    obtain ⟨bn', on', bc, oc, e1, rfl, m0, m1⟩ := h.N i hi
    cases e1
    obtain ⟨bc', oc', ap, kp, e2, C⟩ := h.H.cell i hi
    cases e2
    have p0 := C.p0
    have n13 := h.n13
    clear C h r2 m0
    go_enter Tryz.func57, Tryz.ntmps57
    go_wp2_with fail
    refine (find_some y b x.cells.length bn on kn i _ k2 (x1.keep n13) hi).mono ?_
    rintro e w1 ⟨rfl, hq⟩
    have x2 := x1.trans hq
    have m1' := x2.keep m1
    have p0' := x2.keep p0
    clear m1 p0 n13
    go_wp2_with fail
    go_ret
    exact ⟨by rw [unhide L]; rfl, x2⟩
  · have hs : (x.c i).st = 2 := by simpa using ts
    obtain ⟨t, ht⟩ : ∃ t : Nat, (x.c i).to = (t : Int) := ⟨(x.c i).to.toNat, by
      have := r2.1 i hi
      unfold CellOk MovedOk at this
      omega⟩
    have hti : t < i := by
      have := r2.1 i hi
      unfold CellOk MovedOk at this
      omega
    have L := hide (show lead x i = t by simp only [lead, ts]; simp [ht])
    obtain ⟨bn', on', bc, oc, e1, rfl, m0, m1⟩ := h.N i hi
    cases e1
    obtain ⟨bc', oc', ap, kp, e2, C⟩ := h.H.cell i hi
    cases e2
    have p0 := C.p0
    have p6 := C.p6
    rw [ht] at p6
    have n13 := h.n13
    have t0 : (0 : Int) ≤ (t : Int) := by omega
    have t1 : (t : Int) < (x.cells.length : Int) := by omega
    clear C h r2 m0 ht hs
    go_enter Tryz.func57, Tryz.ntmps57
    go_wp2_with fail
    refine (find_some y b x.cells.length bn on kn i _ k2 (x1.keep n13) hi).mono ?_
    rintro e w1 ⟨rfl, hq⟩
    have x2 := x1.trans hq
    have m1' := x2.keep m1
    have p0' := x2.keep p0
    have p6' := x2.keep p6
    have n13' := x2.keep n13
    clear m1 p0 n13 p6
    go_wp2_with fail
    go_quiet (fail)
    go_wp2_with fail
    go_ret
    exact ⟨by rw [unhide L]; rfl, x2.drewN _⟩
end Go.Proofs.YtbcmjcomdjdjaaaGreat
