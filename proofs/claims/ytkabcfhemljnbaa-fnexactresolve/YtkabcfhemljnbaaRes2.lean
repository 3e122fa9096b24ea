import Derived.Test.YtkabcfhemljnbaaRes
import Derived.Test.YtkabcfhemljnbaaImpU
import Derived.Test.YtkabcfhemljnbaaSpecL
import Derived.Test.YtkabcfhemljnbaaSpecA
import Derived.Test.YtkabcfhemljnbaaSpecB
import Derived.BigRegion
namespace Go.Proofs.Ytkabcfhemljnbaa
open Go.RowKit
attribute [local go_sem ↓] Go.wp_at_zero Go.wp_at_succ

theorem resB_at {x : Hp} {y : Wd} {i : Nat} (hf : formedB y x.cells.length = true) (k2 : (y.k == 2) = true) (hi : y.a = (i : Int)) :
    y = ⟨2, 0, (i : Int)⟩ ∧ i < x.cells.length ∧ (((x.c i).st == 0) = true → resB x y = W0) ∧ (((x.c i).st == 2) = true → resB x y = ⟨2, 0, (x.c i).to⟩) ∧ (((x.c i).st == 0) = false → ((x.c i).st == 2) = false → resB x y = y) := by
  have hF := formedB_iff.1 hf
  have hk : y.k = 2 := by simpa using k2
  have hn : y.n = 0 ∧ y.a < x.cells.length := by unfold Formed at hF; omega
  have e : y.a.toNat = i := by omega
  refine ⟨?_, by omega, fun s => ?_, fun s => ?_, fun s t => ?_⟩
  · cases y; simp at hk hn hi; simp [hk, hn.1, hi]
  · unfold resB; rw [if_pos hf, if_pos k2, e, if_pos s]
  · unfold resB; rw [if_pos hf, if_pos k2, e, if_neg (by simp at s; simp [s]), if_pos s]
  · unfold resB; rw [if_pos hf, if_pos k2, e, if_neg (by rw [s]; simp), if_neg (by rw [t]; simp)]
theorem lead_lt {x : Hp} (r2 : R2 x) (i : Nat) (hi : i < x.cells.length) : lead x i < x.cells.length := by
  unfold lead
  split
  · rename_i h
    have := r2.1 i hi
    unfold CellOk MovedOk at this
    simp at h
    omega
  · exact hi
theorem resB_no {x : Hp} {y : Wd} (hf : formedB y x.cells.length = false) : resB x y = W0 := by unfold resB; rw [if_neg (by rw [hf]; simp)]
theorem resB_num {x : Hp} {y : Wd} (hf : formedB y x.cells.length = true) (k2 : (y.k == 2) = false) : resB x y = y := by unfold resB; rw [if_pos hf, if_neg (by rw [k2]; simp)]

theorem word_any (bn o : Nat) (pl : Int) (w : World) (m0 : w.cell? ⟨bn, o, none⟩ = some (iv pl)) :
    Calls Try.prog 74 #[.pointer (some ⟨bn, o, none⟩)] w fun e w' => e = .returned (.agg #[iv 2, iv 0, iv pl]) ∧ Ext w w' := by
  have hb : bn < w.heap.size := cell_lt m0
  go_enter Try.func74, Try.ntmps74
  go_wp2_with fail
  refine bodyPost_ret (v := .agg #[iv 2, iv 0, iv pl]) (by simp [results, Try.results74, go_sem]) rfl ⟨rfl, ?_⟩
  repeat (first | refine Ext.setCell ?_ (Nat.le_refl _) _ | exact (Ext.refl w).alloc _)
theorem resolved_num (y : Wd) (b : Nat) (w : World) (k2 : (y.k == 2) = false) :
    Calls Try.prog 52 #[.pointer (some ⟨b, 0, none⟩), y.v] w fun e w' => e = .returned y.v ∧ Ext w w' := by
  have x1 := ((Ext.refl w).alloc (.cells #[iv y.k, iv y.n, iv y.a] 41)).alloc (.cells #[iv 0, iv 0, iv 0] 41)
  go_enter Try.func52, Try.ntmps52
  go_wp2_with fail
  refine (follow_none y b _ k2).mono ?_
  rintro e w1 ⟨rfl, hq⟩
  have x2 := x1.trans hq
  have z1 : w.heap.size + 1 < w1.heap.size := by have := hq.size; simp at this; omega
  have z0 : w.heap.size < w1.heap.size := by omega
  have hc1 := (bcell hq).1
  have hf1 := (bcell hq).2
  have v0 := hq.keep (b := w.heap.size) (o := 0) (v := iv y.k) (by simp [go_sem])
  have v1 := hq.keep (b := w.heap.size) (o := 1) (v := iv y.n) (by simp [go_sem])
  have v2 := hq.keep (b := w.heap.size) (o := 2) (v := iv y.a) (by simp [go_sem])
  have r0 := hq.keep (b := w.heap.size + 1) (o := 0) (v := iv 0) (by simp [go_sem])
  have r1 := hq.keep (b := w.heap.size + 1) (o := 1) (v := iv 0) (by simp [go_sem])
  have r2 := hq.keep (b := w.heap.size + 1) (o := 2) (v := iv 0) (by simp [go_sem])
  clear hq
  go_wp2_with fail
  refine bodyPost_ret (v := y.v) (by simp [results, Try.results52, go_sem, r0, r1, r2]) rfl ⟨rfl, ?_⟩
  repeat (first | refine Ext.setCell ?_ (by show w.heap.size ≤ w.heap.size + 1; omega) _ | exact x2)
theorem resolved_at (x : Hp) (i b : Nat) (w : World) {ar : Option Addr} {kr : Nat} {ac : Option Addr} {kc : Nat} {ag : Option Addr} {kg : Nat} {kn : Nat} (bn on : Nat) (h : VAt w b x ar kr ac kc ag kg (some ⟨bn, on, none⟩) kn) (q2 : R2 x) (hi : i < x.cells.length) :
    Calls Try.prog 52 #[.pointer (some ⟨b, 0, none⟩), .agg #[iv 2, iv 0, iv i]] w fun e w' => e = .returned (.agg #[iv 2, iv 0, iv (lead x i)]) ∧ Ext w w' := by
  have x1 := ((Ext.refl w).alloc (.cells #[iv 2, iv 0, iv i] 41)).alloc (.cells #[iv 0, iv 0, iv 0] 41)
  have HV := hide h
  have hj := lead_lt q2 i hi
  obtain ⟨bn', on', bc, oc, ea, _, m0, m1⟩ := h.N (lead x i) hj
  cases ea
  have M0 := hide m0
  clear h m0 m1
  go_enter Try.func52, Try.ntmps52
  go_wp2_with fail
  refine (follow_some x ⟨2, 0, (i : Int)⟩ b i _ ((unhide HV).ext x1) q2 (by simp) hi bn on rfl).mono ?_
  rintro e w1 ⟨rfl, hq⟩
  have x2 := x1.trans hq
  have QH := hide hq
  clear hq
  go_wp2_with fail
  refine (word_any bn (on + lead x i * 2) (lead x i) _ (x2.keep (unhide M0))).mono ?_
  rintro e w2 ⟨rfl, hq2⟩
  have x3 := x2.trans hq2
  have hq := (unhide QH).trans hq2
  have z1 : w.heap.size + 1 < w2.heap.size := by have := hq.size; simp at this; omega
  have hc1 := (bcell hq).1
  have hf1 := (bcell hq).2
  have r0 := hq.keep (b := w.heap.size + 1) (o := 0) (v := iv 0) (by simp [go_sem])
  have r1 := hq.keep (b := w.heap.size + 1) (o := 1) (v := iv 0) (by simp [go_sem])
  have r2 := hq.keep (b := w.heap.size + 1) (o := 2) (v := iv 0) (by simp [go_sem])
  clear hq hq2
  go_wp2_with fail
  refine bodyPost_ret (v := .agg #[iv 2, iv 0, iv (lead x i)]) (by simp [results, Try.results52, go_sem, r0, r1, r2]) rfl ⟨rfl, ?_⟩
  repeat (first | refine Ext.setCell ?_ (by show w.heap.size ≤ w.heap.size + 1; omega) _ | exact x3)

set_option maxRecDepth 100000 in
set_option maxHeartbeats 4000000 in
theorem implResolve_bad (x : Hp) (y : Wd) (w : World) {ar : Option Addr} {kr : Nat} {ac : Option Addr} {kc : Nat} {ag : Option Addr} {kg : Nat} (hR : SlW w (.slice ar x.regs.length kr) x.regs) (hC : SlC w (.slice ac x.cells.length kc) x.cells) (hG : SlI w (.slice ag x.gray.length kg) x.gray) (hcap : CapAt w x ac) (hn : ¬ OkIs x 0) :
    Calls Try.prog 17 #[x.v (.slice ar x.regs.length kr) (.slice ac x.cells.length kc) (.slice ag x.gray.length kg), y.v] w fun e w' => e = .returned W0.v ∧ Ext w w' := by
  have x1 := (((Ext.refl w).alloc (.cells #[iv x.room, iv x.used, iv x.born, .slice ar x.regs.length kr, .slice ac x.cells.length kc, iv x.phase, iv x.hand, iv x.sub, .slice ag x.gray.length kg, iv x.per, iv x.start, iv x.rounds, iv x.forced] 32)).alloc (.cells #[iv y.k, iv y.n, iv y.a] 41)).alloc (.cells #[iv 0, iv 0, iv 0] 41)
  have S1 := hide (SlW.ext x1 hR)
  have S2 := hide (SlC.ext x1 hC)
  have S3 := hide (SlI.ext x1 hG)
  have S4 := hide (hcap.extS hC x1)
  have lc : x.cells.length ≤ 35184372088832 := let ⟨_, _, _, l, _⟩ := hC; l
  clear hR hC hG hcap
  go_enter Try.func17, Try.ntmps17
  go_wp2_with fail
  refine (sound_any x _ (unhide S1) (unhide S2) (unhide S3) (unhide S4)).mono ?_
  rintro e w2 ⟨hq, hor⟩
  have x2 := x1.trans hq
  have hc2 := (bcell hq).1
  have hf2 := (bcell hq).2
  simp only [World.size_alloc] at hc2 hf2
  have z2 : w.heap.size + 2 < w2.heap.size := by have := hq.size; simp at this; omega
  have z1 : w.heap.size + 1 < w2.heap.size := by omega
  rcases unhide hor with ⟨_, rfl⟩ | ⟨hok, _⟩
  · have r0 := (hq).keep (b := w.heap.size + 1 + 1) (o := 0) (v := iv 0) (by simp [go_sem])
    have r1 := (hq).keep (b := w.heap.size + 1 + 1) (o := 1) (v := iv 0) (by simp [go_sem])
    have r2 := (hq).keep (b := w.heap.size + 1 + 1) (o := 2) (v := iv 0) (by simp [go_sem])
    clear hor hq
    go_wp2_with fail
    refine bodyPost_ret (v := W0.v) (by simp [results, Try.results17, go_sem, r0, r1, r2, W0]) rfl ⟨rfl, ?_⟩
    repeat (first | refine Ext.setCell ?_ (by show w.heap.size ≤ w.heap.size + 1 + 1; omega) _ | exact x2)
  · exact (hn hok).elim

set_option maxRecDepth 100000 in
set_option maxHeartbeats 4000000 in
theorem implResolve_no (x : Hp) (y : Wd) (w : World) {ar : Option Addr} {kr : Nat} {ac : Option Addr} {kc : Nat} {ag : Option Addr} {kg : Nat} (hR : SlW w (.slice ar x.regs.length kr) x.regs) (hC : SlC w (.slice ac x.cells.length kc) x.cells) (hG : SlI w (.slice ag x.gray.length kg) x.gray) (hcap : CapAt w x ac) (hok : OkIs x 0) (tf : formedB y x.cells.length = false) :
    Calls Try.prog 17 #[x.v (.slice ar x.regs.length kr) (.slice ac x.cells.length kc) (.slice ag x.gray.length kg), y.v] w fun e w' => e = .returned W0.v ∧ Ext w w' := by
  have x1 := (((Ext.refl w).alloc (.cells #[iv x.room, iv x.used, iv x.born, .slice ar x.regs.length kr, .slice ac x.cells.length kc, iv x.phase, iv x.hand, iv x.sub, .slice ag x.gray.length kg, iv x.per, iv x.start, iv x.rounds, iv x.forced] 32)).alloc (.cells #[iv y.k, iv y.n, iv y.a] 41)).alloc (.cells #[iv 0, iv 0, iv 0] 41)
  have S1 := hide (SlW.ext x1 hR)
  have S2 := hide (SlC.ext x1 hC)
  have S3 := hide (SlI.ext x1 hG)
  have S4 := hide (hcap.extS hC x1)
  have lc : x.cells.length ≤ 35184372088832 := let ⟨_, _, _, l, _⟩ := hC; l
  clear hR hC hG hcap
  go_enter Try.func17, Try.ntmps17
  go_wp2_with fail
  refine (sound_any x _ (unhide S1) (unhide S2) (unhide S3) (unhide S4)).mono ?_
  rintro e w2 ⟨hq, hor⟩
  have x2 := x1.trans hq
  have hc2 := (bcell hq).1
  have hf2 := (bcell hq).2
  simp only [World.size_alloc] at hc2 hf2
  have z2 : w.heap.size + 2 < w2.heap.size := by have := hq.size; simp at this; omega
  have z1 : w.heap.size + 1 < w2.heap.size := by omega
  rcases unhide hor with ⟨hn, rfl⟩ | ⟨_, b, an, kn, rfl, hv, _⟩
  · exact (hn hok).elim
  have V := hide hv
  have HQ := hide hq
  clear hor hq
  go_wp2_with fail
  refine (formed_any y b x.cells.length an kn _ (unhide V).n13 lc).mono ?_
  rintro e w3 ⟨rfl, hq3⟩
  have x3 := x2.trans hq3
  have hc3 := (bcell hq3).1
  have hf3 := (bcell hq3).2
  have z3 : w.heap.size + 2 < w3.heap.size := Nat.lt_of_lt_of_le z2 hq3.size
  have z3b : w.heap.size + 1 < w3.heap.size := by omega
  have V3 := hide ((unhide V).ext hq3)
  rw [tf]
  have r0 := ((unhide HQ).trans hq3).keep (b := w.heap.size + 1 + 1) (o := 0) (v := iv 0) (by simp [go_sem])
  have r1 := ((unhide HQ).trans hq3).keep (b := w.heap.size + 1 + 1) (o := 1) (v := iv 0) (by simp [go_sem])
  have r2 := ((unhide HQ).trans hq3).keep (b := w.heap.size + 1 + 1) (o := 2) (v := iv 0) (by simp [go_sem])
  clear hq3
  go_wp2_with fail
  refine bodyPost_ret (v := W0.v) (by simp [results, Try.results17, go_sem, r0, r1, r2, W0]) rfl ⟨rfl, ?_⟩
  repeat (first | refine Ext.setCell ?_ (by show w.heap.size ≤ w.heap.size + 1 + 1; omega) _ | exact x3)

set_option maxRecDepth 100000 in
set_option maxHeartbeats 4000000 in
theorem implResolve_num (x : Hp) (y : Wd) (w : World) {ar : Option Addr} {kr : Nat} {ac : Option Addr} {kc : Nat} {ag : Option Addr} {kg : Nat} (hR : SlW w (.slice ar x.regs.length kr) x.regs) (hC : SlC w (.slice ac x.cells.length kc) x.cells) (hG : SlI w (.slice ag x.gray.length kg) x.gray) (hcap : CapAt w x ac) (hok : OkIs x 0) (tf : formedB y x.cells.length = true) (k2 : (y.k == 2) = false) :
    Calls Try.prog 17 #[x.v (.slice ar x.regs.length kr) (.slice ac x.cells.length kc) (.slice ag x.gray.length kg), y.v] w fun e w' => e = .returned y.v ∧ Ext w w' := by
  have x1 := (((Ext.refl w).alloc (.cells #[iv x.room, iv x.used, iv x.born, .slice ar x.regs.length kr, .slice ac x.cells.length kc, iv x.phase, iv x.hand, iv x.sub, .slice ag x.gray.length kg, iv x.per, iv x.start, iv x.rounds, iv x.forced] 32)).alloc (.cells #[iv y.k, iv y.n, iv y.a] 41)).alloc (.cells #[iv 0, iv 0, iv 0] 41)
  have S1 := hide (SlW.ext x1 hR)
  have S2 := hide (SlC.ext x1 hC)
  have S3 := hide (SlI.ext x1 hG)
  have S4 := hide (hcap.extS hC x1)
  have lc : x.cells.length ≤ 35184372088832 := let ⟨_, _, _, l, _⟩ := hC; l
  clear hR hC hG hcap
  go_enter Try.func17, Try.ntmps17
  go_wp2_with fail
  refine (sound_any x _ (unhide S1) (unhide S2) (unhide S3) (unhide S4)).mono ?_
  rintro e w2 ⟨hq, hor⟩
  have x2 := x1.trans hq
  have hc2 := (bcell hq).1
  have hf2 := (bcell hq).2
  simp only [World.size_alloc] at hc2 hf2
  have z2 : w.heap.size + 2 < w2.heap.size := by have := hq.size; simp at this; omega
  have z1 : w.heap.size + 1 < w2.heap.size := by omega
  rcases unhide hor with ⟨hn, rfl⟩ | ⟨_, b, an, kn, rfl, hv, _⟩
  · exact (hn hok).elim
  have V := hide hv
  have HQ := hide hq
  clear hor hq
  go_wp2_with fail
  refine (formed_any y b x.cells.length an kn _ (unhide V).n13 lc).mono ?_
  rintro e w3 ⟨rfl, hq3⟩
  have x3 := x2.trans hq3
  have hc3 := (bcell hq3).1
  have hf3 := (bcell hq3).2
  have z3 : w.heap.size + 2 < w3.heap.size := Nat.lt_of_lt_of_le z2 hq3.size
  have z3b : w.heap.size + 1 < w3.heap.size := by omega
  have V3 := hide ((unhide V).ext hq3)
  rw [tf]
  have HQ3 := hide ((unhide HQ).trans hq3)
  clear hq3
  go_wp2_with fail
  refine (find_none y b _ k2).mono ?_
  rintro e wf ⟨rfl, hqf⟩
  have HQF := hide ((unhide HQ3).trans hqf)
  have xf := x3.trans hqf
  have hcf := (bcell hqf).1
  have hff := (bcell hqf).2
  have zf : w.heap.size + 2 < wf.heap.size := Nat.lt_of_lt_of_le z3 hqf.size
  have zfb : w.heap.size + 1 < wf.heap.size := by omega
  clear hqf
  go_wp2_with fail
  refine (resolved_num y b _ k2).mono ?_
  rintro e w4 ⟨rfl, hq4⟩
  have x4 := xf.trans hq4
  have hc4 := (bcell hq4).1
  have hf4 := (bcell hq4).2
  have z4 : w.heap.size + 2 < w4.heap.size := Nat.lt_of_lt_of_le zf hq4.size
  have r0 := ((unhide HQF).trans hq4).keep (b := w.heap.size + 1 + 1) (o := 0) (v := iv 0) (by simp [go_sem])
  have r1 := ((unhide HQF).trans hq4).keep (b := w.heap.size + 1 + 1) (o := 1) (v := iv 0) (by simp [go_sem])
  have r2 := ((unhide HQF).trans hq4).keep (b := w.heap.size + 1 + 1) (o := 2) (v := iv 0) (by simp [go_sem])
  clear hq4
  go_wp2_with fail
  refine bodyPost_ret (v := y.v) (by simp [results, Try.results17, go_sem, r0, r1, r2]) rfl ⟨rfl, ?_⟩
  repeat (first | refine Ext.setCell ?_ (by show w.heap.size ≤ w.heap.size + 1 + 1; omega) _ | exact x4)

set_option maxRecDepth 100000 in
set_option maxHeartbeats 4000000 in
theorem implResolve_at (x : Hp) (i : Nat) (w : World) {ar : Option Addr} {kr : Nat} {ac : Option Addr} {kc : Nat} {ag : Option Addr} {kg : Nat} (hR : SlW w (.slice ar x.regs.length kr) x.regs) (hC : SlC w (.slice ac x.cells.length kc) x.cells) (hG : SlI w (.slice ag x.gray.length kg) x.gray) (hcap : CapAt w x ac) (hok : OkIs x 0) (hi : i < x.cells.length) (r : Wd) (hr : (((x.c i).st == 0) = false ∧ r = ⟨2, 0, (lead x i : Int)⟩) ∨ (((x.c i).st == 0) = true ∧ r = W0)) :
    Calls Try.prog 17 #[x.v (.slice ar x.regs.length kr) (.slice ac x.cells.length kc) (.slice ag x.gray.length kg), .agg #[iv 2, iv 0, iv i]] w fun e w' => e = .returned r.v ∧ Ext w w' := by
  have tf : formedB ⟨2, 0, (i : Int)⟩ x.cells.length = true := formedB_iff.2 (by unfold Formed; simp; omega)
  have hj : lead x i < x.cells.length := lead_lt hok.r2 i hi
  have x1 := (((Ext.refl w).alloc (.cells #[iv x.room, iv x.used, iv x.born, .slice ar x.regs.length kr, .slice ac x.cells.length kc, iv x.phase, iv x.hand, iv x.sub, .slice ag x.gray.length kg, iv x.per, iv x.start, iv x.rounds, iv x.forced] 32)).alloc (.cells #[iv 2, iv 0, iv i] 41)).alloc (.cells #[iv 0, iv 0, iv 0] 41)
  have S1 := hide (SlW.ext x1 hR)
  have S2 := hide (SlC.ext x1 hC)
  have S3 := hide (SlI.ext x1 hG)
  have S4 := hide (hcap.extS hC x1)
  have lc : x.cells.length ≤ 35184372088832 := let ⟨_, _, _, l, _⟩ := hC; l
  clear hR hC hG hcap
  go_enter Try.func17, Try.ntmps17
  go_wp2_with fail
  refine (sound_any x _ (unhide S1) (unhide S2) (unhide S3) (unhide S4)).mono ?_
  rintro e w2 ⟨hq, hor⟩
  have x2 := x1.trans hq
  have hc2 := (bcell hq).1
  have hf2 := (bcell hq).2
  simp only [World.size_alloc] at hc2 hf2
  have z2 : w.heap.size + 2 < w2.heap.size := by have := hq.size; simp at this; omega
  have z1 : w.heap.size + 1 < w2.heap.size := by omega
  rcases unhide hor with ⟨hn, rfl⟩ | ⟨_, b, an, kn, rfl, hv, _⟩
  · exact (hn hok).elim
  have V := hide hv
  have HQ := hide hq
  clear hor hq
  go_wp2_with fail
  refine (formed_any ⟨2, 0, (i : Int)⟩ b x.cells.length an kn _ (unhide V).n13 lc).mono ?_
  rintro e w3 ⟨rfl, hq3⟩
  have x3 := x2.trans hq3
  have hc3 := (bcell hq3).1
  have hf3 := (bcell hq3).2
  have z3 : w.heap.size + 2 < w3.heap.size := Nat.lt_of_lt_of_le z2 hq3.size
  have z3b : w.heap.size + 1 < w3.heap.size := by omega
  have V3 := hide ((unhide V).ext hq3)
  rw [tf]
  have HQ3 := hide ((unhide HQ).trans hq3)
  clear hq3
  obtain ⟨bn, on, bc, oc, ea, rfl, m0, m1⟩ := (unhide V3).N i hi
  obtain ⟨bc', oc', ap, kp, e2, C⟩ := (unhide V3).H.cell i hi
  cases e2
  have p0 := C.p0
  have EA := hide ea
  clear C
  subst ea
  go_wp2_with fail
  refine (find_some ⟨2, 0, (i : Int)⟩ b x.cells.length bn on kn i _ (by simp) (unhide V3).n13 hi).mono ?_
  rintro e wf ⟨rfl, hqf⟩
  have m1' := hqf.keep m1
  have p0' := hqf.keep p0
  have HQF := hide ((unhide HQ3).trans hqf)
  have V4 := hide ((unhide V3).ext hqf)
  have xf := x3.trans hqf
  have hcf := (bcell hqf).1
  have hff := (bcell hqf).2
  have zf : w.heap.size + 2 < wf.heap.size := Nat.lt_of_lt_of_le z3 hqf.size
  have zfb : w.heap.size + 1 < wf.heap.size := by omega
  clear hqf m0 m1 p0
  rcases hr with ⟨s1, rfl⟩ | ⟨s1, rfl⟩
  · go_wp2_with fail
    refine (resolved_at x i b _ bn on (unhide V4) hok.r2 hi).mono ?_
    rintro e w4 ⟨rfl, hq5⟩
    have x4 := xf.trans hq5
    have hc4 := (bcell hq5).1
    have hf4 := (bcell hq5).2
    have z4 : w.heap.size + 2 < w4.heap.size := Nat.lt_of_lt_of_le zf hq5.size
    have r0 := ((unhide HQF).trans hq5).keep (b := w.heap.size + 1 + 1) (o := 0) (v := iv 0) (by simp [go_sem])
    have r1 := ((unhide HQF).trans hq5).keep (b := w.heap.size + 1 + 1) (o := 1) (v := iv 0) (by simp [go_sem])
    have r2 := ((unhide HQF).trans hq5).keep (b := w.heap.size + 1 + 1) (o := 2) (v := iv 0) (by simp [go_sem])
    clear hq5 m1' p0' s1
    go_wp2_with fail
    refine bodyPost_ret (v := (⟨2, 0, (lead x i : Int)⟩ : Wd).v) (by simp [results, Try.results17, go_sem, r0, r1, r2]) rfl ⟨rfl, ?_⟩
    repeat (first | refine Ext.setCell ?_ (by show w.heap.size ≤ w.heap.size + 1 + 1; omega) _ | exact x4)
  · have r0 := (unhide HQF).keep (b := w.heap.size + 1 + 1) (o := 0) (v := iv 0) (by simp [go_sem])
    have r1 := (unhide HQF).keep (b := w.heap.size + 1 + 1) (o := 1) (v := iv 0) (by simp [go_sem])
    have r2 := (unhide HQF).keep (b := w.heap.size + 1 + 1) (o := 2) (v := iv 0) (by simp [go_sem])
    go_wp2_with fail
    refine bodyPost_ret (v := W0.v) (by simp [results, Try.results17, go_sem, r0, r1, r2, W0]) rfl ⟨rfl, ?_⟩
    repeat (first | refine Ext.setCell ?_ (by show w.heap.size ≤ w.heap.size + 1 + 1; omega) _ | exact xf)

theorem implResolve_any (x : Hp) (y : Wd) (w : World) {ar : Option Addr} {kr : Nat} {ac : Option Addr} {kc : Nat} {ag : Option Addr} {kg : Nat} (hR : SlW w (.slice ar x.regs.length kr) x.regs) (hC : SlC w (.slice ac x.cells.length kc) x.cells) (hG : SlI w (.slice ag x.gray.length kg) x.gray) (hcap : CapAt w x ac) :
    Calls Try.prog 17 #[x.v (.slice ar x.regs.length kr) (.slice ac x.cells.length kc) (.slice ag x.gray.length kg), y.v] w fun e w' => ∃ z : Wd, e = .returned z.v ∧ ((OkIs x 0 ∧ z = resB x y) ∨ (¬ OkIs x 0 ∧ z = W0)) ∧ Ext w w' := by
  by_cases hok : OkIs x 0
  · cases tf : formedB y x.cells.length
    · exact (implResolve_no x y w hR hC hG hcap hok tf).mono fun _ _ ⟨he, hx⟩ => ⟨_, he, .inl ⟨hok, (resB_no tf).symm⟩, hx⟩
    · cases k2 : (y.k == 2)
      · exact (implResolve_num x y w hR hC hG hcap hok tf k2).mono fun _ _ ⟨he, hx⟩ => ⟨_, he, .inl ⟨hok, (resB_num tf k2).symm⟩, hx⟩
      · obtain ⟨i, hi⟩ : ∃ i : Nat, y.a = (i : Int) := ⟨y.a.toNat, by have := formedB_iff.1 tf; simp at k2; unfold Formed at this; omega⟩
        obtain ⟨ey, hin, h0, h2, h1⟩ := resB_at tf k2 hi
        have hres : ((((x.c i).st == 0) = false ∧ resB x y = ⟨2, 0, (lead x i : Int)⟩) ∨ (((x.c i).st == 0) = true ∧ resB x y = W0)) := by
          cases s0 : ((x.c i).st == 0)
          · cases s2 : ((x.c i).st == 2)
            · have el : lead x i = i := by simp only [lead, s2]; simp
              refine .inl ⟨rfl, ?_⟩
              rw [h1 s0 s2, el]; exact ey
            · obtain ⟨t, ht⟩ : ∃ t : Nat, (x.c i).to = (t : Int) := ⟨(x.c i).to.toNat, by
                have := hok.r2.1 i hin
                unfold CellOk MovedOk at this
                simp at s2
                omega⟩
              have el : lead x i = t := by simp only [lead, s2]; simp [ht]
              exact .inl ⟨rfl, by rw [h2 s2, el, ht]⟩
          · exact .inr ⟨rfl, h0 s0⟩
        have := implResolve_at x i w hR hC hG hcap hok hin (resB x y) hres
        rw [show (.agg #[iv 2, iv 0, iv i] : Value) = y.v by rw [ey]] at this
        exact this.mono fun _ _ ⟨he, hx⟩ => ⟨_, he, .inl ⟨hok, rfl⟩, hx⟩
  · exact (implResolve_bad x y w hR hC hG hcap hok).mono fun _ _ ⟨he, hx⟩ => ⟨_, he, .inr ⟨hok, rfl⟩, hx⟩
end Go.Proofs.Ytkabcfhemljnbaa

namespace Go.Proofs.Ytkabcfhemljnbaa
open Go.RowKit
attribute [local go_sem ↓] Go.wp_at_zero Go.wp_at_succ

theorem l1resolve_num (y : Wd) (b : Nat) (w : World) (k2 : (y.k == 2) = false) :
    Calls Try.prog 48 #[.pointer (some ⟨b, 0, none⟩), y.v] w fun e w' => e = .returned y.v ∧ Ext w w' := by
  go_enter Try.func48, Try.ntmps48
  go_wp2_with fail
  go_quiet (fail)
  go_wp2_with fail
  refine bodyPost_ret (v := y.v) (by simp [results, Try.results48, go_sem]) rfl ⟨rfl, ?_⟩
  repeat (first | exact Ext.refl _ | refine Ext.drewN ?_ _ | refine Ext.alloc ?_ _ | refine Ext.setCell ?_ (by show w.heap.size ≤ w.heap.size + 1; omega) _)

theorem l1resolve_used (x : Hp) (b i : Nat) (w : World) {ar : Option Addr} {kr : Nat} {ac : Option Addr} {kc : Nat} {ag : Option Addr} {kg : Nat} (h : HAt w b x ar kr ac kc ag kg) (hi : i < x.cells.length) (s2 : ((x.c i).st == 2) = false) :
    Calls Try.prog 48 #[.pointer (some ⟨b, 0, none⟩), .agg #[iv 2, iv 0, iv i]] w fun e w' => e = .returned (.agg #[iv 2, iv 0, iv i]) ∧ Ext w w' := by
  obtain ⟨b', o, ap, kp, rfl, C⟩ := h.cell i hi
  have p0 := C.p0
  have c4 := h.c4
  have hb : b < w.heap.size := cell_lt c4
  have hb' : b' < w.heap.size := cell_lt p0
  have i0 : (0 : Int) ≤ (i : Int) := by omega
  have i1 : (i : Int) < (x.cells.length : Int) := by omega
  clear C h
  go_enter Try.func48, Try.ntmps48
  go_wp2_with fail
  go_quiet (fail)
  go_wp2_with fail
  refine bodyPost_ret (v := .agg #[iv 2, iv 0, iv i]) (by simp [results, Try.results48, go_sem]) rfl ⟨rfl, ?_⟩
  repeat (first | exact Ext.refl _ | refine Ext.drewN ?_ _ | refine Ext.alloc ?_ _ | refine Ext.setCell ?_ (by show w.heap.size ≤ w.heap.size + 1; omega) _)

set_option maxHeartbeats 1000000 in
theorem l1resolve_moved (x : Hp) (b i : Nat) (w : World) {ar : Option Addr} {kr : Nat} {ac : Option Addr} {kc : Nat} {ag : Option Addr} {kg : Nat} (h : HAt w b x ar kr ac kc ag kg) (hi : i < x.cells.length) (s2 : ((x.c i).st == 2) = true) :
    Calls Try.prog 48 #[.pointer (some ⟨b, 0, none⟩), .agg #[iv 2, iv 0, iv i]] w fun e w' => e = .returned (.agg #[iv 2, iv 0, iv (x.c i).to]) ∧ Ext w w' := by
  obtain ⟨b', o, ap, kp, rfl, C⟩ := h.cell i hi
  have p0 := C.p0
  have p6 := C.p6
  have c4 := h.c4
  have hb : b < w.heap.size := cell_lt c4
  have hb' : b' < w.heap.size := cell_lt p0
  have i0 : (0 : Int) ≤ (i : Int) := by omega
  have i1 : (i : Int) < (x.cells.length : Int) := by omega
  clear C h
  go_enter Try.func48, Try.ntmps48
  go_wp2_with fail
  go_quiet (fail)
  go_wp2_with fail
  go_region
  all_goals
    go_wp2_with fail
    refine bodyPost_ret (v := .agg #[iv 2, iv 0, iv (x.c i).to]) (by simp [results, Try.results48, go_sem]) rfl ⟨rfl, ?_⟩
    repeat (first | exact Ext.refl _ | refine Ext.drewN ?_ _ | refine Ext.drew ?_ | refine Ext.alloc ?_ _ | refine Ext.setCell ?_ (by show w.heap.size ≤ w.heap.size + 1; omega) _)

end Go.Proofs.Ytkabcfhemljnbaa

namespace Go.Proofs.Ytkabcfhemljnbaa
open Go.RowKit
attribute [local go_sem ↓] Go.wp_at_zero Go.wp_at_succ

set_option maxRecDepth 100000 in
set_option maxHeartbeats 4000000 in
theorem specResolve_bad (x : Hp) (y : Wd) (w : World) {ar : Option Addr} {kr : Nat} {ac : Option Addr} {kc : Nat} {ag : Option Addr} {kg : Nat} (hR : SlW w (.slice ar x.regs.length kr) x.regs) (hC : SlC w (.slice ac x.cells.length kc) x.cells) (hG : SlI w (.slice ag x.gray.length kg) x.gray) (hn : ¬ OkIs x 0) :
    Calls Try.prog 15 #[x.v (.slice ar x.regs.length kr) (.slice ac x.cells.length kc) (.slice ag x.gray.length kg), y.v] w fun e w' => e = .returned W0.v ∧ Ext w w' := by
  have x1 := (((Ext.refl w).alloc (.cells #[iv x.room, iv x.used, iv x.born, .slice ar x.regs.length kr, .slice ac x.cells.length kc, iv x.phase, iv x.hand, iv x.sub, .slice ag x.gray.length kg, iv x.per, iv x.start, iv x.rounds, iv x.forced] 32)).alloc (.cells #[iv y.k, iv y.n, iv y.a] 41)).alloc (.cells #[iv 0, iv 0, iv 0] 41)
  have S1 := hide (SlW.ext x1 hR)
  have S2 := hide (SlC.ext x1 hC)
  have S3 := hide (SlI.ext x1 hG)
  have lc : x.cells.length ≤ 35184372088832 := let ⟨_, _, _, l, _⟩ := hC; l
  have HB := hide ((hat_box x w hR hC hG).ext (((Ext.refl _).alloc (.cells #[iv y.k, iv y.n, iv y.a] 41)).alloc (.cells #[iv 0, iv 0, iv 0] 41)))
  clear hR hC hG
  go_enter Try.func15, Try.ntmps15
  go_wp2_with fail
  refine (specHeapOk_any x _ (unhide S1) (unhide S2) (unhide S3)).mono ?_
  rintro e w2 ⟨n, rfl, hok2, hq⟩
  have x2 := x1.trans hq
  have hc2 := (bcell hq).1
  have hf2 := (bcell hq).2
  simp only [World.size_alloc] at hc2 hf2
  have z2 : w.heap.size + 2 < w2.heap.size := by have := hq.size; simp at this; omega
  have z1 : w.heap.size + 1 < w2.heap.size := by omega
  have z0 : w.heap.size < w2.heap.size := by omega
  have OK2 := hide hok2
  have HQ := hide hq
  have H2 := hide ((unhide HB).ext hq)
  clear hok2 hq
  have t : (n != 0) = true := by simp; intro e; have := unhide OK2; rw [e] at this; exact hn this
  have r0 := (unhide HQ).keep (b := w.heap.size + 1 + 1) (o := 0) (v := iv 0) (by simp [go_sem])
  have r1 := (unhide HQ).keep (b := w.heap.size + 1 + 1) (o := 1) (v := iv 0) (by simp [go_sem])
  have r2 := (unhide HQ).keep (b := w.heap.size + 1 + 1) (o := 2) (v := iv 0) (by simp [go_sem])
  go_wp2_with fail
  refine bodyPost_ret (v := W0.v) (by simp [results, Try.results15, go_sem, r0, r1, r2, W0]) rfl ⟨rfl, ?_⟩
  repeat (first | refine Ext.setCell ?_ (by show w.heap.size ≤ w.heap.size + 1 + 1; omega) _ | exact x2)

set_option maxRecDepth 100000 in
set_option maxHeartbeats 4000000 in
theorem specResolve_no (x : Hp) (y : Wd) (w : World) {ar : Option Addr} {kr : Nat} {ac : Option Addr} {kc : Nat} {ag : Option Addr} {kg : Nat} (hR : SlW w (.slice ar x.regs.length kr) x.regs) (hC : SlC w (.slice ac x.cells.length kc) x.cells) (hG : SlI w (.slice ag x.gray.length kg) x.gray) (hok : OkIs x 0) (tf : formedB y x.cells.length = false) :
    Calls Try.prog 15 #[x.v (.slice ar x.regs.length kr) (.slice ac x.cells.length kc) (.slice ag x.gray.length kg), y.v] w fun e w' => e = .returned W0.v ∧ Ext w w' := by
  have x1 := (((Ext.refl w).alloc (.cells #[iv x.room, iv x.used, iv x.born, .slice ar x.regs.length kr, .slice ac x.cells.length kc, iv x.phase, iv x.hand, iv x.sub, .slice ag x.gray.length kg, iv x.per, iv x.start, iv x.rounds, iv x.forced] 32)).alloc (.cells #[iv y.k, iv y.n, iv y.a] 41)).alloc (.cells #[iv 0, iv 0, iv 0] 41)
  have S1 := hide (SlW.ext x1 hR)
  have S2 := hide (SlC.ext x1 hC)
  have S3 := hide (SlI.ext x1 hG)
  have lc : x.cells.length ≤ 35184372088832 := let ⟨_, _, _, l, _⟩ := hC; l
  have HB := hide ((hat_box x w hR hC hG).ext (((Ext.refl _).alloc (.cells #[iv y.k, iv y.n, iv y.a] 41)).alloc (.cells #[iv 0, iv 0, iv 0] 41)))
  clear hR hC hG
  go_enter Try.func15, Try.ntmps15
  go_wp2_with fail
  refine (specHeapOk_any x _ (unhide S1) (unhide S2) (unhide S3)).mono ?_
  rintro e w2 ⟨n, rfl, hok2, hq⟩
  have x2 := x1.trans hq
  have hc2 := (bcell hq).1
  have hf2 := (bcell hq).2
  simp only [World.size_alloc] at hc2 hf2
  have z2 : w.heap.size + 2 < w2.heap.size := by have := hq.size; simp at this; omega
  have z1 : w.heap.size + 1 < w2.heap.size := by omega
  have z0 : w.heap.size < w2.heap.size := by omega
  have OK2 := hide hok2
  have HQ := hide hq
  have H2 := hide ((unhide HB).ext hq)
  clear hok2 hq
  obtain rfl : n = 0 := OkIs.uniq (unhide OK2) hok
  go_wp2_with fail
  refine (l1formed_any y x.cells.length _).mono ?_
  rintro e w3 ⟨rfl, hq3⟩
  have x3 := x2.trans hq3
  have hc3 := (bcell hq3).1
  have hf3 := (bcell hq3).2
  have z3 : w.heap.size + 2 < w3.heap.size := Nat.lt_of_lt_of_le z2 hq3.size
  have z3b : w.heap.size + 1 < w3.heap.size := by omega
  have z3c : w.heap.size < w3.heap.size := by omega
  have HQ3 := hide ((unhide HQ).trans hq3)
  have H3 := hide ((unhide H2).ext hq3)
  rw [tf]
  clear hq3
  have r0 := (unhide HQ3).keep (b := w.heap.size + 1 + 1) (o := 0) (v := iv 0) (by simp [go_sem])
  have r1 := (unhide HQ3).keep (b := w.heap.size + 1 + 1) (o := 1) (v := iv 0) (by simp [go_sem])
  have r2 := (unhide HQ3).keep (b := w.heap.size + 1 + 1) (o := 2) (v := iv 0) (by simp [go_sem])
  go_wp2_with fail
  refine bodyPost_ret (v := W0.v) (by simp [results, Try.results15, go_sem, r0, r1, r2, W0]) rfl ⟨rfl, ?_⟩
  repeat (first | refine Ext.setCell ?_ (by show w.heap.size ≤ w.heap.size + 1 + 1; omega) _ | exact x3)

set_option maxRecDepth 100000 in
set_option maxHeartbeats 4000000 in
theorem specResolve_num (x : Hp) (y : Wd) (w : World) {ar : Option Addr} {kr : Nat} {ac : Option Addr} {kc : Nat} {ag : Option Addr} {kg : Nat} (hR : SlW w (.slice ar x.regs.length kr) x.regs) (hC : SlC w (.slice ac x.cells.length kc) x.cells) (hG : SlI w (.slice ag x.gray.length kg) x.gray) (hok : OkIs x 0) (tf : formedB y x.cells.length = true) (k2 : (y.k == 2) = false) :
    Calls Try.prog 15 #[x.v (.slice ar x.regs.length kr) (.slice ac x.cells.length kc) (.slice ag x.gray.length kg), y.v] w fun e w' => e = .returned y.v ∧ Ext w w' := by
  have x1 := (((Ext.refl w).alloc (.cells #[iv x.room, iv x.used, iv x.born, .slice ar x.regs.length kr, .slice ac x.cells.length kc, iv x.phase, iv x.hand, iv x.sub, .slice ag x.gray.length kg, iv x.per, iv x.start, iv x.rounds, iv x.forced] 32)).alloc (.cells #[iv y.k, iv y.n, iv y.a] 41)).alloc (.cells #[iv 0, iv 0, iv 0] 41)
  have S1 := hide (SlW.ext x1 hR)
  have S2 := hide (SlC.ext x1 hC)
  have S3 := hide (SlI.ext x1 hG)
  have lc : x.cells.length ≤ 35184372088832 := let ⟨_, _, _, l, _⟩ := hC; l
  have HB := hide ((hat_box x w hR hC hG).ext (((Ext.refl _).alloc (.cells #[iv y.k, iv y.n, iv y.a] 41)).alloc (.cells #[iv 0, iv 0, iv 0] 41)))
  clear hR hC hG
  go_enter Try.func15, Try.ntmps15
  go_wp2_with fail
  refine (specHeapOk_any x _ (unhide S1) (unhide S2) (unhide S3)).mono ?_
  rintro e w2 ⟨n, rfl, hok2, hq⟩
  have x2 := x1.trans hq
  have hc2 := (bcell hq).1
  have hf2 := (bcell hq).2
  simp only [World.size_alloc] at hc2 hf2
  have z2 : w.heap.size + 2 < w2.heap.size := by have := hq.size; simp at this; omega
  have z1 : w.heap.size + 1 < w2.heap.size := by omega
  have z0 : w.heap.size < w2.heap.size := by omega
  have OK2 := hide hok2
  have HQ := hide hq
  have H2 := hide ((unhide HB).ext hq)
  clear hok2 hq
  obtain rfl : n = 0 := OkIs.uniq (unhide OK2) hok
  go_wp2_with fail
  refine (l1formed_any y x.cells.length _).mono ?_
  rintro e w3 ⟨rfl, hq3⟩
  have x3 := x2.trans hq3
  have hc3 := (bcell hq3).1
  have hf3 := (bcell hq3).2
  have z3 : w.heap.size + 2 < w3.heap.size := Nat.lt_of_lt_of_le z2 hq3.size
  have z3b : w.heap.size + 1 < w3.heap.size := by omega
  have z3c : w.heap.size < w3.heap.size := by omega
  have HQ3 := hide ((unhide HQ).trans hq3)
  have H3 := hide ((unhide H2).ext hq3)
  rw [tf]
  clear hq3
  go_wp2_with fail
  refine (l1resolve_num y w.heap.size _ k2).mono ?_
  rintro e w4 ⟨rfl, hq4⟩
  have x4 := x3.trans hq4
  have hc4 := (bcell hq4).1
  have hf4 := (bcell hq4).2
  have r0 := ((unhide HQ3).trans hq4).keep (b := w.heap.size + 1 + 1) (o := 0) (v := iv 0) (by simp [go_sem])
  have r1 := ((unhide HQ3).trans hq4).keep (b := w.heap.size + 1 + 1) (o := 1) (v := iv 0) (by simp [go_sem])
  have r2 := ((unhide HQ3).trans hq4).keep (b := w.heap.size + 1 + 1) (o := 2) (v := iv 0) (by simp [go_sem])
  clear hq4
  go_wp2_with fail
  refine bodyPost_ret (v := y.v) (by simp [results, Try.results15, go_sem, r0, r1, r2]) rfl ⟨rfl, ?_⟩
  repeat (first | refine Ext.setCell ?_ (by show w.heap.size ≤ w.heap.size + 1 + 1; omega) _ | exact x4)

set_option maxRecDepth 100000 in
set_option maxHeartbeats 4000000 in
theorem specResolve_free (x : Hp) (i : Nat) (w : World) {ar : Option Addr} {kr : Nat} {ac : Option Addr} {kc : Nat} {ag : Option Addr} {kg : Nat} (hR : SlW w (.slice ar x.regs.length kr) x.regs) (hC : SlC w (.slice ac x.cells.length kc) x.cells) (hG : SlI w (.slice ag x.gray.length kg) x.gray) (hok : OkIs x 0) (hi : i < x.cells.length) (s0 : ((x.c i).st == 0) = true) :
    Calls Try.prog 15 #[x.v (.slice ar x.regs.length kr) (.slice ac x.cells.length kc) (.slice ag x.gray.length kg), .agg #[iv 2, iv 0, iv i]] w fun e w' => e = .returned W0.v ∧ Ext w w' := by
  have tf : formedB ⟨2, 0, (i : Int)⟩ x.cells.length = true := formedB_iff.2 (by unfold Formed; simp; omega)
  have x1 := (((Ext.refl w).alloc (.cells #[iv x.room, iv x.used, iv x.born, .slice ar x.regs.length kr, .slice ac x.cells.length kc, iv x.phase, iv x.hand, iv x.sub, .slice ag x.gray.length kg, iv x.per, iv x.start, iv x.rounds, iv x.forced] 32)).alloc (.cells #[iv 2, iv 0, iv i] 41)).alloc (.cells #[iv 0, iv 0, iv 0] 41)
  have S1 := hide (SlW.ext x1 hR)
  have S2 := hide (SlC.ext x1 hC)
  have S3 := hide (SlI.ext x1 hG)
  have lc : x.cells.length ≤ 35184372088832 := let ⟨_, _, _, l, _⟩ := hC; l
  have HB := hide ((hat_box x w hR hC hG).ext (((Ext.refl _).alloc (.cells #[iv 2, iv 0, iv i] 41)).alloc (.cells #[iv 0, iv 0, iv 0] 41)))
  clear hR hC hG
  go_enter Try.func15, Try.ntmps15
  go_wp2_with fail
  refine (specHeapOk_any x _ (unhide S1) (unhide S2) (unhide S3)).mono ?_
  rintro e w2 ⟨n, rfl, hok2, hq⟩
  have x2 := x1.trans hq
  have hc2 := (bcell hq).1
  have hf2 := (bcell hq).2
  simp only [World.size_alloc] at hc2 hf2
  have z2 : w.heap.size + 2 < w2.heap.size := by have := hq.size; simp at this; omega
  have z1 : w.heap.size + 1 < w2.heap.size := by omega
  have z0 : w.heap.size < w2.heap.size := by omega
  have OK2 := hide hok2
  have HQ := hide hq
  have H2 := hide ((unhide HB).ext hq)
  clear hok2 hq
  obtain rfl : n = 0 := OkIs.uniq (unhide OK2) hok
  go_wp2_with fail
  refine (l1formed_any ⟨2, 0, (i : Int)⟩ x.cells.length _).mono ?_
  rintro e w3 ⟨rfl, hq3⟩
  have x3 := x2.trans hq3
  have hc3 := (bcell hq3).1
  have hf3 := (bcell hq3).2
  have z3 : w.heap.size + 2 < w3.heap.size := Nat.lt_of_lt_of_le z2 hq3.size
  have z3b : w.heap.size + 1 < w3.heap.size := by omega
  have z3c : w.heap.size < w3.heap.size := by omega
  have HQ3 := hide ((unhide HQ).trans hq3)
  have H3 := hide ((unhide H2).ext hq3)
  rw [tf]
  clear hq3
  obtain ⟨b', o, ap, kp, rfl, C⟩ := (unhide H3).cell i hi
  have p0 := C.p0
  clear C
  have i0 : (0 : Int) ≤ (i : Int) := by omega
  have i1 : (i : Int) < (x.cells.length : Int) := by omega
  have r0 := (unhide HQ3).keep (b := w.heap.size + 1 + 1) (o := 0) (v := iv 0) (by simp [go_sem])
  have r1 := (unhide HQ3).keep (b := w.heap.size + 1 + 1) (o := 1) (v := iv 0) (by simp [go_sem])
  have r2 := (unhide HQ3).keep (b := w.heap.size + 1 + 1) (o := 2) (v := iv 0) (by simp [go_sem])
  go_wp2_with fail
  refine bodyPost_ret (v := W0.v) (by simp [results, Try.results15, go_sem, r0, r1, r2, W0]) rfl ⟨rfl, ?_⟩
  repeat (first | refine Ext.setCell ?_ (by show w.heap.size ≤ w.heap.size + 1 + 1; omega) _ | exact x3)

set_option maxRecDepth 100000 in
set_option maxHeartbeats 4000000 in
theorem specResolve_used (x : Hp) (i : Nat) (w : World) {ar : Option Addr} {kr : Nat} {ac : Option Addr} {kc : Nat} {ag : Option Addr} {kg : Nat} (hR : SlW w (.slice ar x.regs.length kr) x.regs) (hC : SlC w (.slice ac x.cells.length kc) x.cells) (hG : SlI w (.slice ag x.gray.length kg) x.gray) (hok : OkIs x 0) (hi : i < x.cells.length) (s0 : ((x.c i).st == 0) = false) (s2 : ((x.c i).st == 2) = false) :
    Calls Try.prog 15 #[x.v (.slice ar x.regs.length kr) (.slice ac x.cells.length kc) (.slice ag x.gray.length kg), .agg #[iv 2, iv 0, iv i]] w fun e w' => e = .returned (.agg #[iv 2, iv 0, iv i]) ∧ Ext w w' := by
  have tf : formedB ⟨2, 0, (i : Int)⟩ x.cells.length = true := formedB_iff.2 (by unfold Formed; simp; omega)
  have x1 := (((Ext.refl w).alloc (.cells #[iv x.room, iv x.used, iv x.born, .slice ar x.regs.length kr, .slice ac x.cells.length kc, iv x.phase, iv x.hand, iv x.sub, .slice ag x.gray.length kg, iv x.per, iv x.start, iv x.rounds, iv x.forced] 32)).alloc (.cells #[iv 2, iv 0, iv i] 41)).alloc (.cells #[iv 0, iv 0, iv 0] 41)
  have S1 := hide (SlW.ext x1 hR)
  have S2 := hide (SlC.ext x1 hC)
  have S3 := hide (SlI.ext x1 hG)
  have lc : x.cells.length ≤ 35184372088832 := let ⟨_, _, _, l, _⟩ := hC; l
  have HB := hide ((hat_box x w hR hC hG).ext (((Ext.refl _).alloc (.cells #[iv 2, iv 0, iv i] 41)).alloc (.cells #[iv 0, iv 0, iv 0] 41)))
  clear hR hC hG
  go_enter Try.func15, Try.ntmps15
  go_wp2_with fail
  refine (specHeapOk_any x _ (unhide S1) (unhide S2) (unhide S3)).mono ?_
  rintro e w2 ⟨n, rfl, hok2, hq⟩
  have x2 := x1.trans hq
  have hc2 := (bcell hq).1
  have hf2 := (bcell hq).2
  simp only [World.size_alloc] at hc2 hf2
  have z2 : w.heap.size + 2 < w2.heap.size := by have := hq.size; simp at this; omega
  have z1 : w.heap.size + 1 < w2.heap.size := by omega
  have z0 : w.heap.size < w2.heap.size := by omega
  have OK2 := hide hok2
  have HQ := hide hq
  have H2 := hide ((unhide HB).ext hq)
  clear hok2 hq
  obtain rfl : n = 0 := OkIs.uniq (unhide OK2) hok
  go_wp2_with fail
  refine (l1formed_any ⟨2, 0, (i : Int)⟩ x.cells.length _).mono ?_
  rintro e w3 ⟨rfl, hq3⟩
  have x3 := x2.trans hq3
  have hc3 := (bcell hq3).1
  have hf3 := (bcell hq3).2
  have z3 : w.heap.size + 2 < w3.heap.size := Nat.lt_of_lt_of_le z2 hq3.size
  have z3b : w.heap.size + 1 < w3.heap.size := by omega
  have z3c : w.heap.size < w3.heap.size := by omega
  have HQ3 := hide ((unhide HQ).trans hq3)
  have H3 := hide ((unhide H2).ext hq3)
  rw [tf]
  clear hq3
  obtain ⟨b', o, ap, kp, rfl, C⟩ := (unhide H3).cell i hi
  have p0 := C.p0
  clear C
  have i0 : (0 : Int) ≤ (i : Int) := by omega
  have i1 : (i : Int) < (x.cells.length : Int) := by omega
  go_wp2_with fail
  refine (l1resolve_used x w.heap.size i _ (unhide H3) hi s2).mono ?_
  rintro e w4 ⟨rfl, hq4⟩
  have x4 := x3.trans hq4
  have hc4 := (bcell hq4).1
  have hf4 := (bcell hq4).2
  have r0 := ((unhide HQ3).trans hq4).keep (b := w.heap.size + 1 + 1) (o := 0) (v := iv 0) (by simp [go_sem])
  have r1 := ((unhide HQ3).trans hq4).keep (b := w.heap.size + 1 + 1) (o := 1) (v := iv 0) (by simp [go_sem])
  have r2 := ((unhide HQ3).trans hq4).keep (b := w.heap.size + 1 + 1) (o := 2) (v := iv 0) (by simp [go_sem])
  clear hq4
  go_wp2_with fail
  refine bodyPost_ret (v := (.agg #[iv 2, iv 0, iv i])) (by simp [results, Try.results15, go_sem, r0, r1, r2]) rfl ⟨rfl, ?_⟩
  repeat (first | refine Ext.setCell ?_ (by show w.heap.size ≤ w.heap.size + 1 + 1; omega) _ | exact x4)

set_option maxRecDepth 100000 in
set_option maxHeartbeats 4000000 in
theorem specResolve_moved (x : Hp) (i : Nat) (w : World) {ar : Option Addr} {kr : Nat} {ac : Option Addr} {kc : Nat} {ag : Option Addr} {kg : Nat} (hR : SlW w (.slice ar x.regs.length kr) x.regs) (hC : SlC w (.slice ac x.cells.length kc) x.cells) (hG : SlI w (.slice ag x.gray.length kg) x.gray) (hok : OkIs x 0) (hi : i < x.cells.length) (s0 : ((x.c i).st == 0) = false) (s2 : ((x.c i).st == 2) = true) :
    Calls Try.prog 15 #[x.v (.slice ar x.regs.length kr) (.slice ac x.cells.length kc) (.slice ag x.gray.length kg), .agg #[iv 2, iv 0, iv i]] w fun e w' => e = .returned (.agg #[iv 2, iv 0, iv (x.c i).to]) ∧ Ext w w' := by
  have tf : formedB ⟨2, 0, (i : Int)⟩ x.cells.length = true := formedB_iff.2 (by unfold Formed; simp; omega)
  have x1 := (((Ext.refl w).alloc (.cells #[iv x.room, iv x.used, iv x.born, .slice ar x.regs.length kr, .slice ac x.cells.length kc, iv x.phase, iv x.hand, iv x.sub, .slice ag x.gray.length kg, iv x.per, iv x.start, iv x.rounds, iv x.forced] 32)).alloc (.cells #[iv 2, iv 0, iv i] 41)).alloc (.cells #[iv 0, iv 0, iv 0] 41)
  have S1 := hide (SlW.ext x1 hR)
  have S2 := hide (SlC.ext x1 hC)
  have S3 := hide (SlI.ext x1 hG)
  have lc : x.cells.length ≤ 35184372088832 := let ⟨_, _, _, l, _⟩ := hC; l
  have HB := hide ((hat_box x w hR hC hG).ext (((Ext.refl _).alloc (.cells #[iv 2, iv 0, iv i] 41)).alloc (.cells #[iv 0, iv 0, iv 0] 41)))
  clear hR hC hG
  go_enter Try.func15, Try.ntmps15
  go_wp2_with fail
  refine (specHeapOk_any x _ (unhide S1) (unhide S2) (unhide S3)).mono ?_
  rintro e w2 ⟨n, rfl, hok2, hq⟩
  have x2 := x1.trans hq
  have hc2 := (bcell hq).1
  have hf2 := (bcell hq).2
  simp only [World.size_alloc] at hc2 hf2
  have z2 : w.heap.size + 2 < w2.heap.size := by have := hq.size; simp at this; omega
  have z1 : w.heap.size + 1 < w2.heap.size := by omega
  have z0 : w.heap.size < w2.heap.size := by omega
  have OK2 := hide hok2
  have HQ := hide hq
  have H2 := hide ((unhide HB).ext hq)
  clear hok2 hq
  obtain rfl : n = 0 := OkIs.uniq (unhide OK2) hok
  go_wp2_with fail
  refine (l1formed_any ⟨2, 0, (i : Int)⟩ x.cells.length _).mono ?_
  rintro e w3 ⟨rfl, hq3⟩
  have x3 := x2.trans hq3
  have hc3 := (bcell hq3).1
  have hf3 := (bcell hq3).2
  have z3 : w.heap.size + 2 < w3.heap.size := Nat.lt_of_lt_of_le z2 hq3.size
  have z3b : w.heap.size + 1 < w3.heap.size := by omega
  have z3c : w.heap.size < w3.heap.size := by omega
  have HQ3 := hide ((unhide HQ).trans hq3)
  have H3 := hide ((unhide H2).ext hq3)
  rw [tf]
  clear hq3
  obtain ⟨b', o, ap, kp, rfl, C⟩ := (unhide H3).cell i hi
  have p0 := C.p0
  clear C
  have i0 : (0 : Int) ≤ (i : Int) := by omega
  have i1 : (i : Int) < (x.cells.length : Int) := by omega
  go_wp2_with fail
  refine (l1resolve_moved x w.heap.size i _ (unhide H3) hi s2).mono ?_
  rintro e w4 ⟨rfl, hq4⟩
  have x4 := x3.trans hq4
  have hc4 := (bcell hq4).1
  have hf4 := (bcell hq4).2
  have r0 := ((unhide HQ3).trans hq4).keep (b := w.heap.size + 1 + 1) (o := 0) (v := iv 0) (by simp [go_sem])
  have r1 := ((unhide HQ3).trans hq4).keep (b := w.heap.size + 1 + 1) (o := 1) (v := iv 0) (by simp [go_sem])
  have r2 := ((unhide HQ3).trans hq4).keep (b := w.heap.size + 1 + 1) (o := 2) (v := iv 0) (by simp [go_sem])
  clear hq4
  go_wp2_with fail
  refine bodyPost_ret (v := (.agg #[iv 2, iv 0, iv (x.c i).to])) (by simp [results, Try.results15, go_sem, r0, r1, r2]) rfl ⟨rfl, ?_⟩
  repeat (first | refine Ext.setCell ?_ (by show w.heap.size ≤ w.heap.size + 1 + 1; omega) _ | exact x4)

theorem specResolve_any (x : Hp) (y : Wd) (w : World) {ar : Option Addr} {kr : Nat} {ac : Option Addr} {kc : Nat} {ag : Option Addr} {kg : Nat} (hR : SlW w (.slice ar x.regs.length kr) x.regs) (hC : SlC w (.slice ac x.cells.length kc) x.cells) (hG : SlI w (.slice ag x.gray.length kg) x.gray) :
    Calls Try.prog 15 #[x.v (.slice ar x.regs.length kr) (.slice ac x.cells.length kc) (.slice ag x.gray.length kg), y.v] w fun e w' => ∃ z : Wd, e = .returned z.v ∧ ((OkIs x 0 ∧ z = resB x y) ∨ (¬ OkIs x 0 ∧ z = W0)) ∧ Ext w w' := by
  by_cases hok : OkIs x 0
  · cases tf : formedB y x.cells.length
    · exact (specResolve_no x y w hR hC hG hok tf).mono fun _ _ ⟨he, hx⟩ => ⟨_, he, .inl ⟨hok, (resB_no tf).symm⟩, hx⟩
    · cases k2 : (y.k == 2)
      · exact (specResolve_num x y w hR hC hG hok tf k2).mono fun _ _ ⟨he, hx⟩ => ⟨_, he, .inl ⟨hok, (resB_num tf k2).symm⟩, hx⟩
      · obtain ⟨i, hi⟩ : ∃ i : Nat, y.a = (i : Int) := ⟨y.a.toNat, by have := formedB_iff.1 tf; simp at k2; unfold Formed at this; omega⟩
        obtain ⟨ey, hin, h0, h2, h1⟩ := resB_at tf k2 hi
        have ev : (.agg #[iv 2, iv 0, iv i] : Value) = y.v := by rw [ey]
        cases s0 : ((x.c i).st == 0)
        · cases s2 : ((x.c i).st == 2)
          · have := specResolve_used x i w hR hC hG hok hin s0 s2
            rw [ev] at this
            exact this.mono fun _ _ ⟨he, hx⟩ => ⟨_, he, .inl ⟨hok, (h1 s0 s2).symm⟩, hx⟩
          · have := specResolve_moved x i w hR hC hG hok hin s0 s2
            rw [ev] at this
            exact this.mono fun _ _ ⟨he, hx⟩ => ⟨⟨2, 0, (x.c i).to⟩, he, .inl ⟨hok, (h2 s2).symm⟩, hx⟩
        · have := specResolve_free x i w hR hC hG hok hin s0
          rw [ev] at this
          exact this.mono fun _ _ ⟨he, hx⟩ => ⟨_, he, .inl ⟨hok, (h0 s0).symm⟩, hx⟩
  · exact (specResolve_bad x y w hR hC hG hok).mono fun _ _ ⟨he, hx⟩ => ⟨_, he, .inr ⟨hok, rfl⟩, hx⟩
end Go.Proofs.Ytkabcfhemljnbaa
