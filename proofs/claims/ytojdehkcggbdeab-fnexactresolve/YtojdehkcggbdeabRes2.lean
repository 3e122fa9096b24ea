import Derived.Test.YtojdehkcggbdeabRes
namespace Go.Proofs.Ytojdehkcggbdeab
open Go.RowKit
attribute [local go_sem ↓] Go.wp_at_zero Go.wp_at_succ

theorem resB_at {x : Hp} {y : Wd} {i : Nat} (hf : formedB y x.cells.length = true) (k2 : (y.k == 2) = true) (hi : y.a = (i : Int)) :
    y = ⟨2, 0, (i : Int)⟩ ∧ i < x.cells.length ∧ (((x.c i).st == 0) = true → resB x y = W0) ∧ (((x.c i).st == 2) = true → resB x y = ⟨2, 0, (x.c i).to⟩) ∧ (((x.c i).st == 0) = false → ((x.c i).st == 2) = false → resB x y = y) := by
  have hF := formedB_iff.1 hf
  have hk : y.k = 2 := by simpa using k2
  have hn : y.n = 0 ∧ y.a < x.cells.length := by unfold Formed at hF; omega
  have e : y.a.toNat = i := by omega
  refine ⟨?_, by omega, fun s => ?_, fun s => ?_, fun s t => ?_⟩
  · cases y; simp at hk hn hi; simp [hk, hn.1, hi]
  · unfold resB; rw [if_pos hf, if_pos k2, e, if_pos s]
  · unfold resB; rw [if_pos hf, if_pos k2, e, if_neg (by simp at s; simp [s]), if_pos s]
  · unfold resB; rw [if_pos hf, if_pos k2, e, if_neg (by rw [s]; simp), if_neg (by rw [t]; simp)]
theorem lead_lt {x : Hp} (r2 : R2 x) (i : Nat) (hi : i < x.cells.length) : lead x i < x.cells.length := by
  unfold lead
  split
  · rename_i h
    have := r2.1 i hi
    unfold CellOk MovedOk at this
    simp at h
    omega
  · exact hi
theorem resB_no {x : Hp} {y : Wd} (hf : formedB y x.cells.length = false) : resB x y = W0 := by unfold resB; rw [if_neg (by rw [hf]; simp)]
theorem resB_num {x : Hp} {y : Wd} (hf : formedB y x.cells.length = true) (k2 : (y.k == 2) = false) : resB x y = y := by unfold resB; rw [if_pos hf, if_neg (by rw [k2]; simp)]

set_option maxRecDepth 100000 in
set_option maxHeartbeats 4000000 in
theorem implResolve_bad (x : Hp) (y : Wd) (w : World) {ar : Option Addr} {kr : Nat} {ac : Option Addr} {kc : Nat} {ag : Option Addr} {kg : Nat} (hR : SlW w (.slice ar x.regs.length kr) x.regs) (hC : SlC w (.slice ac x.cells.length kc) x.cells) (hG : SlI w (.slice ag x.gray.length kg) x.gray) (hcap : CapAt w x ac) (hn : ¬ OkIs x 0) :
    Calls Try.prog 19 #[x.v (.slice ar x.regs.length kr) (.slice ac x.cells.length kc) (.slice ag x.gray.length kg), y.v] w fun e w' => e = .returned W0.v ∧ Ext w w' := by
  have x1 := (((Ext.refl w).alloc (.cells #[iv x.room, iv x.used, iv x.born, .slice ar x.regs.length kr, .slice ac x.cells.length kc, iv x.phase, iv x.hand, iv x.sub, .slice ag x.gray.length kg, iv x.per, iv x.start, iv x.rounds, iv x.forced] 32)).alloc (.cells #[iv y.k, iv y.n, iv y.a] 41)).alloc (.cells #[iv 0, iv 0, iv 0] 41)
  have S1 := hide (SlW.ext x1 hR)
  have S2 := hide (SlC.ext x1 hC)
  have S3 := hide (SlI.ext x1 hG)
  have S4 := hide (hcap.extS hC x1)
  have lc : x.cells.length ≤ 35184372088832 := let ⟨_, _, _, l, _⟩ := hC; l
  clear hR hC hG hcap
  go_enter Try.func19, Try.ntmps19
  go_wp2_with fail
  refine (sound_any x _ (unhide S1) (unhide S2) (unhide S3) (unhide S4)).mono ?_
  rintro e w2 ⟨hq, hor⟩
  have x2 := x1.trans hq
  have hc2 := (bcell hq).1
  have hf2 := (bcell hq).2
  simp only [World.size_alloc] at hc2 hf2
  have z2 : w.heap.size + 2 < w2.heap.size := by have := hq.size; simp at this; omega
  have z1 : w.heap.size + 1 < w2.heap.size := by omega
  rcases unhide hor with ⟨_, rfl⟩ | ⟨hok, _⟩
  · have r0 := (hq).keep (b := w.heap.size + 1 + 1) (o := 0) (v := iv 0) (by simp [go_sem])
    have r1 := (hq).keep (b := w.heap.size + 1 + 1) (o := 1) (v := iv 0) (by simp [go_sem])
    have r2 := (hq).keep (b := w.heap.size + 1 + 1) (o := 2) (v := iv 0) (by simp [go_sem])
    clear hor hq
    go_wp2_with fail
    refine bodyPost_ret (v := W0.v) (by simp [results, Try.results19, go_sem, r0, r1, r2, W0]) rfl ⟨rfl, ?_⟩
    repeat (first | refine Ext.setCell ?_ (by show w.heap.size ≤ w.heap.size + 1 + 1; omega) _ | exact x2)
  · exact (hn hok).elim

set_option maxRecDepth 100000 in
set_option maxHeartbeats 4000000 in
theorem implResolve_no (x : Hp) (y : Wd) (w : World) {ar : Option Addr} {kr : Nat} {ac : Option Addr} {kc : Nat} {ag : Option Addr} {kg : Nat} (hR : SlW w (.slice ar x.regs.length kr) x.regs) (hC : SlC w (.slice ac x.cells.length kc) x.cells) (hG : SlI w (.slice ag x.gray.length kg) x.gray) (hcap : CapAt w x ac) (hok : OkIs x 0) (tf : formedB y x.cells.length = false) :
    Calls Try.prog 19 #[x.v (.slice ar x.regs.length kr) (.slice ac x.cells.length kc) (.slice ag x.gray.length kg), y.v] w fun e w' => e = .returned W0.v ∧ Ext w w' := by
  have x1 := (((Ext.refl w).alloc (.cells #[iv x.room, iv x.used, iv x.born, .slice ar x.regs.length kr, .slice ac x.cells.length kc, iv x.phase, iv x.hand, iv x.sub, .slice ag x.gray.length kg, iv x.per, iv x.start, iv x.rounds, iv x.forced] 32)).alloc (.cells #[iv y.k, iv y.n, iv y.a] 41)).alloc (.cells #[iv 0, iv 0, iv 0] 41)
  have S1 := hide (SlW.ext x1 hR)
  have S2 := hide (SlC.ext x1 hC)
  have S3 := hide (SlI.ext x1 hG)
  have S4 := hide (hcap.extS hC x1)
  have lc : x.cells.length ≤ 35184372088832 := let ⟨_, _, _, l, _⟩ := hC; l
  clear hR hC hG hcap
  go_enter Try.func19, Try.ntmps19
  go_wp2_with fail
  refine (sound_any x _ (unhide S1) (unhide S2) (unhide S3) (unhide S4)).mono ?_
  rintro e w2 ⟨hq, hor⟩
  have x2 := x1.trans hq
  have hc2 := (bcell hq).1
  have hf2 := (bcell hq).2
  simp only [World.size_alloc] at hc2 hf2
  have z2 : w.heap.size + 2 < w2.heap.size := by have := hq.size; simp at this; omega
  have z1 : w.heap.size + 1 < w2.heap.size := by omega
  rcases unhide hor with ⟨hn, rfl⟩ | ⟨_, b, an, kn, rfl, hv⟩
  · exact (hn hok).elim
  have V := hide hv
  have HQ := hide hq
  clear hor hq
  go_wp2_with fail
  refine (formed_any y b x.cells.length an kn _ (unhide V).n13 lc).mono ?_
  rintro e w3 ⟨rfl, hq3⟩
  have x3 := x2.trans hq3
  have hc3 := (bcell hq3).1
  have hf3 := (bcell hq3).2
  have z3 : w.heap.size + 2 < w3.heap.size := Nat.lt_of_lt_of_le z2 hq3.size
  have z3b : w.heap.size + 1 < w3.heap.size := by omega
  have V3 := hide ((unhide V).ext hq3)
  rw [tf]
  have r0 := ((unhide HQ).trans hq3).keep (b := w.heap.size + 1 + 1) (o := 0) (v := iv 0) (by simp [go_sem])
  have r1 := ((unhide HQ).trans hq3).keep (b := w.heap.size + 1 + 1) (o := 1) (v := iv 0) (by simp [go_sem])
  have r2 := ((unhide HQ).trans hq3).keep (b := w.heap.size + 1 + 1) (o := 2) (v := iv 0) (by simp [go_sem])
  clear hq3
  go_wp2_with fail
  refine bodyPost_ret (v := W0.v) (by simp [results, Try.results19, go_sem, r0, r1, r2, W0]) rfl ⟨rfl, ?_⟩
  repeat (first | refine Ext.setCell ?_ (by show w.heap.size ≤ w.heap.size + 1 + 1; omega) _ | exact x3)

set_option maxRecDepth 100000 in
set_option maxHeartbeats 4000000 in
theorem implResolve_num (x : Hp) (y : Wd) (w : World) {ar : Option Addr} {kr : Nat} {ac : Option Addr} {kc : Nat} {ag : Option Addr} {kg : Nat} (hR : SlW w (.slice ar x.regs.length kr) x.regs) (hC : SlC w (.slice ac x.cells.length kc) x.cells) (hG : SlI w (.slice ag x.gray.length kg) x.gray) (hcap : CapAt w x ac) (hok : OkIs x 0) (tf : formedB y x.cells.length = true) (k2 : (y.k == 2) = false) :
    Calls Try.prog 19 #[x.v (.slice ar x.regs.length kr) (.slice ac x.cells.length kc) (.slice ag x.gray.length kg), y.v] w fun e w' => e = .returned y.v ∧ Ext w w' := by
  have x1 := (((Ext.refl w).alloc (.cells #[iv x.room, iv x.used, iv x.born, .slice ar x.regs.length kr, .slice ac x.cells.length kc, iv x.phase, iv x.hand, iv x.sub, .slice ag x.gray.length kg, iv x.per, iv x.start, iv x.rounds, iv x.forced] 32)).alloc (.cells #[iv y.k, iv y.n, iv y.a] 41)).alloc (.cells #[iv 0, iv 0, iv 0] 41)
  have S1 := hide (SlW.ext x1 hR)
  have S2 := hide (SlC.ext x1 hC)
  have S3 := hide (SlI.ext x1 hG)
  have S4 := hide (hcap.extS hC x1)
  have lc : x.cells.length ≤ 35184372088832 := let ⟨_, _, _, l, _⟩ := hC; l
  clear hR hC hG hcap
  go_enter Try.func19, Try.ntmps19
  go_wp2_with fail
  refine (sound_any x _ (unhide S1) (unhide S2) (unhide S3) (unhide S4)).mono ?_
  rintro e w2 ⟨hq, hor⟩
  have x2 := x1.trans hq
  have hc2 := (bcell hq).1
  have hf2 := (bcell hq).2
  simp only [World.size_alloc] at hc2 hf2
  have z2 : w.heap.size + 2 < w2.heap.size := by have := hq.size; simp at this; omega
  have z1 : w.heap.size + 1 < w2.heap.size := by omega
  rcases unhide hor with ⟨hn, rfl⟩ | ⟨_, b, an, kn, rfl, hv⟩
  · exact (hn hok).elim
  have V := hide hv
  have HQ := hide hq
  clear hor hq
  go_wp2_with fail
  refine (formed_any y b x.cells.length an kn _ (unhide V).n13 lc).mono ?_
  rintro e w3 ⟨rfl, hq3⟩
  have x3 := x2.trans hq3
  have hc3 := (bcell hq3).1
  have hf3 := (bcell hq3).2
  have z3 : w.heap.size + 2 < w3.heap.size := Nat.lt_of_lt_of_le z2 hq3.size
  have z3b : w.heap.size + 1 < w3.heap.size := by omega
  have V3 := hide ((unhide V).ext hq3)
  rw [tf]
  have HQ3 := hide ((unhide HQ).trans hq3)
  clear hq3
  go_wp2_with fail
  refine (follow_none y b _ k2).mono ?_
  rintro e w4 ⟨rfl, hq4⟩
  have x4 := x3.trans hq4
  have hc4 := (bcell hq4).1
  have hf4 := (bcell hq4).2
  have z4 : w.heap.size + 2 < w4.heap.size := Nat.lt_of_lt_of_le z3 hq4.size
  have r0 := ((unhide HQ3).trans hq4).keep (b := w.heap.size + 1 + 1) (o := 0) (v := iv 0) (by simp [go_sem])
  have r1 := ((unhide HQ3).trans hq4).keep (b := w.heap.size + 1 + 1) (o := 1) (v := iv 0) (by simp [go_sem])
  have r2 := ((unhide HQ3).trans hq4).keep (b := w.heap.size + 1 + 1) (o := 2) (v := iv 0) (by simp [go_sem])
  clear hq4
  go_wp2_with fail
  refine bodyPost_ret (v := y.v) (by simp [results, Try.results19, go_sem, r0, r1, r2]) rfl ⟨rfl, ?_⟩
  repeat (first | refine Ext.setCell ?_ (by show w.heap.size ≤ w.heap.size + 1 + 1; omega) _ | exact x4)

set_option maxRecDepth 100000 in
set_option maxHeartbeats 4000000 in
theorem implResolve_at (x : Hp) (i : Nat) (w : World) {ar : Option Addr} {kr : Nat} {ac : Option Addr} {kc : Nat} {ag : Option Addr} {kg : Nat} (hR : SlW w (.slice ar x.regs.length kr) x.regs) (hC : SlC w (.slice ac x.cells.length kc) x.cells) (hG : SlI w (.slice ag x.gray.length kg) x.gray) (hcap : CapAt w x ac) (hok : OkIs x 0) (hi : i < x.cells.length) (r : Wd) (hr : (((x.c (lead x i)).st == 1) = true ∧ r = ⟨2, 0, (lead x i : Int)⟩) ∨ (((x.c (lead x i)).st == 1) = false ∧ r = W0)) :
    Calls Try.prog 19 #[x.v (.slice ar x.regs.length kr) (.slice ac x.cells.length kc) (.slice ag x.gray.length kg), .agg #[iv 2, iv 0, iv i]] w fun e w' => e = .returned r.v ∧ Ext w w' := by
  have tf : formedB ⟨2, 0, (i : Int)⟩ x.cells.length = true := formedB_iff.2 (by unfold Formed; simp; omega)
  have hj : lead x i < x.cells.length := lead_lt hok.r2 i hi
  have x1 := (((Ext.refl w).alloc (.cells #[iv x.room, iv x.used, iv x.born, .slice ar x.regs.length kr, .slice ac x.cells.length kc, iv x.phase, iv x.hand, iv x.sub, .slice ag x.gray.length kg, iv x.per, iv x.start, iv x.rounds, iv x.forced] 32)).alloc (.cells #[iv 2, iv 0, iv i] 41)).alloc (.cells #[iv 0, iv 0, iv 0] 41)
  have S1 := hide (SlW.ext x1 hR)
  have S2 := hide (SlC.ext x1 hC)
  have S3 := hide (SlI.ext x1 hG)
  have S4 := hide (hcap.extS hC x1)
  have lc : x.cells.length ≤ 35184372088832 := let ⟨_, _, _, l, _⟩ := hC; l
  clear hR hC hG hcap
  go_enter Try.func19, Try.ntmps19
  go_wp2_with fail
  refine (sound_any x _ (unhide S1) (unhide S2) (unhide S3) (unhide S4)).mono ?_
  rintro e w2 ⟨hq, hor⟩
  have x2 := x1.trans hq
  have hc2 := (bcell hq).1
  have hf2 := (bcell hq).2
  simp only [World.size_alloc] at hc2 hf2
  have z2 : w.heap.size + 2 < w2.heap.size := by have := hq.size; simp at this; omega
  have z1 : w.heap.size + 1 < w2.heap.size := by omega
  rcases unhide hor with ⟨hn, rfl⟩ | ⟨_, b, an, kn, rfl, hv⟩
  · exact (hn hok).elim
  have V := hide hv
  have HQ := hide hq
  clear hor hq
  go_wp2_with fail
  refine (formed_any ⟨2, 0, (i : Int)⟩ b x.cells.length an kn _ (unhide V).n13 lc).mono ?_
  rintro e w3 ⟨rfl, hq3⟩
  have x3 := x2.trans hq3
  have hc3 := (bcell hq3).1
  have hf3 := (bcell hq3).2
  have z3 : w.heap.size + 2 < w3.heap.size := Nat.lt_of_lt_of_le z2 hq3.size
  have z3b : w.heap.size + 1 < w3.heap.size := by omega
  have V3 := hide ((unhide V).ext hq3)
  rw [tf]
  have HQ3 := hide ((unhide HQ).trans hq3)
  clear hq3
  obtain ⟨bn, on, bc, oc, ea, rfl, m0, m1⟩ := (unhide V3).N (lead x i) hj
  obtain ⟨bc', oc', ap, kp, e2, C⟩ := (unhide V3).H.cell (lead x i) hj
  cases e2
  have p0 := C.p0
  clear C
  go_wp2_with fail
  refine (follow_some x ⟨2, 0, (i : Int)⟩ b i _ (unhide V3) hok.r2 (by simp) hi bn on ea).mono ?_
  rintro e w4 ⟨rfl, hq4⟩
  have x4 := x3.trans hq4
  have hc4 := (bcell hq4).1
  have hf4 := (bcell hq4).2
  have z4 : w.heap.size + 2 < w4.heap.size := Nat.lt_of_lt_of_le z3 hq4.size
  have m0' := hq4.keep m0
  have m1' := hq4.keep m1
  have p0' := hq4.keep p0
  have r0 := ((unhide HQ3).trans hq4).keep (b := w.heap.size + 1 + 1) (o := 0) (v := iv 0) (by simp [go_sem])
  have r1 := ((unhide HQ3).trans hq4).keep (b := w.heap.size + 1 + 1) (o := 1) (v := iv 0) (by simp [go_sem])
  have r2 := ((unhide HQ3).trans hq4).keep (b := w.heap.size + 1 + 1) (o := 2) (v := iv 0) (by simp [go_sem])
  clear hq4 m0 m1 p0 ea
  obtain ⟨j, ej⟩ : ∃ j, lead x i = j := ⟨_, rfl⟩
  rw [ej] at m0' m1' p0' hr ⊢
  rcases hr with ⟨s1, rfl⟩ | ⟨s1, rfl⟩
  · have s2 : ((x.c j).st != 1) = false := by simpa using s1
    clear ej
    go_wp2_with fail
    refine bodyPost_ret (v := (⟨2, 0, (j : Int)⟩ : Wd).v) (by simp [results, Try.results19, go_sem, r0, r1, r2]) rfl ⟨rfl, ?_⟩
    repeat (first | refine Ext.setCell ?_ (by show w.heap.size ≤ w.heap.size + 1 + 1; omega) _ | exact x4)
  · have s2 : ((x.c j).st != 1) = true := by simpa using s1
    clear ej
    go_wp2_with fail
    refine bodyPost_ret (v := W0.v) (by simp [results, Try.results19, go_sem, r0, r1, r2, W0]) rfl ⟨rfl, ?_⟩
    repeat (first | refine Ext.setCell ?_ (by show w.heap.size ≤ w.heap.size + 1 + 1; omega) _ | exact x4)

theorem implResolve_any (x : Hp) (y : Wd) (w : World) {ar : Option Addr} {kr : Nat} {ac : Option Addr} {kc : Nat} {ag : Option Addr} {kg : Nat} (hR : SlW w (.slice ar x.regs.length kr) x.regs) (hC : SlC w (.slice ac x.cells.length kc) x.cells) (hG : SlI w (.slice ag x.gray.length kg) x.gray) (hcap : CapAt w x ac) :
    Calls Try.prog 19 #[x.v (.slice ar x.regs.length kr) (.slice ac x.cells.length kc) (.slice ag x.gray.length kg), y.v] w fun e w' => ∃ z : Wd, e = .returned z.v ∧ ((OkIs x 0 ∧ z = resB x y) ∨ (¬ OkIs x 0 ∧ z = W0)) ∧ Ext w w' := by
  by_cases hok : OkIs x 0
  · cases tf : formedB y x.cells.length
    · exact (implResolve_no x y w hR hC hG hcap hok tf).mono fun _ _ ⟨he, hx⟩ => ⟨_, he, .inl ⟨hok, (resB_no tf).symm⟩, hx⟩
    · cases k2 : (y.k == 2)
      · exact (implResolve_num x y w hR hC hG hcap hok tf k2).mono fun _ _ ⟨he, hx⟩ => ⟨_, he, .inl ⟨hok, (resB_num tf k2).symm⟩, hx⟩
      · obtain ⟨i, hi⟩ : ∃ i : Nat, y.a = (i : Int) := ⟨y.a.toNat, by have := formedB_iff.1 tf; simp at k2; unfold Formed at this; omega⟩
        obtain ⟨ey, hin, h0, h2, h1⟩ := resB_at tf k2 hi
        have hres : ((((x.c (lead x i)).st == 1) = true ∧ resB x y = ⟨2, 0, (lead x i : Int)⟩) ∨ (((x.c (lead x i)).st == 1) = false ∧ resB x y = W0)) := by
          cases s2 : ((x.c i).st == 2)
          · have el : lead x i = i := by simp only [lead, s2]; simp
            cases s0 : ((x.c i).st == 0)
            · refine .inl ⟨?_, ?_⟩
              · rw [el]
                have := hok.r2.1 i hin
                unfold CellOk at this
                simp at s0 s2 ⊢
                omega
              · rw [h1 s0 s2, el]; exact ey
            · refine .inr ⟨?_, h0 s0⟩
              rw [el]; simp at s0 ⊢; omega
          · obtain ⟨t, ht⟩ : ∃ t : Nat, (x.c i).to = (t : Int) := ⟨(x.c i).to.toNat, by
              have := hok.r2.1 i hin
              unfold CellOk MovedOk at this
              simp at s2
              omega⟩
            have el : lead x i = t := by simp only [lead, s2]; simp [ht]
            refine .inl ⟨?_, by rw [h2 s2, el, ht]⟩
            rw [el]
            have := hok.r2.1 i hin
            unfold CellOk MovedOk at this
            rw [ht] at this
            simp at s2 this ⊢
            omega
        have := implResolve_at x i w hR hC hG hcap hok hin (resB x y) hres
        rw [show (.agg #[iv 2, iv 0, iv i] : Value) = y.v by rw [ey]] at this
        exact this.mono fun _ _ ⟨he, hx⟩ => ⟨_, he, .inl ⟨hok, rfl⟩, hx⟩
  · exact (implResolve_bad x y w hR hC hG hcap hok).mono fun _ _ ⟨he, hx⟩ => ⟨_, he, .inr ⟨hok, rfl⟩, hx⟩
end Go.Proofs.Ytojdehkcggbdeab
