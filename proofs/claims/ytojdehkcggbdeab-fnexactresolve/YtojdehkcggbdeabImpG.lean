import Derived.Test.YtojdehkcggbdeabImpF
namespace Go.Proofs.Ytojdehkcggbdeab
open Go.RowKit
attribute [local go_sem ↓] Go.wp_at_zero Go.wp_at_succ

set_option maxRecDepth 100000 in
set_option maxHeartbeats 1000000 in
theorem leads_any (x : Hp) (b : Nat) (y : Wd) (md : Bool) (w : World) {ar : Option Addr} {kr : Nat} {ac : Option Addr} {kc : Nat} {ag : Option Addr} {kg : Nat} {an : Option Addr} {kn : Nat} (h : VAt w b x ar kr ac kc ag kg an kn) :
    Calls Try.prog 96 #[.pointer (some ⟨b, 0, none⟩), y.v, .bool md] w fun e w' => e = .returned (.bool (leadsB x y (!md))) ∧ Ext w w' := by
  have hb : b < w.heap.size := cell_lt h.n13
  go_enter Try.func96, Try.ntmps96
  go_wp2_with fail
  refine (formed_any y b x.cells.length an kn _ (Ext.keep ((Ext.refl w).alloc _) h.n13) h.H.lc).mono ?_
  rintro e w1 ⟨rfl, hq1⟩
  have x1 : Ext w w1 := Ext.trans ((Ext.refl w).alloc _) hq1
  have a0 := hq1.keep (b := w.heap.size) (o := 0) (v := iv y.k) (by simp [go_sem])
  have a1 := hq1.keep (b := w.heap.size) (o := 1) (v := iv y.n) (by simp [go_sem])
  have a2 := hq1.keep (b := w.heap.size) (o := 2) (v := iv y.a) (by simp [go_sem])
  cases qf : formedB y x.cells.length
  · have E := hide (show leadsB x y (!md) = false by simp [leadsB, qf])
    go_wp2_with fail
    go_ret
    exact ⟨by rw [unhide E]; rfl, x1⟩
  cases qk : (y.k == 2)
  · have E := hide (show leadsB x y (!md) = true by simp [leadsB, qf, qk])
    go_wp2_with fail
    refine (find_none y b _ qk).mono ?_
    rintro e w2 ⟨rfl, hq2⟩
    go_wp2_with fail
    go_ret
    exact ⟨by rw [unhide E]; rfl, x1.trans hq2⟩
  have q1 : y.k = 2 := by simpa using qk
  have hf := formedB_iff.1 qf
  unfold Formed at hf
  have hr : 0 ≤ y.a ∧ y.a < x.cells.length := by omega
  have E0 := hide (show leadsB x y (!md) = (if (x.c y.a.toNat).st = 2 then !md else ((x.c y.a.toNat).st == 1) && !doomedB x y.a.toNat) by simp [leadsB, qf, q1])
  obtain ⟨i, hi⟩ := Int.eq_ofNat_of_zero_le hr.1
  rw [hi] at E0 a2
  rw [Int.toNat_natCast] at E0
  have hin : i < x.cells.length := by omega
  clear q1 hf hr hi
  have h1 := h.ext x1
  obtain ⟨bn, on, bc, oc, rfl, rfl, m0, m1⟩ := h1.N i hin
  obtain ⟨bc', oc', ap, kp, e2, C⟩ := h1.H.cell i hin
  cases e2
  have HD := hide (fun w' (e : Ext w1 w') => doomed_any x b i w' (h1.ext e) hin bn on rfl)
  have HF := hide (find_some y b x.cells.length bn on kn i w1 qk h1.n13 hin)
  clear h h1
  go_wp2_with fail
  refine (unhide HF).mono ?_
  rintro e w2 ⟨rfl, hq2⟩
  have x2 : Ext w w2 := x1.trans hq2
  have u1 := hq2.keep m1
  have r0 := hq2.keep C.p0
  have HD2 := hide (unhide HD w2 hq2)
  clear C m0 m1 a0 a1 a2
  cases qs : ((x.c i).st == 2)
  · have qs' : ¬ (x.c i).st = 2 := by simpa using qs
    have E := hide (show leadsB x y (!md) = (((x.c i).st == 1) && !doomedB x i) by rw [unhide E0, if_neg qs'])
    cases qu : ((x.c i).st == 1)
    · go_wp2_with fail
      go_ret
      exact ⟨by rw [unhide E, qu]; rfl, x2⟩
    · go_wp2_with (go_at_call 97; refine (unhide HD2).mono ?_; rintro e w3 ⟨rfl, hq3⟩)
      go_ret
      exact ⟨by rw [unhide E, qu]; simp, x2.trans hq3⟩
  · have qs' : (x.c i).st = 2 := by simpa using qs
    have E := hide (show leadsB x y (!md) = !md by rw [unhide E0, if_pos qs'])
    clear qs'
    go_wp2_with fail
    go_ret
    exact ⟨by rw [unhide E]; rfl, x2⟩
end Go.Proofs.Ytojdehkcggbdeab
