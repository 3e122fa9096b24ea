import Derived.Test.YtkabcfhemljnbaaImpT
namespace Go.Proofs.Ytkabcfhemljnbaa
open Go.RowKit
attribute [local go_sem ↓] Go.wp_at_zero Go.wp_at_succ

set_option maxRecDepth 100000 in
set_option maxHeartbeats 2000000 in
theorem implHeapOk_any (x : Hp) (w : World) {ar : Option Addr} {kr : Nat} {ac : Option Addr} {kc : Nat} {ag : Option Addr} {kg : Nat} (hR : SlW w (.slice ar x.regs.length kr) x.regs) (hC : SlC w (.slice ac x.cells.length kc) x.cells) (hG : SlI w (.slice ag x.gray.length kg) x.gray) (hcap : CapAt w x ac) :
    Calls Try.prog 9 #[x.v (.slice ar x.regs.length kr) (.slice ac x.cells.length kc) (.slice ag x.gray.length kg)] w fun e w' => ∃ n : Int, Hid (e = .returned (.int .i64 n)) ∧ OkIs x n ∧ Ext w w' := by
  have x1 := (Ext.refl w).alloc (.cells #[iv x.room, iv x.used, iv x.born, .slice ar x.regs.length kr, .slice ac x.cells.length kc, iv x.phase, iv x.hand, iv x.sub, .slice ag x.gray.length kg, iv x.per, iv x.start, iv x.rounds, iv x.forced] 32)
  have S1 := hide (SlW.ext x1 hR)
  have S2 := hide (SlC.ext x1 hC)
  have S3 := hide (SlI.ext x1 hG)
  have S4 := hide (hcap.extS hC x1)
  clear hR hC hG hcap
  go_enter Try.func9, Try.ntmps9
  go_wp2_with fail
  refine (open_any x _ (unhide S1) (unhide S2) (unhide S3)).mono ?_
  rintro e w2 ⟨b, rfl, hq, hor⟩
  have x2 := x1.trans hq
  rcases unhide hor with ⟨hn, hh⟩ | ⟨hr, an, kn, base, vf, F, hv, hf, _⟩
  · have HH := hide hh
    clear hor hh
    go_wp2_with fail
    refine (fault_bad x b _ (unhide HH) hn).mono ?_
    rintro e w3 ⟨n, rfl, hok, hq3⟩
    have x3 := x2.trans hq3
    go_wp2_with fail
    go_ret
    exact ⟨n, rfl, hok, x3⟩
  · have HV := hide hv
    have HF := hide hf
    have HC := hide ((unhide S4).extS (unhide S2) hq)
    have HR := hide hr
    clear hor hv hf hr
    go_wp2_with fail
    refine (fault_good x b _ (unhide HV) (unhide HF) (unhide HC) (unhide HR)).mono ?_
    rintro e w3 ⟨n, rfl, hok, hq3⟩
    have x3 := x2.trans hq3
    go_wp2_with fail
    go_ret
    exact ⟨n, rfl, hok, x3⟩
end Go.Proofs.Ytkabcfhemljnbaa
