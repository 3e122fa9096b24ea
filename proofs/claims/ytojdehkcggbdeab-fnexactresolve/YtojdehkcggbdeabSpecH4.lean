import Derived.Test.YtojdehkcggbdeabSpecH2
import Derived.Test.YtojdehkcggbdeabSpecH3
namespace Go.Proofs.Ytojdehkcggbdeab
open Go.RowKit
attribute [local go_sem ↓] Go.wp_at_zero Go.wp_at_succ

theorem l1colors_any (x : Hp) (b : Nat) (w : World) {ar : Option Addr} {kr : Nat} {ac : Option Addr} {kc : Nat} {ag : Option Addr} {kg : Nat} (h : HAt w b x ar kr ac kc ag kg) :
    Calls Try.prog 35 #[.pointer (some ⟨b, 0, none⟩)] w fun e w' => ∃ r : Bool, e = .returned (.bool r) ∧ (r = true ↔ R5 x) ∧ Ext w w' := by
  cases q1 : (x.phase == 1)
  · cases q2 : (x.phase == 2)
    · exact l1colors_c x b w h q1 q2
    · exact l1colors_b x b w h q1 q2
  · exact l1colors_a x b w h q1

end Go.Proofs.Ytojdehkcggbdeab
