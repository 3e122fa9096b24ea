import Derived.Test.YtbcmjcomdjdjaaaGreatImpC
import Derived.Test.YtbcmjcomdjdjaaaGreatLex
namespace Go.Proofs.YtbcmjcomdjdjaaaGreat
open Go.RowKit
attribute [local go_sem ↓] Go.wp_at_zero Go.wp_at_succ

/-- the operations of a body's third region -/
def third : Option Code → Array Oper
  | some (.seq _ (.seq _ (.seq (.region _ ops _) _))) => ops
  | _ => #[]
theorem lim_lex : Region.lexB .any (third Tryz.f95.body) = true := lexB_rows _ _ (by kernel_rfl) (by kernel_rfl)
end Go.Proofs.YtbcmjcomdjdjaaaGreat
