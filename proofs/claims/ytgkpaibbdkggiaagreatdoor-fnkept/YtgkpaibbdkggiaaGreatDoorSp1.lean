import Derived.Test.YtgkpaibbdkggiaaGreatDoorShelf
import Derived.Test.YtgkpaibbdkggiaaGreatDoorWh3
set_option maxHeartbeats 1000000
namespace Go.Proofs.YtgkpaibbdkggiaaGreatDoor
open Go.RowKit Go.Proofs.Tryz
attribute [local go_sem ↓] Go.wp_at_zero Go.wp_at_succ
theorem c2x(x y:Int)(b c d bc f r1 g:Nat)(W:World)(l:W.cell? (aA b (c+1))=some (ptr bc r1))(i:W.cell? (aA bc (r1+4))=some (iv x))(j:W.cell? (aA b (d+1))=some (ptr f g))(k:W.cell? (aA f (g+4))=some (iv y)):
  Calls prog 199 #[ptr b c,ptr b d] W λe w'=>e=.returned (iv (Lib.compareInt x y))/\∃q,w'=W.drewN q:=by
 have a:=λW=>AnyG.cmp_Compare_int Tryz.cmpL x y W
 change ∀W,Calls prog 200 _ _ _ at a;generalize Lib.compareInt x y=r at a ⊢;go_in;go_wp21;go_quiet ((go_at_call 200;exact Calls.quiet_of_same (a _)));go_wp2;go_ret;exact⟨rfl,_,rfl⟩
