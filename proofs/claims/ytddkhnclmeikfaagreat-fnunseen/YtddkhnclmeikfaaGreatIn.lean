import Derived.Test.YtddkhnclmeikfaaGreatProg
import Derived.Deep.DrawnRows
import Derived.Deep.RegionHeld3
import Derived.Outline
import Derived.WalkKit
import Derived.WalkLawsBesides
import Derived.WalkSpells
namespace Go.Proofs.YtddkhnclmeikfaaGreat
open Go.RowKit Tryz
attribute [local go_sem ↓] Go.wp_at_zero Go.wp_at_succ
theorem b1j(n b a:Int)(w:World)(d:b<=n)(c:n<=a):Calls prog 78 #[.int .i64 n,.int .i64 b,.int .i64 a] w λe w'=>e=.returned (.bool true)/\w'=w:=by
 go_enter func78,ntmps78
 go_wp2
 go_ret;exact⟨rfl,rfl⟩
theorem a9h(n b a:Int)(w:World)(h:n<b\/a<n):Calls prog 78 #[.int .i64 n,.int .i64 b,.int .i64 a] w λe w'=>e=.returned (.bool false)/\w'=w:=by
 by_cases c:b<=n
 ·have d:a<n:=by omega
  go_enter func78,ntmps78
  go_wp2
  go_ret;exact⟨by simp;omega,rfl⟩
 ·go_enter func78,ntmps78
  go_wp2
  go_ret;exact⟨rfl,rfl⟩
def cQ(n lo hi:Int):Bool:=decide (lo<=n/\n<=hi)
theorem c3m(n b a:Int)(w:World):Calls prog 78 #[.int .i64 n,.int .i64 b,.int .i64 a] w λe w'=>e=.returned (.bool (cQ n b a))/\w'=w:=by grind [cQ,b1j,a9h]
theorem l1in_in(n b a:Int)(w:World)(d:b<=n)(c:n<=a):Calls prog 60 #[.int .i64 n,.int .i64 b,.int .i64 a] w λe w'=>e=.returned (.bool true)/\w'=w:=by
 go_enter func60,ntmps60
 go_wp2
 go_ret;exact⟨rfl,rfl⟩
theorem c9v(n b a:Int)(w:World)(h:n<b\/a<n):Calls prog 60 #[.int .i64 n,.int .i64 b,.int .i64 a] w λe w'=>e=.returned (.bool false)/\w'=w:=by
 by_cases c:b<=n
 ·have d:a<n:=by omega
  go_enter func60,ntmps60
  go_wp2
  go_ret;exact⟨by simp;omega,rfl⟩
 ·go_enter func60,ntmps60
  go_wp2
  go_ret;exact⟨rfl,rfl⟩
def eL(n lo hi:Int):Bool:=decide (lo<=n/\n<=hi)
theorem a5c(n b a:Int)(w:World):Calls prog 60 #[.int .i64 n,.int .i64 b,.int .i64 a] w λe w'=>e=.returned (.bool (eL n b a))/\w'=w:=by grind [eL,l1in_in,c9v]
end Go.Proofs.YtddkhnclmeikfaaGreat
