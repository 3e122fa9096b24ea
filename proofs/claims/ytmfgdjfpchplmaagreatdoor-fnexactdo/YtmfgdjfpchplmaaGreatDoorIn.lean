import Derived.Test.YtmfgdjfpchplmaaGreatDoorProg
import Derived.Deep.DrawnRows
import Derived.Deep.RegionHeld3
import Derived.Outline
import Derived.WalkKit
import Derived.WalkLawsBesides
import Derived.WalkSpells
namespace Go.Proofs.YtmfgdjfpchplmaaGreatDoor
open Go.RowKit Tryz
attribute [local go_sem ↓] Go.wp_at_zero Go.wp_at_succ
theorem d0b(n b a:Int)(w:World)(d:b<=n)(c:n<=a):Calls prog 132 #[.int .i64 n,.int .i64 b,.int .i64 a] w λe w'=>e=.returned (.bool true)/\w'=w:=by
 go_in;go_wp2;go_ret;exact⟨rfl,rfl⟩
theorem c6j(n b a:Int)(w:World)(h:n<b\/a<n):Calls prog 132 #[.int .i64 n,.int .i64 b,.int .i64 a] w λe w'=>e=.returned (.bool false)/\w'=w:=by
 by_cases c:b<=n
 ·have d:a<n:=by omega
  go_in;go_wp2;go_ret;exact⟨by simp;omega,rfl⟩
 ·go_in;go_wp2;go_ret;exact⟨rfl,rfl⟩
def cH(n lo hi:Int):Bool:=decide (lo<=n/\n<=hi)
theorem a9b(n b a:Int)(w:World):Calls prog 132 #[.int .i64 n,.int .i64 b,.int .i64 a] w λe w'=>e=.returned (.bool (cH n b a))/\w'=w:=by grind [cH,d0b,c6j]
theorem l1in_in(n b a:Int)(w:World)(d:b<=n)(c:n<=a):Calls prog 76 #[.int .i64 n,.int .i64 b,.int .i64 a] w λe w'=>e=.returned (.bool true)/\w'=w:=by
 go_in;go_wp2;go_ret;exact⟨rfl,rfl⟩
theorem d3n(n b a:Int)(w:World)(h:n<b\/a<n):Calls prog 76 #[.int .i64 n,.int .i64 b,.int .i64 a] w λe w'=>e=.returned (.bool false)/\w'=w:=by
 by_cases c:b<=n
 ·have d:a<n:=by omega
  go_in;go_wp2;go_ret;exact⟨by simp;omega,rfl⟩
 ·go_in;go_wp2;go_ret;exact⟨rfl,rfl⟩
def eV(n lo hi:Int):Bool:=decide (lo<=n/\n<=hi)
theorem b0d(n b a:Int)(w:World):Calls prog 76 #[.int .i64 n,.int .i64 b,.int .i64 a] w λe w'=>e=.returned (.bool (eV n b a))/\w'=w:=by grind [eV,l1in_in,d3n]
end Go.Proofs.YtmfgdjfpchplmaaGreatDoor
