import Derived.Test.YtddkhnclmeikfaaGreatProg
import Derived.Deep.DrawnRows
import Derived.Deep.RegionHeld3
import Derived.LaidEql
import Derived.Outline
import Derived.RowKitTokens
import Derived.Stop.Asserts
import Derived.WalkKit
import Derived.WalkLawsBesides
import Derived.WalkSpells
namespace Go.Proofs.YtddkhnclmeikfaaGreat
open Go.RowKit
attribute [local go_sem ↓] Go.wp_at_zero Go.wp_at_succ
theorem within_in(n lo hi:Int)(w:World)(h1:lo≤n)(h2:n≤hi):Calls Tryz.prog 78 #[.int .i64 n,.int .i64 lo,.int .i64 hi] w fun e w'=>e=.returned (.bool true)∧w'=w:=by
 go_enter Tryz.func78,Tryz.ntmps78
 go_wp2
 go_ret;exact⟨rfl,rfl⟩
theorem within_out(n lo hi:Int)(w:World)(h:n<lo∨hi<n):Calls Tryz.prog 78 #[.int .i64 n,.int .i64 lo,.int .i64 hi] w fun e w'=>e=.returned (.bool false)∧w'=w:=by
 by_cases h1:lo≤n
 ·have h2:hi<n:=by omega
  go_enter Tryz.func78,Tryz.ntmps78
  go_wp2
  go_ret;exact⟨by simp;omega,rfl⟩
 ·go_enter Tryz.func78,Tryz.ntmps78
  go_wp2
  go_ret;exact⟨rfl,rfl⟩
def withinB(n lo hi:Int):Bool:=decide (lo≤n∧n≤hi)
theorem within_any(n lo hi:Int)(w:World):Calls Tryz.prog 78 #[.int .i64 n,.int .i64 lo,.int .i64 hi] w fun e w'=>e=.returned (.bool (withinB n lo hi))∧w'=w:=by
 by_cases h:lo≤n∧n≤hi
 ·have e:withinB n lo hi=true:=by simp [withinB,h]
  rw[e];exact within_in n lo hi w h.1 h.2
 ·have e:withinB n lo hi=false:=by unfold withinB;exact decide_eq_false h
  rw[e];exact within_out n lo hi w (by omega)
end Go.Proofs.YtddkhnclmeikfaaGreat
namespace Go.Proofs.YtddkhnclmeikfaaGreat
open Go.RowKit Go.Extern.Stop Go.Stop Go.Extern
attribute [local go_sem ↓] Go.wp_at_zero Go.wp_at_succ
theorem as_none(t:Value)(w:World):
  Calls Tryz.prog 284 #[.nilIface,t] w fun e w'=>e=.returned (.bool false)∧w'=w:=by
 go_enter Tryz.func284,Tryz.ntmps284
 go_wp2
 go_ret;exact⟨rfl,rfl⟩
end Go.Proofs.YtddkhnclmeikfaaGreat
