import Derived.Test.YtddkhnclmeikfaaGreatProg
import Derived.Deep.DrawnRows
import Derived.Deep.RegionHeld3
import Derived.LaidEql
import Derived.Laws.Pointers
import Derived.Outline
import Derived.RowKitTokens
import Derived.Stop.Asserts
import Derived.WalkKit
import Derived.WalkLawsBesides
import Derived.WalkSpells
namespace Go.Proofs.YtddkhnclmeikfaaGreat
open Go.RowKit
attribute [local go_sem ↓] Go.wp_at_zero Go.wp_at_succ
theorem within_in(n lo hi:Int)(w:World)(h1:lo≤n)(h2:n≤hi):Calls Tryz.prog 78 #[.int .i64 n,.int .i64 lo,.int .i64 hi] w fun e w'=>e=.returned (.bool true)∧w'=w:=by
 go_enter Tryz.func78,Tryz.ntmps78
 go_wp2
 go_ret;exact⟨rfl,rfl⟩
theorem within_out(n lo hi:Int)(w:World)(h:n<lo∨hi<n):Calls Tryz.prog 78 #[.int .i64 n,.int .i64 lo,.int .i64 hi] w fun e w'=>e=.returned (.bool false)∧w'=w:=by
 by_cases h1:lo≤n
 ·have h2:hi<n:=by omega
  go_enter Tryz.func78,Tryz.ntmps78
  go_wp2
  go_ret;exact⟨by simp;omega,rfl⟩
 ·go_enter Tryz.func78,Tryz.ntmps78
  go_wp2
  go_ret;exact⟨rfl,rfl⟩
def withinB(n lo hi:Int):Bool:=decide (lo≤n∧n≤hi)
theorem within_any(n lo hi:Int)(w:World):Calls Tryz.prog 78 #[.int .i64 n,.int .i64 lo,.int .i64 hi] w fun e w'=>e=.returned (.bool (withinB n lo hi))∧w'=w:=by
 by_cases h:lo≤n∧n≤hi
 ·have e:withinB n lo hi=true:=by simp [withinB,h]
  rw[e];exact within_in n lo hi w h.1 h.2
 ·have e:withinB n lo hi=false:=by unfold withinB;exact decide_eq_false h
  rw[e];exact within_out n lo hi w (by omega)
theorem l1in_in(n lo hi:Int)(w:World)(h1:lo≤n)(h2:n≤hi):Calls Tryz.prog 60 #[.int .i64 n,.int .i64 lo,.int .i64 hi] w fun e w'=>e=.returned (.bool true)∧w'=w:=by
 go_enter Tryz.func60,Tryz.ntmps60
 go_wp2
 go_ret;exact⟨rfl,rfl⟩
theorem l1in_out(n lo hi:Int)(w:World)(h:n<lo∨hi<n):Calls Tryz.prog 60 #[.int .i64 n,.int .i64 lo,.int .i64 hi] w fun e w'=>e=.returned (.bool false)∧w'=w:=by
 by_cases h1:lo≤n
 ·have h2:hi<n:=by omega
  go_enter Tryz.func60,Tryz.ntmps60
  go_wp2
  go_ret;exact⟨by simp;omega,rfl⟩
 ·go_enter Tryz.func60,Tryz.ntmps60
  go_wp2
  go_ret;exact⟨rfl,rfl⟩
def l1inB(n lo hi:Int):Bool:=decide (lo≤n∧n≤hi)
theorem l1in_any(n lo hi:Int)(w:World):Calls Tryz.prog 60 #[.int .i64 n,.int .i64 lo,.int .i64 hi] w fun e w'=>e=.returned (.bool (l1inB n lo hi))∧w'=w:=by
 by_cases h:lo≤n∧n≤hi
 ·have e:l1inB n lo hi=true:=by simp [l1inB,h]
  rw[e];exact l1in_in n lo hi w h.1 h.2
 ·have e:l1inB n lo hi=false:=by unfold l1inB;exact decide_eq_false h
  rw[e];exact l1in_out n lo hi w (by omega)
theorem ptr_nil(bn o:Nat)(w:World):(binOp .eql 126 (.pointer none) (.pointer (some ⟨bn,o,none⟩))).run Tryz.prog w=.ok (.bool false) w:=by kernel_rfl
theorem psame_block{P:Program}(w:World)(bn p q:Nat):(sameAddr ⟨bn,p,none⟩ ⟨bn,q,none⟩).run P w=.ok (p == q) w:=by
 have:((⟨bn,p,none⟩:Addr) == ⟨bn,q,none⟩)=(p == q):=by
  rw[Bool.eq_iff_iff];simp
 simp [sameAddr,this]
theorem pequalIn{P:Program}(w:World)(d:Nat)(t e:TypeId)(i:TypeInfo)(ht:P.underlying t=some (.pointer e))(hi:P.info? e=some i)(hs:i.size≠0)(bn p q:Nat):
  (Op.equalIn (d+1) t (.pointer (some ⟨bn,p,none⟩)) (.pointer (some ⟨bn,q,none⟩))).run P w=.ok (p == q) w:=by
 simp [Op.equalIn,run_underlying ht,sizeOf,typeInfo,hi,hs,psame_block]
theorem infoNodeZ:(Tryz.prog.info? 124).map (fun i=>i.size)=some 2:=by kernel_rfl
theorem ptr_eq(bn p q:Nat)(w:World):(binOp .eql 126 (.pointer (some ⟨bn,p,none⟩)) (.pointer (some ⟨bn,q,none⟩))).run Tryz.prog w=.ok (.bool (p == q)) w:=by
 obtain⟨i,hi,hs⟩:∃i,Tryz.prog.info? 124=some i∧i.size=2:=by
  have:=infoNodeZ;cases h:Tryz.prog.info? 124 with
  | none=>rw[h] at this;simp at this
  | some i=>rw[h] at this;simp at this;exact⟨i,rfl,this⟩
 have he:(Op.equalIn 10000 126 (.pointer (some ⟨bn,p,none⟩)) (.pointer (some ⟨bn,q,none⟩))).run Tryz.prog w=.ok (p == q) w:=by
  exact pequalIn w 9999 126 124 i Tryz.underlying126 hi (by omega) bn p q
 simp only [binOp];simp [Op.equal,Op.maxDepth,he]
theorem ptr_no(bn p q:Nat)(w:World)(h:¬p=q):(binOp .eql 126 (.pointer (some ⟨bn,p,none⟩)) (.pointer (some ⟨bn,q,none⟩))).run Tryz.prog w=.ok (.bool false) w:=by
 rw[ptr_eq,beq_eq_false_iff_ne.2 h]
theorem ptr_yes(bn p:Nat)(w:World):(binOp .eql 126 (.pointer (some ⟨bn,p,none⟩)) (.pointer (some ⟨bn,p,none⟩))).run Tryz.prog w=.ok (.bool true) w:=by
 rw[ptr_eq];simp
end Go.Proofs.YtddkhnclmeikfaaGreat
namespace Go.Proofs.YtddkhnclmeikfaaGreat
open Go.RowKit Go.Extern.Stop Go.Stop Go.Extern
attribute [local go_sem ↓] Go.wp_at_zero Go.wp_at_succ
theorem as_none(t:Value)(w:World):
  Calls Tryz.prog 284 #[.nilIface,t] w fun e w'=>e=.returned (.bool false)∧w'=w:=by
 go_enter Tryz.func284,Tryz.ntmps284
 go_wp2
 go_ret;exact⟨rfl,rfl⟩
end Go.Proofs.YtddkhnclmeikfaaGreat
