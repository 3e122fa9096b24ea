import Derived.Test.YtolmnenlnpbcfaaGreatDoorBase
import Derived.Test.YtolmnenlnpbcfaaGreatDoorProg
import Derived.BigQuiet
import Derived.Deep.DrawnRows
import Derived.Deep.QuietTactic
import Derived.Deep.RegionHeld3
import Derived.Outline
import Derived.WalkKit
import Derived.WalkLawsBesides
import Derived.WalkSpells
namespace Go.Proofs.YtolmnenlnpbcfaaGreatDoor
open Go.RowKit Tryz
attribute [local go_sem ↓] Go.wp_at_zero Go.wp_at_succ
theorem b7k(n b a:Int)(w:World)(d:b<=n)(c:n<=a):Calls prog 45 #[.int .i64 n,.int .i64 b,.int .i64 a] w λe w'=>e=.returned (.bool true)/\w'=w:=by
 go_in;go_wp2;go_ret;exact⟨rfl,rfl⟩
theorem c4o(n b a:Int)(w:World)(h:n<b\/a<n):Calls prog 45 #[.int .i64 n,.int .i64 b,.int .i64 a] w λe w'=>e=.returned (.bool false)/\w'=w:=by
 by_cases c:b<=n
 ·have d:a<n:=by omega
  go_in;go_wp2;go_ret;exact⟨by simp;omega,rfl⟩
 go_in;go_wp2;go_ret;exact⟨rfl,rfl⟩
def cH(n lo hi:Int):Bool:=decide (lo<=n/\n<=hi)
theorem a8w(n b a:Int)(w:World):Calls prog 45 #[.int .i64 n,.int .i64 b,.int .i64 a] w λe w'=>e=.returned (.bool (cH n b a))/\w'=w:=by grind[cH,b7k,c4o]
theorem l1in_in(n b a:Int)(w:World)(d:b<=n)(c:n<=a):Calls prog 65 #[.int .i64 n,.int .i64 b,.int .i64 a] w λe w'=>e=.returned (.bool true)/\w'=w:=by
 go_in;go_wp2;go_ret;exact⟨rfl,rfl⟩
theorem d1i(n b a:Int)(w:World)(h:n<b\/a<n):Calls prog 65 #[.int .i64 n,.int .i64 b,.int .i64 a] w λe w'=>e=.returned (.bool false)/\w'=w:=by
 by_cases c:b<=n
 ·have d:a<n:=by omega
  go_in;go_wp2;go_ret;exact⟨by simp;omega,rfl⟩
 go_in;go_wp2;go_ret;exact⟨rfl,rfl⟩
def eK(n lo hi:Int):Bool:=decide (lo<=n/\n<=hi)
theorem a9s(n b a:Int)(w:World):Calls prog 65 #[.int .i64 n,.int .i64 b,.int .i64 a] w λe w'=>e=.returned (.bool (eK n b a))/\w'=w:=by grind[eK,l1in_in,d1i]
abbrev Rw:=Option Tmp×List Tmp×List Nat
def b2y(md:Region.Mode)(ops:Array Oper)(o:Oper):Rw:=(o.dst,o.looksAt ops,(o.after.toList.filter (λe=>Region.binds md e)).map (·.on))
def d1t(x y:Rw):Bool:=
 (match x.1 with
  | some d=>!y.2.1.contains d && y.1 != some d
  | none=>true) &&
 (match y.1 with
  | some d=>!x.2.1.contains d
  | none=>true)
theorem c8g(b:Region.Mode)(a:Array Oper)(x y:Oper):d1t (b2y b a x) (b2y b a y)=x.apart a y:=rfl
def lexR:Nat->List Rw->Bool
 | _,[]=>true
 | k,r::rs=>r.2.2.all (λi=>Nat.blt i k) && rs.all (λs=>s.2.2.contains k || d1t r s) && lexR (k+1) rs
theorem a9z(md:Region.Mode)(ops:Array Oper):∀(l:List Oper)(k:Nat)(listed:Array Bool),k+l.length=ops.size->(∀j,l[j]?=ops[k+j]?)->listed.size=ops.size->(∀j,j<ops.size->listed[j]?=some (decide (j<k)))->
  lexR k (l.map (b2y md ops))=true->Region.lexFrom md ops l.length k listed=true
 | [],k,listed,hk,_,hs,hl,_=>by
  simp at hk;simp only[List.length_nil,Region.lexFrom,List.isEmpty_iff,Region.ready,List.filter_eq_nil_iff,List.mem_range];intro i hi;have:=hl i hi;simp[this,hk,hi]
 | o::l,k,listed,hk,ho,hs,hl,h=>by
  simp at hk;have h0:ops[k]?=some o:=by simpa using (ho 0).symm
  have hkn:k<ops.size:=by omega
  simp only[List.map_cons,lexR,Bool.and_eq_true,List.all_eq_true]at h;have⟨⟨ha,hb⟩,hc⟩:=h;simp only[List.length_cons,Region.lexFrom,Bool.and_eq_true];refine⟨⟨?_,?_⟩,?_⟩;simp only[List.contains_eq_mem,decide_eq_true_eq,Region.ready,List.mem_filter,List.mem_range];refine⟨hkn,?_⟩;simp only[Array.getD_eq_getD_getElem?,hl k hkn,h0];simp only[Nat.lt_irrefl,decide_false,Option.getD_some,Bool.not_false,Option.map_some,Bool.true_and,Array.all_eq_true_iff_forall_mem];intro e he;by_cases hbd:Region.binds md e=true
  ·have:=ha e.on (by simp only[b2y,List.mem_map,List.mem_filter];exact⟨e,⟨by simpa using he,hbd⟩,rfl⟩);have hlt:e.on<k:=Nat.le_of_ble_eq_true this;simp[hl e.on (by omega),hlt]
  simp[hbd];simp only[Region.free,h0,List.all_eq_true,List.mem_range];intro j hj;by_cases e1:j=k
  ·simp[e1]
  by_cases e2:j<k
  ·have:=hl j hj;simp[this,e2]
  have⟨oj,hoj⟩:∃oj,ops[j]?=some oj:=⟨_,nE hj⟩;have hm:oj∈l:=by
   have:=ho (j-k);rw[show k+(j-k)=j by omega,hoj,show j-k=(j-k-1)+1 by omega,List.getElem?_cons_succ]at this;exact qI this
  have:=hb (b2y md ops oj) (List.mem_map_of_mem hm);rw[c8g,Bool.or_eq_true]at this;simp only[hoj,Bool.or_eq_true];obtain h3|h3:=this;refine .inr (.inl ?_);simp only[b2y,List.contains_eq_mem,decide_eq_true_eq,List.mem_map,List.mem_filter]at h3;have⟨e,⟨he,hbd⟩,hon⟩:=h3;rw[Array.any_eq_true'];exact⟨e,by simpa using he,by simp[hbd,hon]⟩;exact .inr (.inr h3);refine a9z md ops l (k+1) _ (by omega) (λj=>?_) (by simpa using hs) (λj hj=>?_) hc
  ·have:=ho (j+1);rw[List.getElem?_cons_succ]at this;rw[this,show k+(j+1)=k+1+j by omega]
  rw[my];by_cases e:k=j
  ·grind[lexR,b2y]
  rw[if_neg e,hl j hj];congr 1;exact decide_eq_decide.2 (by omega)
theorem b7s(b:Region.Mode)(a:Array Oper)(d:Region.noSelect a=true)(h:lexR 0 (a.toList.map (b2y b a))=true):Region.lexB b a=true:=by
 simp only[Region.lexB,d,Bool.true_and];have:=a9z b a a.toList 0 (Array.replicate a.size false) (by simp) (by simp) (by simp) (λj c=>by simp[c]) h;simpa using this
def third:Option Code->Array Oper
 | some (.seq _ (.seq _ (.seq (.region _ ops _) _)))=>ops
 | _=>#[]
theorem lim_lex:Region.lexB .any (third Tryz.f73.body)=true:=b7s _ _ (by kernel_rfl) (by kernel_rfl)
end Go.Proofs.YtolmnenlnpbcfaaGreatDoor
