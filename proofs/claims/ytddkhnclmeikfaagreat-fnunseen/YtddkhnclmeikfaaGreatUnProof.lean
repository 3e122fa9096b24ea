import Derived.Test.YtddkhnclmeikfaaGreatUnLaw
import Derived.Test.YtddkhnclmeikfaaGreatRows
namespace Go.Proofs.YtddkhnclmeikfaaGreat.fnUnseen
set_option maxRecDepth 100000
set_option maxHeartbeats 1000000
open Go.ChangeShapes Go.WideShapes Go.ChangeAt Go.RowKit
theorem own:ownKnob Tryz.prog.godebug=none:=by kernel_rfl
theorem laidOut:laidOutB Tryz.prog=true:=by kernel_rfl
theorem law_any(w:World)(u v:Value)(c:ByL w u)(d:ByL w v):
  Calls Tryz.prog 4 #[u,v] w λe w'=>e=.returned (.bool true)/\Ext w w':=by
 obtain⟨g,a,f,rfl,mu,c⟩:=c;obtain⟨h,b,j,rfl,n,d⟩:=d;by_cases i:a<=1048576
 ·by_cases k:b<=1048576
  ·exact c0c w _ _ ⟨g,a,f,rfl,i,c⟩ ⟨h,b,j,rfl,k,d⟩
  ·have l:¬((a:Int) > 1048576):=by omega
   have m:(b:Int) > 1048576:=by omega
   go_enter Tryz.func4,Tryz.ntmps4;go_wp2;go_ret;exact⟨rfl,Ext.refl _⟩
 ·have l:(a:Int) > 1048576:=by omega
  go_enter Tryz.func4,Tryz.ntmps4;go_wp2;go_ret;exact⟨rfl,Ext.refl _⟩
theorem lifted(E:Os)(c:E.Started)(H:Type)(enc:TypeId×Value->H):
  ReturnsInHanded {} Tryz.checked E 4 .any (Rows.fnUnseenSpec.pre6 enc Tryz.prog Tryz.f4 Rows.fnUnseenRow.domain false) (Rows.fnUnseenSpec.post enc Tryz.prog Tryz.f4 false true false false):=by
 refine returnsInHanded_of_change_sized (C:=Tryz.checked) own c (by kernel_rfl) Tryz.func4
  (ChangeSpec.witness6 (enc:=enc) (C:=Tryz.checked) false ⟨#[],#[.slice none 0 0,.slice none 0 0],[]⟩ 8 (by kernel_rfl) (by kernel_rfl) (by kernel_rfl) (by kernel_rfl)) ?_
 intro W g a U gs k d B x D _;have b:∀(j:Nat) t v,Tryz.f4.params[j]?=some t->a[j]?=some v->Value.okWide Tryz.prog W .any g t v:=d;have s:=B;obtain⟨p,q,o,R,rfl,G,Q⟩:=B;have m:DataW.TrodAll enc Tryz.prog W 0 (λ_=>true) true Tryz.f4.params.toList a.toList U p:=o;have f:=m.lt;rw[Tryz.params4] at m b;obtain⟨n,L,V,T,I,X,w,rfl,rfl,A,S⟩:=trodAll_cons m;obtain⟨u,J,d1,P,O,Z,i,rfl,rfl,y,F⟩:=trodAll_cons S;obtain⟨rfl,rfl,rfl⟩:=trodAll_nil F;obtain rfl:a=#[n,u]:=by cases a;simp_all
 obtain⟨rfl,rfl⟩:=trodVars_none R;have N:=c3j (b 0 22 n rfl rfl) A;have M:=c3j (b 1 22 u rfl rfl) y;refine(law_any W n u N M).mono λe Y ⟨K,r⟩=>?_
 subst K;exact⟨_,rfl,_,_,_,[],I++(O++[]),[],s,trodAll_cons_mk (shut_bool Tryz.underlying4 _) trodAll_mk0,trodAll_cons_mk (Below.trod laidOut (by kernel_rfl) (of_decide_eq_true (by kernel_rfl)) A r (λz l=>f z (by simp [l]))) (trodAll_cons_mk (Below.trod laidOut (by kernel_rfl) (of_decide_eq_true (by kernel_rfl)) y r (λz l=>f z (by simp [l]))) trodAll_mk0),rfl,Below.frame r _,λh=>by cases h⟩
theorem j1:(Rows.fnUnseenRow.inPlace == Tryz.prog.inPlace 4)=true:=by kernel_rfl
theorem j2:(Rows.fnUnseenRow.unfollowed == Tryz.prog.unfollowed 4)=true:=by kernel_rfl
theorem j3:(Rows.fnUnseenRow.recurses == Tryz.prog.recurses 4)=true:=by kernel_rfl
theorem j4:(Rows.fnUnseenRow.named == Tryz.prog.varsNamed 4)=true:=by kernel_rfl
theorem jf:joinedFacts Tryz.prog 4 Tryz.f4 Rows.fnUnseenSpec Rows.fnUnseenRow=true:=by
 unfold joinedFacts;rw[j1,j2,j3,j4]
 kernel_rfl
theorem over:Rows.fnUnseenRow.holds Tryz.pinned (OpenSpec.ofChange Rows.fnUnseenSpec):=
 OpenClaim.holds_of_wide 4 Tryz.f4 rfl rfl rfl rfl rfl rfl rfl ⟨rfl,rfl,rfl,rfl,rfl⟩ rfl rfl rfl rfl rfl (by kernel_rfl) Tryz.func4 jf
  (of_decide_eq_true (by kernel_rfl)) (by unfold Func.isWrapper;first | (rw[if_pos (by decide +kernel)];kernel_rfl) | (rw[if_neg (by decide +kernel)];exact⟨rfl,rfl⟩))
  (λc a H b _=>lifted c a H b)
end Go.Proofs.YtddkhnclmeikfaaGreat.fnUnseen
namespace Go.Proofs.YtddkhnclmeikfaaGreat
theorem fnUnseen_holds:Rows.FnUnseenSaid:=fnUnseen.over
#print axioms fnUnseen_holds
end Go.Proofs.YtddkhnclmeikfaaGreat
