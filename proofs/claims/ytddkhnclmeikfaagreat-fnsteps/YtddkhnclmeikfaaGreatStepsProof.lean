import Derived.Test.YtddkhnclmeikfaaGreatRby
import Derived.Test.YtddkhnclmeikfaaGreatStepsLaw
import Derived.Test.YtddkhnclmeikfaaGreatRows
namespace Go.Proofs.YtddkhnclmeikfaaGreat.fnSteps
set_option maxRecDepth 100000
set_option maxHeartbeats 1000000
open Go.ChangeShapes Go.WideShapes Go.ChangeAt Go.RowKit
theorem own:ownKnob Tryz.prog.godebug=none:=by kernel_rfl
theorem laidOut:laidOutB Tryz.prog=true:=by kernel_rfl
theorem law_any(w:World)(u v:Value)(hu:ByL w u)(hv:ByL w v):
  Calls Tryz.prog 5 #[u,v] w λe w'=>e=.returned (.bool true)/\Ext w w':=by
 obtain⟨au,nu,ku,rfl,mu,hu⟩:=hu;obtain⟨av,nv,kv,rfl,mv,hv⟩:=hv;by_cases h1:nu<=1048576
 ·by_cases h2:nv<=1048576
  ·exact b8o w _ _ ⟨au,nu,ku,rfl,h1,hu⟩ ⟨av,nv,kv,rfl,h2,hv⟩
  ·have g1:¬((nu:Int) > 1048576):=by omega
   have g2:(nv:Int) > 1048576:=by omega
   clear hu hv;go_enter Tryz.func5,Tryz.ntmps5;go_wp2_with fail;go_ret;exact⟨rfl,Ext.refl _⟩
 ·have g1:(nu:Int) > 1048576:=by omega
  clear hu hv;go_enter Tryz.func5,Tryz.ntmps5;go_wp2_with fail;go_ret;exact⟨rfl,Ext.refl _⟩
theorem lifted(os:Os)(started:os.Started)(H:Type)(enc:TypeId×Value->H):
  ReturnsInHanded {} Tryz.checked os 5 .any (Rows.fnStepsSpec.pre6 enc Tryz.prog Tryz.f5 Rows.fnStepsRow.domain false) (Rows.fnStepsSpec.post enc Tryz.prog Tryz.f5 false true false false):=by
 refine returnsInHanded_of_change_sized (C:=Tryz.checked) own started (by kernel_rfl) Tryz.func5
  (ChangeSpec.witness6 (enc:=enc) (C:=Tryz.checked) false ⟨#[],#[.slice none 0 0,.slice none 0 0],[]⟩ 8 (by kernel_rfl) (by kernel_rfl) (by kernel_rfl) (by kernel_rfl)) ?_
 intro W base args ds gs before hval0 hW hcnd hsz0 _;have hval:∀(j:Nat) t v,Tryz.f5.params[j]?=some t->args[j]?=some v->Value.okWide Tryz.prog W .any base t v:=hval0;have hW':=hW;obtain⟨p,q,hA0,hV,rfl,hfz,hnd⟩:=hW;have hA:DataW.TrodAll enc Tryz.prog W 0 (λ_=>true) true Tryz.f5.params.toList args.toList ds p:=hA0;have hlt:=hA.lt;rw[Tryz.params5] at hA hval;obtain⟨v0,vs0,d0,ds0,p0,q0,hargs,rfl,rfl,h0,r0⟩:=trodAll_cons hA;obtain⟨v1,vs1,d1,ds1,p1,q1,hargs1,rfl,rfl,h1,r1⟩:=trodAll_cons r0;obtain⟨rfl,rfl,rfl⟩:=trodAll_nil r1;obtain rfl:args=#[v0,v1]:=by cases args;simp_all
 obtain⟨rfl,rfl⟩:=trodVars_none hV;have b0:=b8p (hval 0 22 v0 rfl rfl) h0;have b1:=b8p (hval 1 22 v1 rfl rfl) h1;clear hA0 hval0;refine(law_any W v0 v1 b0 b1).mono λe W' ⟨he,hx⟩=>?_
 subst he;exact⟨_,rfl,_,_,_,[],p0++(p1++[]),[],hW',trodAll_cons_mk (shut_bool Tryz.underlying4 _) trodAll_mk0,trodAll_cons_mk (Below.trod laidOut (by kernel_rfl) (of_decide_eq_true (by kernel_rfl)) h0 hx (λz hz=>hlt z (by simp [hz]))) (trodAll_cons_mk (Below.trod laidOut (by kernel_rfl) (of_decide_eq_true (by kernel_rfl)) h1 hx (λz hz=>hlt z (by simp [hz]))) trodAll_mk0),rfl,Below.frame hx _,λh=>by cases h⟩
theorem j1:(Rows.fnStepsRow.inPlace == Tryz.prog.inPlace 5)=true:=by kernel_rfl
theorem j2:(Rows.fnStepsRow.unfollowed == Tryz.prog.unfollowed 5)=true:=by kernel_rfl
theorem j3:(Rows.fnStepsRow.recurses == Tryz.prog.recurses 5)=true:=by kernel_rfl
theorem j4:(Rows.fnStepsRow.named == Tryz.prog.varsNamed 5)=true:=by kernel_rfl
theorem jf:joinedFacts Tryz.prog 5 Tryz.f5 Rows.fnStepsSpec Rows.fnStepsRow=true:=by
 unfold joinedFacts;rw[j1,j2,j3,j4]
 kernel_rfl
theorem over:Rows.fnStepsRow.holds Tryz.pinned (OpenSpec.ofChange Rows.fnStepsSpec):=
 OpenClaim.holds_of_wide 5 Tryz.f5 rfl rfl rfl rfl rfl rfl rfl ⟨rfl,rfl,rfl,rfl,rfl⟩ rfl rfl rfl rfl rfl (by kernel_rfl) Tryz.func5 jf
  (of_decide_eq_true (by kernel_rfl)) (by unfold Func.isWrapper;first | (rw[if_pos (by decide +kernel)];kernel_rfl) | (rw[if_neg (by decide +kernel)];exact⟨rfl,rfl⟩))
  (λos started H enc _=>lifted os started H enc)
end Go.Proofs.YtddkhnclmeikfaaGreat.fnSteps
namespace Go.Proofs.YtddkhnclmeikfaaGreat
theorem fnSteps_holds:Rows.FnStepsSaid:=fnSteps.over
#print axioms fnSteps_holds
end Go.Proofs.YtddkhnclmeikfaaGreat
