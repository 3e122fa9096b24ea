import Derived.Test.YtddkhnclmeikfaaGreatChLaw
import Derived.Test.YtddkhnclmeikfaaGreatRows
namespace Go.Proofs.YtddkhnclmeikfaaGreat.fnChain
set_option maxRecDepth 100000
set_option maxHeartbeats 1000000
open Go.ChangeShapes Go.WideShapes Go.ChangeAt Go.RowKit
theorem own:ownKnob Tryz.prog.godebug=none:=by kernel_rfl
theorem laidOut:laidOutB Tryz.prog=true:=by kernel_rfl
theorem law_any(w:World)(u:Value)(hu:ByL w u):
  Calls Tryz.prog 8 #[u] w fun e w'=>e=.returned (.bool true)∧Ext w w':=by
 obtain⟨au,nu,ku,rfl,mu,hu⟩:=hu;by_cases h1:nu≤1048576
 ·exact chainLaw_in w _ ⟨au,nu,ku,rfl,h1,hu⟩
 ·have g1:(nu:Int) > 1048576:=by omega
  clear hu;go_enter Tryz.func8,Tryz.ntmps8;go_wp2_with fail;go_ret;exact⟨rfl,Ext.refl _⟩
theorem lifted(os:Os)(started:os.Started)(H:Type)(enc:TypeId×Value→H):
  ReturnsInHanded {} Tryz.checked os 8 .any (Rows.fnChainSpec.pre6 enc Tryz.prog Tryz.f8 Rows.fnChainRow.domain false) (Rows.fnChainSpec.post enc Tryz.prog Tryz.f8 false true false false):=by
 refine returnsInHanded_of_change_sized (C:=Tryz.checked) own started (by kernel_rfl) Tryz.func8
  (ChangeSpec.witness6 (enc:=enc) (C:=Tryz.checked) false ⟨#[],#[.slice none 0 0],[]⟩ 8 (by kernel_rfl) (by kernel_rfl) (by kernel_rfl) (by kernel_rfl)) ?_
 intro W base args ds gs before hval0 hW hcnd hsz0 _;have hval:∀(j:Nat) t v,Tryz.f8.params[j]?=some t→args[j]?=some v→Value.okWide Tryz.prog W .any base t v:=hval0;have hW':=hW;obtain⟨p,q,hA0,hV,rfl,hfz,hnd⟩:=hW;have hA:DataW.TrodAll enc Tryz.prog W 0 (fun _=>true) true Tryz.f8.params.toList args.toList ds p:=hA0;have hlt:=hA.lt;rw[Tryz.params8] at hA hval;obtain⟨v0,vs0,d0,ds0,p0,q0,hargs,rfl,rfl,h0,r0⟩:=trodAll_cons hA;obtain⟨rfl,rfl,rfl⟩:=trodAll_nil r0;obtain rfl:args=#[v0]:=by cases args;simp_all
 obtain⟨rfl,rfl⟩:=trodVars_none hV;have b0:=rd_bytes (hval 0 22 v0 rfl rfl) h0;clear hA0 hval0;refine(law_any W v0 b0).mono fun e W' ⟨he,hx⟩=>?_
 subst he;exact⟨_,rfl,_,_,_,[],p0++[],[],hW',trodAll_cons_mk (shut_bool Tryz.underlying4 _) trodAll_mk0,trodAll_cons_mk (Below.trod laidOut (by kernel_rfl) (of_decide_eq_true (by kernel_rfl)) h0 hx (fun z hz=>hlt z (by simp [hz]))) trodAll_mk0,rfl,Below.frame hx _,fun h=>by cases h⟩
theorem j1:(Rows.fnChainRow.inPlace == Tryz.prog.inPlace 8)=true:=by kernel_rfl
theorem j2:(Rows.fnChainRow.unfollowed == Tryz.prog.unfollowed 8)=true:=by kernel_rfl
theorem j3:(Rows.fnChainRow.recurses == Tryz.prog.recurses 8)=true:=by kernel_rfl
theorem j4:(Rows.fnChainRow.named == Tryz.prog.varsNamed 8)=true:=by kernel_rfl
theorem jf:joinedFacts Tryz.prog 8 Tryz.f8 Rows.fnChainSpec Rows.fnChainRow=true:=by
 unfold joinedFacts;rw[j1,j2,j3,j4]
 kernel_rfl
theorem over:Rows.fnChainRow.holds Tryz.pinned (OpenSpec.ofChange Rows.fnChainSpec):=
 OpenClaim.holds_of_wide 8 Tryz.f8 rfl rfl rfl rfl rfl rfl rfl ⟨rfl,rfl,rfl,rfl,rfl⟩ rfl rfl rfl rfl rfl (by kernel_rfl) Tryz.func8 jf
  (of_decide_eq_true (by kernel_rfl)) (by unfold Func.isWrapper;first | (rw[if_pos (by decide +kernel)];kernel_rfl) | (rw[if_neg (by decide +kernel)];exact⟨rfl,rfl⟩))
  (fun os started H enc _=>lifted os started H enc)
end Go.Proofs.YtddkhnclmeikfaaGreat.fnChain
namespace Go.Proofs.YtddkhnclmeikfaaGreat
theorem fnChain_holds:Rows.FnChainSaid:=fnChain.over
#print axioms fnChain_holds
end Go.Proofs.YtddkhnclmeikfaaGreat
