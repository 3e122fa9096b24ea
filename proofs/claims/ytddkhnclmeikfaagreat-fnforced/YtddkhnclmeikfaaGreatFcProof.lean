import Derived.Test.YtddkhnclmeikfaaGreatFc4
import Derived.Test.YtddkhnclmeikfaaGreatRows
namespace Go.Proofs.YtddkhnclmeikfaaGreat.fnForced
set_option maxRecDepth 100000
set_option maxHeartbeats 1000000
open Go.ChangeShapes Go.WideShapes Go.ChangeAt Go.RowKit
theorem own:ownKnob Tryz.prog.godebug=none:=by kernel_rfl
theorem laidOut:laidOutB Tryz.prog=true:=by kernel_rfl
theorem law_any(w:World)(u:Value)(hu:ByL w u):
  Calls Tryz.prog 11 #[u] w fun e w'=>e=.returned (.bool true)∧Ext w w':=by
 obtain⟨au,nu,ku,rfl,mu,hu⟩:=hu;by_cases h1:nu≤1048576
 ·exact forcedLaw_in w _ ⟨au,nu,ku,rfl,h1,hu⟩
 ·have g1:(nu:Int) > 1048576:=by omega
  clear hu;go_enter Tryz.func11,Tryz.ntmps11;go_wp2_with fail;go_ret;exact⟨rfl,Ext.refl _⟩
theorem lifted(os:Os)(started:os.Started)(H:Type)(enc:TypeId×Value→H):
  ReturnsInHanded {} Tryz.checked os 11 .any (Rows.fnForcedSpec.pre6 enc Tryz.prog Tryz.f11 Rows.fnForcedRow.domain false) (Rows.fnForcedSpec.post enc Tryz.prog Tryz.f11 false true false false):=by
 refine returnsInHanded_of_change_sized (C:=Tryz.checked) own started (by kernel_rfl) Tryz.func11
  (ChangeSpec.witness6 (enc:=enc) (C:=Tryz.checked) false ⟨#[],#[.slice none 0 0],[]⟩ 8 (by kernel_rfl) (by kernel_rfl) (by kernel_rfl) (by kernel_rfl)) ?_
 intro W base args ds gs before hval0 hW hcnd hsz0 _;have hval:∀(j:Nat) t v,Tryz.f11.params[j]?=some t→args[j]?=some v→Value.okWide Tryz.prog W .any base t v:=hval0;have hW':=hW;obtain⟨p,q,hA0,hV,rfl,hfz,hnd⟩:=hW;have hA:DataW.TrodAll enc Tryz.prog W 0 (fun _=>true) true Tryz.f11.params.toList args.toList ds p:=hA0;have hlt:=hA.lt;rw[Tryz.params11] at hA hval;obtain⟨v0,vs0,d0,ds0,p0,q0,hargs,rfl,rfl,h0,r0⟩:=trodAll_cons hA;obtain⟨rfl,rfl,rfl⟩:=trodAll_nil r0;obtain rfl:args=#[v0]:=by cases args;simp_all
 obtain⟨rfl,rfl⟩:=trodVars_none hV;have b0:=rd_bytes (hval 0 22 v0 rfl rfl) h0;clear hA0 hval0;refine(law_any W v0 b0).mono fun e W' ⟨he,hx⟩=>?_
 subst he;exact⟨_,rfl,_,_,_,[],p0++[],[],hW',trodAll_cons_mk (shut_bool Tryz.underlying4 _) trodAll_mk0,trodAll_cons_mk (Below.trod laidOut (by kernel_rfl) (of_decide_eq_true (by kernel_rfl)) h0 hx (fun z hz=>hlt z (by simp [hz]))) trodAll_mk0,rfl,Below.frame hx _,fun h=>by cases h⟩
theorem j1:(Rows.fnForcedRow.inPlace == Tryz.prog.inPlace 11)=true:=by kernel_rfl
theorem j2:(Rows.fnForcedRow.unfollowed == Tryz.prog.unfollowed 11)=true:=by kernel_rfl
theorem j3:(Rows.fnForcedRow.recurses == Tryz.prog.recurses 11)=true:=by kernel_rfl
theorem j4:(Rows.fnForcedRow.named == Tryz.prog.varsNamed 11)=true:=by kernel_rfl
theorem jf:joinedFacts Tryz.prog 11 Tryz.f11 Rows.fnForcedSpec Rows.fnForcedRow=true:=by
 unfold joinedFacts;rw[j1,j2,j3,j4]
 kernel_rfl
theorem over:Rows.fnForcedRow.holds Tryz.pinned (OpenSpec.ofChange Rows.fnForcedSpec):=
 OpenClaim.holds_of_wide 11 Tryz.f11 rfl rfl rfl rfl rfl rfl rfl ⟨rfl,rfl,rfl,rfl,rfl⟩ rfl rfl rfl rfl rfl (by kernel_rfl) Tryz.func11 jf
  (of_decide_eq_true (by kernel_rfl)) (by unfold Func.isWrapper;first | (rw[if_pos (by decide +kernel)];kernel_rfl) | (rw[if_neg (by decide +kernel)];exact⟨rfl,rfl⟩))
  (fun os started H enc _=>lifted os started H enc)
end Go.Proofs.YtddkhnclmeikfaaGreat.fnForced
namespace Go.Proofs.YtddkhnclmeikfaaGreat
theorem fnForced_holds:Rows.FnForcedSaid:=fnForced.over
#print axioms fnForced_holds
end Go.Proofs.YtddkhnclmeikfaaGreat
