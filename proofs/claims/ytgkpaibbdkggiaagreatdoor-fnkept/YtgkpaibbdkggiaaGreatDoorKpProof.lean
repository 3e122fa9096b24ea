import Derived.Test.YtgkpaibbdkggiaaGreatDoorKpL
import Derived.Test.YtgkpaibbdkggiaaGreatDoorKpJ
import Derived.LaidMore
import Derived.OpenVars
namespace Go.Proofs.YtgkpaibbdkggiaaGreatDoor.fnKept
set_option maxRecDepth 100000
set_option maxHeartbeats 1000000
open Go.ChangeShapes Go.WideShapes Go.ChangeAt Go.RowKit
theorem own:ownKnob Tryz.prog.godebug=none:=by kernel_rfl
theorem laidOut:laidOutB Tryz.prog=true:=by kernel_rfl
theorem law_any(w:World)(u v:Value)(hu:ByL w u)(hv:ByL w v)(hg:w.cell? ⟨0,0,none⟩=some (rty 112)):
  Calls Tryz.prog 3 #[u,v] w λe w'=>e=.returned (.bool true)/\Ext w w':=by
 obtain⟨au,nu,ku,rfl,mu,hu⟩:=hu;obtain⟨av,nv,kv,rfl,mv,hv⟩:=hv;by_cases h1:nu<=1048576
 ·by_cases h2:nv<=1048576
  ·exact c5y w _ _ ⟨au,nu,ku,rfl,h1,hu⟩ ⟨av,nv,kv,rfl,h2,hv⟩ hg
  ·have g1:¬((nu:Int) > 1048576):=by omega
   have g2:(nv:Int) > 1048576:=by omega
   clear hu hv hg;go_enter Tryz.func3,Tryz.ntmps3;go_wp2_with fail;go_ret;exact⟨rfl,Ext.refl _⟩
 ·have g1:(nu:Int) > 1048576:=by omega
  clear hu hv hg;go_enter Tryz.func3,Tryz.ntmps3;go_wp2_with fail;go_ret;exact⟨rfl,Ext.refl _⟩
theorem et : Tryz.prog.globalNamed "errors.errorType" = some 0 := by kernel_rfl
theorem rt : (Tryz.prog.cutTypes.find? (·.1 == "internal/reflectlite.rtype")).map (·.2) = some 220 := by kernel_rfl
theorem oneRow:((List.range Tryz.prog.types.size).filter λt=>Tryz.prog.rowNamed t [101,114,114,111,114])=[112]:=by kernel_rfl
theorem handle_of_laid{W:World}(h:laidMetH Tryz.prog Rows.fnKeptRow.laid W):W.cell? ⟨0,0,none⟩=some (rty 112):=by
 have h':laidMet Tryz.prog [] W/\handlesMet Tryz.prog Rows.fnKeptRow.laid W:=h;obtain⟨name,u,ty,e1,e2,e3,e4,e5⟩:=h'.2 _ (List.mem_singleton.2 rfl);have en:name=[101,114,114,111,114]:=(Option.some.inj e1).symm;subst en;obtain rfl:=Option.some.inj (rt.symm.trans e2);have hm:ty∈(List.range Tryz.prog.types.size).filter λt=>Tryz.prog.rowNamed t [101,114,114,111,114]:=List.mem_filter.2 ⟨List.mem_range.2 e3,e4⟩
 rw[oneRow] at hm;obtain rfl:=List.mem_singleton.1 hm;have hh:typeHandle Tryz.prog 112=hdl 112:=by kernel_rfl
 rw[hh] at e5
 simpa using World.var?_cell et e5 0
theorem door_met(os:Os)(args:Array Value):laidMetH Tryz.prog Rows.fnKeptRow.laid ((World.doorLaid Tryz.prog 400 os).forCall (λ_ _=>0) ⟨#[],args,[]⟩).memory:=
 laidMetH_of_parts (laidMet_nil _ _) (by kernel_rfl)
theorem lifted(os:Os)(started:os.Started)(H:Type)(enc:TypeId×Value->H):
  ReturnsInHanded {} Tryz.checked os 3 .any (λw args=>(Rows.fnKeptSpec.pre enc Tryz.prog Tryz.f3 [] false w args/\laidMetH Tryz.prog Rows.fnKeptRow.laid w)/\sizedMet enc Tryz.prog Tryz.f3 (OpenSpec.ofChange Rows.fnKeptSpec) false w args)
   (Rows.fnKeptSpec.post enc Tryz.prog Tryz.f3 false true false false):=by
 refine returnsInHanded_of_change_and (C:=Tryz.checked) (X:=λw _=>laidMetH Tryz.prog Rows.fnKeptRow.laid w) (λ_ _ _ hh h=>h.of_heap hh) own started (by kernel_rfl) Tryz.func3
  (ChangeSpec.witness_shaped (enc:=enc) (C:=Tryz.checked) (os:=os) (X:=λw _=>laidMetH Tryz.prog Rows.fnKeptRow.laid w) false (World.doorLaid Tryz.prog 400 os) #[.slice none 0 0,.slice none 0 0] 8 rfl (World.shaped_of_RefB (by kernel_rfl) (by kernel_rfl)) (by kernel_rfl) (by kernel_rfl) (by kernel_rfl) (door_met os _)) ?_
 intro W base args ds gs before hval0 hW hcnd hsz0 hL _;have hval:∀(j:Nat) t v,Tryz.f3.params[j]?=some t->args[j]?=some v->Value.okWide Tryz.prog W .any base t v:=hval0;have hsz:(DataW.weightsEach Tryz.prog (Tryz.f3.params.toList++Rows.fnKeptSpec.plain.varTypes Tryz.prog) (ds++gs)).all (·<=reachBytes)=true:=hsz0;have hW':=hW;obtain⟨p,q,hA0,hV,rfl,hfz,hnd⟩:=hW;have hA:DataW.TrodAll enc Tryz.prog W 0 (λ_=>true) true Tryz.f3.params.toList args.toList ds p:=hA0;have hlt:=hA.lt;rw[Tryz.params3] at hA hval hsz;obtain⟨v0,vs0,d0,ds0,p0,q0,hargs,rfl,rfl,h0,r0⟩:=trodAll_cons hA;obtain⟨v1,vs1,d1,ds1,p1,q1,hargs1,rfl,rfl,h1,r1⟩:=trodAll_cons r0;obtain⟨rfl,rfl,rfl⟩:=trodAll_nil r1;obtain rfl:args=#[v0,v1]:=by cases args;simp_all
 obtain⟨rfl,rfl⟩:=trodVars_none hV;have b0:=c3s (hval 0 22 v0 rfl rfl) h0;have b1:=c3s (hval 1 22 v1 rfl rfl) h1;clear hA0 hval0;refine(law_any W v0 v1 b0 b1 (handle_of_laid hL)).mono λe W' ⟨he,hx⟩=>?_
 subst he
 exact⟨_,rfl,_,_,_,[],p0++(p1++[]),[],hW',trodAll_cons_mk (shut_bool Tryz.underlying4 _) trodAll_mk0,
  trodAll_cons_mk (Below.trod laidOut (by kernel_rfl) (of_decide_eq_true (by kernel_rfl)) h0 hx (λz hz=>hlt z (by simp [hz]))) (trodAll_cons_mk (Below.trod laidOut (by kernel_rfl) (of_decide_eq_true (by kernel_rfl)) h1 hx (λz hz=>hlt z (by simp [hz]))) trodAll_mk0),
  rfl,Below.frame hx _,λh=>by cases h⟩
theorem over:Rows.fnKeptRow.holds Tryz.pinned (OpenSpec.ofChange Rows.fnKeptSpec):=
 OpenClaim.holds_of_wide 3 Tryz.f3 rfl rfl rfl rfl rfl rfl rfl ⟨rfl,rfl,rfl,rfl,rfl⟩ rfl rfl rfl rfl rfl (by kernel_rfl) Tryz.func3 jf
  (of_decide_eq_true (by kernel_rfl)) (by unfold Func.isWrapper;first | (rw[if_pos (by decide +kernel)];kernel_rfl) | (rw[if_neg (by decide +kernel)];exact⟨rfl,rfl⟩))
  (λos started H enc _=>lifted os started H enc)
end Go.Proofs.YtgkpaibbdkggiaaGreatDoor.fnKept
namespace Go.Proofs.YtgkpaibbdkggiaaGreatDoor
theorem fnKept_row:Rows.FnKeptSaid:=fnKept.over
#print axioms fnKept_row
end Go.Proofs.YtgkpaibbdkggiaaGreatDoor
