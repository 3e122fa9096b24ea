import Derived.Test.YtmfgdjfpchplmaaGreatDoorDoJ
import Derived.Test.YtmfgdjfpchplmaaGreatDoorRd
import Derived.Test.YtmfgdjfpchplmaaGreatDoorDoLaw
import Derived.Carry
import Derived.LaidHandle
import Derived.LaidMore
import Derived.OpenVars
import Derived.ProofKit
namespace Go.Proofs.YtmfgdjfpchplmaaGreatDoor.fnExactDo
set_option maxRecDepth 100000
open Go.ChangeShapes Go.WideShapes Go.ChangeAt Go.RowKit
theorem own:ownKnob Tryz.prog.godebug=none:=by kernel_rfl
theorem laidOut:laidOutB Tryz.prog=true:=by kernel_rfl
theorem cellsA:Tryz.prog.cellsOf 28=5:=by kernel_rfl
theorem agg_of{P:Program}{W:World}{r:Reach}{base:Nat}{t:TypeId}{v:Value}{fs:Array Field}(ht:P.underlying t=some (.struct fs))(h:Value.okWide P W r base t v):∃cs,v=.agg cs:=by
 unfold Value.okWide at h;rw[ht] at h;obtain⟨cs,e,_⟩:=h;exact⟨cs,e⟩
theorem open_heap{H:Type}{enc:TypeId×Value->H}{W:World}{base:Nat}{v:Value}{d:DataW H}{p:List MemPlace}(hok:Value.okWide Tryz.prog W .any base 26 v)(h:DataW.Trod enc Tryz.prog W 0 (λ_=>true) true 26 v d p)(hw:∀n∈d.weights Tryz.prog 26,n<=reachBytes):
  ∃(y:Hp) (vr vc vg:Value),v=y.v vr vc vg/\SlW W vr y.B/\SlC W vc y.A/\SlI W vg y.D:=by
 obtain⟨cs,rfl⟩:=agg_of Tryz.underlying26 hok;obtain⟨fuel,ht⟩:=h;obtain⟨y,vr,vc,vg,e,hr,hc,hg⟩:=rd_heap (x:=(d,p)) ht (λn hn=>hw n hn);refine⟨y,vr,vc,vg,?_,hr,hc,hg⟩;have e2:cs.toList=[iv y.M,iv y.K,iv y.born,vr,vc,iv y.E,iv y.I,iv y.sub,vg,iv y.per,iv y.V,iv y.Q,iv y.S]:=e
 have e3:cs=#[iv y.M,iv y.K,iv y.born,vr,vc,iv y.E,iv y.I,iv y.sub,vg,iv y.per,iv y.V,iv y.Q,iv y.S]:=by
  rw[<-Array.toArray_toList (xs:=cs),e2]
 rw[e3]
theorem rd_act{H:Type}{enc:TypeId×Value->H}{w:World}{base:Nat}{spare:Nat->Bool}{held:Bool}{fuel:Nat}{cs:List Value}{x:DataW H×List MemPlace}(h:DataW.trod enc Tryz.prog w base spare held fuel 28 cs=some x):∃op a b c n:Int,cs=[iv op,iv a,iv b,iv c,iv n]:=by
 obtain⟨xs,n,_,_,hl,hs,hf⟩:=DataW.trod_struct Tryz.underlying28 h;rw[cellsA] at hl;obtain⟨a,b,c,d,e,rfl⟩:=len5 hl;obtain⟨_,f0,_⟩:=dH hs hf 0 3 0 1 rfl zL;obtain⟨_,f1,_⟩:=dH hs hf 1 3 1 1 rfl zL;obtain⟨_,f2,_⟩:=dH hs hf 2 3 2 1 rfl zL;obtain⟨_,f3,_⟩:=dH hs hf 3 3 3 1 rfl zL;obtain⟨_,f4,_⟩:=dH hs hf 4 2 4 1 rfl d7p;obtain⟨k0,e0⟩:=zN f0;obtain⟨k1,e1⟩:=zN f1;obtain⟨k2,e2⟩:=zN f2;obtain⟨k3,e3⟩:=zN f3;obtain⟨k4,e4⟩:=c5y f4;simp at e0 e1 e2 e3 e4;exact⟨k0,k1,k2,k3,k4,by rw[e0,e1,e2,e3,e4]⟩
theorem open_act{H:Type}{enc:TypeId×Value->H}{W:World}{base:Nat}{v:Value}{d:DataW H}{p:List MemPlace}(hok:Value.okWide Tryz.prog W .any base 28 v)(h:DataW.Trod enc Tryz.prog W 0 (λ_=>true) true 28 v d p):
  ∃op a b c n:Int,v=tV op a b c n:=by
 obtain⟨cs,rfl⟩:=agg_of Tryz.underlying28 hok;obtain⟨fuel,ht⟩:=h;obtain⟨op,a,b,c,n,e⟩:=rd_act (x:=(d,p)) ht;refine⟨op,a,b,c,n,?_⟩;have e2:cs.toList=[iv op,iv a,iv b,iv c,iv n]:=e
 have e3:cs=#[iv op,iv a,iv b,iv c,iv n]:=by
  rw[<-Array.toArray_toList (xs:=cs),e2]
 rw[e3]
theorem et : Tryz.prog.globalNamed "errors.errorType" = some 0 := by kernel_rfl
theorem rt : (Tryz.prog.cutTypes.find? (·.1 == "internal/reflectlite.rtype")).map (·.2) = some 199 := by kernel_rfl
theorem oneRow:((List.range Tryz.prog.types.size).filter λt=>Tryz.prog.rowNamed t [101,114,114,111,114])=[119]:=by kernel_rfl
theorem handle_of_laid{W:World}(h:laidMetH Tryz.prog Rows.fnExactDoRow.laid W):W.cell? ⟨0,0,none⟩=some (rty 119):=by
 have h':laidMet Tryz.prog [] W/\handlesMet Tryz.prog Rows.fnExactDoRow.laid W:=h;obtain⟨name,u,ty,e1,e2,e3,e4,e5⟩:=h'.2 _ (List.mem_singleton.2 rfl);have en:name=[101,114,114,111,114]:=(Option.some.inj e1).symm;subst en;obtain rfl:=Option.some.inj (rt.symm.trans e2);have hm:ty∈(List.range Tryz.prog.types.size).filter λt=>Tryz.prog.rowNamed t [101,114,114,111,114]:=List.mem_filter.2 ⟨List.mem_range.2 e3,e4⟩
 rw[oneRow] at hm;obtain rfl:=List.mem_singleton.1 hm;have hh:typeHandle Tryz.prog 119=hdl 119:=by kernel_rfl
 rw[hh] at e5
 simpa using World.var?_cell et e5 0
theorem door_met(os:Os)(args:Array Value):laidMetH Tryz.prog Rows.fnExactDoRow.laid ((World.doorLaid Tryz.prog 400 os).forCall (λ_ _=>0) ⟨#[],args,[]⟩).memory:=
 laidMetH_of_parts (laidMet_nil _ _) (by kernel_rfl)
theorem lifted(os:Os)(started:os.Started)(H:Type)(enc:TypeId×Value->H):
  ReturnsInHanded {} Tryz.checked os 3 .any (λw args=>(Rows.fnExactDoSpec.pre enc Tryz.prog Tryz.f3 [] false w args/\laidMetH Tryz.prog Rows.fnExactDoRow.laid w)/\sizedMet enc Tryz.prog Tryz.f3 (OpenSpec.ofChange Rows.fnExactDoSpec) false w args)
   (Rows.fnExactDoSpec.post enc Tryz.prog Tryz.f3 false true false false):=by
 refine returnsInHanded_of_change_and (C:=Tryz.checked) (X:=λw _=>laidMetH Tryz.prog Rows.fnExactDoRow.laid w) (λ_ _ _ hh h=>h.of_heap hh) own started (by kernel_rfl) Tryz.func3
  (ChangeSpec.witness_shaped (enc:=enc) (C:=Tryz.checked) (os:=os) (X:=λw _=>laidMetH Tryz.prog Rows.fnExactDoRow.laid w) false (World.doorLaid Tryz.prog 400 os) #[.agg #[.int .i64 0,.int .i64 0,.int .i64 0,.slice none 0 0,.slice none 0 0,.int .i64 0,.int .i64 0,.int .i64 0,.slice none 0 0,.int .i64 0,.int .i64 0,.int .i64 0,.int .i64 0],.agg #[.int .i64 0,.int .i64 0,.int .i64 0,.int .i64 0,.int .i64 0]] 8 rfl (World.shaped_of_RefB (by kernel_rfl) (by kernel_rfl)) (by kernel_rfl) (by kernel_rfl) (by kernel_rfl) (door_met os _)) ?_
 intro W base args ds gs before hval0 hW hcnd hsz0 hL _;have hval:∀(j:Nat) t v,Tryz.f3.params[j]?=some t->args[j]?=some v->Value.okWide Tryz.prog W .any base t v:=hval0;have hsz:(DataW.weightsEach Tryz.prog (Tryz.f3.params.toList++Rows.fnExactDoSpec.plain.varTypes Tryz.prog) (ds++gs)).all (·<=reachBytes)=true:=hsz0;have hW':=hW;obtain⟨p,q,hA0,hV,rfl,hfz,hnd⟩:=hW;have hA:DataW.TrodAll enc Tryz.prog W 0 (λ_=>true) true Tryz.f3.params.toList args.toList ds p:=hA0;have hlt:=hA.lt;rw[Tryz.params3] at hA hval hsz;obtain⟨v0,vs0,d0,ds0,p0,q0,hargs,rfl,rfl,h0,r0⟩:=trodAll_cons hA;obtain⟨v1,vs1,d1,ds1,p1,q1,hargs1,rfl,rfl,h1,r1⟩:=trodAll_cons r0;obtain⟨rfl,rfl,rfl⟩:=trodAll_nil r1;obtain rfl:args=#[v0,v1]:=by cases args;simp_all
 obtain⟨rfl,rfl⟩:=trodVars_none hV
 obtain⟨y,vr,vc,vg,rfl,hr,hc,hg⟩:=open_heap (hval 0 26 v0 rfl rfl) h0 (λn hn=>by
  have:=List.all_eq_true.1 hsz n (DataW.weights_mem_each (j:=0) (t:=26) (d:=d0) (by simp) (by simp) n hn)
  simpa using this)
 obtain⟨op,a,b,c,n,rfl⟩:=open_act (hval 1 28 v1 rfl rfl) h1;clear hA0 hval0;refine(d3g y op a b c n vr vc vg W (handle_of_laid hL) hr hc hg).mono λe W' ⟨he,hx⟩=>?_
 subst he
 exact⟨_,rfl,_,_,_,[],p0++(p1++[]),[],hW',trodAll_cons_mk (shut_bool Tryz.underlying4 _) trodAll_mk0,
  trodAll_cons_mk (Below.trod laidOut (by kernel_rfl) (of_decide_eq_true (by kernel_rfl)) h0 hx (λz hz=>hlt z (by simp [hz]))) (trodAll_cons_mk (Below.trod laidOut (by kernel_rfl) (of_decide_eq_true (by kernel_rfl)) h1 hx (λz hz=>hlt z (by simp [hz]))) trodAll_mk0),
  rfl,Below.frame hx _,λh=>by cases h⟩
theorem over:Rows.fnExactDoRow.holds Tryz.pinned (OpenSpec.ofChange Rows.fnExactDoSpec):=
 OpenClaim.holds_of_wide 3 Tryz.f3 rfl rfl rfl rfl rfl rfl rfl ⟨rfl,rfl,rfl,rfl,rfl⟩ rfl rfl rfl rfl rfl (by kernel_rfl) Tryz.func3 jf
  (of_decide_eq_true (by kernel_rfl)) (by unfold Func.isWrapper;first | (rw[if_pos (by decide +kernel)];kernel_rfl) | (rw[if_neg (by decide +kernel)];exact⟨rfl,rfl⟩))
  (λos started H enc _=>lifted os started H enc)
end Go.Proofs.YtmfgdjfpchplmaaGreatDoor.fnExactDo
namespace Go.Proofs.YtmfgdjfpchplmaaGreatDoor
theorem fnExactDo_row:Rows.FnExactDoSaid:=fnExactDo.over
#print axioms fnExactDo_row
end Go.Proofs.YtmfgdjfpchplmaaGreatDoor
