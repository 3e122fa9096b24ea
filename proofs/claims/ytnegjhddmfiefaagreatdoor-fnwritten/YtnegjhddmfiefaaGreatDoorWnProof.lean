import Derived.Test.YtnegjhddmfiefaaGreatDoorWnJ
import Derived.Test.YtnegjhddmfiefaaGreatDoorWnB
import Derived.LaidMore
import Derived.Lay
import Derived.OpenVars
import Derived.Shelf.Vars
namespace Go.Proofs.YtnegjhddmfiefaaGreatDoor.fnWritten
set_option maxRecDepth 100000
set_option maxHeartbeats 1000000
open Go.ChangeShapes Go.WideShapes Go.ChangeAt Go.WideMaps Go.WideElems Go.RowKit
theorem own:ownKnob Tryz.prog.godebug=none:=by kernel_rfl
theorem laidOut:laidOutB Tryz.prog=true:=by kernel_rfl
theorem law_any(w:World)(u:Value)(hu:ByL w u)(ht:Tab w)(hL:LibAt w):
  Calls Tryz.prog 3 #[u] w fun e w'=>e=.returned (.bool true)∧Ext w w':=by
 obtain⟨au,nu,ku,rfl,mu,hu⟩:=hu;by_cases h1:nu≤1048576
 ·exact wnLaw_in w _ ⟨au,nu,ku,rfl,h1,hu⟩ ht hL
 ·have g1:(nu:Int) > 1048576:=by omega
  clear hu ht hL;go_enter Tryz.func3,Tryz.ntmps3;go_wp2_with fail;go_ret;exact⟨rfl,Ext.refl _⟩
theorem handed_of{H:Type}{enc:TypeId×Value→H}{a:Assume}{C:Checked}{os:Os}{f:FuncId}{fn:Func}{s:ChangeSpec}{conds:List PathCond}{apart fresh handsOn again:Bool}{X:World→Array Value→Prop}
  (hX:∀(w w':World) (args:Array Value),w.heap=w'.heap→X w args→X w' args)
  (own:ownKnob C.prog.godebug=none) (started:os.Started) (noInit:C.prog.inits.idxOf? f=none) (hfn:C.prog.funcs[f]?=some fn)
  (witness:∃(w:World) (tape:Tape) (i:Input),w.os=os∧(w.forCall tape i).Shaped C.prog∧i.vars=[]∧Input.okWide C.prog (w.forCall tape i) .any w.heap.size f i∧
   ((s.pre enc C.prog fn conds apart (w.forCall tape i).memory i.args∧X (w.forCall tape i).memory i.args)∧sizedMet enc C.prog fn (OpenSpec.ofChange s) apart (w.forCall tape i).memory i.args)∧a.holds C.prog (lone (Frame.enter C.prog f i.args .normal) [] (w.forCall tape i)))
  (contract:∀(W:World) (base:Nat) (args:Array Value) (ds gs:List (DataW H)) (before:List MemPlace),
   (∀(j:Nat) t v,fn.params[j]?=some t→args[j]?=some v→Value.okWide C.prog W .any base t v)→
   DataW.Whole enc C.prog fn.params.toList s.vars apart W args.toList ds gs before→X W args→W.ShapedOpen C.prog→
   Calls C.prog f args W fun e W'=>∃v,e=.returned v∧s.post enc C.prog fn apart fresh handsOn again W args v W') :
  ReturnsInHanded a C os f .any (fun w args=>(s.pre enc C.prog fn conds apart w args∧X w args)∧sizedMet enc C.prog fn (OpenSpec.ofChange s) apart w args) (s.post enc C.prog fn apart fresh handsOn again):=by
 refine returnsInHanded_of_calls own started noInit witness ?_;intro w tape i _ hsh _ hok hpre _;obtain⟨_,_,_,fn',hfn',_,_,_,_,hval⟩:=hok;have e:fn'=fn:=Option.some.inj (hfn'.symm.trans hfn);subst e;obtain⟨⟨⟨ds,gs,before,hw,_⟩,hx⟩,_⟩:=hpre;have hw':=DataW.Whole.of_heap (w':=w.forCall tape i) (by rfl) hw;refine(contract (w.forCall tape i) w.heap.size i.args ds gs before hval hw' (hX _ _ _ (by rfl) hx) hsh).mono fun e W' ⟨v,he,hp⟩=>?_
 subst he;exact ChangeSpec.post_blind hp
theorem err_of{W:World}{name nm:String}{d:DataW Unit}{rest:List (String×DataW Unit)}{g:Nat}(hg:Tryz.prog.globalNamed name=some g)(ht:(Tryz.prog.globals[g]?).map (·.type)=some 38)(h:laidMet Tryz.prog ((name,.iface nm d)::rest) W):∃t p,W.cell? ⟨g,0,none⟩=some (.iface t p):=by
 obtain⟨ps,⟨g0,t0,cs0,f0,p0,q0,hg0,ht0,hv0,hd0,_,_⟩,_,_⟩:=h;obtain rfl:=Option.some.inj (hg.symm.trans hg0);obtain rfl:=Option.some.inj (ht.symm.trans ht0);obtain⟨l0⟩:=cs0;obtain⟨_,u,v,hl,_,_⟩:=iface_of_trod Tryz.underlying38 hd0;subst hl;exact⟨u,v,by simpa using World.var?_cell hg0 hv0 0⟩
theorem max_of{W:World}(h:W.ShapedOpen Tryz.prog):∃m,W.cell? ⟨2,0,none⟩=some (.int .i64 m):=
 cell_of_shapedOpen_int (t:=3) (zero:=#[.int .i64 0]) h (of_decide_eq_true (by kernel_rfl)) (by kernel_rfl) rfl (by kernel_rfl) (by kernel_rfl) Tryz.underlying3
theorem door_met(os:Os)(args:Array Value):laidMetH Tryz.prog Rows.fnWrittenRow.laid ((World.laidAll Tryz.prog os Rows.fnWrittenRow.laid).forCall (fun _ _=>0) ⟨#[],args,[]⟩).memory:=by
 rw[MakeChecks.laidMetH_plain _ _ _ (by kernel_rfl)];exact laidMet_laidAll _ (by kernel_rfl) (by kernel_rfl)
theorem tab_of{W:World}(h:laidMetH Tryz.prog Rows.fnWrittenRow.laid W):Tab W:=by
 rw[MakeChecks.laidMetH_plain _ _ _ (by kernel_rfl)] at h;have h2:=(laidMet.tail (laidMet.tail h));have h6:=laidMet.tail (laidMet.tail (laidMet.tail (laidMet.tail h2)));exact⟨pow_of (by kernel_rfl) (by kernel_rfl) (by kernel_rfl) (by kernel_rfl) h2,forms_of (by kernel_rfl) (by kernel_rfl) (by kernel_rfl) h6⟩
theorem lib_of{W:World}(h:laidMetH Tryz.prog Rows.fnWrittenRow.laid W)(hs:W.ShapedOpen Tryz.prog):LibAt W:=by
 rw[MakeChecks.laidMetH_plain _ _ _ (by kernel_rfl)] at h;have h4:=laidMet.tail (laidMet.tail (laidMet.tail (laidMet.tail h)));have h5:=laidMet.tail h4;exact⟨max_of hs,err_of (by kernel_rfl) (by kernel_rfl) h5,err_of (by kernel_rfl) (by kernel_rfl) h4⟩
theorem lifted(os:Os)(started:os.Started)(H:Type)(enc:TypeId×Value→H):
  ReturnsInHanded {} Tryz.checked os 3 .any (fun w args=>(Rows.fnWrittenSpec.pre enc Tryz.prog Tryz.f3 [] false w args∧laidMetH Tryz.prog Rows.fnWrittenRow.laid w)∧sizedMet enc Tryz.prog Tryz.f3 (OpenSpec.ofChange Rows.fnWrittenSpec) false w args)
   (Rows.fnWrittenSpec.post enc Tryz.prog Tryz.f3 false true false false):=by
 refine handed_of (C:=Tryz.checked) (X:=fun w _=>laidMetH Tryz.prog Rows.fnWrittenRow.laid w) (fun _ _ _ hh h=>h.of_heap hh) own started (by kernel_rfl) Tryz.func3
  (ChangeSpec.witness_shaped (enc:=enc) (C:=Tryz.checked) (os:=os) (X:=fun w _=>laidMetH Tryz.prog Rows.fnWrittenRow.laid w) false (World.laidAll Tryz.prog os Rows.fnWrittenRow.laid) #[.slice none 0 0] 8 (World.laidAll_os _ _ _) (World.shaped_of_ZipB (by kernel_rfl) (by kernel_rfl)) (by kernel_rfl) (by kernel_rfl) (by kernel_rfl) (door_met os _)) ?_
 intro W base args ds gs before hval0 hW hL hS;have hval:∀(j:Nat) t v,Tryz.f3.params[j]?=some t→args[j]?=some v→Value.okWide Tryz.prog W .any base t v:=hval0;have hW':=hW;obtain⟨p,q,hA0,hV,rfl,hfz,hnd⟩:=hW;have hA:DataW.TrodAll enc Tryz.prog W 0 (fun _=>true) true Tryz.f3.params.toList args.toList ds p:=hA0;have hlt:=hA.lt;rw[Tryz.params3] at hA hval;obtain⟨v0,vs0,d0,ds0,p0,q0,hargs,rfl,rfl,h0,r0⟩:=trodAll_cons hA;obtain⟨rfl,rfl,rfl⟩:=trodAll_nil r0;obtain rfl:args=#[v0]:=by cases args;simp_all
 have b0:=rd_bytes (hval 0 22 v0 rfl rfl) h0;clear hA0 hval0;refine(law_any W v0 b0 (tab_of hL) (lib_of hL hS)).mono fun e W' ⟨he,hx⟩=>?_
 subst he;obtain⟨_,_,_,_,d,_,rfl,_,_,_,_,_⟩:=trodVars_one hV
 exact⟨_,rfl,_,_,_,[],p0++[],q,hW',trodAll_cons_mk (shut_bool Tryz.underlying4 _) trodAll_mk0,
  trodAll_cons_mk (Below.trod laidOut (by kernel_rfl) (of_decide_eq_true (by kernel_rfl)) h0 hx (fun z hz=>hlt z (by simp [hz]))) trodAll_mk0,
  Below.trodVars laidOut hx (by kernel_rfl) hV,Below.frame hx _,fun h=>by cases h⟩
theorem over:Rows.fnWrittenRow.holds Tryz.pinned (OpenSpec.ofChange Rows.fnWrittenSpec):=
 OpenClaim.holds_of_wide 3 Tryz.f3 rfl rfl rfl rfl rfl rfl rfl ⟨rfl,rfl,rfl,rfl,rfl⟩ rfl rfl rfl rfl rfl (by kernel_rfl) Tryz.func3 jf
  (of_decide_eq_true (by kernel_rfl)) (by unfold Func.isWrapper;first | (rw[if_pos (by decide +kernel)];kernel_rfl) | (rw[if_neg (by decide +kernel)];exact⟨rfl,rfl⟩))
  (fun os started H enc _=>lifted os started H enc)
end Go.Proofs.YtnegjhddmfiefaaGreatDoor.fnWritten
namespace Go.Proofs.YtnegjhddmfiefaaGreatDoor
theorem fnWritten_row:Rows.FnWrittenSaid:=fnWritten.over
#print axioms fnWritten_row
end Go.Proofs.YtnegjhddmfiefaaGreatDoor
