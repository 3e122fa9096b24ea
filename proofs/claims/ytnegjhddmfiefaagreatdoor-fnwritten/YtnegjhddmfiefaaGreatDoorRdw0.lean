import Derived.Test.YtnegjhddmfiefaaGreatDoorEr
import Derived.Test.YtnegjhddmfiefaaGreatDoorEh
import Derived.Test.YtnegjhddmfiefaaGreatDoorEh6
import Derived.Test.YtnegjhddmfiefaaGreatDoorEi
import Derived.Test.YtnegjhddmfiefaaGreatDoorEi8
import Derived.Test.YtnegjhddmfiefaaGreatDoorXg0
import Derived.Test.YtnegjhddmfiefaaGreatDoorRd0
import Derived.Carry
import Derived.ChangeSlices
import Derived.Laws.IdiomCopy
import Derived.Lib.LaidTab
import Derived.ProofKit
import Derived.Stop.LaidErr
set_option maxRecDepth 100000
set_option maxHeartbeats 1000000
namespace Go.Proofs.YtnegjhddmfiefaaGreatDoor
open Go.RowKit
attribute [local go_sem ↓] Go.wp_at_zero Go.wp_at_succ
theorem act_bounds{op a b c n:Int}(h:actOkB op a b c n=true):(1≤op∧op≤24)∧(0≤a∧a≤actA op)∧(0≤b∧b≤actB op)∧(0≤c∧c≤actC op):=by
 unfold actOkB at h;simp only [Bool.and_eq_true,decide_eq_true_eq] at h;exact⟨h.1.1,h.2.1,h.2.2.1,h.2.2.2⟩
abbrev DoPostI[Inhabited ProtD](B g:Nat)(x:Hp)(op a b c n:Int)(v:World)(e:Ending)(w':World):Prop:=∃(y:Hp) (cd nm:Int),Hid (e=.returned (ansV cd nm))∧Hid (DoIs x op a b c n y cd nm)∧Hid (GOk B w' g y)∧Ext v w'
theorem l5do_no[p:Inhabited ProtD](B g:Nat)(x:Hp)(op a b c n:Int)(w:World)(h:GOk B w g x)(ok:actOkB op a b c n=false)(v:World)(hx:Ext v w):
  Calls Tryz.prog 147 #[.pointer (some ⟨g,0,none⟩),actV op a b c n] w fun e w'=>DoPostI B g x op a b c n v e w':=by
 obtain⟨p1,o1,g1⟩:=GOk.enter h (w0:=doW w op a b c n) (((Ext.refl w).alloc _).alloc _);have HG:=hide g1;have O1:=hide o1;have OK:=hide ok;have QA:=hide (fun W=>specActOk_any op a b c n W);rw[ok] at QA;have V0:=hide (show v.heap.size≤w.heap.size+1 by have:=hx.size;omega);have XD:=hide (show Ext v (doW w op a b c n) from(hx.alloc _).alloc _);clear h o1 g1 ok;go_enter Tryz.func147,Tryz.ntmps147;go_wp2_with fail;refine(unhide QA _).mono ?_;rintro e w1 ⟨rfl,x1⟩;have X1:=hide ((unhide XD).trans x1);have G1:=hide ((unhide HG).ext x1);clear x1 QA XD HG;go_wp2_with fail;refine(l5bad_any 1 _).mono ?_;rintro e w3 ⟨rfl,x3⟩;have G3:=hide ((unhide G1).ext x3);have X3:=hide ((unhide X1).trans x3);obtain⟨u0,u1,u2,u3,u4,u5,u6,u7⟩:=(unhide G3).boxes (unhide O1);have hw3:w.heap.size+1<w3.heap.size:=cell_lt u5;clear x3;go_wp2_with fail;refine bodyPost_ret (v:=ansV 1 0) (by simp [results,Tryz.results147,go_sem,u5,u6]) rfl ?_;exact⟨x,1,0,rfl,.inl ⟨unhide OK,rfl,rfl,rfl⟩,GOk.done (unhide O1) (unhide G3) 1 0,putA_ext (unhide X3) (unhide V0) 1 0⟩
theorem DoPost.is[Inhabited ProtD]{B g:Nat}{x:Hp}{a b c k:Nat}{n:Int}{v:World}{e:Ending}{w':World}(h:DoPost B g x a b c n k v e w')(ok:actOkB (k:Int) a b c n=true):DoPostI B g x (k:Int) a b c n v e w':=by
 obtain⟨y,cd,nm,h1,h2,h3,h4⟩:=h;exact⟨y,cd,nm,h1,.inr ⟨ok,by simpa using unhide h2⟩,h3,h4⟩
theorem l5do_ok[p:Inhabited ProtD](B g:Nat)(x:Hp)(a b c:Nat)(n:Int)(w:World)(h:GOk B w g x)(s:Snd x)(v:World)(hv:v.heap.size≤B)(hx:Ext v w):
  ∀k:Nat,1≤k→k≤24→actOkB (k:Int) a b c n=true→Calls Tryz.prog 147 #[.pointer (some ⟨g,0,none⟩),actV (k:Int) a b c n] w fun e w'=>DoPost B g x a b c n k v e w'
 | 0,h1,_,_=>absurd h1 (by omega)
 | 1,_,_,ok=>by have h9:=act_bounds ok;simp [actA,actRa,actB,actC] at h9;exact l5do_1 B g x a b c n w h s ok (by omega) (by omega) (by omega) v hv hx
 | 2,_,_,ok=>by have h9:=act_bounds ok;simp [actA,actRa,actB,actRb,actC] at h9;exact l5do_reg B g x 2 2 a b c n w (by simp) h s ok v hv hx (by omega) (by omega)
 | 3,_,_,ok=>by have h9:=act_bounds ok;simp [actA,actRa,actB,actRb,actC] at h9;exact l5do_reg B g x 3 3 a b c n w (by simp) h s ok v hv hx (by omega) (by omega)
 | 4,_,_,ok=>by have h9:=act_bounds ok;simp [actA,actRa,actB,actRb,actC] at h9;exact l5do_reg B g x 4 4 a b c n w (by simp) h s ok v hv hx (by omega) (by omega)
 | 5,_,_,ok=>by have h9:=act_bounds ok;simp [actA,actRa,actB,actRb,actC] at h9;exact l5do_call B g x 5 5 a b c n w (by simp) h ok v hx (fun _ w1 G X=>l5pair_5 B g x a b c n w1 G s (by omega) (by omega) v hv X)
 | 6,_,_,ok=>by have h9:=act_bounds ok;simp [actA,actRa,actB,actRb,actC] at h9;exact l5do_call B g x 6 6 a b c n w (by simp) h ok v hx (fun _ w1 G X=>l5pair_6 B g x a b c n w1 G s (by omega) (by omega) v hv X)
 | 7,_,_,ok=>by have h9:=act_bounds ok;simp [actA,actRa,actB,actRb,actC] at h9;exact l5do_call B g x 7 7 a b c n w (by simp) h ok v hx (fun _ w1 G X=>l5pair_7 B g x a b c n w1 G s (by omega) (by omega) v hv X)
 | 8,_,_,ok=>by have h9:=act_bounds ok;simp [actA,actRa,actB,actRb,actC] at h9;exact l5do_call B g x 8 8 a b c n w (by simp) h ok v hx (fun _ w1 G X=>l5pair_8 B g x a b c n w1 G s (by omega) (by omega) v hv X)
 | 9,_,_,ok=>by have h9:=act_bounds ok;simp [actA,actRa,actB,actRb,actC] at h9;exact l5do_9 B g x a b c n w h s ok (by omega) (by omega) v hv hx
 | 10,_,_,ok=>by have h9:=act_bounds ok;simp [actA,actRa,actB,actRb,actC] at h9;exact l5do_call B g x 10 10 a b c n w (by simp) h ok v hx (fun _ w1 G X=>l5cell_or B g x 10 10 a b c n w1 G s (by omega) v X (fun hk=>.inl ⟨hk,rfl,rfl,rfl⟩) (fun hk=>l5cell_in B g x 10 10 a b c n w1 (by simp) G s (by omega) hk v hv X))
 | 11,_,_,ok=>by have h9:=act_bounds ok;simp [actA,actRa,actB,actRb,actC] at h9;exact l5do_call B g x 11 11 a b c n w (by simp) h ok v hx (fun _ w1 G X=>l5cell_or B g x 11 11 a b c n w1 G s (by omega) v X (fun hk=>.inl ⟨hk,rfl,rfl,rfl⟩) (fun hk=>l5cell_in B g x 11 11 a b c n w1 (by simp) G s (by omega) hk v hv X))
 | 12,_,_,ok=>by have h9:=act_bounds ok;simp [actA,actRa,actB,actRb,actC] at h9;exact l5do_call B g x 12 12 a b c n w (by simp) h ok v hx (fun _ w1 G X=>l5cell_or B g x 12 12 a b c n w1 G s (by omega) v X (fun hk=>.inl ⟨hk,rfl,rfl,rfl⟩) (fun hk=>l5cell_in B g x 12 12 a b c n w1 (by simp) G s (by omega) hk v hv X))
 | 13,_,_,ok=>by have h9:=act_bounds ok;simp [actA,actRa,actB,actRb,actC] at h9;exact l5do_reg B g x 13 13 a b c n w (by simp) h s ok v hv hx (by omega) (by omega)
 | 14,_,_,ok=>by have h9:=act_bounds ok;simp [actA,actRa,actB,actRb,actC] at h9;exact l5do_reg B g x 14 14 a b c n w (by simp) h s ok v hv hx (by omega) (by omega)
 | 15,_,_,ok=>by have h9:=act_bounds ok;simp [actA,actRa,actB,actRb,actC] at h9;exact l5do_reg B g x 15 15 a b c n w (by simp) h s ok v hv hx (by omega) (by omega)
 | 16,_,_,ok=>by have h9:=act_bounds ok;simp [actA,actRa,actB,actRb,actC] at h9;exact l5do_call B g x 16 16 a b c n w (by simp) h ok v hx (fun _ w1 G X=>l5cell_or B g x 16 16 a b c n w1 G s (by omega) v X (fun hk=>.inl ⟨hk,rfl,rfl,rfl⟩) (fun hk=>l5cell_in B g x 16 16 a b c n w1 (by simp) G s (by omega) hk v hv X))
 | 17,_,_,ok=>by have h9:=act_bounds ok;simp [actA,actRa,actB,actRb,actC] at h9;exact l5do_call B g x 17 17 a b c n w (by simp) h ok v hx (fun _ w1 G X=>l5cell_or B g x 17 17 a b c n w1 G s (by omega) v X (fun hk=>.inl ⟨hk,rfl,rfl,rfl⟩) (fun hk=>l5cell_in B g x 17 17 a b c n w1 (by simp) G s (by omega) hk v hv X))
 | 18,_,_,ok=>by have h9:=act_bounds ok;simp [actA,actRa,actB,actRb,actC] at h9;exact l5do_in B g x 18 18 a b c n w (by simp) h s ok v hv hx (by omega) (by omega)
 | 19,_,_,ok=>by have h9:=act_bounds ok;simp [actA,actRa,actB,actRb,actC] at h9;exact l5do_in B g x 19 19 a b c n w (by simp) h s ok v hv hx (by omega) (by omega)
 | 20,_,_,ok=>by have h9:=act_bounds ok;simp [actA,actRa,actB,actRb,actC] at h9;exact l5do_in B g x 20 20 a b c n w (by simp) h s ok v hv hx (by omega) (by omega)
 | 21,_,_,ok=>by have h9:=act_bounds ok;simp [actA,actRa,actB,actRb,actC] at h9;exact l5do_in B g x 21 21 a b c n w (by simp) h s ok v hv hx (by omega) (by omega)
 | 22,_,_,ok=>by have h9:=act_bounds ok;simp [actA,actRa,actB,actRb,actC] at h9;exact l5do_in B g x 22 22 a b c n w (by simp) h s ok v hv hx (by omega) (by omega)
 | 23,_,_,ok=>by have h9:=act_bounds ok;simp [actA,actRa,actB,actRb,actC] at h9;exact l5do_in B g x 23 23 a b c n w (by simp) h s ok v hv hx (by omega) (by omega)
 | 24,_,_,ok=>by have h9:=act_bounds ok;simp [actA,actRa,actB,actRb,actC] at h9;exact l5do_in B g x 24 24 a b c n w (by simp) h s ok v hv hx (by omega) (by omega)
 | k+25,_,h2,_=>absurd h2 (by omega)
theorem l5do_any[p:Inhabited ProtD](B g:Nat)(x:Hp)(op a b c n:Int)(w:World)(h:GOk B w g x)(s:Snd x)(v:World)(hv:v.heap.size≤B)(hx:Ext v w):
  Calls Tryz.prog 147 #[.pointer (some ⟨g,0,none⟩),actV op a b c n] w fun e w'=>DoPostI B g x op a b c n v e w':=by
 cases ok:actOkB op a b c n
 ·exact l5do_no B g x op a b c n w h ok v hx
 ·have hb:=act_bounds ok;obtain⟨k,rfl⟩:∃k:Nat,op=k:=⟨op.toNat,by omega⟩;obtain⟨a,rfl⟩:∃k:Nat,a=k:=⟨a.toNat,by omega⟩;obtain⟨b,rfl⟩:∃k:Nat,b=k:=⟨b.toNat,by omega⟩;obtain⟨c,rfl⟩:∃k:Nat,c=k:=⟨c.toNat,by omega⟩;exact(l5do_ok B g x a b c n w h s v hv hx k (by omega) (by omega) ok).mono fun _ _ hh=>hh.is ok
def putL:List Value→Nat→List Value→List Value
 | xs,_,[]=>xs
 | xs,o,v::r=>putL (xs.set o v) (o+1) r
theorem own_put{B:Nat}{T:TypeId}{c g n cap:Nat}:∀(vs:List Value) (o:Nat) (w:World) (xs:List Value),w.ownsRow B T c (.slice (some ⟨g,0,none⟩) n cap) n xs→(w.setCells g o vs).ownsRow B T c (.slice (some ⟨g,0,none⟩) n cap) n (putL xs o vs)
 | [],_,_,_,h=>h
 | v::r,o,_,_,h=>own_put r (o+1) _ _ (h.stored o v).1
theorem putL_app(r:List Value):∀(vs xs:List Value) (o:Nat),putL (r++xs) (r.length+o) vs=r++putL xs o vs
 | [],_,_=>rfl
 | v::q,xs,o=>by
  show putL ((r++xs).set (r.length+o) v) (r.length+o+1) q=r++putL (xs.set o v) (o+1) q;rw[List.set_append_right _ _ (by omega),Nat.add_sub_cancel_left,Nat.add_assoc];exact putL_app r q _ _
theorem put_act(y:Ak):∀(M:List Ak) (i:Nat),i<M.length→putL (M.flatMap fA) (i*5) (fA y)=(M.set i y).flatMap fA
 | m::M,0,_=>by simp [putL,fA]
 | m::M,i+1,h=>by
  have e:(i+1)*5=(fA m).length+i*5:=by simp [fA];omega
  rw[List.flatMap_cons,e,putL_app,put_act y M i (by simpa using h),List.set_cons_succ,List.flatMap_cons]
end Go.Proofs.YtnegjhddmfiefaaGreatDoor
namespace Go.Proofs.YtnegjhddmfiefaaGreatDoor
open Go.RowKit Go.Deep
attribute [local go_sem ↓] Go.wp_at_zero Go.wp_at_succ
theorem cellsU64:Tryz.prog.cellsOf 59=1:=by kernel_rfl
theorem cellsPow:Tryz.prog.cellsOf 196=20:=by kernel_rfl
theorem pow_of{W:World}{name:String}{d:DataW Unit}{rest:List (String×DataW Unit)}(hn:name=powName)(hd:d=Lib.tabData .u64 Lib.pow10Tab)(hg:Tryz.prog.globalNamed name=some 1)(ht:(Tryz.prog.globals[1]?).map (·.type)=some 196)(h:laidMet Tryz.prog ((name,d)::rest) W):PowAt W:=by
 subst hd;have:=Lib.tabIs_of_head hg ht Tryz.underlying196 Tryz.underlying59 cellsU64 cellsPow h;unfold PowAt;rw[←hn];exact this
def formsD:DataW Unit:=.agg ((List.range 25).map fun k=>.agg [.lit (.string (nameL (k:Nat))),.lit (.string (letL (k:Nat)))])
theorem cellsStr:Tryz.prog.cellsOf 9=1:=by kernel_rfl
theorem cellsForm:Tryz.prog.cellsOf 71=2:=by kernel_rfl
theorem form_two{enc:TypeId×Value→Unit}{W:World}{base m:Nat}{sp:Nat→Bool}{held:Bool}{cs:List Value}{p:List MemPlace}{a b:List UInt8}(h:DataW.trod enc Tryz.prog W base sp held m 71 cs=some (.agg [.lit (.string a),.lit (.string b)],p)):cs=[.string ⟨a.toArray⟩,.string ⟨b.toArray⟩]:=by
 obtain⟨ys,n,_,he,hl,hs,hf⟩:=DataW.trod_struct Tryz.underlying71 h;rw[cellsForm] at hl;obtain⟨c0,r1,rfl,h1⟩:=len1 hl;obtain⟨c1,r2,rfl,h2⟩:=len1 h1;have h3:=List.length_eq_zero_iff.1 h2;subst h3;obtain⟨z0,f0,g0⟩:=rd_field hs hf 0 9 0 1 rfl cellsStr;obtain⟨z1,f1,g1⟩:=rd_field hs hf 1 9 1 1 rfl cellsStr;obtain⟨s0,e0,x0,_⟩:=DataW.trod_string Tryz.underlying9 f0;obtain⟨s1,e1,x1,_⟩:=DataW.trod_string Tryz.underlying9 f1;have hs2:ys.length=2:=hs;obtain⟨y0,t1,rfl,k1⟩:=len1 hs2;obtain⟨y1,t2,rfl,k2⟩:=len1 k1;have k3:=List.length_eq_zero_iff.1 k2;subst k3;simp at g0 g1 e0 e1 he;subst g0 g1;rw[x0,x1] at he;simp at he;obtain⟨⟨q0,q1⟩,_⟩:=he;have w0:s0=⟨a.toArray⟩:=by rw[q0]
 have w1:s1=⟨b.toArray⟩:=by rw[q1]
 rw[e0,e1,w0,w1]
theorem forms_of{W:World}{name:String}{d:DataW Unit}{rest:List (String×DataW Unit)}(hd:d=formsD)(hg:Tryz.prog.globalNamed name=some 0)(ht:(Tryz.prog.globals[0]?).map (·.type)=some 72)(h:laidMet Tryz.prog ((name,d)::rest) W):FormsAt W:=by
 subst hd;obtain⟨ps,⟨g',t',cs,fuel,p,q,hg',ht',hvar,hd,_,_⟩,_⟩:=h;obtain rfl:=Option.some.inj (hg.symm.trans hg');obtain rfl:=Option.some.inj (ht.symm.trans ht');obtain⟨xs,m,_,he,hl,hn,hel⟩:=DataW.trod_array Tryz.underlying72 hd;intro k hk;have h1:=hel k hk;rw[cellsForm,List.getElem?_eq_getElem (by omega)] at h1
 have h2:xs.map (·.1)=(List.range 25).map fun k=>DataW.agg [.lit (.string (nameL (k:Nat))),.lit (.string (letL (k:Nat)))]:=by
  unfold formsD at he;simp only [Prod.mk.injEq,DataW.agg.injEq] at he;exact he.1.symm
 have h3:(xs[k]'(by omega)).1=DataW.agg [.lit (.string (nameL (k:Nat))),.lit (.string (letL (k:Nat)))]:=by
  have h4:(xs.map (·.1))[k]?=some (DataW.agg [.lit (.string (nameL (k:Nat))),.lit (.string (letL (k:Nat)))]):=by
   rw[h2,List.getElem?_map,List.getElem?_range hk];rfl
  rw[List.getElem?_map,List.getElem?_eq_getElem (by omega)] at h4
  simpa using h4
 have h5:xs[k]'(by omega)=(DataW.agg [.lit (.string (nameL (k:Nat))),.lit (.string (letL (k:Nat)))],(xs[k]'(by omega)).2):=by
  rw[←h3]
 rw[h5] at h1;have h6:=form_two h1
 have c0:cs.toList[k*2]?=some (.string ⟨(nameL (k:Nat)).toArray⟩):=by
  have:=congrArg (fun l=>l[0]?) h6
  simpa [List.getElem?_take,List.getElem?_drop] using this
 have c1:cs.toList[k*2+1]?=some (.string ⟨(letL (k:Nat)).toArray⟩):=by
  have:=congrArg (fun l=>l[1]?) h6
  simpa [List.getElem?_take,List.getElem?_drop] using this
 refine⟨?_,?_⟩
 ·have:=World.var?_cell hg hvar (k*2);rw[this];simpa using c0
 ·have:=World.var?_cell hg hvar (k*2+1);rw[this];simpa using c1
end Go.Proofs.YtnegjhddmfiefaaGreatDoor
