import Derived.Test.YtddkhnclmeikfaaGreatPxp
import Derived.Test.YtddkhnclmeikfaaGreatWk4
import Derived.Test.YtddkhnclmeikfaaGreatAs
import Derived.LoopIn
import Derived.LoopNIn
import Derived.OwnWalkIn
import Derived.RangeFuncBound
import Derived.RangeFuncCalls
import Derived.RangeFuncLeaves
import Derived.RangeFuncNested
import Derived.Shelf.Abstract
import Derived.Shelf.RegionOpen
import Derived.TacticsInMore
set_option maxRecDepth 100000
set_option maxHeartbeats 1000000
namespace Go.Proofs.YtddkhnclmeikfaaGreat
open Go.RowKit
attribute [local go_sem ↓] Go.wp_at_zero Go.wp_at_succ
attribute [local go_sem] Oper.semAt_some
theorem lost_tgt(x:Hp)(H:Nat→Bool)(y:Wd):lostB x H y=(y.k == 2 && !H (tgt x y)):=by
 unfold lostB resW tgt lead2;by_cases hk:y.k=2
 ·by_cases hs:(x.c y.a.toNat).st=2
  ·rw[if_pos ⟨hk,hs⟩];simp [hk,hs]
  ·rw[if_neg (fun h=>hs h.2)];simp [hk,hs]
 ·have e:(y.k == 2)=false:=by simpa using hk
  rw[if_neg (fun h=>hk h.1),e];rfl
structure LoAt(w:World)(b r bs bh:Nat)(x:Hp)(ac:Nat→Option Addr)(bn kn:Nat)(Mt:List Nat):Prop where
 s:w.cell? ⟨bs,0,none⟩=some (.pointer (some ⟨b,0,none⟩))
 h:w.cell? ⟨bh,0,none⟩=some (.map (some r))
 f:FwAt w b x ac (some ⟨bn,0,none⟩) kn
 m:MapAt w r bn (Mt.map (fun i=>i*2))
 rl:r<w.heap.size
theorem LoAt.ext{w w':World}{b r bs bh:Nat}{x:Hp}{ac:Nat→Option Addr}{bn kn:Nat}{Mt:List Nat}(h:LoAt w b r bs bh x ac bn kn Mt)(e:Ext w w'):LoAt w' b r bs bh x ac bn kn Mt:=
 ⟨e.keep h.s,e.keep h.h,h.f.ext e,h.m.block (e.block r h.rl),Nat.lt_of_lt_of_le h.rl e.size⟩
theorem mem_two{i:Nat}{Mt:List Nat}:i*2∈Mt.map (fun i=>i*2)↔i∈Mt:=by
 simp only [List.mem_map];constructor
 ·rintro⟨j,hj,e⟩;have:j=i:=by omega
  rw[←this];exact hj
 ·intro h;exact⟨i,h,rfl⟩
theorem lost_any(x:Hp)(y:Wd)(b r bs bh bn kn:Nat)(ac:Nat→Option Addr)(Mt:List Nat)(w:World)(h:LoAt w b r bs bh x ac bn kn Mt)(r2:R2 x)(hy:MayMark x y):
  Calls Tryz.prog 214 #[y.v,.pointer (some ⟨bs,0,none⟩),.pointer (some ⟨bh,0,none⟩)] w fun e w'=>Hid (e=.returned (.bool (lostB x (fun i=>decide (i∈Mt)) y)))∧Ext w w':=by
 have E:=hide (lost_tgt x (fun i=>decide (i∈Mt)) y);have L:=hide h;have c0:=h.s;have c1:=h.h;have hb1:bh<w.heap.size:=cell_lt c1;have hb2:bs<w.heap.size:=cell_lt c0;have HF:=hide (fun(W:World) (e:Ext w W)=>follow_any x y b W bn 0 (h.f.ext e) r2 hy);clear h;have xa:=(Ext.refl w).alloc (.cells #[iv y.k,iv y.n,iv y.a] 152);go_enter Tryz.func214,Tryz.ntmps214;go_wp2_with fail;go_region_with (go_at_call 123;refine(unhide HF _ (by first | exact xa | exact xa.drew | exact xa.drewN _)).mono ?_;rintro e w1 ⟨t,rfl,ht,q1⟩;have x1:=Ext.trans (show Ext w _ by first | exact xa | exact xa.drew | exact xa.drewN _) q1;clear q1)
 all_goals
  rcases ht with⟨hk,rfl⟩ | ⟨hk,rfl⟩
  ·have R:=hide (show lostB x (fun i=>decide (i∈Mt)) y=false by rw[unhide E];simp [hk]);clear hk;go_wp2_with fail;go_ret;exact⟨by show _=_;rw[unhide R];rfl,x1⟩
  ·have R:=hide (show lostB x (fun i=>decide (i∈Mt)) y = !decide (tgt x y∈Mt) by rw[unhide E];simp [hk]);have L1:=hide ((unhide L).ext x1);have d1:=x1.keep c1;have hb3:bh<w1.heap.size:=cell_lt d1;simp only [Nat.zero_add];clear hk c0 c1;go_wp2_with fail;refine(has_any r bn (tgt x y*2) _ _ (unhide L1).m).mono ?_;rintro e w2 ⟨rfl,q2⟩;have M:=hide (show decide (tgt x y*2∈Mt.map (fun i=>i*2))=decide (tgt x y∈Mt) by rw[decide_eq_decide];exact mem_two);rw[unhide M];obtain⟨dd,hdd⟩:∃d,d=decide (tgt x y∈Mt):=⟨_,rfl⟩;have R3:=hide (show lostB x (fun i=>decide (i∈Mt)) y = !dd by rw[unhide R,hdd]);rw[←hdd];clear M R hdd;go_wp2_with fail;go_ret;exact⟨by show _=_;rw[unhide R3];rfl,x1.trans q2⟩
structure GoAt(w:World)(b r bs bh bx bl:Nat)(x:Hp)(ac:Nat→Option Addr)(bn kn:Nat)(Mt:List Nat)(i:Nat):Prop where
 lo:LoAt w b r bs bh x ac bn kn Mt
 n:w.cell? ⟨bx,0,none⟩=some (ndp bn i)
 l:w.cell? ⟨bl,0,none⟩=some (.func (.func 214) #[] #[.pointer (some ⟨bs,0,none⟩),.pointer (some ⟨bh,0,none⟩)])
 c:∃bc oc,ac i=some ⟨bc,oc,none⟩∧w.cell? ⟨bn,i*2+1,none⟩=some (.pointer (some ⟨bc,oc,none⟩))∧w.cell? ⟨bc,oc+2,none⟩=some (iv (x.c i).weak)
theorem GoAt.ext{w w':World}{b r bs bh bx bl:Nat}{x:Hp}{ac:Nat→Option Addr}{bn kn:Nat}{Mt:List Nat}{i:Nat}(h:GoAt w b r bs bh bx bl x ac bn kn Mt i)(e:Ext w w'):GoAt w' b r bs bh bx bl x ac bn kn Mt i:=
 ⟨h.lo.ext e,e.keep h.n,e.keep h.l,let ⟨bc,oc,a,p,q⟩:=h.c;⟨bc,oc,a,e.keep p,e.keep q⟩⟩
theorem goes_any(x:Hp)(p:Pr)(b r bs bh bx bl bn kn i:Nat)(ac:Nat→Option Addr)(Mt:List Nat)(w:World)(h:GoAt w b r bs bh bx bl x ac bn kn Mt i)(r2:R2 x)(hk:MayMark x p.key)(hv:MayMark x p.val):
  Calls Tryz.prog 215 #[p.v,.pointer (some ⟨bx,0,none⟩),.pointer (some ⟨bl,0,none⟩)] w fun e w'=>Hid (e=.returned (.bool (goB x (fun i=>decide (i∈Mt)) (x.c i) p)))∧Ext w w':=by
 obtain⟨E,hE⟩:∃E,E=goB x (fun i=>decide (i∈Mt)) (x.c i) p:=⟨_,rfl⟩;have EE:=hide hE;rw[←hE];clear hE;have HG:=hide h;have LK:=hide (fun(W:World) (e:Ext w W)=>lost_any x p.key b r bs bh bn kn ac Mt W (h.lo.ext e) r2 hk);have LV:=hide (fun(W:World) (e:Ext w W)=>lost_any x p.val b r bs bh bn kn ac Mt W (h.lo.ext e) r2 hv);obtain⟨bc,oc,_,m1,p2⟩:=h.c;have WK:=hide (fun(W:World) (e:Ext w W)=>weakKeys_any bn (i*2) bc oc (x.c i).weak W (e.keep m1) (e.keep p2));have WV:=hide (fun(W:World) (e:Ext w W)=>weakVals_any bn (i*2) bc oc (x.c i).weak W (e.keep m1) (e.keep p2));have c0:=h.n;have c1:=h.l;have hb0:bx<w.heap.size:=cell_lt c0;have hb1:bl<w.heap.size:=cell_lt c1;clear h m1 p2;obtain⟨k1,hk1⟩:∃k,k=((x.c i).weak == 1 || (x.c i).weak == 3):=⟨_,rfl⟩;obtain⟨k2,hk2⟩:∃k,k=lostB x (fun i=>decide (i∈Mt)) p.key:=⟨_,rfl⟩;obtain⟨k3,hk3⟩:∃k,k=((x.c i).weak == 2 || (x.c i).weak == 3):=⟨_,rfl⟩;obtain⟨k4,hk4⟩:∃k,k=lostB x (fun i=>decide (i∈Mt)) p.val:=⟨_,rfl⟩;rw[←hk1] at WK;rw[←hk2] at LK;rw[←hk3] at WV;rw[←hk4] at LV;have E2:=hide (show E=((k1 && k2) || (k3 && k4)) by rw[unhide EE,hk1,hk2,hk3,hk4];rfl);clear hk1 hk2 hk3 hk4 EE;have xa:=(Ext.refl w).alloc (.cells #[iv p.key.k,iv p.key.n,iv p.key.a,iv p.val.k,iv p.val.n,iv p.val.a] 154);go_enter Tryz.func215,Tryz.ntmps215;go_wp2_with fail;refine(unhide WK _ xa).mono ?_;rintro e w1 ⟨rfl,q1⟩;have v0:=q1.keep (b:=w.heap.size) (o:=0) (v:=iv p.key.k) (by simp [go_sem]);have v1:=q1.keep (b:=w.heap.size) (o:=1) (v:=iv p.key.n) (by simp [go_sem]);have v2:=q1.keep (b:=w.heap.size) (o:=2) (v:=iv p.key.a) (by simp [go_sem]);have v3:=q1.keep (b:=w.heap.size) (o:=3) (v:=iv p.val.k) (by simp [go_sem]);have v4:=q1.keep (b:=w.heap.size) (o:=4) (v:=iv p.val.n) (by simp [go_sem]);have v5:=q1.keep (b:=w.heap.size) (o:=5) (v:=iv p.val.a) (by simp [go_sem]);have x1:=xa.trans q1;have d0:=x1.keep c0;have d1:=x1.keep c1;have hv1:w.heap.size<w1.heap.size:=cell_lt v0;have hb2:bl<w1.heap.size:=cell_lt d1;have hb4:bx<w1.heap.size:=cell_lt d0;clear q1;cases k1
 ·go_wp2_with fail;refine(unhide WV _ x1).mono ?_;rintro e w3 ⟨rfl,q3⟩;have x3:=Ext.trans x1 q3;have v3:=q3.keep v3;have v4:=q3.keep v4;have v5:=q3.keep v5;have d1:=x3.keep c1;have hb3:bl<w3.heap.size:=cell_lt d1;have hv3:w.heap.size<w3.heap.size:=cell_lt v3;cases k3
  ·have R:=hide (show E=false by rw[unhide E2];simp);go_wp2_with fail;go_ret;exact⟨by show _=_;rw[unhide R];rfl,x3⟩
  ·have R:=hide (show E=k4 by rw[unhide E2];simp);go_wp2_with fail;refine(unhide LV _ x3).mono ?_;rintro e w4 ⟨rfl,q4⟩;go_wp2_with fail;go_ret;exact⟨by show _=_;rw[unhide R];rfl,x3.trans q4⟩
 ·go_wp2_with fail;refine(unhide LK _ x1).mono ?_;rintro e w2 ⟨rfl,q2⟩;have x2:=x1.trans q2;have g0:=x2.keep c0;have u3:=q2.keep v3;have u4:=q2.keep v4;have u5:=q2.keep v5;have hb5:bx<w2.heap.size:=cell_lt g0;cases k2
  ·go_wp2_with fail;refine(unhide WV _ x2).mono ?_;rintro e w3 ⟨rfl,q3⟩;have x3:=Ext.trans x2 q3;have v3:=q3.keep u3;have v4:=q3.keep u4;have v5:=q3.keep u5;have d1:=x3.keep c1;have hb3:bl<w3.heap.size:=cell_lt d1;have hv3:w.heap.size<w3.heap.size:=cell_lt v3;cases k3
   ·have R:=hide (show E=false by rw[unhide E2];simp);go_wp2_with fail;go_ret;exact⟨by show _=_;rw[unhide R];rfl,x3⟩
   ·have R:=hide (show E=k4 by rw[unhide E2];simp);go_wp2_with fail;refine(unhide LV _ x3).mono ?_;rintro e w4 ⟨rfl,q4⟩;go_wp2_with fail;go_ret;exact⟨by show _=_;rw[unhide R];rfl,x3.trans q4⟩
  ·have R:=hide (show E=true by rw[unhide E2];simp);go_wp2_with fail;go_ret;exact⟨by show _=_;rw[unhide R];rfl,x2⟩
def PRow(w:World)(g:Nat)(M:List Pr):Prop:=∀k (hk:k<M.length),PrAt w g (k*6) M[k]
theorem PrAt.same{w w':World}{g o:Nat}{p:Pr}(h:PrAt w g o p)(e:∀j,j<6→w'.cell? ⟨g,o+j,none⟩=w.cell? ⟨g,o+j,none⟩):PrAt w' g o p:=by
 obtain⟨h0,h1,h2,h3,h4,h5⟩:=h;exact⟨(e 0 (by omega)).trans h0,(e 1 (by omega)).trans h1,(e 2 (by omega)).trans h2,(e 3 (by omega)).trans h3,(e 4 (by omega)).trans h4,(e 5 (by omega)).trans h5⟩
theorem PRow.block{w w':World}{g:Nat}{M:List Pr}(h:PRow w g M)(e:w'.heap[g]?=w.heap[g]?):PRow w' g M:=fun k hk=>(h k hk).same fun _ _=>World.cell?_of_block (a:=⟨g,_,none⟩) e
theorem PrAt.some{w:World}{g o:Nat}{p:Pr}(h:PrAt w g o p)(m:Nat)(hm:m<6):∃u,w.cell? ⟨g,o+m,none⟩=some u:=by
 obtain⟨h0,h1,h2,h3,h4,h5⟩:=h
 match m,hm with
 | 0,_=>exact⟨_,h0⟩
 | 1,_=>exact⟨_,h1⟩
 | 2,_=>exact⟨_,h2⟩
 | 3,_=>exact⟨_,h3⟩
 | 4,_=>exact⟨_,h4⟩
 | 5,_=>exact⟨_,h5⟩
theorem PRow.put{w:World}{g:Nat}{M:List Pr}(h:PRow w g M)(i:Nat)(hi:i<M.length)(y:Pr):PRow (w.setCells g (i*6) [iv y.key.k,iv y.key.n,iv y.key.a,iv y.val.k,iv y.val.n,iv y.val.a]) g (M.set i y):=fun k hk=>by
 have hk':k<M.length:=by simpa using hk
 by_cases e:i=k
 ·subst e;have key:∀m,m<6→(w.setCells g (i*6) [iv y.key.k,iv y.key.n,iv y.key.a,iv y.val.k,iv y.val.n,iv y.val.a]).cell? ⟨g,i*6+m,none⟩=([iv y.key.k,iv y.key.n,iv y.key.a,iv y.val.k,iv y.val.n,iv y.val.a]:List Value)[m]?:=fun m hm=>set_in g _ _ m w (fun m hm=>(h i hi).some m (by simpa using hm)) (by simpa using hm)
  simp only [List.getElem_set_self];exact⟨key 0 (by omega),key 1 (by omega),key 2 (by omega),key 3 (by omega),key 4 (by omega),key 5 (by omega)⟩
 ·rw[List.getElem_set_ne e];exact(h k hk').same fun j hj=>set_out g _ _ _ w (by simp only [List.length_cons,List.length_nil];omega)
theorem PRow.cut{w:World}{g:Nat}{M:List Pr}(h:PRow w g M)(i:Nat)(vs:List Value):PRow (w.setCells g (i*6) vs) g (M.take i):=fun k hk=>by
 have hk2:k<i∧k<M.length:=by simp at hk;omega
 rw[List.getElem_take];exact(h k hk2.2).same fun j hj=>set_out g _ _ _ w (by omega)
def keepL(f:Pr→Bool)(xs:List Pr):List Pr:=xs.filter (fun p=>!f p)
theorem keep_no(f:Pr→Bool)(xs:List Pr)(j:Nat)(hj:j<xs.length)(q:f xs[j]=true):keepL f (xs.take (j+1))=keepL f (xs.take j):=by
 rw[List.take_succ_eq_append_getElem hj,keepL,List.filter_append];simp [q,keepL]
theorem keep_yes(f:Pr→Bool)(xs:List Pr)(j:Nat)(hj:j<xs.length)(q:f xs[j]=false):keepL f (xs.take (j+1))=keepL f (xs.take j)++[xs[j]]:=by
 rw[List.take_succ_eq_append_getElem hj,keepL,List.filter_append];simp [q,keepL]
theorem keep_same(f:Pr→Bool)(xs:List Pr)(h:∀j (hj:j<xs.length),f xs[j]=false):keepL f xs=xs:=by
 unfold keepL;refine List.filter_eq_self.2 fun a ha=>?_
 obtain⟨j,hj,e⟩:=List.getElem_of_mem ha;rw[←e,h j hj];rfl
structure DelP(f:Pr→Bool)(xs M:List Pr)(i j:Nat):Prop where
 len:M.length=xs.length
 lt:i<j
 le:j≤xs.length
 tk:M.take i=keepL f (xs.take j)
 dr:M.drop j=xs.drop j
theorem DelP.start{f:Pr→Bool}{xs:List Pr}{i:Nat}(h:i<xs.length)(q:f xs[i]=true)(hn:∀j (hj:j<i),f (xs[j]'(by omega))=false):DelP f xs xs i (i+1):=by
 refine⟨rfl,by omega,by omega,?_,rfl⟩;rw[keep_no f xs i h q,keep_same f (xs.take i) (fun j hj=>by simp at hj;rw[List.getElem_take];exact hn j (by omega))]
theorem DelP.at{f:Pr→Bool}{xs M:List Pr}{i j:Nat}(h:DelP f xs M i j)(hj:j<xs.length):∃hm:j<M.length,M[j]=xs[j]:=by
 have hm:j<M.length:=by rw[h.len];exact hj
 refine⟨hm,?_⟩;have e:=congrArg (fun l=>l[0]?) h.dr;simp only [List.getElem?_drop,Nat.add_zero] at e;rw[List.getElem?_eq_getElem hm,List.getElem?_eq_getElem hj] at e
 injection e
theorem DelP.no{f:Pr→Bool}{xs M:List Pr}{i j:Nat}(h:DelP f xs M i j)(hj:j<xs.length)(q:f xs[j]=true):DelP f xs M i (j+1):=by
 refine⟨h.len,by have:=h.lt;omega,by omega,by rw[keep_no f xs j hj q];exact h.tk,?_⟩;have:=congrArg (List.drop 1) h.dr
 simpa [List.drop_drop] using this
theorem DelP.yes{f:Pr→Bool}{xs M:List Pr}{i j:Nat}(h:DelP f xs M i j)(hj:j<xs.length)(q:f xs[j]=false):DelP f xs (M.set i xs[j]) (i+1) (j+1):=by
 have hl:=h.len;have hlt:=h.lt;refine⟨by simp [hl],by omega,by omega,?_,?_⟩
 ·rw[keep_yes f xs j hj q,←h.tk,List.take_set,List.take_succ_eq_append_getElem (by omega)];rw[List.set_append_right _ _ (by simp;omega)];simp [Nat.min_eq_left (show i≤M.length by omega)]
 ·rw[List.drop_set_of_lt (by omega)];have:=congrArg (List.drop 1) h.dr
  simpa [List.drop_drop] using this
theorem DelP.done{f:Pr→Bool}{xs M:List Pr}{i:Nat}(h:DelP f xs M i xs.length):M.take i=keepL f xs∧i=(keepL f xs).length:=by
 have e:=h.tk;rw[List.take_length] at e;refine⟨e,?_⟩;rw[←e,List.length_take,h.len];have:=h.lt;omega
theorem keep_le(f:Pr→Bool)(xs:List Pr):(keepL f xs).length≤xs.length:=List.length_filter_le _ _
def FstP(f:Pr→Bool)(xs:List Pr)(r:Int):Prop:=(r = -1∧∀j (h:j<xs.length),f xs[j]=false)∨∃i:Nat,∃h:i<xs.length,r=(i:Int)∧f xs[i]=true∧∀j (hj:j<i),f (xs[j]'(by omega))=false
structure Ans2(f:Pr→Bool)(xs:List Pr)(bx bl g:Nat)(P:World→Prop):Prop where
 call:∀W,P W→∀k (hk:k<xs.length),Calls Tryz.prog 215 #[xs[k].v,.pointer (some ⟨bx,0,none⟩),.pointer (some ⟨bl,0,none⟩)] W fun e W'=>Hid (e=.returned (.bool (f xs[k])))∧Ext W W'
 ext:∀W W',P W→Ext W W'→P W'
 put:0<xs.length→∀W W',P W→Only (fun q=>q=g) W W'→P W'
abbrev go2(bx bl:Nat):Value:=.func (.func 215) #[] #[.pointer (some ⟨bx,0,none⟩),.pointer (some ⟨bl,0,none⟩)]
theorem indexP_any(f:Pr→Bool)(xs:List Pr)(bx bl g:Nat)(P:World→Prop)(A:Ans2 f xs bx bl g P)(ad:Option Addr)(cap:Nat)(w:World)(hp:P w)(hr:PRow w g xs)(hg:g<w.heap.size∨xs.length=0)(ha:0<xs.length→ad=some ⟨g,0,none⟩)(hn:xs.length≤200):
  Calls Tryz.prog 237 #[.slice ad xs.length cap,go2 bx bl] w fun e w'=>∃r:Int,Hid (e=.returned (.int .i64 r))∧Hid (FstP f xs r)∧Ext w w':=by
 have HA:=hide A;have HP:=hide hp;have HR:=hide hr;clear A hp hr;go_enter Tryz.func237,Tryz.ntmps237;go_wp2_with fail;go_loopw [8] (fun i wr=>∃k:Nat,k≤xs.length∧i=.int .i64 k∧Hid (∀j (hj:j<xs.length),j<k→f xs[j]=false)∧Ext w wr) (fun i _=>xs.length-(intOf i).toNat)
 case atStart=>exact⟨0,Nat.zero_le _,rfl,fun j _ h=>by omega,Ext.refl _⟩
 case round=>
  obtain⟨k,hk,rfl,hno,hbl⟩:=hrel;by_cases hlt:k<xs.length
  ·have ea:=ha (by omega);subst ea;obtain⟨e0,e1,e2,e3,e4,e5⟩:=((unhide HR).block (hbl.block g (by omega))) k hlt;have C:=hide ((unhide HA).call wr ((unhide HA).ext _ _ (unhide HP) hbl) k hlt);obtain⟨y,hy⟩:∃y,y=xs[k]:=⟨_,rfl⟩;have HY:=hide hy;rw[←hy] at e0 e1 e2 e3 e4 e5 C;clear hy;have hk0:(0:Int)≤(k:Int):=by omega
   have hk1:(k:Int)<(xs.length:Int):=by omega
   go_wp2_with fail;refine(unhide C).mono ?_;rintro e w1 ⟨rfl,q1⟩;cases t:f y
   ·have N:=hide (show ∀j (hj:j<xs.length),j<k+1→f xs[j]=false from fun j hj hjk=>by
     by_cases e:j=k
     ·subst e;rw[←unhide HY];exact t
     ·exact unhide hno j hj (by omega))
    go_wp2_with fail;go_roundw
    case rel=>exact⟨k+1,by omega,by go_num,unhide N,hbl.trans q1⟩
    case measure=>simp [intOf];omega
   ·have F:=hide (show FstP f xs (k:Int) from .inr ⟨k,hlt,rfl,by rw[←unhide HY];exact t,fun j hj=>unhide hno j (by omega) hj⟩);go_wp2_with fail;go_ret;exact⟨_,rfl,unhide F,hbl.trans q1⟩
  ·have F:=hide (show FstP f xs (-1) from .inl ⟨rfl,fun j hj=>unhide hno j hj (by omega)⟩);go_wp2_with fail;go_ret;exact⟨_,rfl,unhide F,hbl⟩
theorem zcell6_len(n:Nat):(Builtin.zeroCells #[iv 0,iv 0,iv 0,iv 0,iv 0,iv 0] n).toList.length=n*6:=by simp [Builtin.zeroCells]
theorem zcell6_one(n:Nat):∀u,u∈(Builtin.zeroCells #[iv 0,iv 0,iv 0,iv 0,iv 0,iv 0] n).toList→u.oneCell'=true:=fun u hu=>by
 simp [Builtin.zeroCells] at hu;obtain⟨a,_,e⟩:=hu;have:a % 6<6:=Nat.mod_lt _ (by omega);have h:a % 6=0∨a % 6=1∨a % 6=2∨a % 6=3∨a % 6=4∨a % 6=5:=by omega
 rcases h with h | h | h | h | h | h <;> simp [h] at e <;> subst e <;> rfl
theorem clear_pairs(w:World)(ty:TypeId)(b o n c:Nat)(hn:0<n)(hc:∀j,j<n*6→(w.cell? ⟨b,o+j,none⟩).isSome=true)(hf:∀j,j<n*6→w.frozen? ⟨b,o+j,none⟩=false):
  (Builtin.clear_ #[60] ty #[.slice (some ⟨b,o,none⟩) n c]).run Tryz.prog w=.ok (.tuple #[]) (w.setCells b o (Builtin.zeroCells #[iv 0,iv 0,iv 0,iv 0,iv 0,iv 0] n).toList):=by
 have hl:=zcell6_len n;have hst:=run_storeCells_cells (P:=Tryz.prog) b o (Builtin.zeroCells #[iv 0,iv 0,iv 0,iv 0,iv 0,iv 0] n).toList 0 w (by rw[hl];simpa using hc) (by rw[hl];simpa using hf) (zcell6_one n);simp only [Nat.add_zero] at hst;have hz:(Value.agg #[iv 0,iv 0,iv 0,iv 0,iv 0,iv 0]).cells=#[iv 0,iv 0,iv 0,iv 0,iv 0,iv 0]:=by kernel_rfl
 obtain⟨m,rfl⟩:∃m,n=m+1:=⟨n-1,by omega⟩;simp [Builtin.clear_,run_underlying Tryz.underlying60,hz,hst]
theorem wrap_upS(n:Nat)(h:n≤1048576):wrap64 ((n:Int)+1)=(n:Int)+1:=by unfold wrap64;omega
theorem deleteP_any(f:Pr→Bool)(xs:List Pr)(bx bl g:Nat)(P:World→Prop)(A:Ans2 f xs bx bl g P)(ad:Option Addr)(cap:Nat)(w:World)(hp:P w)(hr:PRow w g xs)(hN:0<xs.length→ad=some ⟨g,0,none⟩∧Nfp g cap w∧xs.length≤cap)(hn:xs.length≤200):
  Calls Tryz.prog 217 #[.slice ad xs.length cap,go2 bx bl] w fun e w'=>Hid (e=.returned (.slice ad (keepL f xs).length cap))∧Hid (PRow w' g (keepL f xs))∧Hid (Only (fun q=>q=g∧0<xs.length) w w')∧Hid (0<xs.length→Nfp g cap w'):=by
 have QI:=hide (indexP_any f xs bx bl g P A ad cap w hp hr (by
  rcases Nat.eq_zero_or_pos xs.length with h | h
  ·exact .inr h
  ·exact .inl (hN h).2.1.1) (fun h=>(hN h).1) hn)
 have HA:=hide A;have HP:=hide hp;have HR:=hide hr;have HN:=hide hN;clear A hp hr hN;go_enter Tryz.func217,Tryz.ntmps217;go_wp2_with fail;refine(unhide QI).mono ?_;rintro e w1 ⟨r,rfl,hfc,x1⟩;rcases unhide hfc with⟨rfl,hall⟩ | ⟨i,hi,rfl,q,hno⟩
 ·have E:=hide (keep_same f xs hall);have R:=hide (show PRow w1 g xs∧(0<xs.length→Nfp g cap w1) from⟨fun k hk=>((unhide HR).block (x1.block g (unhide HN (by omega)).2.1.1)) k hk,fun h=>(unhide HN h).2.1.ext x1⟩);clear hfc hall QI;go_wp2_with fail;go_ret;exact⟨by show _=_;rw[unhide E];rfl,by rw[unhide E];exact(unhide R).1,Only.of_ext x1,(unhide R).2⟩
 ·obtain⟨rfl,hnf,hnc⟩:=unhide HN (by omega);have D0:=hide (DelP.start hi q hno);have P1:=hide ((unhide HA).ext _ _ (unhide HP) x1);have R1:=hide (show PRow w1 g xs from(unhide HR).block (x1.block g hnf.1));have N1:=hide (hnf.ext x1);have hne:((i:Int) == -1)=false:=by simp
  have wi:wrap64 ((i:Int)+1)=(i:Int)+1:=wrap_upS i (by omega);have O1:=hide (show Only (fun q=>q=g) w w1 from Only.of_ext x1);have h0:0<xs.length:=by omega
  clear q hno QI hfc hnf HR x1;go_wp2_with fail;go_loopw [5,6] (fun si sj wr=>∃(i j:Nat) (M:List Pr),si=.int .i64 i∧sj=.int .i64 j∧Hid (DelP f xs M i j)∧Hid (PRow wr g M)∧Hid (Nfp g cap wr)∧Hid (Only (fun q=>q=g) w wr)∧Hid (P wr)) (fun _ sj _=>xs.length-(intOf sj).toNat)
  case atStart=>exact⟨i,i+1,xs,rfl,by go_num,unhide D0,unhide R1,unhide N1,unhide O1,unhide P1⟩
  case round=>
   clear R1 D0 N1 O1 P1 wi hne hi;obtain⟨i,j,M,rfl,rfl,hd,hrow,hnf,hon,hpr⟩:=hrel;have hij:=(unhide hd).lt;have hjn:=(unhide hd).le;have hml:=(unhide hd).len;have hgw:g<wr.heap.size:=(unhide hnf).1;by_cases hlt:j<xs.length
   ·obtain⟨hm,em⟩:=(unhide hd).at hlt;obtain⟨e0,e1,e2,e3,e4,e5⟩:=unhide hrow j hm;rw[em] at e0 e1 e2 e3 e4 e5;have NO:=hide ((unhide hd).no hlt);have YES:=hide ((unhide hd).yes hlt);have C:=hide ((unhide HA).call (wr.alloc (.cells #[iv xs[j].key.k,iv xs[j].key.n,iv xs[j].key.a,iv xs[j].val.k,iv xs[j].val.n,iv xs[j].val.a] 154)) ((unhide HA).ext _ _ (unhide hpr) ((Ext.refl wr).alloc _)) j hlt);obtain⟨y,hy⟩:∃y,y=xs[j]:=⟨_,rfl⟩;rw[←hy] at e0 e1 e2 e3 e4 e5 NO YES C;clear hy em;have j0:(0:Int)≤(j:Int):=by omega
    have j1:(j:Int)<(xs.length:Int):=by omega
    have i0':(0:Int)≤(i:Int):=by omega
    have i1:(i:Int)<(xs.length:Int):=by omega
    have xa:=(Ext.refl wr).alloc (.cells #[iv y.key.k,iv y.key.n,iv y.key.a,iv y.val.k,iv y.val.n,iv y.val.a] 154);have wj:wrap64 ((j:Int)+1)=(j:Int)+1:=wrap_upS j (by omega);have wi:wrap64 ((i:Int)+1)=(i:Int)+1:=wrap_upS i (by omega);have hil:i<M.length:=by rw[hml];exact Nat.lt_trans hij hlt
    clear hjn hij;go_wp2_with fail;refine(unhide C).mono ?_;rintro e w2 ⟨rfl,q2⟩;have x2:=xa.trans q2;have R2:=hide ((unhide hrow).block (x2.block g hgw));have N2:=hide ((unhide hnf).ext x2);have O2:=hide ((unhide hon).trans (Only.of_ext x2));have P2:=hide ((unhide HA).ext _ _ (unhide hpr) x2);have g2:g<w2.heap.size:=Nat.lt_of_lt_of_le hgw x2.size;cases t:f y
    ·have D:=hide (unhide YES t);have b0:w2.cell? ⟨wr.heap.size,0,none⟩=some (iv y.key.k):=q2.keep (by simp [go_sem]);have b1:w2.cell? ⟨wr.heap.size,1,none⟩=some (iv y.key.n):=q2.keep (by simp [go_sem]);have b2:w2.cell? ⟨wr.heap.size,2,none⟩=some (iv y.key.a):=q2.keep (by simp [go_sem]);have b3:w2.cell? ⟨wr.heap.size,3,none⟩=some (iv y.val.k):=q2.keep (by simp [go_sem]);have b4:w2.cell? ⟨wr.heap.size,4,none⟩=some (iv y.val.n):=q2.keep (by simp [go_sem]);have b5:w2.cell? ⟨wr.heap.size,5,none⟩=some (iv y.val.a):=q2.keep (by simp [go_sem]);obtain⟨c0,c1,c2,c3,c4,c5⟩:=unhide R2 i hil;have f0:=(unhide N2).2 (i*6);have f1:=(unhide N2).2 (i*6+1);have f2:=(unhide N2).2 (i*6+2);have f3:=(unhide N2).2 (i*6+3);have f4:=(unhide N2).2 (i*6+4);have f5:=(unhide N2).2 (i*6+5);have hbw:wr.heap.size<w2.heap.size:=cell_lt b0
     have R:=hide (show PRow (w2.setCells g (i*6) [iv y.key.k,iv y.key.n,iv y.key.a,iv y.val.k,iv y.val.n,iv y.val.a]) g (M.set i y)∧Nfp g cap (w2.setCells g (i*6) [iv y.key.k,iv y.key.n,iv y.key.a,iv y.val.k,iv y.val.n,iv y.val.a])∧Only (fun q=>q=g) w (w2.setCells g (i*6) [iv y.key.k,iv y.key.n,iv y.key.a,iv y.val.k,iv y.val.n,iv y.val.a])∧P (w2.setCells g (i*6) [iv y.key.k,iv y.key.n,iv y.key.a,iv y.val.k,iv y.val.n,iv y.val.a]) from
      ⟨(unhide R2).put i hil y,(unhide N2).put,put_only (S:=fun q=>q=g) rfl (unhide O2),(unhide HA).put h0 _ _ (unhide P2) (put_only (S:=fun q=>q=g) rfl (Only.refl _ w2))⟩)
     clear NO YES e0 e1 e2 e3 e4 e5 R2 N2 O2 P2;go_wp2_with fail;go_roundw
     case rel=>exact⟨i+1,j+1,M.set i y,by go_num,by go_num,unhide D,(unhide R).1,(unhide R).2.1,(unhide R).2.2.1,(unhide R).2.2.2⟩
     case measure=>simp [intOf];omega
    ·have D:=hide (unhide NO t);clear NO YES e0 e1 e2 e3 e4 e5;go_wp2_with fail;go_roundw
     case rel=>exact⟨i,j+1,M,rfl,by go_num,unhide D,unhide R2,unhide N2,unhide O2,unhide P2⟩
     case measure=>simp [intOf];omega
   ·have je:j=xs.length:=by omega
    subst je;obtain⟨dt,dl⟩:=(unhide hd).done
    have hcl:∀ty,(Builtin.clear_ #[60] ty #[.slice (some ⟨g,i*6,none⟩) (xs.length-i) (cap-i)]).run Tryz.prog wr=.ok (.tuple #[]) (wr.setCells g (i*6) (Builtin.zeroCells #[iv 0,iv 0,iv 0,iv 0,iv 0,iv 0] (xs.length-i)).toList):=fun ty=>clear_pairs wr ty g (i*6) _ _ (by omega) (fun k hk=>by
     obtain⟨u,hu⟩:=(unhide hrow (i+k / 6) (by omega)).some (k % 6) (Nat.mod_lt _ (by omega));rw[show i*6+k=(i+k / 6)*6+k % 6 by omega,hu];rfl) (fun k _=>(unhide hnf).2 _)
    have FIN:=hide (show PRow (wr.setCells g (i*6) (Builtin.zeroCells #[iv 0,iv 0,iv 0,iv 0,iv 0,iv 0] (xs.length-i)).toList) g (keepL f xs)∧Only (fun q=>q=g∧0<xs.length) w (wr.setCells g (i*6) (Builtin.zeroCells #[iv 0,iv 0,iv 0,iv 0,iv 0,iv 0] (xs.length-i)).toList)∧Nfp g cap (wr.setCells g (i*6) (Builtin.zeroCells #[iv 0,iv 0,iv 0,iv 0,iv 0,iv 0] (xs.length-i)).toList) from
     ⟨by rw[←dt];exact(unhide hrow).cut i _,(put_only (S:=fun q=>q=g) rfl (unhide hon)).mono (fun q e=>⟨e,h0⟩),(unhide hnf).put⟩)
    have DL:=hide dl;have k0:(0:Int)≤(i:Int):=by omega
    have k1:(i:Int)≤(xs.length:Int):=by omega
    have k2:(i:Int)≤(cap:Int):=by omega
    clear dt dl hd;go_wp2_with fail;go_ret;exact⟨by show _=_;rw[←unhide DL];rfl,(unhide FIN).1,(unhide FIN).2.1,fun _=>(unhide FIN).2.2⟩
def undV(bn:Nat)(x:Hp):Value:=if scanI x = -1 then .pointer none else ndp bn (scanI x).toNat
theorem underway_any[Inhabited ProtD]{B:Nat}{w:World}{b:Nat}{x:Hp}{ar:Option Addr}{kr:Nat}{v4 v8:Value}{br bn:Nat}{cB cO:Nat→Nat}{pb:Nat→Nat}{pa:Nat→Option Addr}{pk:Nat→Nat}{kn hd:Nat}{vf:Value}{F:List Int}{vk:Value}{K:List Nat}{role:Nat→Nat}(h:SAt B w b x ar kr v4 v8 br cB cO bn pb pa pk kn hd vf F vk K role)(hh:0≤x.hand∧x.hand≤x.cells.length)(hg:∀g,g∈x.gray→0≤g∧g<x.cells.length):
  Calls Tryz.prog 216 #[.pointer (some ⟨b,0,none⟩)] w fun e w'=>Hid (e=.returned (undV bn x))∧Ext w w':=by
 have c5:=h.sb.bx.2.2.2.2.2.1;have c6:=h.sb.bx.2.2.2.2.2.2.1;have c13:=h.sb.n13;have hb:=h.sb.nb.1;cases q2:(x.phase == 2)
 ·cases q5:(x.phase == 5)
  ·have E:=hide (show undV bn x=.pointer none by
    have h2:¬x.phase=2:=by simpa using q2
    have h5:¬x.phase=5:=by simpa using q5
    have:scanI x = -1:=by unfold scanI;rw[if_neg (fun h=>h2 h.1),if_neg (fun h=>h5 h.1)]
    unfold undV;rw[if_pos this])
   clear h c6 c13;go_enter Tryz.func216,Tryz.ntmps216;go_wp2_with fail;go_ret;exact⟨by show _=_;rw[unhide E];rfl,Ext.refl _⟩
  ·have h2:¬x.phase=2:=by simpa using q2
   have h5:x.phase=5:=by simpa using q5
   cases qe:(x.hand == (x.cells.length:Int))
   ·have hne:¬x.hand=(x.cells.length:Int):=by simpa using qe
    obtain⟨i,hi⟩:∃i:Nat,x.hand=(i:Int):=⟨x.hand.toNat,by omega⟩
    have E:=hide (show undV bn x=ndp bn i by
     have:scanI x=(i:Int):=by unfold scanI;rw[if_neg (fun h=>h2 h.1),if_pos ⟨h5,by omega⟩,hi]
     unfold undV;rw[this,if_neg (by omega)];simp)
    have Q:=hide (fun W (e:Ext w W)=>atHand_some b x.cells.length kn bn i W (e.keep (hi ▸ c6)) (e.keep c13) (by omega));clear h c6 c13 h2 h5 hne;go_enter Tryz.func216,Tryz.ntmps216;go_wp2_with fail;refine(unhide Q _ (Ext.refl _)).mono ?_;rintro e w1 ⟨rfl,x1⟩;go_wp2_with fail;go_ret;exact⟨by show _=_;rw[unhide E];rfl,x1⟩
   ·have he:x.hand=(x.cells.length:Int):=by simpa using qe
    have E:=hide (show undV bn x=.pointer none by
     have:scanI x = -1:=by unfold scanI;rw[if_neg (fun h=>h2 h.1),if_neg (fun h=>by omega)]
     unfold undV;rw[if_pos this])
    have Q:=hide (fun W (e:Ext w W)=>atHand_none x.hand b x.cells.length kn (some ⟨bn,0,none⟩) W (e.keep c6) (e.keep c13) qe);clear h c6 c13 h2 h5 he;go_enter Tryz.func216,Tryz.ntmps216;go_wp2_with fail;refine(unhide Q _ (Ext.refl _)).mono ?_;rintro e w1 ⟨rfl,x1⟩;go_wp2_with fail;go_ret;exact⟨by show _=_;rw[unhide E];rfl,x1⟩
 ·have h2:x.phase=2:=by simpa using q2
  have RG:=hide h.sb.rg;cases hgr:x.gray with
  | nil=>
   have E:=hide (show undV bn x=.pointer none by
    have:scanI x = -1:=by unfold scanI;rw[if_neg (fun h=>by simp [hgr] at h),if_neg (fun h=>by omega)]
    unfold undV;rw[if_pos this])
   rw[hgr] at RG;clear h c6 c13 h2 hg;go_enter Tryz.func216,Tryz.ntmps216;go_wp2_with fail;refine(rfirst_none b bn hd _ (unhide RG)).mono ?_;rintro e w1 ⟨rfl,x1⟩;go_wp2_with fail;go_ret;exact⟨by show _=_;rw[unhide E];rfl,x1⟩
  | cons g G=>
   have hg0:=hg g (by rw[hgr];simp)
   have E:=hide (show undV bn x=ndp bn g.toNat by
    have:scanI x=g:=by unfold scanI;rw[if_pos ⟨h2,by simp [hgr]⟩,hgr];rfl
    unfold undV;rw[this,if_neg (by omega)])
   rw[hgr] at RG;clear h c6 c13 h2 hg;go_enter Tryz.func216,Tryz.ntmps216;go_wp2_with fail;refine(rfirst_some b bn hd g G _ (unhide RG)).mono ?_;rintro e w1 ⟨rfl,x1⟩;go_wp2_with fail;go_ret;exact⟨by show _=_;rw[unhide E];rfl,x1⟩
theorem ptr_nilr(bn o:Nat)(w:World):(binOp .eql 126 (.pointer (some ⟨bn,o,none⟩)) (.pointer none)).run Tryz.prog w=.ok (.bool false) w:=by kernel_rfl
theorem scan_range{x:Hp}(hh:0≤x.hand∧x.hand≤x.cells.length)(hg:∀g,g∈x.gray→0≤g∧g<x.cells.length):scanI x = -1∨0≤scanI x:=by
 unfold scanI
 split
 ·rename_i h;cases hgr:x.gray with
  | nil=>simp [hgr] at h
  | cons g G=>right;exact(hg g (by rw[hgr];simp)).1
 ·split
  ·omega
  ·exact .inl rfl
theorem und_eq(bn i:Nat){x:Hp}(hr:scanI x = -1∨0≤scanI x)(w:World):(binOp .eql 126 (ndp bn i) (undV bn x)).run Tryz.prog w=.ok (.bool (decide (scanI x=(i:Int)))) w:=by
 unfold undV;by_cases h:scanI x = -1
 ·rw[if_pos h,ptr_nilr,decide_eq_false (by omega)]
 ·rw[if_neg h];by_cases e:scanI x=(i:Int)
  ·have:(scanI x).toNat=i:=by omega
   rw[this,ptr_yes,decide_eq_true e]
  ·have:¬i*2=(scanI x).toNat*2:=by omega
   rw[ptr_no _ _ _ _ this,decide_eq_false e]
def acB(cB cO:Nat→Nat)(i:Nat):Option Addr:=some ⟨cB i,cO i,none⟩
theorem SAt.fw[Inhabited ProtD]{B:Nat}{w:World}{b:Nat}{z:Hp}{ar:Option Addr}{kr:Nat}{v4 v8:Value}{br bn:Nat}{cB cO:Nat→Nat}{pb:Nat→Nat}{pa:Nat→Option Addr}{pk:Nat→Nat}{kn hd:Nat}{vf:Value}{F:List Int}{vk:Value}{K:List Nat}{role:Nat→Nat}(h:SAt B w b z ar kr v4 v8 br cB cO bn pb pa pk kn hd vf F vk K role){x:Hp}(hl:z.cells.length=x.cells.length)(hs:∀q,(z.c q).st=(x.c q).st∧(z.c q).to=(x.c q).to):FwAt w b x (acB cB cO) (some ⟨bn,0,none⟩) kn:=
 ⟨by rw[←hl];exact h.sb.n13,fun i hi=>by
  rw[←hl] at hi;obtain⟨p0,_,_,_,_,_,p6⟩:=h.rw.s i hi;rw[(hs i).1] at p0;rw[(hs i).2] at p6;exact⟨bn,0,cB i,cO i,rfl,rfl,by rw[Nat.zero_add];exact(h.sb.nd i hi).2,p0,p6⟩⟩
theorem SAt.vn[Inhabited ProtD]{B:Nat}{w:World}{b:Nat}{z:Hp}{ar:Option Addr}{kr:Nat}{v4 v8:Value}{br bn:Nat}{cB cO:Nat→Nat}{pb:Nat→Nat}{pa:Nat→Option Addr}{pk:Nat→Nat}{kn hd:Nat}{vf:Value}{F:List Int}{vk:Value}{K:List Nat}{role:Nat→Nat}(h:SAt B w b z ar kr v4 v8 br cB cO bn pb pa pk kn hd vf F vk K role)(hr:z.regs.length≤100)(hp:∀i,i<z.cells.length→(z.c i).prs.length≤200):VNt w b z ar kr (acB cB cO) (some ⟨bn,0,none⟩) kn:=
 ⟨⟨h.sb.bx.2.2.2.1,by omega,fun i hi=>⟨br,0,h.sb.ha (by omega),by rw[Nat.zero_add];exact h.rw.r i hi⟩,fun i hi=>by
  obtain⟨p0,p1,p2,p3,p4,p5,p6⟩:=h.rw.s i hi;refine⟨cB i,cO i,rfl,_,p0,p1,p2,p3,p4,p5,p6,h.rw.p7 i hi,pa i,pk i,rfl,by have:=hp i hi;omega,fun k hk=>?_⟩;refine⟨pb i,0,(h.rw.pl i hi (h.rw.pw hi (by omega))).1,?_⟩;rw[Nat.zero_add,Cl.p_eq _ _ hk];exact h.rw.p i hi k hk⟩,h.sb.n13,fun i hi=>⟨bn,0,cB i,cO i,rfl,rfl,by rw[Nat.zero_add];exact(h.sb.nd i hi).1,by rw[Nat.zero_add];exact(h.sb.nd i hi).2⟩⟩
theorem SAt.stayed[Inhabited ProtD]{B:Nat}{w:World}{b:Nat}{z:Hp}{ar:Option Addr}{kr:Nat}{v4 v8:Value}{br bn:Nat}{cB cO:Nat→Nat}{pb:Nat→Nat}{pa:Nat→Option Addr}{pk:Nat→Nat}{kn hd:Nat}{vf:Value}{F:List Int}{vk:Value}{K:List Nat}{role:Nat→Nat}{w':World}(h:SAt B w b z ar kr v4 v8 br cB cO bn pb pa pk kn hd vf F vk K role)(i:Nat)(hi:i<z.cells.length)(L:List Pr)(hL:L.length≤(z.c i).prs.length)(o:Only (fun q=>q=cB i∨(q=pb i∧0<(z.c i).prs.length)) w w')(nfc:Nf1 (cB i) w')(nfp:0<(z.c i).prs.length→Nfp (pb i) (pk i) w')(c7:w'.cell? ⟨cB i,cO i+7,none⟩=some (.slice (pa i) L.length (pk i)))(co:∀j,j≠cO i+7→w'.cell? ⟨cB i,j,none⟩=w.cell? ⟨cB i,j,none⟩)(hp:PRow w' (pb i) L):
  SAt B w' b { z with cells:=z.cells.set i { z.c i with prs:=L } } ar kr v4 v8 br cB cO bn pb pa pk kn hd vf F vk K role:=by
 have far:∀q,q<w.heap.size→role q≠3→role q≠6+i→w'.heap[q]?=w.heap[q]?:=fun q hq hr hr2=>o.block q hq (fun e=>by
  rcases e with e | ⟨e,e2⟩
  ·exact hr (by rw[e];exact h.sp.c i hi)
  ·exact hr2 (by rw[e];exact h.sp.p i hi (h.rw.pw hi e2)))
 have hl:({ z with cells:=z.cells.set i { z.c i with prs:=L } }:Hp).cells.length=z.cells.length:=by simp
 have hc:=Hp.c_set z i { z.c i with prs:=L } hi;have hne:∀q,q≠i→(({ z with cells:=z.cells.set i { z.c i with prs:=L } }:Hp).c q)=z.c q:=fun q e=>by rw[hc q,if_neg e]
 have hei:(({ z with cells:=z.cells.set i { z.c i with prs:=L } }:Hp).c i)={ z.c i with prs:=L }:=by rw[hc i,if_pos rfl]
 have hle:∀q,(({ z with cells:=z.cells.set i { z.c i with prs:=L } }:Hp).c q).prs.length≤(z.c q).prs.length:=fun q=>by
  by_cases e:q=i
  ·rw[e,hei];exact hL
  ·rw[hne q e];exact Nat.le_refl _
 have pf:∀q,q<z.cells.length→q≠i→0<pk q→w'.heap[pb q]?=w.heap[pb q]?:=fun q hq hqi hl=>far (pb q) (h.rw.pl q hq hl).2.1.1 (by rw[h.sp.p q hq hl];omega) (by rw[h.sp.p q hq hl];omega)
 have sb2:=h.sb.same o.size (far b h.sb.nb.1 (by rw[h.sp.b];omega) (by rw[h.sp.b];omega)) (far bn h.sb.lo.2.2.1 (by rw[h.sp.n];omega) (by rw[h.sp.n];omega)) (fun q hq=>far q (h.sb.fr.own.lt q hq).2 (by rw[h.sp.f q hq];omega) (by rw[h.sp.f q hq];omega)) (fun q hq=>far q (h.sb.kp.lt q hq).2 (by rw[h.sp.k q hq];omega) (by rw[h.sp.k q hq];omega))
 have cf:∀q,q<z.cells.length→cB q≠cB i→w'.heap[cB q]?=w.heap[cB q]?:=fun q hq e=>o.block (cB q) (h.rw.nc q hq).1.1 (fun e2=>by
  rcases e2 with e2 | ⟨e2,e3⟩
  ·exact e e2
  ·exact(h.rw.pl i hi (h.rw.pw hi e3)).2.2.1.2 q hq e2.symm)
 have ck:∀q,q<z.cells.length→q≠i→∀k,k<8→w'.cell? ⟨cB q,cO q+k,none⟩=w.cell? ⟨cB q,cO q+k,none⟩:=fun q hq e k hk=>by
  by_cases e2:cB q=cB i
  ·rw[e2];rcases h.rw.dc q i hq hi e with d | d | d
   ·exact(d e2).elim
   ·exact co _ (by omega)
   ·exact co _ (by omega)
  ·exact World.cell?_of_block (a:=⟨cB q,_,none⟩) (cf q hq e2)
 have cn:∀q,q<z.cells.length→Nf1 (cB q) w':=fun q hq=>by
  by_cases e2:cB q=cB i
  ·rw[e2];exact nfc
  ·exact nf1_block (h.rw.nc q hq).1 (cf q hq e2) o.size
 have fr:0<z.regs.length→w'.heap[br]?=w.heap[br]?:=fun hr=>far br (h.rw.nr hr).1.1 (by rw[h.sp.r hr];omega) (by rw[h.sp.r hr];omega)
 refine⟨⟨sb2.bx,sb2.ha,by rw[hl];exact sb2.n13,fun k hk=>sb2.nd k (by rw[hl] at hk;exact hk),sb2.fr,sb2.rg,sb2.k0,sb2.kp,sb2.nb,sb2.lo⟩,⟨fun j hj=>?_,fun q hq=>?_,fun q hq=>?_,fun q hq j hj=>?_,fun q hq hlq=>?_,fun hr=>⟨nf1_block (h.rw.nr hr).1 (fr hr) o.size,(h.rw.nr hr).2⟩,fun q hq=>⟨cn q (by rw[hl] at hq;exact hq),(h.rw.nc q (by rw[hl] at hq;exact hq)).2⟩,fun q hq=>h.rw.d q (by rw[hl] at hq;exact hq),fun q q' hq hq' hqq h1 h2=>?_,fun q q' hq hq' hne=>h.rw.dc q q' (by rw[hl] at hq;exact hq) (by rw[hl] at hq';exact hq') hne,fun q hq=>Nat.le_trans (hle q) (h.rw.kp q (by rw[hl] at hq;exact hq))⟩,⟨h.sp.b,h.sp.n,h.sp.r,fun q hq=>h.sp.c q (by rw[hl] at hq;exact hq),h.sp.f,h.sp.k,fun q hq hlq=>?_⟩,h.pr.of (fun q hq h1=>far q hq (by rw[h1];omega) (by rw[h1];omega)) (fun _ _ h=>h)⟩
 ·exact(h.rw.r j hj).of fun m _=>World.cell?_of_block (a:=⟨br,_,none⟩) (fr (by have:j<z.regs.length:=hj;omega))
 ·rw[hl] at hq;by_cases e:q=i
  ·subst e;rw[hei];exact(h.rw.s q hq).of fun m hm=>co _ (by omega)
  ·rw[hne q e];exact(h.rw.s q hq).of fun m hm=>ck q hq e m (by omega)
 ·rw[hl] at hq;by_cases e:q=i
  ·subst e;rw[hei];exact c7
  ·rw[hne q e,ck q hq e 7 (by omega)];exact h.rw.p7 q hq
 ·rw[hl] at hq;by_cases e:q=i
  ·subst e;rw[hei] at hj ⊢;have:=hp j hj;rw[Cl.p_eq { z.c q with prs:=L } j hj] at this;exact this
  ·rw[hne q e] at hj ⊢;exact(h.rw.p q hq j hj).of fun m _=>World.cell?_of_block (a:=⟨pb q,_,none⟩) (pf q hq e (h.rw.pw hq (by omega)))
 ·rw[hl] at hq;obtain⟨a1,a2,a3,a4⟩:=h.rw.pl q hq hlq;have a5:pb q≠br∧∀j,j<({ z with cells:=z.cells.set i { z.c i with prs:=L } }:Hp).cells.length→pb q≠cB j:=⟨a3.1,fun j hj=>a3.2 j (by rw[hl] at hj;exact hj)⟩;by_cases e:q=i
  ·subst e;refine⟨a1,?_,a5,a4⟩;rcases Nat.eq_zero_or_pos (z.c q).prs.length with h0 | h0
   ·exact nfp_block a2 (o.block (pb q) a2.1 (fun e=>by
     rcases e with e | e
     ·exact a3.2 q hq e
     ·omega)) o.size
   ·exact nfp h0
  ·exact⟨a1,nfp_block a2 (pf q hq e hlq) o.size,a5,a4⟩
 ·rw[hl] at hq hq';exact h.rw.dp q q' hq hq' hqq h1 h2
 ·rw[hl] at hq;exact h.sp.p q hq hlq
structure Bxs(w:World)(b r bs bh bx bl bn i:Nat)(Mt:List Nat):Prop where
 s:w.cell? ⟨bs,0,none⟩=some (.pointer (some ⟨b,0,none⟩))
 h:w.cell? ⟨bh,0,none⟩=some (.map (some r))
 n:w.cell? ⟨bx,0,none⟩=some (ndp bn i)
 l:w.cell? ⟨bl,0,none⟩=some (.func (.func 214) #[] #[.pointer (some ⟨bs,0,none⟩),.pointer (some ⟨bh,0,none⟩)])
 m:MapAt w r bn (Mt.map (fun i=>i*2))
 rl:r<w.heap.size
theorem Bxs.blocks{w w':World}{b r bs bh bx bl bn i:Nat}{Mt:List Nat}(h:Bxs w b r bs bh bx bl bn i Mt)(hs:w.heap.size≤w'.heap.size)(e:∀q,q<w.heap.size→q=bs∨q=bh∨q=bx∨q=bl∨q=r→w'.heap[q]?=w.heap[q]?):Bxs w' b r bs bh bx bl bn i Mt:=
 ⟨(World.cell?_of_block (a:=⟨bs,0,none⟩) (e bs (cell_lt h.s) (by simp))).trans h.s,(World.cell?_of_block (a:=⟨bh,0,none⟩) (e bh (cell_lt h.h) (by simp))).trans h.h,(World.cell?_of_block (a:=⟨bx,0,none⟩) (e bx (cell_lt h.n) (by simp))).trans h.n,(World.cell?_of_block (a:=⟨bl,0,none⟩) (e bl (cell_lt h.l) (by simp))).trans h.l,h.m.block (e r h.rl (by simp)),Nat.lt_of_lt_of_le h.rl hs⟩
theorem Bxs.ext{w w':World}{b r bs bh bx bl bn i:Nat}{Mt:List Nat}(h:Bxs w b r bs bh bx bl bn i Mt)(e:Ext w w'):Bxs w' b r bs bh bx bl bn i Mt:=h.blocks e.size fun q hq _=>e.block q hq
theorem SAt.goat[Inhabited ProtD]{B:Nat}{w:World}{b:Nat}{z:Hp}{ar:Option Addr}{kr:Nat}{v4 v8:Value}{br bn:Nat}{cB cO:Nat→Nat}{pb:Nat→Nat}{pa:Nat→Option Addr}{pk:Nat→Nat}{kn hd:Nat}{vf:Value}{F:List Int}{vk:Value}{K:List Nat}{role:Nat→Nat}(h:SAt B w b z ar kr v4 v8 br cB cO bn pb pa pk kn hd vf F vk K role){x:Hp}{r bs bh bx bl i:Nat}{Mt:List Nat}(k:Bxs w b r bs bh bx bl bn i Mt)(hl:z.cells.length=x.cells.length)(hs:∀q,(z.c q).st=(x.c q).st∧(z.c q).to=(x.c q).to)(hi:i<z.cells.length)(hw:(z.c i).weak=(x.c i).weak):GoAt w b r bs bh bx bl x (acB cB cO) bn kn Mt i:=
 ⟨⟨k.s,k.h,h.fw hl hs,k.m,k.rl⟩,k.n,k.l,cB i,cO i,rfl,(h.sb.nd i hi).2,by rw[←hw];exact(h.rw.s i hi).2.2.1⟩
theorem GoAt.only{S:Nat→Prop}{w w':World}{b r bs bh bx bl:Nat}{x:Hp}{cB cO:Nat→Nat}{bn kn:Nat}{Mt:List Nat}{i:Nat}(h:GoAt w b r bs bh bx bl x (acB cB cO) bn kn Mt i)(hi:i<x.cells.length)(o:Only S w w')(hS:∀q,q=bs∨q=bh∨q=bx∨q=bl∨q=r∨q=b∨q=bn→¬S q)(hC:∀j,j<x.cells.length→¬S (cB j)):GoAt w' b r bs bh bx bl x (acB cB cO) bn kn Mt i:=by
 refine⟨⟨o.keep (hS bs (by simp)) h.lo.s,o.keep (hS bh (by simp)) h.lo.h,⟨o.keep (hS b (by simp)) h.lo.f.n13,fun j hj=>?_⟩,h.lo.m.block (o.block r h.lo.rl (hS r (by simp))),Nat.lt_of_lt_of_le h.lo.rl o.size⟩,o.keep (hS bx (by simp)) h.n,o.keep (hS bl (by simp)) h.l,?_⟩
 ·obtain⟨b1,o1,b2,o2,e1,e2,p,q,r⟩:=h.lo.f.N j hj;cases e1;cases e2;exact⟨bn,0,cB j,_,rfl,rfl,o.keep (hS bn (by simp)) p,o.keep (hC j hj) q,o.keep (hC j hj) r⟩
 ·obtain⟨b2,o2,e2,p,q⟩:=h.c;cases e2;exact⟨cB i,_,rfl,o.keep (hS bn (by simp)) p,o.keep (hC i hi) q⟩
theorem Snd.o1{x:Hp}(s:Snd x)(hp:x.phase=1):Ovr x (unit1 x) (fun i=>i)∧(Col x→Col (unit1 x))∧((unit1 x).phase=1∨(unit1 x).phase=2):=by
 have hh:=s.r1.hand;unfold unit1
 split
 ·exact⟨ovr_turn (by omega) 2 0 0 x.rounds,fun c=>c.same rfl rfl (fun _=>rfl) (fun _ h=>h),.inr rfl⟩
 ·rename_i ne;by_cases e:spkB (x.c x.hand.toNat)=true
  ·rw[if_pos e];have hi:x.hand.toNat<x.cells.length:=by omega
   obtain⟨_,_,_,hr,hl,hph,_⟩:=shade_same x x.hand.toNat;have hc:=shade_un x x.hand.toNat hi;have sp:=(spkB_iff _).1 e
   have st:(x.c x.hand.toNat).st=1:=by
    have h2:=s.r2.1 _ hi;unfold Speaks at sp;rcases h2 with⟨_,b,_⟩ | ⟨_,b⟩ | ⟨h,_⟩
    ·have:=b.2.2.1;omega
    ·have:=b.1.2.2.1;omega
    ·exact h
   refine⟨ovr_un hr hl hc (fun j g=>good_st (x:=x) (y:={ shadeH x x.hand.toNat with hand:=x.hand+1 }) hl hc (by omega) g),fun c=>?_,.inl (by show(shadeH x _).phase=1;omega)⟩;exact(c.shade _ hi (Reached.last _ hi st sp)).same rfl rfl (fun _=>rfl) (fun _ h=>h)
  ·rw[if_neg e];exact⟨ovr_turn (by omega) x.phase (x.hand+1) x.sub x.rounds,fun c=>c.same rfl rfl (fun _=>rfl) (fun _ h=>h),.inl hp⟩
theorem Snd.reach_reg{x:Hp}(s:Snd x)(hp:x.phase<4)(i:Nat)(hi:i<x.regs.length)(hk:x.regs[i].k=2):Reached x x.regs[i].a.toNat:=by
 rw[←tgt_mark s hp (s.good_reg i hi) hk];exact Reached.reg i hi hk
theorem Snd.o2{x:Hp}(s:Snd x)(hp:x.phase=2):Ovr x (unit2 x) (fun i=>i)∧(Col x→(unit2 x).phase=2→Col (unit2 x))∧(Col x→(unit2 x).phase=3→Kept (unit2 x))∧((unit2 x).phase=2∨(unit2 x).phase=3):=by
 have hm:Marking x:=.inr hp;unfold unit2
 split
 ·rename_i g G hg;have h5:=s.r5.2.2 g (by rw[hg];simp);have hgl:g.toNat<x.cells.length:=by omega
  have cg:(x.c g.toNat).color=1:=(gray_in s.r5 g.toNat hgl).1 (by rw[hg];simp;omega)
  split
  ·rename_i hs;have hsb:=s.r1.sub;have hk:x.sub.toNat<(x.c g.toNat).prs.length:=by omega
   obtain⟨g1,g2⟩:=s.good_pair hm g.toNat x.sub.toNat hgl hk;obtain⟨ra,la,pa,ha,sa⟩:=shadeW_same x ((x.c g.toNat).p x.sub.toNat).key;have ua:=shadeW_un x ((x.c g.toNat).p x.sub.toNat).key g1;have g2':=g2.keep la ua;obtain⟨rb,lb,pb,hb,sb⟩:=shadeW_same (shadeW x ((x.c g.toNat).p x.sub.toNat).key) ((x.c g.toNat).p x.sub.toNat).val;have ub:=shadeW_un _ ((x.c g.toNat).p x.sub.toNat).val g2';have uc:∀q,((shadeW (shadeW x ((x.c g.toNat).p x.sub.toNat).key) ((x.c g.toNat).p x.sub.toNat).val).c q).un=(x.c q).un:=fun q=>(ub q).trans (ua q)
   have hl:=lb.trans la;have hr:=rb.trans ra;refine⟨ovr_un hr hl uc (fun j gj=>good_st (x:=x) (y:={ shadeW (shadeW x ((x.c g.toNat).p x.sub.toNat).key) ((x.c g.toNat).p x.sub.toNat).val with sub:=x.sub+1 }) hl uc (by omega) gj),fun c _=>?_,fun _ e=>?_,.inl ?_⟩
   ·have rg:=c g.toNat hgl (by omega)
    have rk:((x.c g.toNat).p x.sub.toNat).key.k=2→Reached x ((x.c g.toNat).p x.sub.toNat).key.a.toNat:=fun e=>by
     rw[←tgt_mark s (by omega) g1 e];exact Reached.key _ _ rg hk e
    have rv:((x.c g.toNat).p x.sub.toNat).val.k=2→Reached x ((x.c g.toNat).p x.sub.toNat).val.a.toNat:=fun e=>by
     rw[←tgt_mark s (by omega) g2 e];exact Reached.val _ _ rg hk e
    exact((c.shadeW _ g1 rk).shadeW _ g2' (fun e=>reach_un ra la ua (rv e))).same rfl rfl (fun _=>rfl) (fun _ h=>h)
   ·have e':(shadeW (shadeW x ((x.c g.toNat).p x.sub.toNat).key) ((x.c g.toNat).p x.sub.toNat).val).phase=3:=e;omega
   ·show(shadeW (shadeW x ((x.c g.toNat).p x.sub.toNat).key) ((x.c g.toNat).p x.sub.toNat).val).phase=2;omega
  ·have hc:∀q,(({ x with cells:=x.cells.set g.toNat (blackC (x.c g.toNat)),gray:=G,sub:=0 }:Hp).c q)=if q=g.toNat∧g.toNat<x.cells.length then blackC (x.c g.toNat) else x.c q:=fun q=>cs_set _ _ _ _
   have uc:∀q,(({ x with cells:=x.cells.set g.toNat (blackC (x.c g.toNat)),gray:=G,sub:=0 }:Hp).c q).un=(x.c q).un:=fun q=>by
    rw[hc];split
    ·rename_i h;rw[h.1];rfl
    ·rfl
   have hl:({ x with cells:=x.cells.set g.toNat (blackC (x.c g.toNat)),gray:=G,sub:=0 }:Hp).cells.length=x.cells.length:=by simp
   refine⟨ovr_un rfl hl uc (fun j gj=>good_st hl uc (by omega) gj),fun c _=>c.same rfl hl uc (fun q h=>?_),fun _ e=>?_,.inl hp⟩
   ·rw[hc] at h
    split at h
    ·rename_i h1;rw[h1.1];omega
    ·exact h
   ·have e':x.phase=3:=e;omega
 ·have sh:=(s.look hp).1
  have cl:Col x→Col (lookH x):=fun c=>Col.fold hm x.regs x (fun y hy=>by
   obtain⟨i,hi,e⟩:=List.getElem_of_mem hy;rw[←e];exact⟨s.good_reg i hi,s.reach_reg (by omega) i hi⟩) (Shd.refl s) c
  have hph:=sh.phase
  split
  ·refine⟨ovr_un (y:=toPh (lookH x) 3 0) sh.regs sh.len sh.un (fun j gj=>good_st (x:=x) (y:=toPh (lookH x) 3 0) sh.len sh.un (by omega) gj),fun _ e=>?_,fun c _ j gj=>?_,.inr rfl⟩
   ·have e':(3:Int)=2:=e;omega
   ·refine reach_un (x:=lookH x) (y:=toPh (lookH x) 3 0) rfl rfl (fun _=>rfl) (cl c j gj.1 (fun e=>gj.2.2 ⟨rfl,?_,gj.2.1,e⟩));show(0:Int)≤j;omega
  ·refine⟨ovr_un sh.regs sh.len sh.un (fun j gj=>good_st sh.len sh.un (by omega) gj),fun c _=>cl c,fun _ e=>?_,.inl (by omega)⟩;omega
theorem Snd.o3{x:Hp}(s:Snd x)(hp:x.phase=3):Ovr x (unit3 x) (fun i=>i)∧((unit3 x).phase=3∨(unit3 x).phase=4):=by
 have hh:=s.r1.hand;unfold unit3
 split
 ·rename_i e;exact⟨ovr_un (y:=toPh x 4 0) rfl rfl (fun _=>rfl) (fun j gj=>⟨gj.1,gj.2.1,fun d=>by have:=d.2.1;have:j<x.cells.length:=gj.1;omega⟩),.inr rfl⟩
 ·rename_i ne;have hi:x.hand.toNat<x.cells.length:=by omega
  split
  ·rename_i w;have w:=(whB_iff _).1 w;have dm:Doomed x x.hand.toNat:=⟨hp,by omega,w.1,w.2⟩;have hc:∀q,(({ x with used:=x.used-(1+(x.c x.hand.toNat).prs.length),cells:=x.cells.set x.hand.toNat Cl0,hand:=x.hand+1 }:Hp).c q)=if q=x.hand.toNat∧x.hand.toNat<x.cells.length then Cl0 else x.c q:=fun q=>cs_set _ _ _ _
   have ht:∀u,tgt ({ x with used:=x.used-(1+(x.c x.hand.toNat).prs.length),cells:=x.cells.set x.hand.toNat Cl0,hand:=x.hand+1 }:Hp) u=tgt x u:=fun u=>by
    unfold tgt lead2;rw[hc]
    split
    ·rename_i h1;rw[h1.1];simp [w.1,Cl0]
    ·rfl
   have hne:∀i,Good x i→({ x with used:=x.used-(1+(x.c x.hand.toNat).prs.length),cells:=x.cells.set x.hand.toNat Cl0,hand:=x.hand+1 }:Hp).c i=x.c i:=fun i gi=>by
    have n:¬(i=x.hand.toNat∧x.hand.toNat<x.cells.length):=fun h=>gi.2.2 (by rw[h.1];exact dm)
    rw[hc,if_neg n]
   refine⟨⟨rfl,fun k h h'=>⟨rfl,fun _=>ht _⟩,fun i gi=>?_,fun i p gi hp=>?_,fun i p gi hp=>?_,fun j gj=>⟨j,?_,rfl⟩,fun i gi=>by rw[hne i gi],fun _ _ _ _ h=>h⟩,.inl hp⟩
   ·rw[hne i gi];exact⟨gi.2.1,by simpa using gi.1,rfl,rfl⟩
   ·rw[hne i gi];exact⟨rfl,fun _=>ht _⟩
   ·rw[hne i gi];exact⟨rfl,fun _=>ht _⟩
   ·have h1:=gj.2.1
    have h2:¬(j=x.hand.toNat∧x.hand.toNat<x.cells.length):=fun h=>by
     rw[hc,if_pos h] at h1;simp [Cl0] at h1
    have h3:=gj.2.2;have e:({ x with used:=x.used-(1+(x.c x.hand.toNat).prs.length),cells:=x.cells.set x.hand.toNat Cl0,hand:=x.hand+1 }:Hp).c j=x.c j:=by rw[hc,if_neg h2]
    rw[e] at h1;refine⟨by simpa using gj.1,h1,fun d=>h3 ⟨hp,?_,by rw[e];exact h1,by rw[e];exact d.2.2.2⟩⟩;show x.hand+1≤j;have:=d.2.1;omega
  ·rename_i w;have w:=fun h=>w ((whB_iff _).2 h)
   have hc:∀q,(({ x with cells:=x.cells.set x.hand.toNat (whiteC (x.c x.hand.toNat)),hand:=x.hand+1 }:Hp).c q)=if q=x.hand.toNat∧x.hand.toNat<x.cells.length then whiteC (x.c x.hand.toNat) else x.c q:=fun q=>cs_set _ _ _ _
   have uc:∀q,(({ x with cells:=x.cells.set x.hand.toNat (whiteC (x.c x.hand.toNat)),hand:=x.hand+1 }:Hp).c q).un=(x.c q).un:=fun q=>by
    rw[hc];split
    ·rename_i h;rw[h.1];rfl
    ·rfl
   refine⟨ovr_un rfl (by simp) uc (fun j gj=>⟨by simpa using gj.1,by rw[←(un_parts (uc j)).1];exact gj.2.1,fun d=>?_⟩),.inl hp⟩;by_cases e:j=x.hand.toNat
   ·exact w (e ▸ ⟨d.2.2.1,d.2.2.2⟩)
   ·have h3:=gj.2.2;refine h3 ⟨hp,?_,gj.2.1,?_⟩
    ·show x.hand+1≤j;have:=d.2.1;omega
    ·rw[hc,if_neg (fun h=>e h.1)];exact d.2.2.2
theorem SAt.rowTo[Inhabited ProtD]{B:Nat}{w:World}{b:Nat}{z:Hp}{ar:Option Addr}{kr:Nat}{v4 v8:Value}{br bn:Nat}{cB cO:Nat→Nat}{pb:Nat→Nat}{pa:Nat→Option Addr}{pk:Nat→Nat}{kn hd:Nat}{vf:Value}{F:List Int}{vk:Value}{K:List Nat}{role:Nat→Nat}{w':World}(h:SAt B w b z ar kr v4 v8 br cB cO bn pb pa pk kn hd vf F vk K role)(i:Nat)(hi:i<z.cells.length)(r0:0<z.regs.length)(L:List Pr)(qb:Nat)(qa:Option Addr)(qk:Nat)(hL:L.length≤qk)(o:Only (fun q=>q=cB i∨(q=pb i∧0<pk i)) w w')(nfc:Nf1 (cB i) w')(hq0:(qb=pb i∧0<pk i)∨w.heap.size≤qb)(hN:0<qk→qa=some ⟨qb,0,none⟩∧Nfp qb qk w')(hBq:B≤qb)(c7:w'.cell? ⟨cB i,cO i+7,none⟩=some (.slice qa L.length qk))(co:∀j,j≠cO i+7→w'.cell? ⟨cB i,j,none⟩=w.cell? ⟨cB i,j,none⟩)(hp:PRow w' qb L):
  SAt B w' b { z with cells:=z.cells.set i { z.c i with prs:=L } } ar kr v4 v8 br cB cO bn (fun q=>if q=i then qb else pb q) (fun q=>if q=i then qa else pa q) (fun q=>if q=i then qk else pk q) kn hd vf F vk K (fun d=>if w.heap.size≤d then 6+i else role d):=by
 have old:∀q,q<w.heap.size→(if w.heap.size≤q then 6+i else role q)=role q:=fun q hq=>if_neg (by omega)
 have far:∀q,q<w.heap.size→role q≠3→role q≠6+i→w'.heap[q]?=w.heap[q]?:=fun q hq hr hr2=>o.block q hq (fun e=>by
  rcases e with e | ⟨e,e2⟩
  ·exact hr (by rw[e];exact h.sp.c i hi)
  ·exact hr2 (by rw[e];exact h.sp.p i hi e2))
 have hl:({ z with cells:=z.cells.set i { z.c i with prs:=L } }:Hp).cells.length=z.cells.length:=by simp
 have hc:=Hp.c_set z i { z.c i with prs:=L } hi;have hne:∀q,q≠i→(({ z with cells:=z.cells.set i { z.c i with prs:=L } }:Hp).c q)=z.c q:=fun q e=>by rw[hc q,if_neg e]
 have hei:(({ z with cells:=z.cells.set i { z.c i with prs:=L } }:Hp).c i)={ z.c i with prs:=L }:=by rw[hc i,if_pos rfl]
 have qne:∀q,q<w.heap.size→role q≠6+i→q≠qb:=fun q hq hr e=>by
  rcases hq0 with⟨e1,e2⟩ | e1
  ·exact hr (by rw[e,e1];exact h.sp.p i hi e2)
  ·omega
 have pf:∀q,q<z.cells.length→q≠i→0<pk q→w'.heap[pb q]?=w.heap[pb q]?:=fun q hq hqi hl=>far (pb q) (h.rw.pl q hq hl).2.1.1 (by rw[h.sp.p q hq hl];omega) (by rw[h.sp.p q hq hl];omega)
 have sb2:=h.sb.same o.size (far b h.sb.nb.1 (by rw[h.sp.b];omega) (by rw[h.sp.b];omega)) (far bn h.sb.lo.2.2.1 (by rw[h.sp.n];omega) (by rw[h.sp.n];omega)) (fun q hq=>far q (h.sb.fr.own.lt q hq).2 (by rw[h.sp.f q hq];omega) (by rw[h.sp.f q hq];omega)) (fun q hq=>far q (h.sb.kp.lt q hq).2 (by rw[h.sp.k q hq];omega) (by rw[h.sp.k q hq];omega))
 have cf:∀q,q<z.cells.length→cB q≠cB i→w'.heap[cB q]?=w.heap[cB q]?:=fun q hq e=>o.block (cB q) (h.rw.nc q hq).1.1 (fun e2=>by
  rcases e2 with e2 | ⟨e2,e3⟩
  ·exact e e2
  ·exact(h.rw.pl i hi e3).2.2.1.2 q hq e2.symm)
 have ck:∀q,q<z.cells.length→q≠i→∀k,k<8→w'.cell? ⟨cB q,cO q+k,none⟩=w.cell? ⟨cB q,cO q+k,none⟩:=fun q hq e k hk=>by
  by_cases e2:cB q=cB i
  ·rw[e2];rcases h.rw.dc q i hq hi e with d | d | d
   ·exact(d e2).elim
   ·exact co _ (by omega)
   ·exact co _ (by omega)
  ·exact World.cell?_of_block (a:=⟨cB q,_,none⟩) (cf q hq e2)
 have cn:∀q,q<z.cells.length→Nf1 (cB q) w':=fun q hq=>by
  by_cases e2:cB q=cB i
  ·rw[e2];exact nfc
  ·exact nf1_block (h.rw.nc q hq).1 (cf q hq e2) o.size
 have fr:0<z.regs.length→w'.heap[br]?=w.heap[br]?:=fun hr=>far br (h.rw.nr hr).1.1 (by rw[h.sp.r hr];omega) (by rw[h.sp.r hr];omega)
 refine⟨⟨sb2.bx,sb2.ha,by rw[hl];exact sb2.n13,fun k hk=>sb2.nd k (by rw[hl] at hk;exact hk),sb2.fr,sb2.rg,sb2.k0,sb2.kp,sb2.nb,sb2.lo⟩,⟨fun j hj=>?_,fun q hq=>?_,fun q hq=>?_,fun q hq j hj=>?_,fun q hq hlq=>?_,fun hr=>⟨nf1_block (h.rw.nr hr).1 (fr hr) o.size,(h.rw.nr hr).2⟩,fun q hq=>⟨cn q (by rw[hl] at hq;exact hq),(h.rw.nc q (by rw[hl] at hq;exact hq)).2⟩,fun q hq=>h.rw.d q (by rw[hl] at hq;exact hq),fun q q' hq hq' hqq h1 h2=>?_,fun q q' hq hq' hne=>h.rw.dc q q' (by rw[hl] at hq;exact hq) (by rw[hl] at hq';exact hq') hne,fun q hq=>?_⟩,⟨by rw[old b h.sb.nb.1];exact h.sp.b,by rw[old bn h.sb.lo.2.2.1];exact h.sp.n,fun hr=>by rw[old br (h.rw.nr hr).1.1];exact h.sp.r hr,fun q hq=>by rw[hl] at hq;rw[old (cB q) (h.rw.nc q hq).1.1];exact h.sp.c q hq,fun q hq=>by rw[old q (h.sb.fr.own.lt q hq).2];exact h.sp.f q hq,fun q hq=>by rw[old q (h.sb.kp.lt q hq).2];exact h.sp.k q hq,fun q hq hlq=>?_⟩,h.pr.of (fun q hq h1=>far q hq (by rw[h1];omega) (by rw[h1];omega)) (fun q hq h1=>by(try dsimp only);rw[old q hq];exact h1)⟩
 ·exact(h.rw.r j hj).of fun m _=>World.cell?_of_block (a:=⟨br,_,none⟩) (fr (by have:j<z.regs.length:=hj;omega))
 ·rw[hl] at hq;by_cases e:q=i
  ·subst e;rw[hei];exact(h.rw.s q hq).of fun m hm=>co _ (by omega)
  ·rw[hne q e];exact(h.rw.s q hq).of fun m hm=>ck q hq e m (by omega)
 ·rw[hl] at hq;by_cases e:q=i
  ·subst e;rw[hei];simp only [if_true];exact c7
  ·rw[hne q e];simp only [if_neg e];rw[ck q hq e 7 (by omega)];exact h.rw.p7 q hq
 ·rw[hl] at hq;by_cases e:q=i
  ·subst e;rw[hei] at hj ⊢;simp only [if_true];have:=hp j hj;rw[Cl.p_eq { z.c q with prs:=L } j hj] at this;exact this
  ·rw[hne q e] at hj ⊢;simp only [if_neg e];exact(h.rw.p q hq j hj).of fun m _=>World.cell?_of_block (a:=⟨pb q,_,none⟩) (pf q hq e (h.rw.pw hq (by omega)))
 ·rw[hl] at hq;by_cases e:q=i
  ·subst e;simp only [if_true] at hlq ⊢;obtain⟨a1,a2⟩:=hN hlq;refine⟨a1,a2,⟨fun e=>?_,fun j hj e=>?_⟩,hBq⟩
   ·exact qne br (h.rw.nr r0).1.1 (by rw[h.sp.r r0];omega) e.symm
   ·rw[hl] at hj;exact qne (cB j) (h.rw.nc j hj).1.1 (by rw[h.sp.c j hj];omega) e.symm
  ·simp only [if_neg e] at hlq ⊢;obtain⟨a1,a2,a3,a4⟩:=h.rw.pl q hq hlq;exact⟨a1,nfp_block a2 (pf q hq e hlq) o.size,⟨a3.1,fun j hj=>a3.2 j (by rw[hl] at hj;exact hj)⟩,a4⟩
 ·rw[hl] at hq hq';by_cases e:q=i
  ·subst e;have e':q'≠q:=fun e=>hqq e.symm
   simp only [if_true,if_neg e'] at h1 h2 ⊢;exact fun u=>qne (pb q') (h.rw.pl q' hq' h2).2.1.1 (by rw[h.sp.p q' hq' h2];omega) u.symm
  ·by_cases e2:q'=i
   ·subst e2;simp only [if_true,if_neg e] at h1 h2 ⊢;exact qne (pb q) (h.rw.pl q hq h1).2.1.1 (by rw[h.sp.p q hq h1];omega)
   ·simp only [if_neg e,if_neg e2] at h1 h2 ⊢;exact h.rw.dp q q' hq hq' hqq h1 h2
 ·rw[hl] at hq;by_cases e:q=i
  ·subst e;rw[hei];simp only [if_true];exact hL
  ·rw[hne q e];simp only [if_neg e];exact h.rw.kp q hq
 ·rw[hl] at hq;by_cases e:q=i
  ·subst e;simp only [if_true] at hlq ⊢;rcases hq0 with⟨e1,e2⟩ | e1
   ·rw[e1,old (pb q) (h.rw.pl q hq e2).2.1.1];exact h.sp.p q hq e2
   ·rw[if_pos e1]
  ·simp only [if_neg e] at hlq ⊢;rw[old (pb q) (h.rw.pl q hq hlq).2.1.1];exact h.sp.p q hq hlq
end Go.Proofs.YtddkhnclmeikfaaGreat
namespace Go.Proofs.YtddkhnclmeikfaaGreat
open Go.RowKit Go.Shelf
attribute [local go_sem ↓] Go.wp_at_zero Go.wp_at_succ
attribute [local go_sem] Oper.semAt_some
def CKeep(W W':World):Prop:=∀(q:Nat) (o:Obj),W.heap[q]?=some o→o.isCells=true→W'.heap[q]?=some o
theorem CKeep.trans{A B C:World}(h:CKeep A B)(k:CKeep B C):CKeep A C:=fun q o a b=>k q o (h q o a b) b
theorem CKeep.refl(A:World):CKeep A A:=fun _ _ a _=>a
theorem CKeep.cell{W W':World}(h:CKeep W W'){p:Addr}{v:Value}(hc:W.cell? p=some v):W'.cell? p=some v:=by
 obtain⟨o,ho,hi⟩:=cells_of_cell hc;rw[World.cell?_of_block ((h _ _ ho hi).trans ho.symm)];exact hc
def SpL(x:Hp)(w:World)(g:Option Addr)(bn on:Nat)(L:List Nat):Prop:=∀k (h:k<L.length),∃gb go bc oc,g=some ⟨gb,go,none⟩∧w.cell? ⟨gb,go+k,none⟩=some (ptr bn (on+L[k]*2))∧w.cell? ⟨bn,on+L[k]*2+1,none⟩=some (.pointer (some ⟨bc,oc,none⟩))∧w.cell? ⟨bc,oc+3,none⟩=some (iv (x.c L[k]).last)
theorem SpL.keep{x:Hp}{w w':World}{g:Option Addr}{bn on:Nat}{L:List Nat}(h:SpL x w g bn on L)(k:CKeep w w'):SpL x w' g bn on L:=fun i hi=>by
 obtain⟨gb,go,bc,oc,e,a,b,c⟩:=h i hi;exact⟨gb,go,bc,oc,e,k.cell a,k.cell b,k.cell c⟩
end Go.Proofs.YtddkhnclmeikfaaGreat
