import Derived.Test.YtolmnenlnpbcfaaGreatDoorLsB
import Derived.Test.YtolmnenlnpbcfaaGreatDoorAd
import Derived.Test.YtolmnenlnpbcfaaGreatDoorDc
import Derived.Deep.DeepCutAuto
set_option maxRecDepth 100000
set_option maxHeartbeats 1500000
namespace Go.Proofs.YtolmnenlnpbcfaaGreatDoor
open Go.RowKit Tryz
attribute [local go_sem ↓] Go.wp_at_zero Go.wp_at_succ
variable{ar ac ag an:Option Addr}{kr kc kg kn b:Nat}{x:Hp}{w w':World}{y:Wd}
structure VAt(w:World)(b:Nat)(x:Hp)(ar:Option Addr)(kr:Nat)(ac:Option Addr)(kc:Nat)(ag:Option Addr)(kg:Nat)(an:Option Addr)(kn:Nat):Prop where
 H:HAt w b x ar kr ac kc ag kg
 n13:w.cell? ⟨b,13,none⟩=some (.slice an x.A.length kn)
 N:∀i,i<x.A.length->∃bn on bc oc,an=some ⟨bn,on,none⟩/\ac=some ⟨bc,oc,none⟩/\w.cell? ⟨bn,on+i*2,none⟩=some (iv i)/\w.cell? ⟨bn,on+i*2+1,none⟩=some (.pointer (some ⟨bc,oc+i*8,none⟩))
theorem VAt.ext(h:VAt w b x ar kr ac kc ag kg an kn)(e:Ext w w'):VAt w' b x ar kr ac kc ag kg an kn:=
 ⟨h.H.ext e,e.keep h.n13,λi c=>let ⟨bn,on,bc,oc,a,a',p,q⟩:=h.N i c;⟨bn,on,bc,oc,a,a',e.keep p,e.keep q⟩⟩
theorem b1o(c:Cl)(a q bc r:Nat)(b:Option Addr)(d:Nat)(w:World)(h:w.cell? (aA a (q+1))=some (pQ bc r))(g:w.cell? (aA bc (r+7))=some (.slice b c.F.length d))(f:c.F.length<=35184372088832):
  Calls prog 126 #[pQ a q] w λe w'=>e=.returned (iv (1+(c.F.length:Int)))/\w'=w:=by
 go_in;go_wp2;go_ret;exact⟨rfl,rfl⟩
theorem b9f(x:Hp)(b:Nat)(w:World)(h:VAt w b x ar kr ac kc ag kg an kn)(hn:x.A.length<=8000)(J:∀i,i<x.A.length->(x.c i).F.length<=200):
  Calls prog 76 #[pP b] w λe w'=>∃r:Bool,e=.returned (.bool r)/\(r=true↔R3 x)/\Ext w w':=by
 have v:=h.n13;have c0:=h.H.c0;have R:=h.H.c1;go_enter func76,ntmps76;go_wp21;go_loop [3,10] (λn i=>∃(k:Nat)(u:Nat),k<=x.A.length/\i=iv k/\n=iv u/\Hid (u=dH (x.A.take k))/\u<=201*k) (λ_ i=>x.A.length-(intOf i).toNat)
 case atStart=>exact⟨0,0,kB _,rfl,rfl,by show _=_;simp[dH],by omega⟩
 case round=>
  obtain⟨k,u,K,rfl,rfl,m,G⟩:=hrel;by_cases a:k<x.A.length
  ·obtain⟨b',o,t,C,rfl,Z,M,O,V,X,Q,T,I,A,P⟩:=h.H.cell k a;obtain⟨B,F,L,S,rfl,j,U,y⟩:=h.N k a;cases j;have D:=J k a;have E:(0:Int)<=(k:Int):=by omega
   have s:(k:Int)<(x.A.length:Int):=by omega
   have d:=a5m x.A k a;rw[Hp.c_eq]at d;cases q:((x.c k).st == 1)
   ·have g:¬(x.c k).st=1:=by simpa using q
    have H:Hid (u=dH (x.A.take (k+1))):=by have:=uH m;show _=_;rw[d,cL,if_neg g];omega
    go_wp2_with (fail);go_round
    case rel=>exact⟨k+1,u,by omega,by go_num,rfl,H,by omega⟩
    case measure=>simp[intOf];omega
   have g:(x.c k).st=1:=by simpa using q
   have H:Hid (u+(1+(x.c k).F.length)=dH (x.A.take (k+1))):=by have:=uH m;show _=_;rw[d,cL,if_pos g];omega
   go_wp21;refine(b1o (x.c k) B (F+k*2) _ _ t C _ y I A).mono ?_;rintro e w1 ⟨rfl,rfl⟩;go_wp2_with (fail);go_round
   case rel=>exact⟨k+1,u+(1+(x.c k).F.length),by omega,by go_num,by go_num,H,by omega⟩
   case measure=>simp[intOf];omega
  have l:k=x.A.length:=by omega
  have H:=uU (show u=dH x.A by have:=uH m;rw[l,kz]at this;exact this);cases p:(x.K == (u:Int))
  ·have N:=uU (show ¬R3 x from λr=>by have:=uH H;have:=r.1;simp at p;omega);go_wp2;go_ret;first|(exact kT ⟨rfl,N,hO _⟩)|(exact⟨false,rfl,⟨λf=>by simp at f,λr=>(N r).elim⟩,hO _⟩)
  by_cases W:(u:Int)<=x.M
  ·have Y:=uU (show R3 x by
    have z:=uH H;have j:x.K=(u:Int):=by simpa using p
    exact⟨by rw[j,z],by omega⟩)
   go_wp2;go_ret;first|(exact ko ⟨rfl,Y,hO _⟩)|(exact⟨true,rfl,⟨λ_=>uH Y,λ_=>rfl⟩,hO _⟩)
  have N:=uU (show ¬R3 x from λr=>by
   have j:x.K=(u:Int):=by simpa using p
   have:=r.2;omega)
  go_wp2;go_ret;first|(exact kT ⟨by simp,N,hO _⟩)|(exact⟨false,by simp,⟨λf=>by simp at f,λr=>(N r).elim⟩,hO _⟩)
theorem b3m(x:Hp)(b:Nat)(w:World)(h:VAt w b x ar kr ac kc ag kg an kn):
  Calls prog 81 #[pP b] w λe w'=>∃r:Bool,e=.returned (.bool r)/\(r=true↔R8 x)/\Ext w w':=by
 have u:=h.n13;have T:=h.H.c5;have lc:=h.H.lc;cases n:(x.E == 6)
 ·have Y:=uU (show R8 x from λi v t=>by simp[t.1]at n);have p:(x.E != 6)=true:=by simpa using n
  go_in;go_wp2;go_ret;first|(exact ko ⟨rfl,Y,hO _⟩)|(exact⟨true,rfl,⟨λ_=>uH Y,λ_=>rfl⟩,hO _⟩)
 have p:(x.E != 6)=false:=by simpa using n
 have B:=uU (show x.E=6 by simpa using n);go_in;go_wp21;go_loopw [16] (λi wr=>∃(k:Nat),k<=x.A.length/\i=iv k/\(∀j,j<k->¬(x.E=6/\x.I<=j/\(x.c j).st=2))/\Ext w wr) (λi _=>x.A.length-(intOf i).toNat)
 case atStart=>exact⟨0,kB _,rfl,λj D=>by omega,hO _⟩
 case round=>
  obtain⟨k,F,rfl,l,a⟩:=hrel;have HA:=uU l;by_cases g:k<x.A.length
  ·have m:=h.ext a;obtain⟨b',o,J,W,rfl,p0,I,K,X,Z,L,U,p7,O,P⟩:=m.H.cell k g;obtain⟨Q,on,G,R,rfl,A,V,M⟩:=m.N k g;cases A;have d6:=m.H.c6;have C:=m.n13;have z:=i0N k;have s:(k:Int)<(x.A.length:Int):=by omega
   have d:¬(x.E=6/\x.I<=k/\(x.c k).st=2)->Hid (∀j,j<k+1->¬(x.E=6/\x.I<=j/\(x.c j).st=2)):=λE j D=>by
    by_cases e:j=k;subst e;exact E;exact HA j (by omega)
   cases q:((x.c k).st == 2)
   ·have S:=d (by simp at q;omega);go_wp21;go_quiet (fail);go_wp2;go_roundw
    case rel=>exact⟨k+1,by omega,by go_num,S,Ext.drewN a _⟩
    simp[intOf];omega
   by_cases y:x.I<=(k:Int)
   ·have N:=uU (show ¬R8 x from λr=>r k g ⟨B,y,by simpa using q⟩);go_wp21;go_quiet (fail);go_wp2;go_ret;first|(exact kT ⟨rfl,N,Ext.drewN a _⟩)|(exact⟨false,rfl,fNo N,Ext.drewN a _⟩)
   have S:=d (by omega);go_wp21;go_quiet (fail);go_wp2;go_roundw
   case rel=>exact⟨k+1,by omega,by go_num,S,Ext.drewN a _⟩
   simp[intOf];omega
  have Y:=uU (show R8 x from λi v=>uH HA i (by omega));go_wp2;go_ret;first|(exact ko ⟨rfl,Y,a⟩)|(exact⟨true,rfl,⟨λ_=>uH Y,λ_=>rfl⟩,a⟩)
def a5k(x:Hp)(y:Wd):Bool:=(y.k == 2) && ((x.c y.a.toNat).J == 0)
theorem a8z:a5k x y=true↔dJ x y:=by simp[a5k,dJ]
theorem b2u(x:Hp)(b:Nat)(y:Wd)(w:World)(h:HAt w b x ar kr ac kc ag kg)(s:y.k=2->0<=y.a/\y.a<x.A.length):
  Calls prog 72 #[pP b,y.v] w λe w'=>e=.returned (.bool (a5k x y))/\Ext w w':=by
 cases q:(y.k == 2)
 focus have E:a5k x y=false:=by simp[a5k,q]
 rotate_left
 focus
  have d:y.k=2:=by simpa using q
  have⟨r,F⟩:=s d;have⟨i,g⟩:=k9 r;have E:=uU (show a5k x y=((x.c i).J == 0) by simp[a5k,d,g]);obtain⟨n,o,rfl,z,G,u,A,B,D,f,_⟩:=h.C i (by omega);have m:=h.c4;have t:=cLt m;have p:=cLt f;have l:=i0N i;have j:(i:Int)<(x.A.length:Int):=by omega
 all_goals
  go_in;go_wp21;go_quiet (fail);go_wp2;go_ret;exact⟨by rw[uH E];rfl,(eAl w _).drewN _⟩
def qU(x:Hp)(y:Wd)(m:Bool):Bool:=dQ y x.A.length && (!(y.k == 2) || (if (x.c y.a.toNat).st=2 then m else ((x.c y.a.toNat).st == 1) && !qE x y.a.toNat))
theorem a1j{m:Bool}{p:Prop}(a:m=true↔p):qU x y m=true↔hE x y p:=by grind[Cl.p,qU,hE,a0o,Hp.c,qE,uW,a3c]
theorem a6n(x:Hp)(b:Nat)(y:Wd)(m:Bool)(w:World)(h:HAt w b x ar kr ac kc ag kg):
  Calls prog 68 #[pP b,y.v,.bool m] w λe w'=>e=.returned (.bool (qU x y m))/\Ext w w':=by
 have O:=h.c4;have R:=cLt O;have N:b<w.heap.size+1:=by omega
 go_in;go_wp21;go_region_held3 (λw'=>w'.cell? (aA w.heap.size 0)=some (iv y.k)/\w'.cell? (aA w.heap.size 1)=some (iv y.n)/\w'.cell? (aA w.heap.size 2)=some (iv y.a)/\w'.cell? (aA b 4)=some (.slice ac x.A.length kc)) (first|(simp[*];done)|go_keep)
    (first|(go_at_call 70;refine(a5j y x.A.length _).mono ?_;rintro e j ⟨rfl,l⟩;have s:=(cX l).1;simp only[World.size_drew,World.size_alloc]at s))
 rename_i t;have p:Ext w j:=kI ((eAl w _).drew) l;cases r:dQ y x.A.length
 ·have E:=uU (show qU x y m=false by simp[qU,r]);go_wp2;go_ret;exact⟨by rw[uH E];rfl,p⟩
 cases C:(y.k == 2)
 ·have E:=uU (show qU x y m=true by simp[qU,r,C]);go_wp2;go_ret;exact⟨by rw[uH E];rfl,p⟩
 have Q:y.k=2:=by simpa using C
 have M:=a0o.1 r;unfold uJ at M;have A:0<=y.a/\y.a<x.A.length:=by omega
 have q:=uU (show qU x y m=(if (x.c y.a.toNat).st=2 then m else ((x.c y.a.toNat).st == 1) && !qE x y.a.toNat) by simp[qU,r,Q]);have z:=h.ext p;have F:=λw' (e:Ext j w')=>a9w x b y.a w' (z.ext e) A.1 A.2;have⟨i,J⟩:=k9 A.1;rw[J]at F q;rw[mC]at q;obtain⟨d,o,D,I,rfl,p0,S,T,X,Y,U,W,Z,V,P⟩:=z.cell i (by omega);have d4:=z.c4;have L:=i0N i;have K:(i:Int)<(x.A.length:Int):=by omega
 go_wp21;go_region_held3 (λw'=>w'.cell? (aA w.heap.size 2)=some (iv i)/\w'.cell? (aA b 4)=some (sO d o x.A.length kc)/\w'.cell? (aA d (o+i*8))=some (iv (x.c i).st)/\w'.cell? (aA d (o+i*8+1))=some (iv (x.c i).kind)/\w'.cell? (aA d (o+i*8+2))=some (iv (x.c i).T)/\w'.cell? (aA d (o+i*8+3))=some (iv (x.c i).U)/\w'.cell? (aA d (o+i*8+4))=some (iv (x.c i).born)/\w'.cell? (aA d (o+i*8+5))=some (iv (x.c i).J)/\w'.cell? (aA d (o+i*8+6))=some (iv (x.c i).to)/\w'.cell? (aA d (o+i*8+7))=some (.slice D (x.c i).F.length I)) (first|(simp[*];done)|go_keep) (fail);have u:∀f:Obj,Ext w (j.alloc f).drew:=λf=>(p.alloc f).drew
 have y2:∀f:Obj,Ext j (j.alloc f).drew:=λf=>(eAl j f).drew
 cases G:((x.c i).st == 2)
 ·have g:¬(x.c i).st=2:=by simpa using G
  have E:=uU (show qU x y m=(((x.c i).st == 1) && !qE x i) by rw[uH q,if_neg g]);cases H:((x.c i).st == 1)
  ·go_wp2;go_ret;exact⟨by rw[uH E,H];rfl,u _⟩
  go_wp2_with (go_at_call 69;refine(F _ (y2 (oCl (x.c i) (.slice D (x.c i).F.length I)))).mono ?_;rintro e w' ⟨rfl,rfl⟩);go_ret;exact⟨by rw[uH E,H];simp,u _⟩
 have g:(x.c i).st=2:=by simpa using G
 go_wp2;go_ret;exact⟨by rw[(show qU x y m=m by rw[uH q,if_pos g])];rfl,u _⟩
def Up(w w':World):Prop:=Ext w w'
theorem Up.ext(h:Up w w'):Ext w w':=h
theorem a8c{P:Program}{f:FuncId}{args:Array Value}{v:Value}(h:Calls P f args w' λe w''=>e=.returned v/\Ext w' w'')(c:Up w w'):Calls P f args w' λe w''=>e=.returned v/\Up w w'':=
 h.mono λ_ _ ⟨b,a⟩=>⟨b,kI c a⟩
def b2w(x:Hp)(k l:Nat)(p:Pr):Bool:=if qE x k then dQ p.key x.A.length && dQ p.val x.A.length else qU x p.key (!dK x k l) && qU x p.val (!dK x k l)
theorem b7q{k l:Nat}{p:Pr}:b2w x k l p=true↔a3f x k l p:=by
 have v:((!dK x k l)=true↔¬cN x k l):=by rw[<-b2t];simp
 unfold b2w a3f;rw[<-a1j v,<-a1j v,<-a0o,<-a0o,<-a3c];cases qE x k <;> simp
theorem c0w(x:Hp)(b:Nat)(w:World)(h:HAt w b x ar kr ac kc ag kg):
  Calls prog 28 #[pP b] w λe w'=>∃r:Bool,e=.returned (.bool r)/\(r=true↔R4 x)/\Ext w w':=by
 have c3:=h.c3;have lr:=h.lr;have lc:=h.lc;go_in;go_wp21;go_loopw [16] (λi wr=>∃k:Nat,k<=x.B.length/\i=iv k/\(∀j (H:j<x.B.length),j<k->hE x x.B[j] False)/\Ext w wr) (λi _=>x.B.length-(intOf i).toNat)
 case atStart=>exact⟨0,kB _,rfl,λj H h=>by omega,hO _⟩
 case round=>
  obtain⟨k,hk,rfl,s,t⟩:=hrel;have HA:=uU s;by_cases u:k<x.B.length
  ·obtain⟨b',o,rfl,p0,p1,p2⟩:=(h.ext t).R k u;have ah:=i0N k;have aa:(k:Int)<(x.B.length:Int):=by omega
   go_wp21;refine(a6n x b x.B[k] false _ (h.ext (t.alloc _))).mono ?_;rintro e I ⟨rfl,g⟩;have x1:Ext w I:=(t.alloc _).trans g;cases q:qU x x.B[k] false;have N:=uU (show ¬R4 x from λr=>by
    have:=(a1j (m:=false) (p:=False) (by simp)).2 (r.1 k u);rw[this]at q;simp at q)
   go_wp2;go_ret;exact⟨false,rfl,fNo N,x1⟩;have S:=uU (show ∀j (H:j<x.B.length),j<k+1->hE x x.B[j] False from λj H an=>by
    by_cases e:j=k;subst e;exact(a1j (m:=false) (p:=False) (by simp)).1 q;exact HA j H (by omega))
   go_wp2;go_roundw
   case rel=>exact⟨k+1,by omega,by go_num,S,x1⟩
   simp[intOf];omega
  have A1:=uU (show ∀j (H:j<x.B.length),hE x x.B[j] False from λj H=>uH HA j H (by omega));have c4:=(h.ext t).c4;go_wp21;go_loopw [30] (λi wr=>∃k:Nat,k<=x.A.length/\i=iv k/\(∀j,j<k->¬(uW x j/\cK (x.c j))/\∀l,l<(x.c j).F.length->a3f x j l ((x.c j).p l))/\Ext w wr) (λi _=>x.A.length-(intOf i).toNat)
  case atStart=>exact⟨0,kB _,rfl,λj h=>by omega,t⟩
  case round=>
   obtain⟨k,hk,rfl,s,t⟩:=hrel;have HA:=uU s;by_cases u:k<x.A.length
   ·obtain⟨b',o,ap,kp,rfl,C⟩:=(h.ext t).cell k u;obtain⟨p0,p1,p2,p3,p4,p5,p6,p7,lp,P⟩:=C;have HP:=uU P;have ah:=i0N k;have aa:(k:Int)<(x.A.length:Int):=by omega
    obtain⟨V,hV⟩:=obE (wr.alloc (oCl (x.c k) (.slice ap (x.c k).F.length kp)));have E:=uU (show Ext wr V by rw[hV];exact(hO wr).alloc _);have A:=uU (t.trans E);have v3:V.cell? (aA wr.heap.size 3)=some (iv (x.c k).U):=by rw[hV];simp[go_sem]
    have v7:V.cell? (aA wr.heap.size 7)=some (.slice ap (x.c k).F.length kp):=by rw[hV];simp[go_sem]
    have rs:=cLt v7;have F:=a9w x b k _ (h.ext A) (by omega) (by omega);rw[mC]at F;go_wp21;rw[<-hV];clear hV p0 p1 p2 p3 p4 p5 p6 p7;refine F.mono ?_;rintro e I ⟨rfl,U⟩;subst U;obtain⟨m,hm⟩:=obE (qE x k);have HM:=uU hm;rw[<-hm];clear hm F;go_upto_region 11 with fail;go_cut [48] from 38 to 47 (λv W=>∃u:Bool,v=.bool u/\Hid (u=true↔uW x k/\cK (x.c k))/\I=W)
    case first=>cases m <;> cases U:((x.c k).U == 1) <;> cases T:((x.c k).U == 2) <;> (go_wp21;go_meet;exact⟨_,rfl,by show _↔_;rw[<-a3c,<-uH HM];simp at U T;simp[cK,U,T],rfl⟩)
    case rest=>
    obtain⟨j,rfl,X,rfl⟩:=hcut;cases j;rotate_left;have N:=uU (show ¬R4 x from λr=>(r.2 k u).1 (X.1 rfl));go_wp2;go_ret;first|exact .inl ⟨rfl,N,A⟩|exact⟨false,rfl,fNo N,A⟩
    go_wp21;go_loopw [52] (λi G=>∃l:Nat,l<=(x.c k).F.length/\i=iv l/\Hid (∀j,j<l->a3f x k j ((x.c k).p j))/\Ext I G) (λi _=>(x.c k).F.length-(intOf i).toNat)
    case atStart=>exact⟨0,kB _,rfl,λj h=>by omega,hO _⟩
    case round=>
    obtain⟨l,hl,rfl,W,d⟩:=hrel;by_cases v:l<(x.c k).F.length;rotate_left
    ·have S:=uU (show ∀j,j<k+1->¬(uW x j/\cK (x.c j))/\∀l,l<(x.c j).F.length->a3f x j l ((x.c j).p l) from λj H=>by
      by_cases e:j=k;subst e;exact⟨λF=>(by cases X.2 F),λl' ae=>uH W l' (by omega)⟩;exact HA j (by omega))
     go_wp2;go_roundw
     case rel=>exact⟨k+1,by omega,by go_num,S,A.trans d⟩
     simp[intOf];omega
    obtain⟨b2,o2,rfl,q0,q1,q2,q3,q4,q5⟩:=uH HP l v;have z:=E.trans d;have e0:=z.keep q0;have e1:=z.keep q1;have e2:=z.keep q2;have e3:=z.keep q3;have e4:=z.keep q4;have e5:=z.keep q5;have ad:=i0N l;have ai:(l:Int)<((x.c k).F.length:Int):=by omega
    obtain⟨P,hP⟩:=obE (wr.alloc (oPr ((x.c k).p l)));have Q:=uU (show Ext wr P by rw[hP];exact(hO wr).alloc _);have G:=uU (h.ext ((A.trans d).trans Q));have y:=G.c4;have g0:P.cell? (aA wr.heap.size 0)=some (iv ((x.c k).p l).key.k)/\P.cell? (aA wr.heap.size 1)=some (iv ((x.c k).p l).key.n)/\P.cell? (aA wr.heap.size 2)=some (iv ((x.c k).p l).key.a)/\P.cell? (aA wr.heap.size 3)=some (iv ((x.c k).p l).val.k)/\P.cell? (aA wr.heap.size 4)=some (iv ((x.c k).p l).val.n)/\P.cell? (aA wr.heap.size 5)=some (iv ((x.c k).p l).val.a):=by rw[hP];simp[go_sem]
    have Y:=uU (show b2w x k l ((x.c k).p l)=true->Hid (∀j,j<l+1->a3f x k j ((x.c k).p j)) from λc j H=>by
     by_cases e:j=l;subst e;exact b7q.1 c;exact W j (by omega))
    have N:=uU (show b2w x k l ((x.c k).p l)=false->¬R4 x from λc r=>by rw[b7q.2 ((r.2 k u).2 l v)]at c;cases c)
    cases m
    ·have PB:=uU (show b2w x k l ((x.c k).p l)=(qU x ((x.c k).p l).key (!dK x k l) && qU x ((x.c k).p l).val (!dK x k l)) by unfold b2w;rw[<-uH HM];rfl);go_wp21;rw[<-hP];clear hP;refine(b9c x b k l _ G).mono ?_;rintro e w2 ⟨rfl,U⟩;subst U;obtain⟨g0,g1,g2,g3,g4,g5⟩:=g0;go_wp21;refine(a6n x b ((x.c k).p l).key (!dK x k l) _ G).mono ?_;rintro e w3 ⟨rfl,T⟩;have g3:=T.keep g3;have g4:=T.keep g4;have g5:=T.keep g5;have J:=uU (Q.trans T);cases O:qU x ((x.c k).p l).key (!dK x k l)
     ·have N:=uU (N (by rw[uH PB,O];rfl));go_wp2;go_ret;exact⟨false,rfl,fNo N,(A.trans d).trans J⟩
     go_wp21;refine(a6n x b ((x.c k).p l).val (!dK x k l) _ (G.ext T)).mono ?_;rintro e w4 ⟨rfl,T⟩;cases K:qU x ((x.c k).p l).val (!dK x k l);have N:=uU (N (by rw[uH PB,O,K];rfl));go_wp2;go_ret;exact⟨false,rfl,fNo N,(A.trans d).trans (J.trans T)⟩;have S:=uU (Y (by rw[uH PB,O,K];rfl));go_wp2;go_roundw
     case rel=>exact⟨l+1,by omega,by go_num,S,d.trans (J.trans T)⟩
     simp[intOf];omega
    have PB:=uU (show b2w x k l ((x.c k).p l)=(dQ ((x.c k).p l).key x.A.length && dQ ((x.c k).p l).val x.A.length) by unfold b2w;rw[<-uH HM];rfl);have F0:∀w',Up P w'->w'.cell? (aA wr.heap.size 0)=some (iv ((x.c k).p l).key.k)/\w'.cell? (aA wr.heap.size 1)=some (iv ((x.c k).p l).key.n)/\w'.cell? (aA wr.heap.size 2)=some (iv ((x.c k).p l).key.a)/\w'.cell? (aA wr.heap.size 3)=some (iv ((x.c k).p l).val.k)/\w'.cell? (aA wr.heap.size 4)=some (iv ((x.c k).p l).val.n)/\w'.cell? (aA wr.heap.size 5)=some (iv ((x.c k).p l).val.a)/\w'.cell? (aA b 4)=some (sO b' o x.A.length kc):=λw' D=>⟨D.ext.keep g0.1,D.ext.keep g0.2.1,D.ext.keep g0.2.2.1,D.ext.keep g0.2.2.2.1,D.ext.keep g0.2.2.2.2.1,D.ext.keep g0.2.2.2.2.2,D.ext.keep y⟩
    clear g0;go_wp21;rw[<-hP];clear hP;cases O:dQ ((x.c k).p l).key x.A.length <;> cases K:dQ ((x.c k).p l).val x.A.length
    all_goals
     refine wp_region_quiet (C:=Up P) (by kernel_rfl) (by kernel_rfl) (show Ext _ _ from(eDr _)) ?_;go_simp;iterate 20 (first|go_big_quiet_skip|(go_big_quiet_want;go_big_quiet_op;first|go_big_quiet_on|(apply Exists.intro;refine⟨λw' D=>?_,?_⟩;(first|(go_at_call_of 70 (((x.c k).p l).key.k);exact a8c (a5j ((x.c k).p l).key x.A.length _) D)|(go_at_call_of 70 (((x.c k).p l).val.k);exact a8c (a5j ((x.c k).p l).val x.A.length _) D)|(with_reducible rfl)|(go_simp;first|done|(with_reducible rfl)|(refine⟨?_,?_⟩ <;> with_reducible rfl)));go_big_quiet_on)))
     refine wpQuiet_nil ?_;intro I g;have g:=Q.trans g.ext
    rotate_left 3
    ·have S:=uU (Y (by rw[uH PB,O,K];rfl));go_wp2;go_roundw
     case rel=>exact⟨l+1,by omega,by go_num,S,d.trans g⟩
     simp[intOf];omega
    all_goals
     have N:=uU (N (by rw[uH PB,O,K];rfl));go_wp2;go_ret;exact⟨false,rfl,fNo N,(A.trans d).trans g⟩
   have Y:=uU (show R4 x from⟨A1,λi hi=>uH HA i (by omega)⟩);go_wp2;go_ret;exact⟨true,rfl,⟨λ_=>uH Y,λ_=>rfl⟩,t⟩
def zE(c:Cl):Bool:=(c.st == 1) && (c.J == 0)
def a0p(c:Cl):Bool:=(c.U == 1) || (c.U == 2)
theorem a3d{c:Cl}:a0p c=true↔cK c:=by simp[a0p,cK]
theorem b1p(c:Cl)(a q bc r:Nat)(b:Option Addr)(d:Nat)(w:World)(i:w.cell? (aA a (q+1))=some (pQ bc r))(h:CAt w bc r c b d):
  Calls prog 137 #[pQ a q] w λe w'=>e=.returned (.bool (zE c))/\w'=w:=by
 have g:=h.p0;have f:=h.p5;cases t:(c.st == 1);all_goals
  go_in;go_wp2;go_ret;exact⟨by simp[zE,t],rfl⟩
theorem a9a(c:Cl)(a q bc r:Nat)(b:Option Addr)(d:Nat)(w:World)(g:w.cell? (aA a (q+1))=some (pQ bc r))(h:CAt w bc r c b d):
  Calls prog 136 #[pQ a q] w λe w'=>e=.returned (.bool (a0p c))/\w'=w:=by
 have f:=h.p3;cases t:(c.U == 1);all_goals
  go_in;go_wp2;go_ret;exact⟨by simp[a0p,t],rfl⟩
def a1k(x:Hp):Bool:=(x.E == 1) || (x.E == 2)
theorem b2x(x:Hp)(b:Nat)(w:World)(a:w.cell? (aA b 5)=some (iv x.E)):
  Calls prog 132 #[pP b] w λe w'=>e=.returned (.bool (a1k x))/\w'=w:=by
 cases t:(x.E == 1)
 all_goals
  go_in;go_wp2;go_ret;exact⟨by simp[a1k,t],rfl⟩
theorem d1s(c:Cl)(a q bc r:Nat)(b:Option Addr)(d:Nat)(s:Bool)(g:zE c=s)(w:World)(f:w.cell? (aA a (q+1))=some (pQ bc r))(h:CAt w bc r c b d):
  Calls prog 137 #[pQ a q] w λe w'=>e=.returned (.bool s)/\w'=w:=by grind[Hp.c,zE,HAt.cell,b1p]
theorem b4j(x:Hp)(b i:Nat)(w:World)(h:VAt w b x ar kr ac kc ag kg an kn)(k:i<x.A.length)(d f:Nat)(D:an=some (aA d f)):
  Calls prog 128 #[pP b,pQ d (f+i*2)] w λe w'=>e=.returned (.bool (qE x i))/\Ext w w':=by
 obtain⟨B,p,l,r,g,rfl,F,o⟩:=h.N i k;rw[D]at g;cases g;have⟨u,A,m,t,v,C⟩:=h.H.cell i k;cases v;have E:=h.H.c5;have G:=h.H.c6;cases z:(x.E == 3)
 ·go_in;go_wp21;go_quiet (fail);go_wp2;go_ret;exact⟨by simp[qE,z],(hO w).drewN _⟩
 cases a:zE (x.c i)
 all_goals
  go_in;go_wp21;go_quiet ((go_at_call 137;exact Calls.quiet_of_same ((λn s (y:zE (x.c i)=s)=>d1s (x.c i) d (f+i*2) l (r+i*8) m t s y (w.drewN n) (((hO w).drewN n).keep o) (C.ext ((hO w).drewN n))) _ _ a)));go_wp2;go_ret
 exact⟨by unfold zE at a;unfold qE;cases q:((x.c i).st == 1) <;> simp_all,(hO w).drewN _⟩;exact⟨by unfold zE at a;unfold qE;simp_all,(hO w).drewN _⟩
structure HNt(w:World)(b:Nat)(x:Hp)(ar:Option Addr)(kr:Nat)(ac:Nat->Option Addr):Prop where
 c3:w.cell? ⟨b,3,none⟩=some (.slice ar x.B.length kr)
 lr:x.B.length<=35184372088832
 R:∀i (hi:i<x.B.length),∃b' o,ar=some ⟨b',o,none⟩/\yL w b' (o+i*3) x.B[i]
 C:∀i,i<x.A.length->∃b' o,ac i=some ⟨b',o,none⟩/\c0k w b' o (x.c i)
theorem HNt.ext{ac:Nat->Option Addr}(h:HNt w b x ar kr ac)(e:Ext w w'):HNt w' b x ar kr ac:=
 ⟨e.keep h.c3,h.lr,λi c=>let ⟨b',o,a,p⟩:=h.R i c;⟨b',o,a,p.ext e⟩,λi c=>let ⟨b',o,a,p⟩:=h.C i c;⟨b',o,a,p.ext e⟩⟩
theorem HNt.cell{ac:Nat->Option Addr}(h:HNt w b x ar kr ac)(i:Nat)(v:i<x.A.length):
  ∃b' o ap kp,ac i=some (aA b' o)/\CAt w b' o (x.c i) ap kp:=by
 obtain⟨b',o,e,y,u,d,g,p,r,f,m,t,ap,kp,rfl,j,P⟩:=h.C i v;exact⟨b',o,ap,kp,e,u,d,g,p,r,f,m,t,j,λk a=>by have⟨n,l,s,q⟩:=P k a;rw[Cl.p_eq _ _ a]at q;exact⟨n,l,s,q⟩⟩
structure VNt(w:World)(b:Nat)(x:Hp)(ar:Option Addr)(kr:Nat)(ac:Nat->Option Addr)(an:Option Addr)(kn:Nat):Prop where
 H:HNt w b x ar kr ac
 n13:w.cell? ⟨b,13,none⟩=some (.slice an x.A.length kn)
 N:∀i,i<x.A.length->∃bn on bc oc,an=some ⟨bn,on,none⟩/\ac i=some ⟨bc,oc,none⟩/\w.cell? ⟨bn,on+i*2,none⟩=some (iv i)/\w.cell? ⟨bn,on+i*2+1,none⟩=some (.pointer (some ⟨bc,oc,none⟩))
theorem VNt.ext{ac:Nat->Option Addr}(h:VNt w b x ar kr ac an kn)(e:Ext w w'):VNt w' b x ar kr ac an kn:=
 ⟨h.H.ext e,e.keep h.n13,λi c=>let ⟨bn,on,bc,oc,a,a',p,q⟩:=h.N i c;⟨bn,on,bc,oc,a,a',e.keep p,e.keep q⟩⟩
structure c2h(w:World)(b:Nat)(x:Hp)(ac:Nat->Option Addr)(an:Option Addr)(kn:Nat):Prop where
 n13:w.cell? ⟨b,13,none⟩=some (.slice an x.A.length kn)
 N:∀i,i<x.A.length->∃bn on bc oc,an=some ⟨bn,on,none⟩/\ac i=some ⟨bc,oc,none⟩/\w.cell? ⟨bn,on+i*2+1,none⟩=some (.pointer (some ⟨bc,oc,none⟩))/\w.cell? ⟨bc,oc,none⟩=some (iv (x.c i).st)/\w.cell? ⟨bc,oc+6,none⟩=some (iv (x.c i).to)
theorem c2h.ext{ac:Nat->Option Addr}(h:c2h w b x ac an kn)(e:Ext w w'):c2h w' b x ac an kn:=
 ⟨e.keep h.n13,λi hi=>let ⟨bn,on,bc,oc,a,a',p,q,r⟩:=h.N i hi;⟨bn,on,bc,oc,a,a',e.keep p,e.keep q,e.keep r⟩⟩
theorem VNt.f{ac:Nat->Option Addr}(h:VNt w b x ar kr ac an kn):c2h w b x ac an kn:=
 ⟨h.n13,λi c=>by
  have⟨g,l,k,j,a,d,p,q⟩:=h.N i c;have⟨r,n,o,m,e,C⟩:=h.H.cell i c;rw[d]at e;cases e;exact⟨g,l,k,j,a,d,q,C.p0,C.p6⟩⟩
end Go.Proofs.YtolmnenlnpbcfaaGreatDoor
