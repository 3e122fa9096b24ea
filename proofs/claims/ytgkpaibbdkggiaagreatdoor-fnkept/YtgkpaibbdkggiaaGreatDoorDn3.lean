import Derived.Test.YtgkpaibbdkggiaaGreatDoorDmn
import Derived.Test.YtgkpaibbdkggiaaGreatDoorSp1
import Derived.Test.YtgkpaibbdkggiaaGreatDoorWb
import Derived.LoopIn
import Derived.LoopNIn
import Derived.OwnWalkIn
import Derived.RangeFuncBound
import Derived.RangeFuncNested
import Derived.Shelf.RegionOpen
import Derived.Shelf.SlSortCmp.NoneTotal
set_option maxRecDepth 100000
set_option maxHeartbeats 6000000
namespace Go.Proofs.YtgkpaibbdkggiaaGreatDoor
open Go.RowKit Go.Proofs.Tryz
attribute [local go_sem ↓] Go.wp_at_zero Go.wp_at_succ
attribute [local go_sem] Oper.semAt_some
variable{x:Hp}{ar:Option Addr}{kr kn i:Nat}{ac:Nat->Option Addr}{Mt Mt' St St':List Nat}
theorem b7m[p:qr](B g:Nat)(x:Hp)(op:Int)(a b c:Nat)(n:Int)(w:World)(h:GOk B w g x)(s:Snd x)(ha:a<16)(O:(x.r a).k≠2)(v:World)(N:Ext v w):
  Calls prog 70 #[pP g,yU op a b c n] w λe w'=>e=.returned (tD 2 0)/\Hid (GOk B w' g x)/\Ext v w':=by
 obtain⟨p1,G,m⟩:=GOk.enter h (w0:=doW w op a b c n) ((eAl w _).alloc _);obtain⟨j,f⟩:∃W,W=doW w op a b c n:=⟨_,rfl⟩;have H:=yE.new w op a b c n;have y:Ext v (doW w op a b c n):=(N.alloc _).alloc _;rw[<-f]at m H y;obtain⟨br,kr,C⟩:=m.B s.r1.B;have L:=C.c3;obtain⟨M,P,U⟩:=C.r a ha;have Z:=cLt L;have T:=cLt M;have E:=uU G;have S:=uU m;have V0:=uU (show v.heap.size<=w.heap.size+1 by have:=N.size;omega);have Y:=uU y;obtain⟨l,u,D,t,A,q,o,F⟩:=H;have Q:=cLt l;have j0:=i0N a;have j1:(a:Int)<16:=by omega
 have X:((x.r a).k != 2)=true:=by simpa using O
 clear O s;clear h C G m y;go_in;go_wp21;unfold doW at f;rw[<-f];clear f;go_region;obtain⟨I,d⟩:∃W,W=(j.alloc (oWd (x.r a))).drew:=⟨_,rfl⟩;rw[<-d];have i:Ext j I:=by rw[d];exact(eAl _ _).drew
 have R:yD I j.heap.size 0 (x.r a):=by rw[d];refine⟨?_,?_,?_⟩<;>simp[go_sem]
 obtain⟨y0,y1,y2⟩:=R;have J:=uU (S.ext i);have X2:=uU (Y.trans i);clear d i L M P U l u D t A q o F;obtain⟨l,u,D,t,A,q,o,F⟩:=J.boxes E;go_wp21;refine(a0r 2 _).mono ?_;rintro e w3 ⟨rfl,z⟩;have K:=uU (J.ext z);have V:=uU (X2.trans z);clear z;obtain⟨u0,u1,u2,u3,u4,u5,u6,u7⟩:=K.boxes E;clear l u D t A q o F y0 y1 y2;go_wp21;refine bodyPost_ret (v:=tD 2 0) (by simp[results,results70,go_sem,u5,u6]) rfl ?_;exact⟨rfl,GOk.done E K 2 0,eJ V V0 2 0⟩
theorem GCel.ext[qr]{B:Nat}{w w':World}{g:Nat}{bc kc:Nat}{ap:Option Addr}{kp:Nat}(h:GCel B w g x i bc kc ap kp)(e:Ext w w'):GCel B w' g x i bc kc ap kp:=
 ⟨e.keep h.c4,⟨e.keep h.s.1,e.keep h.s.2.1,e.keep h.s.2.2.1,e.keep h.s.2.2.2.1,e.keep h.s.2.2.2.2.1,e.keep h.s.2.2.2.2.2.1,e.keep h.s.2.2.2.2.2.2⟩,e.keep h.p7,λj=>((cE e).2 bc j h.lo.2).trans (h.f j),⟨h.lo.1,kF h.lo.2 e.size⟩,λW u a=>h.set2 W u (e.trans a),λW u a=>h.set3 W u (e.trans a)⟩
theorem c8g[p:qr](B g:Nat)(x:Hp)(k:Nat)(op:Int)(a b c:Nat)(n:Int)(w:World)(ho:(k=10/\op=10)\/(k=11/\op=11)\/(k=12/\op=12)\/(k=16/\op=16)\/(k=17/\op=17))(h:GOk B w g x)(s:Snd x)(ha:a<16)(hk:(x.r a).k=2)(v:World)(hv:v.heap.size<=B)(hx:Ext v w):
  Calls prog 70 #[pP g,yU op a b c n] w λe w'=>a1a B g x a b c n k v e w':=by
 obtain⟨p1,o1,g1⟩:=GOk.enter h (w0:=doW w op a b c n) ((eAl w _).alloc _);obtain⟨A,L⟩:∃W,W=doW w op a b c n:=⟨_,rfl⟩;have bx:=yE.new w op a b c n;have x1:Ext v (doW w op a b c n):=(hx.alloc _).alloc _;rw[<-L]at g1 bx x1;obtain⟨br,kr,hr⟩:=g1.B s.r1.B;have c3:=hr.c3;obtain⟨r0,r1,r2⟩:=hr.r a ha;have ag:=cLt c3;have ai:=cLt r0;have y:=uU o1;have G1:=uU g1;have V0:=uU (show v.heap.size<=w.heap.size+1 by have:=hx.size;omega);have X1:=uU x1;obtain⟨I,U,Y,T,R,M,Q,X⟩:=bx;have ah:=cLt I;have j0:=i0N a;have j1:(a:Int)<16:=by omega
 have D:=uU hk;have ak:((x.r a).k != 2)=false:=by simpa using hk
 obtain⟨en,ea,V,st,nd⟩:=s.at a ha hk;obtain⟨i,hI⟩:=obE (x.at a);have HI:=uU hI;rw[<-hI]at ea V st nd;have EA:=uU ea;have S:=uU s;have i0:=i0N i;have i1:(i:Int)<(x.A.length:Int):=by omega
 clear hk ea hI s en;clear nd;clear h hr o1 g1 x1;obtain⟨rfl,rfl⟩|⟨rfl,rfl⟩|⟨rfl,rfl⟩|⟨rfl,rfl⟩|⟨rfl,rfl⟩:=ho;all_goals
  go_in;go_wp21;unfold doW at L;rw[<-L];clear L;go_region;obtain⟨d,N⟩:∃W,W=(A.alloc (oWd (x.r a))).drew:=⟨_,rfl⟩;rw[<-N];have K:Ext A d:=by rw[N];exact(eAl _ _).drew
  have ad:=uU K;have WB:yD d A.heap.size 0 (x.r a):=by rw[N];refine⟨?_,?_,?_⟩<;>simp[go_sem]
  obtain⟨y0,y1,y2⟩:=WB;have Z:=uU (G1.ext K);have X2:=uU (X1.trans K);have ac:=cLt y0;clear N K c3 r0 r1 r2 I U Y T R M Q X;obtain⟨I,U,Y,T,R,M,Q,X⟩:=Z.boxes y;have ae:=cLt I;have ab:w.heap.size+1<d.heap.size:=uQ M;rw[uH EA]at y2
 focus
  go_wp21;refine(c8f B g x i c d Z S V st v hv X2).mono ?_;rintro e w6 ⟨rfl,E,x6⟩;have P:=uU x6;clear x6
 rotate_left
 focus
  obtain⟨m,kc,ap,kp,j⟩:=Z.cel i V;have P:=j.c4;obtain⟨q0,q1,q2,O,q4,q5,q6⟩:=j.s;have fc:=j.f;have F:=cLt P;have G:=cLt O;obtain⟨W3,t⟩:=obE (d.setCell (aA m (i*8+2)) (iv c)).drew;have E:=uU (show GOk B W3 g (hD x i (b5c (x.c i) c)) by rw[t];exact(j.set2 d c (hO _)).ext (eDr _));have H:=uU (show Ext v W3 by rw[t];exact(X2.sc m (i*8+2) (kA hv j.lo.1) _).drew);clear j;go_wp21;go_region;rw[<-t];clear t P q0 q1 q2 O q4 q5 q6 fc F G;have P:=H
 rotate_left
 focus
  obtain⟨m,kc,ap,kp,aa⟩:=G1.cel i V;have aj:m<A.heap.size:=aa.lo.2;have j:=aa.ext ad;have P:=j.c4;obtain⟨q0,q1,q2,O,q4,q5,q6⟩:=j.s;have fc:=j.f;have F:=cLt P;have G:=cLt O;obtain⟨W3,t⟩:=obE (d.setCell (aA m (i*8+3)) (iv c)).drew;have E:=uU (show GOk B W3 g (hD x i (qE (x.c i) c)) by rw[t];exact(j.set3 d c (hO _)).ext (eDr _));have H:=uU (show Ext v W3 by rw[t];exact(X2.sc m (i*8+3) (kA hv j.lo.1) _).drew);have YY:=uU (show yD W3 A.heap.size 0 ⟨(x.r a).k,(x.r a).n,i⟩ from by
   have k:=λo=>(show W3.cell? (aA A.heap.size o)=d.cell? (aA A.heap.size o) by rw[t];exact(cOb A.heap.size o rfl).trans (uC _ (.inl (by omega))))
   exact⟨(k 0).trans y0,(k 1).trans y1,(k 2).trans y2⟩)
  clear j aa;go_wp21;go_region;rw[<-t];clear t P q0 q1 q2 O q4 q5 q6 fc F G I U Y T R M Q X y0 y1 y2 ae ab ac;obtain⟨I,U,Y,T,R,M,Q,X⟩:=E.boxes y;obtain⟨y0,y1,y2⟩:=uH YY;have C:=cLt I;have af:=cLt y0;have P:=H;cases qc:((c:Int) == 1);rotate_left;focus
   have QC:=uU (show c=1 by simp at qc;omega);obtain⟨z,hz⟩:=obE (hD x i (qE (x.c i) c));rw[<-hz]at E;have HZ:=uU hz;have ZL:=uU (show z.A.length=x.A.length/\z.D=x.D/\(z.c i).st=1 from by
    rw[hz];refine⟨by simp[hD],rfl,?_⟩;show(({ x with A:=x.A.set i _ }:Hp).c i).st=_;rw[Hp.c_set x i _ V i,if_pos rfl];exact st)
   have QS:=uU (show Calls prog 128 #[pP g,.agg #[iv (x.r a).k,iv (x.r a).n,iv i]] W3 λe w'=>∃r:Bool,e=.returned (.bool r)/\Hid (GOk B w' g (uK z i))/\Hid (Ext v w') from by
    refine(b4r B g z ⟨(x.r a).k,(x.r a).n,i⟩ W3 E (by rw[ZL.1];exact S.ok.n8) (by rw[ZL.2.1];have:=S.r1.D;have:=S.ok.n8;omega) (λ_=>⟨by rw[ZL.1];exact V,ZL.2.2⟩) (λ_=>by show(0:Int)<=(i:Int);omega) v hv H (by have:=E.box.2.2.2.2;omega)).mono ?_;rintro e w' ⟨h1,h2,h3⟩;refine⟨_,h1,?_,h3⟩;have e2:uX z ⟨(x.r a).k,(x.r a).n,i⟩=uK z i:=by unfold uX;rw[if_pos (by simpa using uH D)];rfl
    rw[e2]at h2;exact h2)
   clear hz;go_wp21;clear E P;refine QS.mono ?_;rintro e w6 ⟨r,rfl,E,P⟩;clear QS
 rotate_left 2
 iterate 2
  ·obtain⟨m,kc,ap,kp,j⟩:=Z.cel i V;have P:=j.c4;have p7:=j.p7;obtain⟨q0,q1,q2,O,q4,q5,q6⟩:=j.s;have fc:=j.f;have F:=cLt P;have G:=cLt O;clear j st;go_wp21;go_region_with (go_at_call 71;refine(a0j _ _).mono ?_;rintro e J ⟨rfl,l⟩;have u:=kI (eDr d) l;have q:=uU (Z.ext u);have H:=uU (X2.trans u);obtain⟨u0,u1,u2,u3,u4,u5,u6,u7⟩:=q.boxes y;have C:=cLt u5;clear l u);all_goals
    go_wp21;refine bodyPost_ret ?_ rfl (a7g y q H V0 (.inr ⟨D,by rw[<-uH HI];exact⟨rfl,rfl,rfl⟩⟩));simp[results,results70,go_sem,u5,u6]
 all_goals
  go_wp21;clear I U Y T R M Q X y0 y1 y2;refine(a0j 0 _).mono ?_;rintro e J ⟨rfl,l⟩;have q:=uU (E.ext l);have H:=uU (P.trans l);obtain⟨u0,u1,u2,u3,u4,u5,u6,u7⟩:=q.boxes y;have C:=cLt u5;clear l;go_wp21;refine bodyPost_ret ?_ rfl (a7g y q H V0 (.inr ⟨D,?_⟩));simp[results,results70,go_sem,u5,u6];rw[<-uH HI]
 exact⟨rfl,rfl,rfl⟩;exact⟨rfl,rfl,rfl⟩;exact⟨by rw[if_pos (uH QC),uH HZ],rfl,rfl⟩;exact⟨by rw[if_neg (by simp at qc;omega)],rfl,rfl⟩
theorem Snd.scan(h:Snd x)(q:Nat)(b:uV x=(q:Int)):x.sub<=(x.c q).F.length:=by
 have f:=h.r6;unfold uV at b;split at b;rename_i e;have d:=(f.2.1 e.1).2.2 (by omega);have:x.g0=q:=by unfold Hp.g0;rw[b];rfl
 rw[this]at d;exact d;split at b
 ·rename_i e;have a:=f.2.2.1 e.1;have i:x.I.toNat=q:=by omega
  by_cases g:(x.c x.I.toNat).st=1;grind[Grw.at,Hp.at,uV,Hp.c];have:=a.1 (.inr g);omega
 omega
theorem b3m.self(h:Snd x)(i:Nat)(c:Cl)(hi:i<x.A.length)(s1:(x.c i).st=1)(e:c.st=(x.c i).st/\c.kind=(x.c i).kind/\c.born=(x.c i).born/\c.J=(x.c i).J/\c.to=(x.c i).to)(hp:c.F=(x.c i).F)(wk:c.T=(x.c i).T\/(0<=c.T/\c.T<=3))(la:c.U=(x.c i).U\/(0<=c.U/\c.U<=3))(sp:dH c->dH (x.c i)):b3m x (hD x i c) where
 hl:=b1x x i c
 rest:=a2i.refl _
 c:=λq=>by rw[a2v x i c hi q];split;(· rename_i t;rw[t];exact e);(· exact⟨rfl,rfl,rfl,rfl,rfl⟩)
 wk:=λq=>by rw[a2v x i c hi q];split;(· rename_i t;rw[t];exact wk.imp id (λu=>⟨s1,u⟩));(· exact .inl rfl)
 la:=λq=>by rw[a2v x i c hi q];split;(· rename_i t;rw[t];exact la.imp id (λu=>⟨s1,u⟩));(· exact .inl rfl)
 sp:=λq=>by rw[a2v x i c hi q];split;(· rename_i t;rw[t];exact sp);(· exact id)
 p:=λq hq k hk=>by grind[Cl.p,a2v,Hp.c,Grw.at,Hp.at,dH,hD]
 le:=λq hq=>by rw[a2v x i c hi q];split;(· rename_i t;rw[t,hp];exact hT _);(· exact hT _)
 us:=by
  have u:dZ (hD x i c).A=dZ x.A:=a3k x.A i c hi (by rw[Hp.c_eq x i hi];unfold cL;rw[e.1,hp]);rw[u];exact h.r3.1
 ul:=nB _
 s0:=⟨h.r1.sub.1,nB _⟩
 s1:=λq hq hs=>by
  have k:=h.scan q hs;rw[a2v x i c hi q];split;rename_i t;rw[hp,<-t];exact k;exact k
theorem Snd.weakT(h:Snd x)(i:Nat)(a:i<x.A.length)(b:(x.c i).st=1)(n:Int)(d:0<=n/\n<=3):Snd (hD x i (b5c (x.c i) n)):=
 h.thin (b3m.self h i _ a b ⟨rfl,rfl,rfl,rfl,rfl⟩ rfl (.inr d) (.inl rfl) id)
theorem Snd.lastT(h:Snd x)(i:Nat)(a:i<x.A.length)(b:(x.c i).st=1)(n:Int)(e:n=0\/n=3):Snd (hD x i (qE (x.c i) n)):=
 h.thin (b3m.self h i _ a b ⟨rfl,rfl,rfl,rfl,rfl⟩ rfl (.inl rfl) (.inr ⟨by show 0<=n;omega,by show n<=3;omega⟩) (λs=>by have d:n=1\/n=2:=s;omega))
theorem a5u(x:Hp)(i n:Nat)(a:i<x.A.length)(q:Nat):(qH x i n).c q=if q=i then zN (x.c i) n else x.c q:=Hp.c_set x i (zN (x.c i) n) a q
theorem d3d(c:Cl)(n k:Nat)(a:k<(zN c n).F.length):(zN c n).p k=c.p k/\k<n/\k<c.F.length:=by
 have e:(zN c n).F=c.F.take n:=rfl;rw[e,mw]at a;refine⟨?_,by omega,by omega⟩;unfold Cl.p;rw[e];simp[show k<n by omega]
theorem b3m.short(h:Snd x)(i n:Nat)(hi:i<x.A.length)(s1:(x.c i).st=1):b3m x (qH x i n) where
 hl:=by simp[qH]
 rest:=a2i.refl _
 c:=λq=>by rw[a5u x i n hi q];split;(· rename_i t;rw[t];exact⟨rfl,rfl,rfl,rfl,rfl⟩);(· exact⟨rfl,rfl,rfl,rfl,rfl⟩)
 wk:=λq=>by rw[a5u x i n hi q];split;(· rename_i t;rw[t];exact .inl rfl);(· exact .inl rfl)
 la:=λq=>by rw[a5u x i n hi q];split;(· rename_i t;rw[t];exact .inl rfl);(· exact .inl rfl)
 sp:=λq=>by rw[a5u x i n hi q];split;(· rename_i t;rw[t];exact id);(· exact id)
 p:=λq hq k hk=>by grind[Cl.p,a5u,Grw.at,Hp.at,Hp.c,d3d,uV,Add.sub,qH]
 le:=λq hq=>by
  rw[a5u x i n hi q];split;rename_i t;rw[t];show((x.c i).F.take n).length<=_;rw[mw];omega;exact hT _
 us:=by
  have u:=a1x x.A i (zN (x.c i) n) hi;rw[Hp.c_eq x i hi]at u;have e1:cL (x.c i)=1+(x.c i).F.length:=by unfold cL;rw[if_pos s1]
  have e2:cL (zN (x.c i) n)=1+min n (x.c i).F.length:=by grind[cL,zN,Hp.c,qH]
  have h3:=h.r3.1;show x.K-(((x.c i).F.length-n:Nat):Int)=(dZ (x.A.set i (zN (x.c i) n)):Nat);rw[e1,e2]at u;omega
 ul:=by show x.K-(((x.c i).F.length-n:Nat):Int)<=x.K;omega
 s0:=by
  have:=h.r1.sub;show 0<=(if uV x=(i:Int)/\(n:Int)<x.sub then (n:Int) else x.sub)/\(if uV x=(i:Int)/\(n:Int)<x.sub then (n:Int) else x.sub)<=x.sub;split <;> omega
 s1:=λq hq hs=>by
  have k:=h.scan q hs;show(if uV x=(i:Int)/\(n:Int)<x.sub then (n:Int) else x.sub)<=_;rw[a5u x i n hi q];by_cases t:q=i;grind[zN,Hp.c,Grw.at,Hp.at,qH];grind[Hp.c,qH]
theorem Snd.short(h:Snd x)(i n:Nat)(a:i<x.A.length)(b:(x.c i).st=1):Snd (qH x i n):=h.thin (b3m.short h i n a b)
theorem Snd.res(h:Snd x){u:Wd}{m:Prop}(k:hE x u m):hE x (zL x u) False:=by
 unfold zL;split;rename_i e;have g:u.a.toNat<x.A.length:=by obtain f|f|f:=k.1 <;> omega
 obtain⟨a,_⟩|⟨_,b⟩|⟨a,_⟩:=h.r2.1 _ g;have:=e.2;omega;have⟨n,l,i,o,j,_⟩:=b;exact⟨.inr (.inr ⟨rfl,rfl,i,show(x.c u.a.toNat).to<_ by omega⟩),λ_=>.inr ⟨j,λd=>by have:=d.1;omega⟩⟩;have:=e.2;omega;grind[hE,zL]
theorem Snd.half(h:Snd x)(i k:Nat)(a:i<x.A.length)(b:¬uW x i)(d:k<(x.c i).F.length):hE x (zL x ((x.c i).p k).key) False/\hE x (zL x ((x.c i).p k).val) False:=
 let q:=((h.r4.2 i a).2 k d).2 b
 ⟨h.res q.1,h.res q.2⟩
theorem DoR.sndA{a b c:Nat}{n:Int}{y:Hp}{cd nm:Int}{k:Nat}(s:Snd x)(q:a<16)(o:k≠1->k≠23->b<16)(D:k=23->b<=64/\c<=4000)(w:k=11->c<=3)(u:k=12->c<=1)(v:k≠1/\k≠9/\k≠18)(h:DoR x a b c n y cd nm k):Snd y:=by
 unfold DoR at h;split at h;exact absurd rfl v.1;rw[h.1];exact s.regTo a _ ⟨.inr (.inl ⟨rfl,rfl⟩),λe=>by cases e⟩;rw[h.1];exact s.regTo a _ ⟨.inl ⟨rfl,rfl,rfl⟩,λe=>by cases e⟩;rw[h.1];exact s.regTo a _ (s.reg b (o (by omega) (by omega)));have f:=o (by omega) (by omega);obtain h|h|h:=h
 ·rw[h.2.1];exact s
 rw[h.2.2.1];exact s;have⟨_,_,g,_,l⟩:=s.at b f h.1;rw[h.2.2.1];exact s.regTo a _ (s.half _ c g l h.2.1).1;have f:=o (by omega) (by omega);obtain h|h|h:=h
 ·rw[h.2.1];exact s
 rw[h.2.2.1];exact s;have⟨_,_,g,_,l⟩:=s.at b f h.1;rw[h.2.2.1];exact s.regTo a _ (s.half _ c g l h.2.1).2;have f:=o (by omega) (by omega);obtain h|h|h:=h
 ·rw[h.2.1];exact s
 rw[h.2.2.1];exact s;have⟨_,_,g,m,l⟩:=s.at a q h.1;rw[h.2.2.1];exact s.put _ c g m l h.2.1 _ (s.reg b f) ⟨x.r b,((x.c (x.at a)).p c).val⟩ (.inl ⟨rfl,rfl⟩);obtain h|h|h:=h
 ·rw[h.2.1];exact s
 rw[h.2.2.1];exact s;have⟨_,_,g,m,l⟩:=s.at a q h.1;rw[h.2.2.1];exact s.put _ c g m l h.2.1 _ (s.reg b (o (by omega) (by omega))) ⟨((x.c (x.at a)).p c).key,x.r b⟩ (.inr ⟨rfl,rfl⟩);exact absurd rfl v.2.1;obtain h|h:=h
 ·rw[h.2.1];exact s
 have⟨_,_,g,m,l⟩:=s.at a q h.1;rw[h.2.1];exact s.short _ c g m;obtain h|h:=h
 ·rw[h.2.1];exact s
 have⟨_,_,g,m,l⟩:=s.at a q h.1;have:=w rfl;rw[h.2.1];exact s.weakT _ g m c (by omega);obtain h|h:=h
 ·rw[h.2.1];exact s
 have⟨_,_,g,m,l⟩:=s.at a q h.1;have:=u rfl;rw[h.2.1];split
 ·grind[Snd.want,DoR,Hp.c]
 grind[Snd.lastT,Hp.c,DoR];rw[h.1];exact s;rw[h.1];exact s;rw[h.1];exact s;obtain h|h:=h
 ·rw[h.2.1];exact s
 rw[h.2.1];exact s;obtain h|h:=h
 ·rw[h.2.1];exact s
 rw[h.2.1];exact s;exact absurd rfl v.2.2;obtain h|⟨i,h⟩:=h.2
 ·rw[h.2.1];exact s.regTo a _ ⟨.inl ⟨rfl,rfl,rfl⟩,λe=>by cases e⟩
 have⟨t,A⟩:i<x.A.length/\(x.c i).U=2:=by
  obtain d|⟨j,e,E,F,_⟩:=h.1;have:=d.1;omega;grind[DoR,Hp.c]
 have z:=a0u s.r2 i t (.inr A);have B:¬uW x i:=λd=>(s.r4.2 i t).1 ⟨d,.inr A⟩
 rw[h.2.1];refine (s.lastT i t z 3 (.inr rfl)).regTo a _ ⟨.inr (.inr ⟨rfl,rfl,by show(0:Int)<=(i:Int);omega,by show(i:Int)<((hD x i (qE (x.c i) 3)).A.length:Nat);rw[b1x];omega⟩),λ_=>.inr ?_⟩;show((hD x i (qE (x.c i) 3)).c i).st=1/\¬uW (hD x i (qE (x.c i) 3)) i;unfold uW;rw[a2v x i _ t i,if_pos rfl];exact⟨z,B⟩;rw[h.1];exact s;rw[h.1];exact s;have⟨_,_,k,_,e⟩:=h;rw[e];exact(s.stepH _).itU k;grind[paceTo,Snd.paceTo,DoR,Hp.c];exact h.2.2.snd s;exact h.elim
def b9n(c:Cl)(f:Pr->Bool):Cl:={ c with F:=c.F.filter f }
def b9o(x:Hp)(i:Nat)(f:Pr->Bool)(g:Nat)(t:Int):Hp:={ x with A:=x.A.set i (b9n (x.c i) f),K:=x.K-g,sub:=t }
theorem a9j(x:Hp)(i:Nat)(f:Pr->Bool)(g:Nat)(t:Int)(a:i<x.A.length)(q:Nat):(b9o x i f g t).c q=if q=i then b9n (x.c i) f else x.c q:=Hp.c_set x i (b9n (x.c i) f) a q
theorem c6u(f:Pr->Bool)(l:List Pr)(n:Nat):((l.take n).filter f).length<=(l.filter f).length/\((l.take n).filter f).length<=n:=by
 constructor;have e:(l.filter f)=((l.take n).filter f)++((l.drop n).filter f):=by rw[<-mH,List.take_append_drop]
 rw[e,ko];omega;grind[VNt.f,Grw.at,Hp.at]
theorem b3m.flt(h:Snd x)(i:Nat)(hi:i<x.A.length)(f:Pr->Bool)(g:Nat)(t:Int)(hg:((x.c i).F.filter f).length+g=(x.c i).F.length)(ht:t=if uV x=(i:Int) then ((((x.c i).F.take x.sub.toNat).filter f).length:Int) else x.sub):b3m x (b9o x i f g t) where
 hl:=by simp[b9o]
 rest:=a2i.refl _
 c:=λq=>by rw[a9j x i f g t hi q];split;(· rename_i t;rw[t];exact⟨rfl,rfl,rfl,rfl,rfl⟩);(· exact⟨rfl,rfl,rfl,rfl,rfl⟩)
 wk:=λq=>by rw[a9j x i f g t hi q];split;(· rename_i t;rw[t];exact .inl rfl);(· exact .inl rfl)
 la:=λq=>by rw[a9j x i f g t hi q];split;(· rename_i t;rw[t];exact .inl rfl);(· exact .inl rfl)
 sp:=λq=>by rw[a9j x i f g t hi q];split;(· rename_i t;rw[t];exact id);(· exact id)
 p:=λq hq k hk=>by
  rw[a9j x i f g t hi q]at hk ⊢;by_cases e:q=i;rw[if_pos e]at hk ⊢;rw[e];have⟨j,h1,h2,h3⟩:=b2c f Pr0 (x.c i).F k hk;refine⟨j,h1,h2,λhs=>?_⟩;show(k:Int)<t↔_;rw[ht,if_pos hs];have:=h3 x.sub.toNat;have:=h.r1.sub;omega;grind[Grw.at,Hp.at,Hp.c,uV,b9o]
 le:=λq hq=>by
  rw[a9j x i f g t hi q];split;rename_i e;rw[e];exact List.length_filter_le _ _;exact hT _
 us:=by
  have u:=a1x x.A i (b9n (x.c i) f) hi;rw[Hp.c_eq x i hi]at u;have h3:=h.r3.1;show x.K-(g:Int)=(dZ (x.A.set i (b9n (x.c i) f)):Nat);by_cases s1:(x.c i).st=1;grind[cL,Hp.c,b9n,VNt.f,Grw.at,Hp.at,uV,b9o];have e1:cL (x.c i)=0:=by unfold cL;rw[if_neg s1]
  have e2:cL (b9n (x.c i) f)=0:=by grind[cL,b9n,Hp.c,VNt.f,uV,b9o]
  have e3:(x.c i).F.length=0:=by
   obtain z|z|z:=h.r2.1 i hi;exact z.2.1.2.2.2.2.2;exact z.2.1.2.2.2.2.2;exact absurd z.1 s1
  rw[e1,e2]at u;omega
 ul:=by show x.K-(g:Int)<=x.K;omega
 s0:=by
  have:=h.r1.sub;have:=(c6u f (x.c i).F x.sub.toNat).2;show 0<=t/\t<=x.sub;rw[ht];split <;> omega
 s1:=λq hq hs=>by
  have k:=h.scan q hs;show t<=_;rw[a9j x i f g t hi q,ht];by_cases e:q=i;rw[if_pos e,if_pos (e▸hs)];have:=(c6u f (x.c i).F x.sub.toNat).1;show _<=((((x.c i).F.filter f).length:Nat):Int);omega;grind[Hp.c,uV,b9o]
theorem a4o.meet(h:a4o x Mt)(b:cU x i)(a:(i∈Mt/\Mt'=Mt/\St'=St)\/(¬i∈Mt/\Mt'=Mt++[i]/\St'=St++[i])):a4o x Mt'/\(∀j,j∈Mt->j∈Mt')/\i∈Mt'/\((∀i,i∈Mt->i∈St)->(∀i,i∈Mt'->i∈St')):=by grind[a4o,cU,a7s.at]
def Cur(x:Hp)(n:Nat)(t:Value)(bn on gk:Nat)(Mt St:List Nat):Prop:=(t=.pointer none/\St=[]/\a8g x Mt [] none)\/∃j,t=ptr bn (on+j*2)/\j∈Mt/\a8g x Mt St (some j)/\2*(n-Mt.length)+St.length+1<=gk
theorem c2v(x:Hp)(b:Nat)(w:World)(y z:Nat)(h:VNt w b x ar kr ac (some (aA y z)) kn)(r2:R2 x)(r4:R4 x)(K:x.A.length<=8000)(an:∀i,i<x.A.length->(x.c i).F.length<=200)
  (az:∀w1,VNt w1 b x ar kr ac (some (aA y z)) kn->Calls prog 138 #[pP b] w1 λe w'=>∃(g:Option Addr)(cap:Nat)(D:List Nat),Hid (e=.returned (.slice g D.length cap))/\Hid (a7s x w1 w' g y z D)/\Ext w1 w') :
  Calls prog 226 #[pP b] w λe w'=>e=.returned (Value.map (some w.heap.size))/\∃Mt:List Nat,tV w' w.heap.size y (Mt.map (λi=>z+i*2))/\w.heap.size<w'.heap.size/\Hid (∀i,i∈Mt↔cU x i)/\Ext w w':=by
 have HV:=uU h;have Q2:=uU r2;have Q4:=uU r4;go_in;go_wp21;refine(d3x x b _ y z HV Q2 Q4 K).mono ?_;rintro e w1 ⟨rfl,v1,M1,S1,aq,i1,x1⟩;have W1:=uU aq;go_wp21;refine(az _ (HV.ext x1)).mono ?_;rintro e w2 ⟨g,cap,D,rfl,O,aj⟩;have x2:=x1.trans aj;have A0:=kG (W1.ext aj) (O.at W1);have bd:D.length<=8000:=O.2.1;have LI:=uU O.2.2;go_wp21;go_loopw [14] (λi wr=>∃(k:Nat)(v:Value)(Mt B:List Nat),k<=D.length/\i=iv k/\eV wr w.heap.size (w.heap.size+2) b w.heap.size y z x.A.length v Mt B/\Hid (a4o x Mt/\a6c x x.B.length Mt/\(∀i,i∈Mt->i∈B)/\∀j (h:j<D.length),j<k->D[j]∈Mt)/\Hid (c2j wr g (w.heap.size+2) w.heap.size v y z D)/\Ext w wr) (λi _=>D.length-(intOf i).toNat)
 case atStart=>exact⟨0,v1,M1,S1,kB _,rfl,A0.1,⟨i1.1,i1.2.1,i1.2.2,λj _ S=>by omega⟩,A0.2,x2⟩
 case round=>
  obtain⟨k,v,Mt,B,hk,rfl,Y,d,ai,r⟩:=hrel;have E:=uU Y;by_cases af:k<D.length
  ·have⟨gb,go,hg,gc,g1,g2,g3⟩:=uH ai k af;subst hg;have bk:=i0N k;have bf:(k:Int)<(D.length:Int):=by omega
   have HI:=(LI D[k]).1 (k7 af);go_wp21;refine(b0m w.heap.size (w.heap.size+2) b w.heap.size y z x.A.length D[k] v Mt B _ E HI.1 r.size K).mono ?_;rintro e Q ⟨rfl,v',M',S',A,ha,J⟩;have R:eV Q w.heap.size (w.heap.size+2) b w.heap.size y z x.A.length v' M' S'/\(a4o x M'/\a6c x x.B.length M'/\(∀i,i∈M'->i∈S')/\∀j (h:j<D.length),j<k+1->D[j]∈M')/\c2j Q (some (aA gb go)) (w.heap.size+2) w.heap.size v' y z D/\Ext w Q:=by
    have hq:=d.1.meet (cU.U D[k] HI.1 (a0u Q2 _ HI.1 HI.2) HI.2) ha;refine⟨A,⟨hq.1,λj S ag e=>hq.2.1 _ (d.2.1 j S ag e),hq.2.2.2 d.2.2.1,λj S ag=>?_⟩,ai.step J,E.kext J r⟩;by_cases q:j=k;subst q;exact hq.2.2.1;exact hq.2.1 _ (d.2.2.2 j S (by omega))
   go_wp2;go_roundw
   case rel=>exact⟨k+1,v',M',S',by omega,by go_num,R.1,R.2.1,R.2.2.1,R.2.2.2⟩
   simp[intOf];omega
  have bj:k=D.length:=by omega
  have I0:a8g x Mt B none:=⟨d.1,d.2.1,λi hi hs=>by
   have⟨j,S,e⟩:=mQ ((LI i).2 ⟨hi,hs⟩);have:=d.2.2.2 j S (by omega);rw[e]at this;exact this,λi hi=>.inl (d.2.2.1 i hi)⟩
  go_wp21;refine(b0n w.heap.size (w.heap.size+2) b w.heap.size y z x.A.length v Mt B _ E K).mono ?_;rintro e Q ⟨t,v3,T,rfl,A,ht,J⟩;have bb:=E.len;have R:=uU (show eV Q w.heap.size (w.heap.size+2) b w.heap.size y z x.A.length v3 Mt T/\Cur x x.A.length t y z (3*x.A.length+1) Mt T/\Ext w Q from by
   refine⟨A,?_,E.kext J r⟩;obtain⟨e,L,e2⟩|⟨j,e,L⟩:=uH ht;have:=uH I0;rw[L]at this;exact .inl ⟨e,e2,this⟩;have I:=uH I0;rw[L]at I;have hl:=A.len;exact .inr ⟨j,e,E.sub j (by rw[L];simp),I.take,by omega⟩)
  go_wp21;go_loopg [6] (3*x.A.length+1) (λgk t wr=>∃(v:Value)(Mt B:List Nat),eV wr w.heap.size (w.heap.size+2) b w.heap.size y z x.A.length v Mt B/\Hid (Cur x x.A.length t y z gk Mt B)/\Ext w wr)
  case atStart=>exact⟨v3,Mt,T,R.1,R.2.1,R.2.2⟩
  case round=>
   have⟨v,Mt,B,Y,ak,r⟩:=hrel;have E:=uU Y;obtain⟨rfl,rfl,I⟩|⟨j,rfl,S,I,aa⟩:=uH ak
   ·have c1:=Y.c1;have F:=kG Y.m (kG Y.rlt.2 I.done);go_wp2;go_ret;exact⟨rfl,Mt,F.1,F.2.1,F.2.2,r⟩
   have Z:j<x.A.length:=Y.rg j S;have RJ:=I.only j S;have⟨bc,oc,ap,kp,L,C⟩:=HV.H.cell j Z;have⟨bi,ba,bg,be,e2,e3,m0,aw⟩:=HV.N j Z;rw[L]at e3;cases e2;cases e3;have p7:=r.keep C.p7;have m1:=r.keep aw;have lp:=C.lp;have h2:=an j Z;have I1:=kG I aa;have⟨WO,au⟩:∃W,W=wr:=⟨_,rfl⟩;subst au;go_wp21;go_loopw [36] (λi wi=>∃(l:Nat)(v:Value)(Mt B:List Nat),l<=(x.c j).F.length/\i=iv l/\eV wi w.heap.size (w.heap.size+2) b w.heap.size y z x.A.length v Mt B/\Hid (a8g x Mt B (some j)/\a2t x Mt j l/\2*(x.A.length-Mt.length)+B.length+1<=gk)/\Ext w wi) (λi _=>(x.c j).F.length-(intOf i).toNat)
   case atStart=>exact⟨0,v,Mt,B,kB _,rfl,E,⟨I1.1,(λp _ h=>by omega),I1.2⟩,r⟩
   case round=>
    obtain⟨l,v,Mt,B,hl,rfl,Y,d,r⟩:=hrel;have E:=uU Y;by_cases X:l<(x.c j).F.length
    ·obtain⟨b2,o2,rfl,q0,q1,q2,q3,q4,q5⟩:=C.P l X;have e0:=r.keep q0;have L:=r.keep q1;have e2:=r.keep q2;have e3:=r.keep q3;have e4:=r.keep q4;have e5:=r.keep q5;have bh:=i0N l;have bl:(l:Int)<((x.c j).F.length:Int):=by omega
     have xa:=(hO wr).alloc (oPr ((x.c j).p l));have MK:=a4a Q2 Q4 j l ((I.only j S).good Q2 Q4) X;go_wp21;refine(a2s x ((x.c j).p l).key b _ y z (HV.ext (r.trans xa)).f Q2 MK.1).mono ?_;rintro e w2 ⟨t2,rfl,ay,ae⟩;have x2:=xa.trans ae;have HT:=uU ay;have u:=λ(o:Nat) (v:Value) (hc:(wr.alloc (oPr ((x.c j).p l))).cell? (aA wr.heap.size o)=some v)=>ae.keep hc
     have u3:=u 3 _ (by simp[go_sem];rfl);go_wp21;refine(a8d x ((x.c j).p l).key w.heap.size (w.heap.size+2) b w.heap.size y z t2 v Mt B _ (E.ext x2) MK.1 HT (r.trans x2).size K).mono ?_;rintro e Q ⟨rfl,v3,M3,T,A,V,ad⟩;have ab:wr.heap.size≠w.heap.size+2/\wr.heap.size≠w.heap.size/\v.ownBlock≠some wr.heap.size:=by
      have:=E.rlt;refine⟨?_,?_,λe=>by have:=(E.s.lt _ e).2;omega⟩<;>omega
     have kb:=ad.block wr.heap.size (cLt u3) ab.1 ab.2.1 ab.2.2;have y3:=(cOb wr.heap.size 3 kb).trans u3;have y4:=(cOb wr.heap.size 4 kb).trans (u 4 _ (by simp[go_sem];rfl));have y5:=(cOb wr.heap.size 5 kb).trans (u 5 _ (by simp[go_sem];rfl));have B3:=(E.ext x2).kext ad (r.trans x2);have W3:=uU A;have A3:=kG (d.1.add V (λe=>cU.key j l RJ X e)) (kG (d.2.1.sub V.sub.1) (kG (V.has) (by have:=V.weigh;have:=d.2.2;have:=A.len;omega:2*(x.A.length-M3.length)+T.length+1<=gk)));go_wp21;refine(a2s x ((x.c j).p l).val b _ y z (HV.ext B3).f Q2 MK.2).mono ?_;rintro e w4 ⟨t4,rfl,ao,U⟩;go_wp21;refine(a8d x ((x.c j).p l).val w.heap.size (w.heap.size+2) b w.heap.size y z t4 v3 M3 T _ (W3.ext U) MK.2 ao (B3.trans U).size K).mono ?_;rintro e w5 ⟨rfl,v5,M5,S5,al,M,ax⟩;have A5:=uU (show a8g x M5 S5 (some j)/\a2t x M5 j (l+1)/\2*(x.A.length-M5.length)+S5.length+1<=gk from
      ⟨A3.1.add M (λe=>cU.val j l RJ X e),λp hp bm=>by
       by_cases q:p=l;subst q;exact⟨λe=>M.sub.1 _ (A3.2.2.1 e),M.has⟩;exact(A3.2.1.sub M.sub.1) p hp (by omega),by have:=M.weigh;have:=A3.2.2.2;have:=al.len;omega⟩)
     go_wp2;go_roundw
     case rel=>exact⟨l+1,v5,M5,S5,by omega,by go_num,al,A5,(W3.ext U).kext ax (B3.trans U)⟩
     simp[intOf];omega
    have av:l=(x.c j).F.length:=by omega
    have I2:=kG (d.1.shut (by have:=d.2.1;rw[av]at this;exact this)) d.2.2;go_wp21;refine(b0n w.heap.size (w.heap.size+2) b w.heap.size y z x.A.length v Mt B _ E K).mono ?_;rintro e Q ⟨t,v3,T,rfl,A,ht,J⟩;have⟨ah,aa⟩:∃g,gk=g+1:=⟨gk-1,by have:=I2.2;omega⟩;have R:=uU (show eV Q w.heap.size (w.heap.size+2) b w.heap.size y z x.A.length v3 Mt T/\Cur x x.A.length t y z ah Mt T/\Ext w Q from by
     refine⟨A,?_,E.kext J r⟩;have I:=uH I2;obtain⟨e,L,e2⟩|⟨j,e,L⟩:=uH ht;rw[L]at I;exact .inl ⟨e,e2,I.1⟩;have hm:j∈Mt:=E.sub j (by rw[L];simp);rw[L]at I;have hl:=I.2;simp only[List.length_append,List.length_singleton]at hl;exact .inr ⟨j,e,hm,I.1.take,by omega⟩)
    go_wp21;go_roundg ah
    case measure=>have:=aa;omega
    case rel=>exact⟨v3,Mt,T,R.1,R.2.1,R.2.2⟩
def a5w(x:Hp)(Mt:List Nat):Prop:=∀i,i∈Mt->qX x i
theorem a5w.add{y:Wd}(h:a5w x Mt)(a:kK x y Mt Mt' St St')(b:y.k=2->qX x (tgt x y)):a5w x Mt':=by grind[a5w,kK,qX,tgt,Add.new,kK.new]
theorem yN.V(w:World)(a c d:Nat)(t:TypeId):yN (((w.alloc (.map #[] 0)).alloc (.map #[] 0)).alloc (.cells #[pP a,.map (some w.heap.size),.slice none 0 0,.map (some (w.heap.size+1))] t)) w.heap.size (w.heap.size+2) w.heap.size (w.heap.size+1) c d (.slice none 0 0) (λ_=>.slice none 0 0) (λ_=>[]):=by
 have b:(((w.alloc (.map #[] 0)).alloc (.map #[] 0)).alloc (.cells #[pP a,.map (some w.heap.size),.slice none 0 0,.map (some (w.heap.size+1))] t)).heap[w.heap.size+1]?=some (.map #[] 0):=by
  rw[mF _ _ _ (by simp)];have:=heap_alloc_new (w.alloc (.map #[] 0)) (.map #[] 0);simpa using this
 exact⟨by simp[go_sem],⟨#[],0,[],b,by simp[a2a],List.nodup_nil,λ_ _=>rfl⟩,λ_=>mB _ _ _ _,λ_ _ _ _ h=>by simp[Value.ownBlock]at h,λ_ _ h=>by simp[Value.ownBlock]at h,λ_ h=>by simp[Value.ownBlock]at h,λ_ h=>by simp[Value.ownBlock]at h,λ_ h=>by simp[Value.ownBlock]at h,by omega,by omega,by simp[Value.ownBlock],by omega⟩
theorem c9u(x:Hp)(b:Nat)(w:World)(g l:Nat)(h:VNt w b x ar kr ac (some (aA g l)) kn)(r2:R2 x)(r4:R4 x)(G:x.A.length<=8000):
  Calls prog 137 #[pP b] w λe w'=>e=.returned (pP (w.heap.size+2))/\∃v Mt St,eV w' w.heap.size (w.heap.size+2) b w.heap.size g l x.A.length v Mt St/\yN w' w.heap.size (w.heap.size+2) w.heap.size (w.heap.size+1) g l v (λ_=>.slice none 0 0) (λ_=>[])/\Hid (a5w x Mt/\a6c x x.B.length Mt/\∀i,i∈Mt->i∈St)/\Ext w w':=by
 have lr:=h.H.lr;have HV:=uU h;have Y:∀(t:TypeId)(w:World),(Instr.makeMap t none).run prog w=.ok (.map (some w.heap.size)) (w.alloc (.map #[] 0)):=λ_ _=>rfl
 have c4:=(((eAl w (.map #[] 0)).alloc (.map #[] 0)).alloc (.cells #[pP b,.map (some w.heap.size),.slice none 0 0,.map (some (w.heap.size+1))] 178)).keep h.H.c3;go_in;go_wp21;go_loopw [17] (λi wr=>∃(k:Nat)(v:Value)(Mt St:List Nat),k<=x.B.length/\i=iv k/\eV wr w.heap.size (w.heap.size+2) b w.heap.size g l x.A.length v Mt St/\yN wr w.heap.size (w.heap.size+2) w.heap.size (w.heap.size+1) g l v (λ_=>.slice none 0 0) (λ_=>[])/\Hid (a5w x Mt/\a6c x k Mt/\∀i,i∈Mt->i∈St)/\Ext w wr) (λi _=>x.B.length-(intOf i).toNat)
 case atStart=>exact⟨0,_,[],[],kB _,rfl,(eV.V w b g l x.A.length 178),(yN.V w b g l 178),⟨(λi p=>by cases p),(λj _ K=>by omega),λi p=>p⟩,((eAl w _).alloc _).alloc _⟩
 case round=>
  obtain⟨k,v,Mt,St,hk,rfl,T,z,c,d⟩:=hrel;by_cases m:k<x.B.length
  ·obtain⟨b',o,rfl,p0,p1,p2⟩:=(HV.ext d).H.R k m;have X:=i0N k;have N:(k:Int)<(x.B.length:Int):=by omega
   have J:=(hO wr).alloc (.cells #[iv x.B[k].k,iv x.B[k].n,iv x.B[k].a] 48);have I:=b0c r2 r4 k m;go_wp21;refine(a2s x x.B[k] b _ g l (HV.ext (d.trans J)).f r2 I).mono ?_;rintro e w2 ⟨t,rfl,W,O⟩;have s:=J.trans O;go_wp21;refine(a8d x x.B[k] w.heap.size (w.heap.size+2) b w.heap.size g l t v Mt St _ (T.ext s) I W (d.trans s).size G).mono ?_;rintro e B ⟨rfl,D,y,F,C,u,r⟩;have R:=uU (show eV B w.heap.size (w.heap.size+2) b w.heap.size g l x.A.length D y F/\yN B w.heap.size (w.heap.size+2) w.heap.size (w.heap.size+1) g l D (λ_=>.slice none 0 0) (λ_=>[])/\(a5w x y/\a6c x (k+1) y/\∀i,i∈y->i∈F)/\Ext w B from
    ⟨C,(z.ext s).step r,⟨c.1.add u (λe=>qX.reg k m e),λj K Z e=>by
     by_cases q:j=k;subst q;exact u.has e;exact u.sub.1 _ (c.2.1 j K (by omega) e),λi p=>by
     obtain q|⟨_,_,q⟩:=u.new p;exact u.sub.2 i (c.2.2 i q);exact q⟩,(T.ext s).kext r (d.trans s)⟩)
   go_wp2;go_roundw
   case rel=>exact⟨k+1,D,y,F,by omega,by go_num,R.1,R.2.1,R.2.2.1,R.2.2.2⟩
   simp[intOf];omega
  have A:k=x.B.length:=by omega
  subst A;go_wp2;go_ret;exact⟨rfl,v,Mt,St,T,z,c,d⟩
def CurH(x:Hp)(t:Value)(bn on G0 gk:Nat)(Mt St:List Nat)(g:Nat->List (Option Nat)):Prop:=gk<=G0/\(∀k,(g k).length+200*gk<=200*G0)/\((t=.pointer none/\St=[]/\kC x Mt [] g none none)\/∃j,t=ptr bn (on+j*2)/\j∈Mt/\kC x Mt St g (some j) (some j)/\2*(x.A.length-Mt.length)+St.length+1<=gk)
theorem c2w(x:Hp)(b:Nat)(w:World)(o p:Nat)(h:VNt w b x ar kr ac (some (aA o p)) kn)(r2:R2 x)(r4:R4 x)(J:x.A.length<=8000)(au:∀i,i<x.A.length->(x.c i).F.length<=200)
  (aq:∀w1,VNt w1 b x ar kr ac (some (aA o p)) kn->Calls prog 138 #[pP b] w1 λe w'=>∃(g:Option Addr)(cap:Nat)(r:List Nat),Hid (e=.returned (.slice g r.length cap))/\Hid (a7s x w1 w' g o p r)/\Ext w1 w') :
  Calls prog 79 #[pP b] w λe w'=>e=.returned (Value.map (some w.heap.size))/\∃Mt:List Nat,tV w' w.heap.size o (Mt.map (λi=>p+i*2))/\w.heap.size<w'.heap.size/\Hid (∀i,i∈Mt↔qX x i)/\Ext w w':=by
 have HV:=uU h;have SP:=uU aq;clear h aq;go_in;go_wp21;refine(c9u x b _ o p HV r2 r4 J).mono ?_;rintro e w1 ⟨rfl,v1,M1,S1,ag,ai,i1,x1⟩;have W1:=uU ag;have T1:=uU ai;clear ag ai;go_wp21;refine(SP _ (HV.ext x1)).mono ?_;rintro e w2 ⟨g,cap,r,rfl,A,V⟩;have x2:=x1.trans V;have A0:=kG (W1.ext V) (kG (A.at W1) (T1.ext V));have bb:r.length<=8000:=A.2.1;have LI:=uU A.2.2;clear W1 T1 A V;go_wp21;go_loopw [12] (λi wr=>∃(k:Nat)(v:Value)(Mt E:List Nat),k<=r.length/\i=iv k/\eV wr w.heap.size (w.heap.size+2) b w.heap.size o p x.A.length v Mt E/\yN wr w.heap.size (w.heap.size+2) w.heap.size (w.heap.size+1) o p v (λ_=>.slice none 0 0) (λ_=>[])/\Hid (a5w x Mt/\a6c x x.B.length Mt/\(∀i,i∈Mt->i∈E)/\∀j (h:j<r.length),j<k->(x.c r[j]).U=2->r[j]∈Mt)/\Hid (c2j wr g (w.heap.size+2) w.heap.size v o p r)/\Ext w wr) (λi _=>r.length-(intOf i).toNat)
 case atStart=>exact⟨0,v1,M1,S1,kB _,rfl,A0.1,A0.2.2,⟨i1.1,i1.2.1,i1.2.2,λj _ X=>by omega⟩,A0.2.1,x2⟩
 case round=>
  clear A0 i1 x1 x2;obtain⟨k,v,Mt,E,hk,rfl,S,B,a,U,u⟩:=hrel;have Q:=uU S;have HT:=uU B;clear S B;by_cases aa:k<r.length
  ·have⟨gb,go,hg,gc,g1,g2,g3⟩:=uH U k aa;subst hg;have bi:=i0N k;have be:(k:Int)<(r.length:Int):=by omega
   have Z:=(LI r[k]).1 (k7 aa);clear g1 g2 g3;have⟨j,ej⟩:=obE (r[k]);rw[<-ej]at gc Z;have D:=Z.1;have⟨bc,oc,ap,kp,K,C⟩:=HV.H.cell j D;have⟨bg,ba,bf,bd,e2,e3,m0,ak⟩:=HV.N j D;rw[K]at e3;cases e2;cases e3;have p3:=u.keep C.p3;have m1:=u.keep ak;have EJ:=uU ej;clear C m0 ak K ej;cases tl:((x.c j).U == 2)
   ·have R:∀q (h:q<r.length),q<k+1->(x.c r[q]).U=2->r[q]∈Mt:=λq hq ax e=>by
     by_cases z:q=k;subst z;rw[<-uH EJ]at e;simp at tl;exact(tl e).elim;exact a.2.2.2 q hq (by omega) e
    go_wp21;go_roundw
    case rel=>exact⟨k+1,v,Mt,E,by omega,by go_num,Q,HT,⟨a.1,a.2.1,a.2.2.1,R⟩,U,u⟩
    simp[intOf];omega
   have af:(x.c j).U=2:=by simpa using tl
   have HL:=uU af;clear af;go_wp21;refine(b0m w.heap.size (w.heap.size+2) b w.heap.size o p x.A.length j v Mt E _ Q D u.size J).mono ?_;rintro e T ⟨rfl,v',M',S',y,ha,d⟩;have R:=uU (show eV T w.heap.size (w.heap.size+2) b w.heap.size o p x.A.length v' M' S'/\yN T w.heap.size (w.heap.size+2) w.heap.size (w.heap.size+1) o p v' (λ_=>.slice none 0 0) (λ_=>[])/\(a5w x M'/\a6c x x.B.length M'/\(∀i,i∈M'->i∈S')/\∀j (h:j<r.length),j<k+1->(x.c r[j]).U=2->r[j]∈M')/\c2j T (some (aA gb go)) (w.heap.size+2) w.heap.size v' o p r/\Ext w T from by
    have G:=b2i ha;refine⟨y,HT.step d,⟨λi O=>?_,λj X aw e=>G.1.m _ (a.2.1 j X aw e),λi O=>?_,λq hq ax e=>?_⟩,U.step d,Q.kext d u⟩;obtain q|⟨q,_⟩:=G.1.n i O
    ·exact a.1 i q
    rw[q];exact qX.due j D HL;obtain q|⟨_,q⟩:=G.1.n i O
    ·exact G.1.s i (a.2.2.1 i q)
    exact q;by_cases z:q=k
    ·subst z;rw[<-uH EJ];exact G.2
    exact G.1.m _ (a.2.2.2 q hq (by omega) e))
   clear y ha d gc p3 m1;go_wp21;go_roundw
   case rel=>exact⟨k+1,v',M',S',by omega,by go_num,R.1,R.2.1,R.2.2.1,R.2.2.2.1,R.2.2.2.2⟩
   simp[intOf];omega
  have ay:k=r.length:=by omega
  have I0:kC x Mt E (λ_=>[]) none none:=⟨a.1,a.2.1,λi O hs=>by
   have⟨j,X,e⟩:=mQ ((LI i).2 ⟨O,.inr hs⟩);have:=a.2.2.2 j X (by omega) (e▸hs);rw[e]at this;exact this,(λ_ _ h=>by cases h),(λ_ _ h=>by cases h),λi O=>.inl (a.2.2.1 i O)⟩
  clear a U LI ay;go_wp21;refine(b0n w.heap.size (w.heap.size+2) b w.heap.size o p x.A.length v Mt E _ Q J).mono ?_;rintro e T ⟨t,v3,S3,rfl,y,ht,d⟩;have av:=Q.len;have R:=uU (show eV T w.heap.size (w.heap.size+2) b w.heap.size o p x.A.length v3 Mt S3/\yN T w.heap.size (w.heap.size+2) w.heap.size (w.heap.size+1) o p v3 (λ_=>.slice none 0 0) (λ_=>[])/\CurH x t o p (3*x.A.length+1) (3*x.A.length+1) Mt S3 (λ_=>[])/\Ext w T from by
   refine⟨y,HT.step d,⟨hT _,λk=>by simp,?_⟩,Q.kext d u⟩;obtain⟨e,K,e2⟩|⟨j,e,K⟩:=uH ht;have:=uH I0;rw[K]at this;exact .inl ⟨e,e2,this⟩;have I:=uH I0;rw[K]at I;have hl:=y.len;exact .inr ⟨j,e,Q.sub j (by rw[K];simp),I.take,by omega⟩)
  clear y ht d Q HT I0 av u;go_wp21;go_loopg [6] (3*x.A.length+1) (λgk t wr=>∃(v:Value)(Mt E:List Nat)(f:Nat->Value)(g:Nat->List (Option Nat)),eV wr w.heap.size (w.heap.size+2) b w.heap.size o p x.A.length v Mt E/\yN wr w.heap.size (w.heap.size+2) w.heap.size (w.heap.size+1) o p v f g/\Hid (CurH x t o p (3*x.A.length+1) gk Mt E g)/\Ext w wr)
  case atStart=>exact⟨v3,Mt,S3,_,_,R.1,R.2.1,R.2.2.1,R.2.2.2⟩
  case round=>
   clear R;have⟨v,Mt,E,f,g,S,B,P,u⟩:=hrel;have Q:=uU S;have HT:=uU B;have⟨bh,M,az⟩:=uH P;obtain⟨rfl,rfl,I⟩|⟨j,rfl,X,I,hgj⟩:=az;have c1:=S.c1;have F:=kG S.m (kG S.rlt.2 I.done);clear S B P I M;go_wp21;go_ret;exact⟨rfl,Mt,F.1,F.2.1,F.2.2,u⟩;have D:j<x.A.length:=S.rg j X;have Z:=uU I;have HJ:=uU X;clear S B P I X;go_wp21;refine(c2p w (w.heap.size+2) b w.heap.size (w.heap.size+1) o p x.A.length j v f g Mt E _ Q HT (λi O=>Z.wl j i O) u J (by have:=uH M j;omega)).mono ?_;rintro e T ⟨rfl,v3,M3,S3,y,ad,L,am⟩;have T3:=uU ad;have I3:=uU ((Z.grow L.1 (λi O=>Z.wh j i O (Z.only j HJ))).freed L.2);have J3:=uU (L.1.m j HJ);have G3:=uU L.1;have X3:=uU am;clear ad L am;go_wp21;refine(d3z x w b (w.heap.size+2) w.heap.size (w.heap.size+1) o p j v3 f g M3 S3 _ HV r2 r4 (au j D) y T3 I3 J3 X3 J (λk=>by have:=uH M k;omega)).mono ?_;rintro e w4 ⟨rfl,v4,M4,S4,f4,g4,aj,ae,al,ab⟩;have T4:=uU ae;have I4:=uH al;have X4:=uH ab;clear ae al ab;go_wp21;refine(b0n w.heap.size (w.heap.size+2) b w.heap.size o p x.A.length v4 M4 S4 _ aj J).mono ?_;rintro e w5 ⟨t,v5,S5,rfl,ao,an,d⟩;have⟨ah,W⟩:∃g,gk=g+1:=⟨gk-1,by omega⟩;have R:=uU (show eV w5 w.heap.size (w.heap.size+2) b w.heap.size o p x.A.length v5 M4 S5/\yN w5 w.heap.size (w.heap.size+2) w.heap.size (w.heap.size+1) o p v5 f4 g4/\CurH x t o p (3*x.A.length+1) ah M4 S5 g4/\Ext w w5 from by
    refine⟨ao,T4.step d,⟨by omega,λk=>?_,?_⟩,aj.kext d X4⟩;have:=I4.2.2 k;have:=uH M k;omega;have I:=I4.1;have wg:2*(x.A.length-M4.length)+S4.length<=2*(x.A.length-Mt.length)+E.length:=by
     have a1:=G3.w;have a2:=I4.2.1.w;have a3:=aj.len;have a4:=y.len;have a5:=G3.l;have a6:=I4.2.1.l;omega
    obtain⟨e,K,e2⟩|⟨i,e,K⟩:=an;rw[K]at I;exact .inl ⟨e,e2,I⟩;have hm:i∈M4:=aj.sub i (by rw[K];simp);rw[K]at I wg;simp only[List.length_append,List.length_singleton]at wg;exact .inr ⟨i,e,hm,I.take,by omega⟩)
   have G:=uU W;clear ao an d aj T4 I4 X4 W;go_wp21;go_roundg ah
   case measure=>have:=uH G;omega
   case rel=>exact⟨v5,M4,S5,f4,g4,R.1,R.2.1,R.2.2.1,R.2.2.2⟩
end Go.Proofs.YtgkpaibbdkggiaaGreatDoor
namespace Go.Proofs.YtgkpaibbdkggiaaGreatDoor
open Go.RowKit Go.Lib Go.Sort Go.Shelf Go.Proofs.Tryz
attribute [local go_sem ↓] Go.wp_at_zero Go.wp_at_succ
attribute [local go_sem] Oper.semAt_some
variable{n i:Nat}
def clN(n i:Nat):Nat:=if i<n then i else 0
theorem b9s(h:i<n):clN n i=i:=by simp[clN,h]
theorem c5m(h:0<n):clN n i<n:=by grind[clN]
def c2y(bn on n i:Nat):Value:=ptr bn (on+clN n i*2)
def cfN(x:Hp)(i j:Nat):Int:=Lib.compareInt (x.c (clN x.A.length i)).born (x.c (clN x.A.length j)).born
theorem ltN(x:Hp)(i j:Nat):ltOf (cfN x) i j=decide ((x.c (clN x.A.length i)).born<(x.c (clN x.A.length j)).born):=by
 unfold ltOf cfN Lib.compareInt;by_cases a:(x.c (clN x.A.length i)).born<(x.c (clN x.A.length j)).born;simp[a];grind[Hp.c,clN,uZ.A,QFr.A,cfN]
theorem swoN(x:Hp):SWO (ltOf (cfN x)):={
 irrefl:=λi=>by rw[ltN];simp
 trans:=λi j k b a=>by rw[ltN]at *;simp at *;omega
 ntrans:=λi j k b a=>by rw[ltN]at *;simp at *;omega }
theorem a9m{α:Type}[Inhabited α](enc:α->Value)(w:World)(a b m k:Nat)(d:Array α)(c:Array Obj)(g:k≠a)(e:k<w.heap.size):(sortWorld enc w a b m d c).heap[k]?=w.heap[k]?:=by
 have f:(putRow enc (Sort.ahead w m) a b d).heap.size=w.heap.size:=by simp[putRow,mapBlock,Sort.ahead]
 show((putRow enc (Sort.ahead w m) a b d).heap++c)[k]?=w.heap[k]?;rw[Array.getElem?_append_left (by omega)];show(w.heap.modify a _)[k]?=w.heap[k]?;rw[Array.getElem?_modify,if_neg (by omega)]
theorem c5n{α:Type}[Inhabited α](enc:α->Value)(w:World)(a b m base:Nat)(d:Array α)(c:Array Obj)(h:base<=a)(f:base<=w.heap.size):Go.RowKit.Below base w (sortWorld enc w a b m d c):=by
 have e:(putRow enc (Sort.ahead w m) a b d).heap.size=w.heap.size:=by simp[putRow,mapBlock,Sort.ahead]
 refine⟨rfl,rfl,rfl,?_,λk g=>a9m enc w a b m k d c (by omega) (by omega)⟩;simp[sortWorld,grow,e]
def SrtN(x:Hp)(L:List Nat):Prop:=∀i j (hi:i<L.length) (hj:j<L.length),i<j->(x.c L[i]).born<=(x.c L[j]).born
theorem c9v(x:Hp)(b base g cap:Nat)(d:List Nat)(w:World){ar:Option Addr}{kr:Nat}{ac:Nat->Option Addr}{kn:Nat}(k o:Nat)(h:VNt w b x ar kr ac (some (aA k o)) kn)(I:∀i,i<x.A.length->∃bc oc,ac i=some (aA bc oc)/\bc<base/\k<base)(D:∀i,i∈d->i<x.A.length)(s:0<x.A.length)(h8:d.length<=8000)
  (hc:∀j (r:j<d.length),w.cell? (aA g j)=some (ptr k (o+d[j]*2))/\w.frozen? (aA g j)=false) (hg:base<=g) (A:g<w.heap.size) (J:base<=w.heap.size) :
  Calls prog 198 #[sS g d.length cap,.func (.func 199) #[] #[]] w λe w'=>e=.returned (.tuple #[])/\∃Ls',Hid (List.Perm Ls' d)/\Hid (∀j (r:j<Ls'.length),w'.cell? (aA g j)=some (ptr k (o+Ls'[j]*2)))/\Hid (SrtN x Ls')/\Go.RowKit.Below base w w':=by
 have eg:∀q w,(callFunc 199 q).run prog w=.ok (.enter 199 q) w:=enters_of func199 (by kernel_rfl) rfl;have Q:Holds (c2y k o x.A.length) w g 0 d.toArray:=λj r=>by
  have f:j<d.length:=by simpa using r
  have:=hc j f;rw[getElem!_pos _ j r];simp only[Nat.zero_add,c2y,List.getElem_toArray];rw[b9s (D _ (k7 f))];exact this
 have hR:CmpReads prog 199 #[] (c2y k o x.A.length) (cfN x) g 0 d.toArray.size w:=λm B P S i j=>by
  have u:∀i,∃bc oc,(sortWorld (c2y k o x.A.length) w g 0 m P B).cell? (aA k (o+clN x.A.length i*2+1))=some (ptr bc oc)/\(sortWorld (c2y k o x.A.length) w g 0 m P B).cell? (aA bc (oc+4))=some (iv (x.c (clN x.A.length i)).born):=λi=>by
   have⟨bc,oc,e0,l1,l2⟩:=I _ (c5m (i:=i) s);have⟨ad,U,aa,ab,a1,L,_,W⟩:=h.N _ (c5m (i:=i) s);have⟨X,R,ap,kp,K,C⟩:=h.H.cell _ (c5m (i:=i) s);rw[e0]at L K;cases a1;cases L;cases K;exact⟨bc,oc,(kT (w:=w) (a:=(aA k _)) (a9m _ _ _ _ _ k _ _ (by omega) (by omega))).trans W,(kT (w:=w) (a:=(aA bc _)) (a9m _ _ _ _ _ bc _ _ (by omega) (by omega))).trans C.p4⟩
  have⟨bc,oc,Z,Y⟩:=u i;have⟨bd,od,k3,T⟩:=u j;exact c2x _ _ k _ _ bc bd _ _ _ Z Y k3 T
 have O:=Any.slices_SortFunc Tryz.sortL (c2y k o x.A.length) (λ_=>rfl) (cfN x) (swoN x) 199 #[] g 0 cap d.toArray w eg hR.lays Q A (by simp;omega);change Calls prog 198 _ _ _ at O;refine O.mono λe w' ⟨he,l,n,B,G,E,M⟩=>⟨he,l.toList,?_,?_,?_,by rw[M];exact c5n _ _ _ _ _ _ _ _ hg J⟩
 have⟨t,_,p⟩:=G;have v:l.extract 0 d.toArray.size=l:=by rw[<-t];simp
 have z:d.toArray.extract 0 d.toArray.size=d.toArray:=by simp
 rw[v,z]at p;exact p;have⟨t,_,p⟩:=G;have v:l.extract 0 d.toArray.size=l:=by rw[<-t];simp
 have z:d.toArray.extract 0 d.toArray.size=d.toArray:=by simp
 rw[v,z]at p;intro j r;have f:j<l.size:=by simpa using r
 have:=(holds_sortWorld (c2y k o x.A.length) w g 0 n d.toArray l B A Q t j f).1;rw[getElem!_pos _ j f,<-M]at this;simp only[Nat.zero_add,c2y]at this;rw[b9s (D _ (p.mem_iff.1 (qp f)))]at this;simpa using this;have⟨t,_,p⟩:=G;have v:l.extract 0 d.toArray.size=l:=by rw[<-t];simp
 have z:d.toArray.extract 0 d.toArray.size=d.toArray:=by simp
 rw[v,z]at p;intro i j V r F;have y:i<l.size:=by simpa using V
 have f:j<l.size:=by simpa using r
 have:=E i j (kB _) F (by omega);rw[getElem!_pos _ i y,getElem!_pos _ j f,ltN,b9s (D _ (p.mem_iff.1 (qp y))),b9s (D _ (p.mem_iff.1 (qp f)))]at this;simp at this;simpa using this
end Go.Proofs.YtgkpaibbdkggiaaGreatDoor
namespace Go.Proofs.YtgkpaibbdkggiaaGreatDoor
open Go.RowKit Go.Proofs.Tryz
attribute [local go_sem ↓] Go.wp_at_zero Go.wp_at_succ
attribute [local go_sem] Oper.semAt_some
variable{x:Hp}{k kr kn:Nat}{ar:Option Addr}{ac:Nat->Option Addr}
theorem c9w(p:Option Addr)(cap:Nat)(w:World):
  Calls prog 198 #[.slice p 0 cap,.func (.func 199) #[] #[]] w λe w'=>e=.returned (.tuple #[])/\w'=w:=
 AnyF.slices_SortFunc_none (P:=prog) (ρ:=Tryz.sortL_ren) { Tryz.sortL with } p cap (.func (.func 199) #[] #[]) w
theorem d4f(x:Hp)(b base:Nat)(v:Value)(a:List Nat)(w:World)(d k:Nat)(h:VNt w b x ar kr ac (some (aA d k)) kn)(u:∀i,i<x.A.length->∃bc oc,ac i=some (aA bc oc)/\bc<base/\d<base)(B:∀i,i∈a->i<x.A.length)(G:a.length<=8000)
  (l:w.ownsRow base 97 1 v a.length (a.map (λi=>ptr d (k+i*2)))) (y:base<=w.heap.size) :
  Calls prog 198 #[v,.func (.func 199) #[] #[]] w λe w'=>e=.returned (.tuple #[])/\Hid (∃g cap Ls',v=.slice g Ls'.length cap/\List.Perm Ls' a/\(∀j (c:j<Ls'.length),∃gb go,g=some (aA gb go)/\w'.cell? (aA gb (go+j))=some (ptr d (k+Ls'[j]*2))/\base<=gb)/\SrtN x Ls')/\Below base w w':=by
 by_cases A:a=[];subst A;obtain⟨p,cap,rfl⟩:∃p cap,v=.slice p 0 cap:=by
  obtain⟨e,_⟩|⟨g,cap,cur,e,_⟩:=l.2;exact⟨none,0,e⟩;exact⟨_,_,e⟩
 exact(c9w p cap w).mono λ_ _ ⟨t,F⟩=>by subst F;exact⟨t,⟨p,cap,[],rfl,nE _,(λj c=>by simp at c),λi j D=>by simp at D⟩,Below.refl _ _⟩
 have f:0<a.length:=List.length_pos_iff.2 A;obtain⟨_,e⟩|⟨g,cap,cur,rfl,hg,hb,_⟩:=l.2
 ·omega
 have r:g<w.heap.size:=by
  obtain q|q:=ky g w.heap.size;exact q;rw[mp q]at hb;cases hb
 have o:0<x.A.length:=by have:=B _ (k7 f);omega
 have C:∀j (c:j<a.length),w.cell? (aA g j)=some (ptr d (k+a[j]*2))/\w.frozen? (aA g j)=false:=λj c=>by
  refine⟨?_,nN l j⟩;rw[nR l j (by omega)];simp[List.getElem?_eq_getElem c]
 exact(c9v x b base g cap a w d k h u B o G C hg r y).mono λ_ w' ⟨t,E,z,n,m,s⟩=>⟨t,⟨some (aA g 0),cap,E,by rw[z.length_eq],z,λj c=>⟨g,0,rfl,by rw[kO];exact n j c,hg⟩,m⟩,s⟩
def spk(x:Hp)(k:Nat):List Nat:=(List.range k).filter (λi=>a0p (x.c i))
theorem spk_no(h:a0p (x.c k)=false):spk x (k+1)=spk x k:=by simp[spk,List.range_succ,List.filter_append,h]
theorem spk_yes(h:a0p (x.c k)=true):spk x (k+1)=spk x k++[k]:=by simp[spk,List.range_succ,List.filter_append,h]
theorem spk_len(x:Hp)(k:Nat):(spk x k).length<=k:=by grind[spk,a0p,Hp.c]
theorem c6z{i:Nat}:i∈spk x k↔i<k/\dH (x.c i):=by simp[spk,a2z]
theorem row_ext{a w w2:World}{T:TypeId}{v:Value}{n:Nat}{vs:List Value}{o:Obj}(h:w.ownsRow a.heap.size T 1 v n vs)(e:Ext a w)(b:(w.alloc o).grownBy w2 v.ownBlock):Ext a w2:=by
 have g:w.heap.size+1<=w2.heap.size:=by have:=b.size;simpa using this
 refine mV e ⟨b.os,b.tape,b.output,by omega,λk d=>?_⟩;have c:k<w.heap.size:=kF d e.size;rw[b.block k (by simp;omega) (λf=>by have:=(h.lt k f.symm).1;omega),mF _ o k c]
theorem b0t(x:Hp)(b:Nat)(w:World){ar:Option Addr}{kr:Nat}{ac:Nat->Option Addr}{kn:Nat}(f l:Nat)(h:VNt w b x ar kr ac (some (aA f l)) kn)(ai:x.A.length<=8000):
  Calls prog 138 #[pP b] w λe w'=>∃(g:Option Addr)(cap:Nat)(B:List Nat),Hid (e=.returned (.slice g B.length cap))/\Hid (a7s x w w' g f l B)/\Hid (SrtN x B/\B.Perm (spk x x.A.length))/\Ext w w':=by
 have⟨i0,M,Q,P,F⟩:=info_parts b2g;have o:=h.n13;have HV:=uU h;go_in;go_wp21;go_loopw [3,10] (λv i wr=>∃(k:Nat),k<=x.A.length/\i=iv k/\Hid (wr.ownsRow w.heap.size 97 1 v (spk x k).length ((spk x k).map (λi=>ptr f (l+i*2))))/\Ext w wr) (λ_ i _=>x.A.length-(intOf i).toNat)
 case atStart=>exact⟨0,kB _,rfl,mB _ _ _ _,hO w⟩
 case round=>
  obtain⟨k,hk,rfl,d,a⟩:=hrel;have Y:=spk_len x k;by_cases p:k<x.A.length
  ·have K:=HV.ext a;have o:=K.n13;have⟨n,q,U,W,J,C⟩:=K.H.cell k p;have⟨O,G,af,ah,z,r,V,m1⟩:=K.N k p;rw[J]at r;cases z;cases r;have Z:=cLt o;have ag:=i0N k;have aa:(k:Int)<(x.A.length:Int):=by omega
   go_wp21;refine(a8t (x.c k) f (l+k*2) n q U W _ m1 C).mono ?_;rintro e w1 ⟨rfl,rfl⟩;cases t:a0p (x.c k)
   ·have R:_:=spk_no t ▸ uH d;go_wp2;go_roundw
    case rel=>exact⟨k+1,by omega,by go_num,R,a⟩
    simp[intOf];omega
   go_wp2_with (at_builtin;refine wpList_append_lies _ rfl _ _ 101 rfl w.heap.size 97 i0 (.pointer none) 1 8 underlying101 M Q P F rfl (by decide) _ (spk x k).length ((spk x k).map (λi=>ptr f (l+i*2))) rfl (d.alloc _) _ 1 1 [ptr f (l+k*2)] rfl rfl ?c1 ?c2 (by decide) ?c3 ?c4 ?c5 _ rfl ?_)
   case c1=>
    intro j u A;match j,A with
    | 0,A=>simp at A;subst A;simp[Addr.add]
   case c2=>intro u X;simp at X;subst X;rfl
   case c3=>unfold maxLen;omega
   case c4=>have:=a.size;simp;omega
   case c5=>have:=a.size;simp;omega
   intro g cap w2 s m ae S;have R:=kG (show w2.ownsRow w.heap.size 97 1 (sS g ((spk x k).length+1) cap) (spk x (k+1)).length ((spk x (k+1)).map (λi=>ptr f (l+i*2))) by rw[spk_yes t];simpa using s) (row_ext d a m);go_wp2;go_roundw
   case rel=>exact⟨k+1,by omega,by go_num,R.1,R.2⟩
   simp[intOf];omega
  have E:k=x.A.length:=by omega
  subst E;have BB:∀i,i<x.A.length->∃n q,ac i=some (aA n q)/\n<w.heap.size/\f<w.heap.size:=λi y=>by
   have⟨O,G,n,q,J,z,V,_⟩:=HV.N i y;have⟨ad,ab,U,W,r,C⟩:=HV.H.cell i y;rw[z]at r;cases J;cases r;exact⟨n,q,z,uQ C.p0,uQ V⟩
  go_wp21;refine(d4f x b w.heap.size _ (spk x x.A.length) _ f l (HV.ext a) BB (λi y=>(c6z.1 y).1) (by omega) d a.size).mono ?_;rintro e w3 ⟨rfl,hs,I⟩;have x3:Ext w w3:=mV a I;go_wp2;go_ret;have⟨g,cap,L',e,L,hc,D⟩:=uH hs;exact⟨g,cap,L',by show _=_;rw[e];rfl,⟨hc,by have:=L.length_eq;omega,λi=>by rw[L.mem_iff];exact c6z⟩,⟨D,L⟩,x3⟩
theorem a5x(x:Hp)(b:Nat)(w:World)(f j:Nat)(h:VNt w b x ar kr ac (some (aA f j)) kn)(i:x.A.length<=8000):
  Calls prog 138 #[pP b] w λe w'=>∃(g:Option Addr)(cap:Nat)(d:List Nat),Hid (e=.returned (.slice g d.length cap))/\Hid (a7s x w w' g f j d)/\Ext w w':=
 (b0t x b w f j h i).mono λ_ _ ⟨g,cap,d,a,b,_,c⟩=>⟨g,cap,d,a,b,c⟩
end Go.Proofs.YtgkpaibbdkggiaaGreatDoor
namespace Go.Proofs.YtgkpaibbdkggiaaGreatDoor
open Go.RowKit Go.Shelf Go.Proofs.Tryz
attribute [local go_sem ↓] Go.wp_at_zero Go.wp_at_succ
attribute [local go_sem] Oper.semAt_some
variable{x:Hp}{L:List Nat}{k:Nat}
def a5c(W W':World):Prop:=∀(q:Nat)(o:Obj),W.heap[q]?=some o->o.isCells=true->W'.heap[q]?=some o
theorem a5c.trans{A B C:World}(h:a5c A B)(k:a5c B C):a5c A C:=λq o a b=>k q o (h q o a b) b
theorem a5c.cell{W W':World}(h:a5c W W'){p:Addr}{v:Value}(b:W.cell? p=some v):W'.cell? p=some v:=by
 obtain⟨o,a,c⟩:=cells_of_cell b;rw[kT ((h _ _ a c).trans a.symm)];exact b
theorem a5c.put(W:World)(l:Nat)(o c:Obj)(f:W.heap[l]?=some o)(d:o.isCells=false):a5c W (W.putObj l c):=λq p a b=>by
 have:q≠l:=λe=>by subst e;rw[f]at a;cases a;rw[d]at b;cases b
 rw[World.putObj_heap_other this];exact a
def IsS(x:Hp)(L:List Nat):Prop:=(∀i,i∈L↔i<x.A.length/\dH (x.c i))/\SrtN x L
def yK(x:Hp)(L:List Nat):List Nat:=L.filter (λi=>(x.c i).U == 2)
theorem dueF_no(a:k<L.length)(h:((x.c L[k]).U == 2)=false):yK x (L.take (k+1))=yK x (L.take k):=by
 rw[kx a,yK,mH];simp[h,yK]
theorem d4h(a:k<L.length)(h:((x.c L[k]).U == 2)=true):yK x (L.take (k+1))=yK x (L.take k)++[L[k]]:=by
 rw[kx a,yK,mH];simp[h,yK]
theorem d4i(k:Nat):yK x (L.take k) <+: yK x L:=by
 have:yK x L=yK x (L.take k)++yK x (L.drop k):=by rw[yK,yK,yK,<-mH,List.take_append_drop]
 rw[this];exact List.prefix_append _ _
theorem d4j:(yK x L).length<=L.length:=List.length_filter_le _ _
theorem d4k(h:IsS x L)(e:yK x L=[]):qV x x.A.length (-1):=.inl ⟨rfl,λi b a=>by
 have:i∈yK x L:=mZ.2 ⟨(h.1 i).2 ⟨b,.inr a⟩,by simpa using a⟩;rw[e]at this;cases this⟩
theorem b8c(h:IsS x L){y:Nat}(e:[y] <+: yK x L):qV x x.A.length (y:Int)/\y<x.A.length:=by
 obtain⟨t,e⟩:=e;have o:(yK x L).Pairwise (λa b=>(x.c a).born<=(x.c b).born):=((List.pairwise_iff_getElem (R:=λa b=>(x.c a).born<=(x.c b).born) (l:=L)).2 (λi j r k m=>h.2 i j r k m)).filter _;rw[<-e]at o;have p:y∈yK x L:=by rw[<-e];simp
 have d:=mZ.1 p;have f:=(h.1 y).1 d.1;refine⟨.inr ⟨y,rfl,f.1,by simpa using d.2,λj k n=>?_⟩,f.1⟩;have g:j∈yK x L:=mZ.2 ⟨(h.1 j).2 ⟨k,.inr n⟩,by simpa using n⟩;rw[<-e]at g;obtain q|q:=mD.1 g;rw[mY]at q;subst q;omega;exact(List.pairwise_cons.1 o).1 j q
def SpL(x:Hp)(w:World)(g:Option Addr)(bn on:Nat)(L:List Nat):Prop:=∀k (h:k<L.length),∃gb go bc oc,g=some ⟨gb,go,none⟩/\w.cell? ⟨gb,go+k,none⟩=some (ptr bn (on+L[k]*2))/\w.cell? ⟨bn,on+L[k]*2+1,none⟩=some (.pointer (some ⟨bc,oc,none⟩))/\w.cell? ⟨bc,oc+3,none⟩=some (iv (x.c L[k]).U)
theorem SpL.keep{w w':World}{g:Option Addr}{bn on:Nat}(h:SpL x w g bn on L)(k:a5c w w'):SpL x w' g bn on L:=λi m=>by
 obtain⟨f,l,j,d,e,a,b,c⟩:=h i m;exact⟨f,l,j,d,e,k.cell a,k.cell b,k.cell c⟩
theorem due1_in(n:Nat)(hn:1<=n)(l:Nat)(x:Hp)(b Bv:Nat)(W:World){ar:Option Addr}{kr:Nat}{ac:Nat->Option Addr}{kn:Nat}(bn u:Nat)(J M:List Nat->World->Prop)(hJ:AbidesFrom W.heap.size J)
  (hY:∀pre y W1,J pre W1->pre.length<8001->YieldAt Fence.wide (n-1) prog l #[ptr bn (u+y*2)] W1 λe W'=>
   (e=.returned (.bool true)/\J (pre++[y]) W'/\a5c W1 W')\/(e=.returned (.bool false)/\M (pre++[y]) W'))
  (hB:W.cell? (aA Bv 0)=some (pP b)) (h:VNt W b x ar kr ac (some (aA bn u)) kn) (O:x.A.length<=8000) (h0:J [] W) :
  CallsIn Fence.wide n prog 243 #[.func (.yield l) #[] #[],pP Bv] W λe W'=>(∃v,e=.returned v)/\
   ((∃xs,(∃L,IsS x L/\xs=yK x L)/\J xs W')\/(∃pre,(∃L,IsS x L/\pre <+: yK x L)/\M pre W')):=by
 refine callsIn_of_wp func243 rfl trivial ?_ rfl;simp only[ntmps243,List.size_toArray,List.length_cons,List.length_nil,Nat.reduceAdd,Nat.reduceSub,Array.replicate_succ,Array.replicate_zero,List.push_toArray,List.append_toArray,List.nil_append,List.cons_append];gi_wp2_with (refine⟨trivial,?_⟩;gi_at_call 138;refine(callsIn_wide.2 (b0t x b W bn u h O)).mono ?_;rintro e w1 ⟨g,ah,L,rfl,d,m,s⟩);have Y:=uU (show IsS x L from⟨λi=>d.2.2 i,m.1⟩);have U:=uU (show SpL x w1 g bn u L from λk B=>by
  obtain⟨G,I,a,c,_⟩:=d.1 k B;have Q:=((d.2.2 L[k]).1 (k7 B)).1;obtain⟨af,aa,ai,ag,e2,Z,_,m1⟩:=(h.ext s).N L[k] Q;obtain⟨bc,oc,ap,kp,e1,C⟩:=(h.ext s).H.cell L[k] Q;rw[e1]at Z;cases e2;cases Z;exact⟨G,I,_,_,a,c,m1,C.p3⟩)
 have V:=uU (hJ [] W w1 none h0 ⟨s.os,s.tape,s.output,s.size,λk B _=>s.block k B⟩ (λr e=>by cases e));have ab:L.length<=8000:=d.2.1;clear d m h0 h hB;gi_wp2;gi_loopw [8] (λi wr=>∃k:Nat,k<=L.length/\i=iv k/\Hid (J (yK x (L.take k)) wr)/\Hid (SpL x wr g bn u L)) (λi _=>L.length-(intOf i).toNat)
 case atStart=>exact⟨0,kB _,rfl,V,U⟩
 case round=>
  clear V U;obtain⟨k,B,rfl,q,p⟩:=hrel;by_cases f:k<L.length
  ·obtain⟨G,I,bc,oc,rfl,a,X,c⟩:= p k f;have ae:=i0N k;have ad:(k:Int)<(L.length:Int):=by omega
   cases t:((x.c L[k]).U == 2)
   ·have D:=uU (show J (yK x (L.take (k+1))) wr by rw[dueF_no f t];exact q);obtain⟨j,A⟩:=obE (L[k]);rw[<-A]at a X c t;clear A;gi_wp2;refine⟨λ_ h=>(by cases h),?_⟩;gi_wp2;go_roundw
    case rel=>exact⟨k+1,f,by go_num,D,p⟩
    simp[intOf];omega
   have T:=uU (d4h f t);obtain⟨fn,P,E,S,hy,hR⟩:=hY _ L[k] wr q (by have:=@d4j x (L.take k);have:=List.length_take_le k L;omega);obtain⟨j,A⟩:=obE (L[k]);rw[<-A]at a X c t hy hR T;clear A;gi_wp2;refine hR.mono ?_;rintro e K (⟨rfl,w,z⟩|⟨rfl,o⟩)
   ·have R:=uU (show J (yK x (L.take (k+1))) K/\SpL x K (some (aA G I)) bn u L from⟨by rw[uH T];exact w,p.keep z⟩);clear w z;gi_wp2;go_roundw
    case rel=>exact⟨k+1,f,by go_num,R.1,R.2⟩
    simp[intOf];omega
   have R:=uU (show ∃pre,(∃L,IsS x L/\pre <+: yK x L)/\M pre K from⟨_,⟨L,Y,by rw[<-uH T];exact d4i _⟩,o⟩);clear o;gi_wp2;refine bodyPost_ret (results_none rfl _ _ _) rfl ?_;exact⟨⟨_,rfl⟩,.inr R⟩
  have F:k=L.length:=by omega
  subst F;have R:=uU (show ∃xs,(∃L,IsS x L/\xs=yK x L)/\J xs wr from⟨_,⟨L,Y,rfl⟩,by have:=uH q;rw[mG]at this;exact this⟩);gi_wp2;go_end0;exact⟨⟨_,rfl⟩,.inl R⟩
