import Derived.Test.YtddkhnclmeikfaaGreatEe
set_option maxRecDepth 100000
set_option maxHeartbeats 6000000
namespace Go.Proofs.YtddkhnclmeikfaaGreat
open Go.RowKit Tryz
attribute [local go_sem ↓] Go.wp_at_zero Go.wp_at_succ
theorem b7w[p:Inhabited uQ](B g:Nat)(x:Hp)(op:Int)(a b c:Nat)(n:Int)(w:World)(h:GOk B w g x)(s:Snd x)(ha:a<16)(O:(x.r a).k≠2)(v:World)(N:Ext v w):
  Calls prog 253 #[pP g,yQ op a b c n] w λe w'=>e=.returned (eX 2 0)/\Hid (GOk B w' g x)/\Ext v w':=by
 obtain⟨p1,G,m⟩:=GOk.enter h (w0:=doW w op a b c n) (((Ext.refl w).alloc _).alloc _);obtain⟨j,f⟩:∃W,W=doW w op a b c n:=⟨_,rfl⟩;have H:=tL.new w op a b c n;have y:Ext v (doW w op a b c n):=(N.alloc _).alloc _;rw[<-f] at m H y;obtain⟨br,kr,C⟩:=m.B s.r1.B;have L:=C.c3;obtain⟨M,P,U⟩:=C.r a ha;have Z:g<j.heap.size:=uL L;have T:br<j.heap.size:=uL M;have E:=uU G;have S:=uU m;have V0:=uU (show v.heap.size<=w.heap.size+1 by have:=N.size;omega);have Y:=uU y;obtain⟨l,u,D,t,A,q,o,F⟩:=H;have Q:w.heap.size<j.heap.size:=uL l;have j0:(0:Int)<=(a:Int):=by omega
 have j1:(a:Int)<16:=by omega
 have X:((x.r a).k != 2)=true:=by simpa using O
 clear O s;clear h C G m y;go_enter func253,ntmps253;go_wp2_with fail;unfold doW at f;rw[<-f];clear f
 go_region
 obtain⟨I,d⟩:∃W,W=(j.alloc (.cells #[iv (x.r a).k,iv (x.r a).n,iv (x.r a).a] 152)).drew:=⟨_,rfl⟩;rw[<-d];have i:Ext j I:=by rw[d];exact((Ext.refl _).alloc _).drew
 have R:yU I j.heap.size 0 (x.r a):=by rw[d];exact⟨by simp [go_sem],by simp [go_sem],by simp [go_sem]⟩
 obtain⟨y0,y1,y2⟩:=R;have J:=uU (S.ext i);have X2:=uU (Y.trans i);clear d i L M P U l u D t A q o F;obtain⟨l,u,D,t,A,q,o,F⟩:=J.boxes E;go_wp2_with fail;refine(a0m 2 _).mono ?_;rintro e w3 ⟨rfl,z⟩;have K:=uU (J.ext z);have V:=uU (X2.trans z);clear z;obtain⟨u0,u1,u2,u3,u4,u5,u6,u7⟩:=K.boxes E;clear l u D t A q o F y0 y1 y2;go_wp2_with fail;refine bodyPost_ret (v:=eX 2 0) (by simp [results,results253,go_sem,u5,u6]) rfl ?_;exact⟨rfl,GOk.done E K 2 0,dH V V0 2 0⟩
theorem GCel.ext[Inhabited uQ]{B:Nat}{w w':World}{g:Nat}{x:Hp}{i bc kc:Nat}{ap:Option Addr}{kp:Nat}(h:GCel B w g x i bc kc ap kp)(e:Ext w w'):GCel B w' g x i bc kc ap kp:=
 ⟨e.keep h.c4,⟨e.keep h.s.1,e.keep h.s.2.1,e.keep h.s.2.2.1,e.keep h.s.2.2.2.1,e.keep h.s.2.2.2.2.1,e.keep h.s.2.2.2.2.2.1,e.keep h.s.2.2.2.2.2.2⟩,e.keep h.p7,λj=>((uK e).2 bc j h.lo.2).trans (h.f j),⟨h.lo.1,Nat.lt_of_lt_of_le h.lo.2 e.size⟩,λW u a=>h.set2 W u (e.trans a),λW u a=>h.set3 W u (e.trans a)⟩
theorem a5r[p:Inhabited uQ](B g:Nat)(x:Hp)(k:Nat)(op:Int)(a b c:Nat)(n:Int)(w:World)(ho:(k=10/\op=10)\/(k=11/\op=11)\/(k=12/\op=12)\/(k=16/\op=16)\/(k=17/\op=17))(h:GOk B w g x)(s:Snd x)(ha:a<16)(hk:(x.r a).k=2)(v:World)(hv:v.heap.size<=B)(hx:Ext v w):
  Calls prog 253 #[pP g,yQ op a b c n] w λe w'=>zN B g x a b c n k v e w':=by
 obtain⟨p1,o1,g1⟩:=GOk.enter h (w0:=doW w op a b c n) (((Ext.refl w).alloc _).alloc _);obtain⟨A,L⟩:∃W,W=doW w op a b c n:=⟨_,rfl⟩;have bx:=tL.new w op a b c n;have x1:Ext v (doW w op a b c n):=(hx.alloc _).alloc _;rw[<-L] at g1 bx x1;obtain⟨br,kr,hr⟩:=g1.B s.r1.B;have c3:=hr.c3;obtain⟨r0,r1,r2⟩:=hr.r a ha;have ag:g<A.heap.size:=uL c3;have ai:br<A.heap.size:=uL r0;have y:=uU o1;have G1:=uU g1;have V0:=uU (show v.heap.size<=w.heap.size+1 by have:=hx.size;omega);have X1:=uU x1;obtain⟨I,U,Y,T,R,M,Q,X⟩:=bx;have ah:w.heap.size<A.heap.size:=uL I;have j0:(0:Int)<=(a:Int):=by omega
 have j1:(a:Int)<16:=by omega
 have D:=uU hk;have ak:((x.r a).k != 2)=false:=by simpa using hk
 obtain⟨en,ea,V,st,nd⟩:=s.at a ha hk;obtain⟨i,hI⟩:∃i,i=x.at a:=⟨_,rfl⟩;have HI:=uU hI;rw[<-hI] at ea V st nd;have EA:=uU ea;have S:=uU s;have i0:(0:Int)<=(i:Int):=by omega
 have i1:(i:Int)<(x.A.length:Int):=by omega
 clear hk ea hI s en;clear nd;clear h hr o1 g1 x1;rcases ho with⟨rfl,rfl⟩ | ⟨rfl,rfl⟩ | ⟨rfl,rfl⟩ | ⟨rfl,rfl⟩ | ⟨rfl,rfl⟩
 all_goals
  go_enter func253,ntmps253;go_wp2_with fail;unfold doW at L;rw[<-L];clear L
  go_region
  obtain⟨d,N⟩:∃W,W=(A.alloc (.cells #[iv (x.r a).k,iv (x.r a).n,iv (x.r a).a] 152)).drew:=⟨_,rfl⟩;rw[<-N];have K:Ext A d:=by rw[N];exact((Ext.refl _).alloc _).drew
  have ad:=uU K;have WB:yU d A.heap.size 0 (x.r a):=by rw[N];exact⟨by simp [go_sem],by simp [go_sem],by simp [go_sem]⟩
  obtain⟨y0,y1,y2⟩:=WB;have Z:=uU (G1.ext K);have X2:=uU (X1.trans K);have ac:A.heap.size<d.heap.size:=uL y0;clear N K c3 r0 r1 r2 I U Y T R M Q X;obtain⟨I,U,Y,T,R,M,Q,X⟩:=Z.boxes y;have ae:w.heap.size<d.heap.size:=uL I;have ab:w.heap.size+1<d.heap.size:=uL M;rw[uH EA] at y2
 ·have QC:=uU (λ(W:World) (xW:Ext d W)=>c8a B g x i c W (Z.ext xW) S V st v hv (X2.trans xW));go_wp2_with fail;refine(QC _ (Ext.refl d)).mono ?_;rintro e w6 ⟨rfl,g6,x6⟩;have X5:=uU x6;have G5:=uU g6;clear I U Y T R M Q X y0 y1 y2 QC x6 g6;go_wp2_with fail;refine(cC 0 _).mono ?_;rintro e J ⟨rfl,l⟩;have q:=uU (G5.ext l);have H:=uU (X5.trans l);obtain⟨u0,u1,u2,u3,u4,u5,u6,u7⟩:=q.boxes y;have C:w.heap.size+1<J.heap.size:=uL u5;clear l;go_wp2_with fail;refine bodyPost_ret (v:=eX 0 0) (by simp [results,results253,go_sem,u5,u6]) rfl ?_;exact a1k y q H V0 (.inr ⟨D,by rw[<-uH HI];exact⟨rfl,rfl,rfl⟩⟩)
 ·clear st;obtain⟨m,kc,ap,kp,j⟩:=Z.cel i V;have P:=j.c4;have p7:=j.p7;obtain⟨q0,q1,q2,O,q4,q5,q6⟩:=j.s;have fc:=j.f;have F:g<d.heap.size:=uL P;have G:m<d.heap.size:=uL O;have E:=uU (show GOk B (d.setCell (aA m (i*8+2)) (iv c)).drew g (cK x i (c6e (x.c i) c))/\Ext v (d.setCell (aA m (i*8+2)) (iv c)).drew from⟨(j.set2 d c (Ext.refl _)).ext (Ext.refl _).drew,(X2.setCell (p:=(aA m (i*8+2))) (Nat.le_trans hv j.lo.1) _).drew⟩);obtain⟨W3,t⟩:∃W,W=(d.setCell (aA m (i*8+2)) (iv c)).drew:=⟨_,rfl⟩;rw[<-t] at E;clear j;go_wp2_with fail
  go_region
  rw[<-t];clear t P p7 q0 q1 q2 O q4 q5 q6 fc F G I U Y T R M Q X y0 y1 y2;go_wp2_with fail;refine(cC 0 _).mono ?_;rintro e J ⟨rfl,l⟩;have q:=uU (E.1.ext l);have H:=uU (E.2.trans l);obtain⟨u0,u1,u2,u3,u4,u5,u6,u7⟩:=q.boxes y;have C:w.heap.size+1<J.heap.size:=uL u5;clear l;go_wp2_with fail;refine bodyPost_ret (v:=eX 0 0) (by simp [results,results253,go_sem,u5,u6]) rfl ?_;exact a1k y q H V0 (.inr ⟨D,by rw[<-uH HI];exact⟨rfl,rfl,rfl⟩⟩)
 ·obtain⟨m,kc,ap,kp,aa⟩:=G1.cel i V;have aj:m<A.heap.size:=aa.lo.2;have j:=aa.ext ad;have P:=j.c4;obtain⟨q0,q1,q2,O,q4,q5,q6⟩:=j.s;have fc:=j.f;have F:g<d.heap.size:=uL P;have G:m<d.heap.size:=uL O;have E:=uU (show GOk B (d.setCell (aA m (i*8+3)) (iv c)).drew g (cK x i (tY (x.c i) c))/\Ext v (d.setCell (aA m (i*8+3)) (iv c)).drew from⟨(j.set3 d c (Ext.refl _)).ext (Ext.refl _).drew,(X2.setCell (p:=(aA m (i*8+3))) (Nat.le_trans hv j.lo.1) _).drew⟩)
  have YY:=uU (show yU (d.setCell (aA m (i*8+3)) (iv c)).drew A.heap.size 0 ⟨(x.r a).k,(x.r a).n,i⟩ from by
   have k:=λo=>(show(d.setCell (aA m (i*8+3)) (iv c)).drew.cell? (aA A.heap.size o)=d.cell? (aA A.heap.size o) from(World.cell?_of_block (a:=(aA A.heap.size o)) rfl).trans (uC _ (.inl (by omega))))
   exact⟨(k 0).trans y0,(k 1).trans y1,(k 2).trans y2⟩)
  obtain⟨W3,t⟩:∃W,W=(d.setCell (aA m (i*8+3)) (iv c)).drew:=⟨_,rfl⟩;rw[<-t] at E YY;clear j aa;go_wp2_with fail
  go_region
  rw[<-t];clear t P q0 q1 q2 O q4 q5 q6 fc F G I U Y T R M Q X y0 y1 y2 ae ab ac;obtain⟨I,U,Y,T,R,M,Q,X⟩:=E.1.boxes y;obtain⟨y0,y1,y2⟩:=uH YY;have C:w.heap.size<W3.heap.size:=uL I;have af:A.heap.size<W3.heap.size:=uL y0;cases qc:((c:Int) == 1)
  ·have QC:=uU (show ¬c=1 by simp at qc;omega);go_wp2_with fail;clear I U Y T R M Q X y0 y1 y2;refine(cC 0 _).mono ?_;rintro e J ⟨rfl,l⟩;have q:=uU (E.1.ext l);have H:=uU (E.2.trans l);obtain⟨u0,u1,u2,u3,u4,u5,u6,u7⟩:=q.boxes y;have C:w.heap.size+1<J.heap.size:=uL u5;clear l;go_wp2_with fail;refine bodyPost_ret (v:=eX 0 0) (by simp [results,results253,go_sem,u5,u6]) rfl ?_;exact a1k y q H V0 (.inr ⟨D,by rw[<-uH HI];exact⟨by rw[if_neg (uH QC)],rfl,rfl⟩⟩)
  ·have QC:=uU (show c=1 by simp at qc;omega);obtain⟨z,hz⟩:∃z,z=cK x i (tY (x.c i) c):=⟨_,rfl⟩;rw[<-hz] at E;have HZ:=uU hz
   have ZL:=uU (show z.A.length=x.A.length/\z.D=x.D/\(z.c i).st=1 from by
    rw[hz];refine⟨by simp [cK],rfl,?_⟩;show(({ x with A:=x.A.set i _ }:Hp).c i).st=_;rw[Hp.c_set x i _ V i,if_pos rfl];exact st)
   have QS:=uU (show Calls prog 232 #[pP g,.agg #[iv (x.r a).k,iv (x.r a).n,iv i]] W3 λe w'=>∃r:Bool,e=.returned (.bool r)/\Hid (GOk B w' g (uD z i))/\Ext v w' from by
    refine(b0x B g z ⟨(x.r a).k,(x.r a).n,i⟩ W3 E.1 (by rw[ZL.1];exact S.ok.n8) (by rw[ZL.2.1];have:=S.r1.D;have:=S.ok.n8;omega) (λ_=>⟨by rw[ZL.1];exact V,ZL.2.2⟩) (λ_=>by show(0:Int)<=(i:Int);omega) v hv E.2 (by have:=E.1.box.2.2.2.2;omega)).mono ?_;rintro e w' ⟨h1,h2,h3⟩;refine⟨_,h1,?_,h3⟩;have e2:shadeW z ⟨(x.r a).k,(x.r a).n,i⟩=uD z i:=by unfold shadeW;rw[if_pos (by simpa using uH D)];rfl
    rw[e2] at h2;exact h2)
   clear hz;go_wp2_with fail;refine QS.mono ?_;rintro e w6 ⟨r,rfl,g6,x6⟩;have X5:=uU x6;have G5:=uU g6;clear I U Y T R M Q X y0 y1 y2 QS x6 g6;go_wp2_with fail;refine(cC 0 _).mono ?_;rintro e J ⟨rfl,l⟩;have q:=uU (G5.ext l);have H:=uU (X5.trans l);obtain⟨u0,u1,u2,u3,u4,u5,u6,u7⟩:=q.boxes y;have C:w.heap.size+1<J.heap.size:=uL u5;clear l;go_wp2_with fail;refine bodyPost_ret (v:=eX 0 0) (by simp [results,results253,go_sem,u5,u6]) rfl ?_;exact a1k y q H V0 (.inr ⟨D,by rw[<-uH HI];exact⟨by rw[if_pos (uH QC),uH HZ],rfl,rfl⟩⟩)
 ·clear st;obtain⟨m,kc,ap,kp,j⟩:=Z.cel i V;have P:=j.c4;have p7:=j.p7;obtain⟨q0,q1,q2,O,q4,q5,q6⟩:=j.s;have fc:=j.f;have F:g<d.heap.size:=uL P;have G:m<d.heap.size:=uL O;clear j;go_wp2_with fail;go_region_with (go_at_call 161;refine(cC (x.c i).kind _).mono ?_;rintro e J ⟨rfl,l⟩;have u:=Ext.trans (Ext.refl d).drew l;have q:=uU (Z.ext u);have H:=uU (X2.trans u);obtain⟨u0,u1,u2,u3,u4,u5,u6,u7⟩:=q.boxes y;have C:w.heap.size+1<J.heap.size:=uL u5;clear l u)
  all_goals
   go_wp2_with fail;refine bodyPost_ret (v:=eX 0 (x.c i).kind) (by simp [results,results253,go_sem,u5,u6]) rfl ?_;exact a1k y q H V0 (.inr ⟨D,by rw[<-uH HI];exact⟨rfl,rfl,rfl⟩⟩)
 ·clear st;obtain⟨m,kc,ap,kp,j⟩:=Z.cel i V;have P:=j.c4;have p7:=j.p7;obtain⟨q0,q1,q2,O,q4,q5,q6⟩:=j.s;have fc:=j.f;have F:g<d.heap.size:=uL P;have G:m<d.heap.size:=uL O;clear j;go_wp2_with fail;go_region_with (go_at_call 161;refine(cC ((x.c i).F.length:Nat) _).mono ?_;rintro e J ⟨rfl,l⟩;have u:=Ext.trans (Ext.refl d).drew l;have q:=uU (Z.ext u);have H:=uU (X2.trans u);obtain⟨u0,u1,u2,u3,u4,u5,u6,u7⟩:=q.boxes y;have C:w.heap.size+1<J.heap.size:=uL u5;clear l u)
  all_goals
   go_wp2_with fail;refine bodyPost_ret (v:=eX 0 ((x.c i).F.length:Nat)) (by simp [results,results253,go_sem,u5,u6]) rfl ?_;exact a1k y q H V0 (.inr ⟨D,by rw[<-uH HI];exact⟨rfl,rfl,rfl⟩⟩)
def a4m(z:Hp)(i m:Nat):Hp:={ z with A:=z.A.set i (tZ (z.c i) m) }
theorem c6h(z:Hp)(i m:Nat)(a:i<z.A.length)(q:Nat):(a4m z i m).c q=if q=i then tZ (z.c i) m else z.c q:=Hp.c_set z i (tZ (z.c i) m) a q
theorem moreH_0(z:Hp)(i:Nat)(a:i<z.A.length):a4m z i 0=z:=by
 have e:tZ (z.c i) 0=z.A[i]:=by rw[Hp.c_eq];simp [tZ]
 unfold a4m;rw[e,List.set_getElem_self]
theorem moreH_s(z:Hp)(i m:Nat)(a:i<z.A.length):moreP (a4m z i m) i=a4m z i (m+1):=by
 have e:=c6h z i m a i;rw[if_pos rfl] at e;unfold moreP;rw[e];simp [a4m,tZ,List.replicate_succ']
theorem c8d(z:Hp)(i m:Nat):(a4m z i m).A.length=z.A.length:=by simp [a4m]
theorem d1p(z:Hp)(i m:Nat)(a:i<z.A.length):((a4m z i m).c i).F.length=(z.c i).F.length+m:=by grind [a4m,Hp.c,c6h,tZ]
abbrev GrwPo[Inhabited uQ](B g:Nat)(x:Hp)(a c:Nat)(v:World)(e:Ending)(w':World):Prop:=∃(y:Hp) (cd nm:Int),Hid (e=.returned (eX cd nm))/\Hid (b5z x a c (x.at a) y cd nm)/\Hid (GOk B w' g y)/\Ext v w'
theorem c4w[p:Inhabited uQ](B g:Nat)(x:Hp)(a b c:Nat)(n:Int)(w:World)(h:GOk B w g x)(s:Snd x)(ha:a<16)(hc:c<=200)(hk:(x.r a).k=2)(v:World)(hv:v.heap.size<=B)(hx:Ext v w):
  Calls prog 262 #[pP g,yQ 9 a b c n] w λe w'=>GrwPo B g x a c v e w':=by
 obtain⟨p1,o1,g1⟩:=GOk.enter h (w0:=doW w 9 a b c n) (((Ext.refl w).alloc _).alloc _);obtain⟨V,E⟩:∃W,W=doW w 9 a b c n:=⟨_,rfl⟩;have bx:=tL.new w 9 a b c n;have x1:Ext v (doW w 9 a b c n):=(hx.alloc _).alloc _;rw[<-E] at g1 bx x1;obtain⟨br,kr,hr⟩:=g1.B s.r1.B;have c3:=hr.c3;obtain⟨r0,r1,r2⟩:=hr.r a ha;have t:g<V.heap.size:=uL c3;have F:br<V.heap.size:=uL r0;have H:=uU o1;have G1:=uU g1;have V0:=uU (show v.heap.size<=w.heap.size+1 by have:=hx.size;omega);have X1:=uU x1;obtain⟨f,L,O,K,J,G,I,M⟩:=bx;have av:w.heap.size<V.heap.size:=uL f;have j0:(0:Int)<=(a:Int):=by omega
 have j1:(a:Int)<16:=by omega
 have D:=uU hk;obtain⟨en,ea,hi,st,nd⟩:=s.at a ha hk;obtain⟨i,hI⟩:∃i,i=x.at a:=⟨_,rfl⟩;have HI:=uU hI;rw[<-hI] at ea hi st nd;rw[ea] at r2;have S:=uU s;have ad:=s.ok.p200 i hi;have i0:(0:Int)<=(i:Int):=by omega
 have i1:(i:Int)<(x.A.length:Int):=by omega
 obtain⟨bc,kc,ap,kp,T⟩:=g1.cel i hi;have c4:=T.c4;have p7:=T.p7;have ai:bc<V.heap.size:=uL p7;obtain⟨l,Z⟩:∃l,l=(x.c i).F.length:=⟨_,rfl⟩;rw[<-Z] at p7 ad;have LL:=uU Z;clear Z;clear hk ea hI s en nd T;clear h hr o1 g1 x1;go_enter func262,ntmps262;go_wp2_with fail;unfold doW at E;rw[<-E];clear E;by_cases hl:l+c<=200
 ·have q1:¬((l:Int)+(c:Int) > 200):=by omega
  have QR:=uU (λ(W:World) (xW:Ext V W)=>b5y B g x c W (G1.ext xW) S (by omega) v hv (X1.trans xW));go_quiet (fail);go_wp2_with fail;refine(QR _ ((Ext.refl V).drewN nq)).mono ?_;rintro e w2 ⟨z,rfl,hz,g2,x2⟩;have G2:=uU g2;have X2:=uU x2;have HZ:=uU hz;clear g2 x2 hz QR c3 r0 r1 r2 c4 p7 f L O K J G I M t F av ai q1 i0 i1 G1 X1;obtain⟨f,L,O,K,J,G,I,M⟩:=G2.boxes H;have ay:w.heap.size<w2.heap.size:=uL f;have aj:w.heap.size+1<w2.heap.size:=uL G;cases hf:a2q z c
  ·have HF:=uU hf;clear hf;go_wp2_with fail;refine(a0m 4 _).mono ?_;rintro e w3 ⟨rfl,x3⟩;have C:=uU (G2.ext x3);have X3:=uU (X2.trans x3);clear f L O K J G I M;obtain⟨u0,u1,u2,u3,u4,u5,u6,u7⟩:=C.boxes H;have u:w.heap.size+1<w3.heap.size:=uL u5;clear x3;go_wp2_with fail;refine bodyPost_ret (v:=eX 4 0) (by simp [results,results262,go_sem,u5,u6]) rfl ?_;exact⟨_,4,0,rfl,⟨rfl,.inr ⟨by rw[<-uH HI,<-uH LL];exact hl,z,HZ,.inl ⟨HF,rfl,rfl⟩⟩⟩,GOk.done H C 4 0,dH X3 V0 4 0⟩
  ·have HF:=uU hf;clear hf;have sz:=HZ.snd S;obtain⟨k1,k2⟩:=KpN.M S ha D HZ;obtain⟨_,ea,ak,U,_⟩:=sz.at a ha k1;rw[<-uH HI,<-uH LL] at k2;obtain⟨m,hM⟩:∃m,m=z.at a:=⟨_,rfl⟩;have HM:=uU hM;rw[<-hM] at ea ak U k2;have SZ:=uU sz;have ax:=uU (show z.K+c<=z.M by have e:=uH HF;unfold a2q at e;exact of_decide_eq_true e);have KL:=uU k2;have aq:=uU U;obtain⟨au,bb,Q⟩:=G2.B sz.r1.B;have c3:=Q.c3;obtain⟨r0,r1,r2⟩:=Q.r a ha;rw[ea] at r2;have t:g<w2.heap.size:=uL c3;have F:au<w2.heap.size:=uL r2;clear hM k1 ea sz k2 Q U r0 r1;go_wp2_with fail;go_quiet (fail);obtain⟨W3,P⟩:∃W,W=w2.drewN nq:=⟨_,rfl⟩;have aa:Ext w2 W3:=by rw[P];exact(Ext.refl _).drewN _
   have C:=uU (G2.ext aa);have X3:=uU (X2.trans aa);rw[<-P];clear P aa c3 r2 t F f L O K J G I M ay aj G2 X2;obtain⟨f,L,O,K,J,G,I,M⟩:=C.boxes H;have u:w.heap.size<W3.heap.size:=uL f;clear f L O J G I M;go_wp2_with fail;obtain⟨ar,al,ac,ae,vg,ag,d,pb,pa,pk,N,A⟩:=uH C;have af:=uU (show GK B W3 g z ar al ac ae vg ag d from⟨pb,pa,pk,N,A⟩);have ZR:=uU (show 0<z.B.length by rw[SZ.r1.B];omega);have o:=uU ak;clear A C;go_loopw [7] (λsi wr=>∃k:Nat,k<=c/\si=iv k/\Hid (GK B wr g (a4m z m k) ar al ac ae vg ag d)/\Hid (Ext v wr)) (λsi _=>c-(intOf si).toNat)
   case atStart=>exact⟨0,Nat.zero_le _,rfl,by rw[moreH_0 z m (uH o)];exact uH af,X3⟩
   case round=>
    clear af X3 K u;obtain⟨k,hk,rfl,hG,hX⟩:=hrel;obtain⟨f,L,O,K,J,G,I,M⟩:=hG.ok.boxes H;have u:w.heap.size<wr.heap.size:=uL f;clear f L O J G I M;by_cases bf:k<c
    ·have aw:(k:Int)<(c:Int):=by omega
     have NX:=uU (moreH_s z m k o);have PL:=uU (show((a4m z m k).c m).F.length<200 by rw[d1p z m k (uH o),uH KL];omega);have X:m<(a4m z m k).A.length:=by rw[c8d];exact o
     have ab:=uU (show 0<(a4m z m k).B.length from uH ZR);obtain⟨q,hq⟩:∃q,q=a4m z m k:=⟨_,rfl⟩;rw[<-hq] at hG NX PL ab X;clear hq;obtain⟨pb,pa,pk,N,A⟩:=uH hG;have HA:=uU A;have hn:0<q.A.length:=by omega
     have c4:=A.bx.2.2.2.2.1;rw[A.hc hn] at c4;have p7:=A.rw.p7 m X;have f7:=(A.rw.nc hn).1.2 (m*8+7);have R:v.heap.size<=d:=Nat.le_trans hv (A.rw.nc hn).2;have t:g<wr.heap.size:=uL c4;have F:d<wr.heap.size:=uL p7;have m0:(0:Int)<=(m:Int):=by omega
     have m1:(m:Int)<(q.A.length:Int):=by omega
     have wk:wrap64 ((k:Int)+1)=(k:Int)+1:=a3n _ (by omega) (by omega);have WK:=uU wk;clear A wk;go_wp2_with fail;go_region_law (refine c8c _ rfl _ _ rfl HA m X ab PL (by first | exact(Ext.refl wr).alloc _ | exact((Ext.refl wr).alloc _).drew | exact(Ext.refl wr).drew.alloc _) _ 1 (by first | rfl | simp [Act.eval,Act.put]) (by first | rfl | simp [Act.eval,Act.put];rfl) (World.news_of_block (cs:=#[iv 0,iv 0,iv 0,iv 0,iv 0,iv 0]) (by first | exact heap_alloc_new _ _ | simp)) v hv hX ?_;intro a' k' w3 j;have ao:=(World.cell?_of_block (a:=(aA g 4)) (j.far g (.inl rfl))).trans c4;have an:=(World.cell?_of_block (a:=(aA d (m*8+7))) (j.far d (.inr rfl))).trans p7;have ba:=(World.frozen?_of_block (a:=(aA d (m*8+7))) (j.far d (.inr rfl))).trans f7;have be:g<w3.heap.size:=uL ao;have bg:d<w3.heap.size:=uL an;have HP:=uU j;clear j)
     all_goals
      go_wp2_with fail;go_roundw
      case rel=>exact⟨k+1,by omega,by go_num,by rw[<-uH NX];first | exact HP.gk _ (Ext.refl _) | exact HP.gk _ (Ext.refl _).drew | exact(HP.gk _ (Ext.refl _)).ext (Ext.refl _).drew,by first | exact HP.ex.setCell (p:=(aA d (m*8+7))) R _ | exact HP.ex.drew.setCell (p:=(aA d (m*8+7))) R _ | exact(HP.ex.setCell (p:=(aA d (m*8+7))) R _).drew⟩
      case measure=>simp [intOf];omega
    ·have am:k=c:=by omega
     have aw:¬((k:Int)<(c:Int)):=by omega
     have c1:wr.cell? (aA g 1)=some (iv z.K):=hG.ok.nums.2.1;obtain⟨_,_,_,fb,az,t⟩:=hG.ok.box;have f1:=fb 1;have us:=SZ.ok;have hu:0<=z.K/\z.K<=4000:=by have h3:=SZ.r3;have h1:=SZ.r1.M;unfold R3 at h3;omega
     have WU:=uU (show wrap64 (z.K+(c:Int))=z.K+(c:Int) from a3n _ (by omega) (by omega));have sg:=SZ.grow m c o aq (by rw[uH KL];exact hl) ax;have GF:=uU (show GOk B (wr.setCell (aA g 1) (iv (z.K+(c:Int)))) g (zU z m c) from by have:=hG.ok.set1 (z.K+(c:Int));rw[am] at this;exact this);have XF:=uU (show Ext v (wr.setCell (aA g 1) (iv (z.K+(c:Int)))) from hX.setCell (p:=(aA g 1)) (Nat.le_trans hv az) _);have QP:=uU (λ(W:World) (xW:Ext (wr.setCell (aA g 1) (iv (z.K+(c:Int)))) W)=>a9t B g (zU z m c) c W (GF.ext xW) sg (by omega) v hv (XF.trans xW));clear sg us fb hG hX GF XF am;go_wp2_with fail
     go_region
     go_wp2_with fail;refine(QP _ (Ext.refl _).drew).mono ?_;rintro e w5 ⟨y,rfl,ah,g5,x5⟩;have G5:=uU g5;have X5:=uU x5;have PC:=uU ah;clear g5 x5 ah QP K u c1 f1;go_wp2_with fail;refine(cC 0 _).mono ?_;rintro e w6 ⟨rfl,x6⟩;have G6:=uU (G5.ext x6);have X6:=uU (X5.trans x6);obtain⟨u0,u1,u2,u3,u4,u5,u6,u7⟩:=G6.boxes H;have bd:w.heap.size+1<w6.heap.size:=uL u5;clear x6;go_wp2_with fail;refine bodyPost_ret (v:=eX 0 0) (by simp [results,results262,go_sem,u5,u6]) rfl ?_;exact⟨_,0,0,rfl,⟨rfl,.inr ⟨by rw[<-uH HI,<-uH LL];exact hl,z,HZ,.inr ⟨HF,rfl,by rw[<-uH HM];exact uH PC⟩⟩⟩,GOk.done H G6 0 0,dH X6 V0 0 0⟩
 ·have q1:(l:Int)+(c:Int) > 200:=by omega
  go_quiet (fail);go_wp2_with fail;refine(a0m 5 _).mono ?_;rintro e w3 ⟨rfl,x3⟩;have Y:=((Ext.refl V).drewN nq).trans x3;have C:=uU (G1.ext Y);have X3:=uU (X1.trans Y);obtain⟨u0,u1,u2,u3,u4,u5,u6,u7⟩:=C.boxes H;have u:w.heap.size+1<w3.heap.size:=uL u5;clear x3 Y;go_wp2_with fail;refine bodyPost_ret (v:=eX 5 0) (by simp [results,results262,go_sem,u5,u6]) rfl ?_;exact⟨_,5,0,rfl,⟨rfl,.inl ⟨by rw[<-uH HI,<-uH LL];omega,rfl,rfl⟩⟩,GOk.done H C 5 0,dH X3 V0 5 0⟩
theorem a5s[p:Inhabited uQ](B g:Nat)(x:Hp)(k:Nat)(op:Int)(a b c:Nat)(n:Int)(w:World)(h:GOk B w g x)(s:Snd x)(m:a<16)(v:World)(l:Ext v w)(i:¬(x.r a).k=2->DoR x a b c n x 2 0 k)(j:(x.r a).k=2->Calls prog 253 #[pP g,yQ op a b c n] w λe w'=>zN B g x a b c n k v e w'):
  Calls prog 253 #[pP g,yQ op a b c n] w λe w'=>zN B g x a b c n k v e w':=by
 by_cases f:(x.r a).k=2
 ·exact j f
 ·exact(b7w B g x op a b c n w h s m f v l).mono λe o d=>⟨x,2,0,d.1,i f,d.2.1,d.2.2⟩
def calK(k:Nat):FuncId:=if k<=8 then 252 else 253
theorem a1x[p:Inhabited uQ](B g:Nat)(x:Hp)(k:Nat)(op:Int)(a b c:Nat)(n:Int)(w:World)(M:(k=5/\op=5)\/(k=6/\op=6)\/(k=7/\op=7)\/(k=8/\op=8)\/(k=10/\op=10)\/(k=11/\op=11)\/(k=12/\op=12)\/(k=16/\op=16)\/(k=17/\op=17))(h:GOk B w g x)(N:qL op a b c n=true)(v:World)(q:Ext v w)
  (O:∀(_:Inhabited uQ) (w1:World),GOk B w1 g x->Ext v w1->Calls prog (calK k) #[pP g,yQ op a b c n] w1 λe w'=>zN B g x a b c n k v e w') :
  Calls prog 234 #[pP g,yQ op a b c n] w λe w'=>zN B g x a b c n k v e w':=by
 obtain⟨t,r,K⟩:=GOk.enter h (w0:=doW w op a b c n) (((Ext.refl w).alloc _).alloc _);have J:=uU K;have o:=uU r;have m:=uU (λW=>a1n op a b c n W);rw[N] at m;have L:=uU (show v.heap.size<=w.heap.size+1 by have:=q.size;omega);have z:=uU (show Ext v (doW w op a b c n) from(q.alloc _).alloc _);have H:=uU (tL.new w op a b c n);rcases M with⟨rfl,rfl⟩ | ⟨rfl,rfl⟩ | ⟨rfl,rfl⟩ | ⟨rfl,rfl⟩ | ⟨rfl,rfl⟩ | ⟨rfl,rfl⟩ | ⟨rfl,rfl⟩ | ⟨rfl,rfl⟩ | ⟨rfl,rfl⟩
 all_goals
  go_enter func234,ntmps234;go_wp2_with fail;refine(m _).mono ?_;rintro e w1 ⟨rfl,j⟩;have s:=uU (z.trans j);have i:=uU (H.ext j);obtain⟨Y,U,T,V,Q,X,P,S⟩:=uH i;have F:=uU (J.ext j);have C:=uU (O t w1 F s);go_wp2_with fail;refine C.mono ?_;rintro e R ⟨y,f,d,I,D,E,A⟩;have G:=uH I;subst G;have l:=uU E;have u:=uU A;obtain⟨u0,u1,u2,u3,u4,u5,u6,u7⟩:=l.boxes o;go_wp2;refine bodyPost_ret (v:=eX f d) (by simp [results,results234,go_sem,u5,u6]) rfl ?_;exact⟨y,f,d,rfl,D,GOk.done o l f d,dH u L f d⟩
end Go.Proofs.YtddkhnclmeikfaaGreat
