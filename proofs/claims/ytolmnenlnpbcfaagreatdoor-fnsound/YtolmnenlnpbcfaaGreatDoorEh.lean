import Derived.Test.YtolmnenlnpbcfaaGreatDoorTe
import Derived.Test.YtolmnenlnpbcfaaGreatDoorDmn
set_option maxRecDepth 100000
set_option maxHeartbeats 40000000
namespace Go.Proofs.YtolmnenlnpbcfaaGreatDoor
open Go.RowKit Tryz
attribute [local go_sem ↓] Go.wp_at_zero Go.wp_at_succ
variable{B g:Nat}{w W:World}{x y:Hp}
structure GCel[qd](B:Nat)(w:World)(g:Nat)(x:Hp)(i bc kc:Nat)(ap:Option Addr)(kp:Nat):Prop where
 c4:w.cell? ⟨g,4,none⟩=some (.slice (some ⟨bc,0,none⟩) x.A.length kc)
 s:S7 w bc (i*8) (x.c i)
 p7:w.cell? ⟨bc,i*8+7,none⟩=some (.slice ap (x.c i).F.length kp)
 f:∀j,w.frozen? ⟨bc,j,none⟩=false
 lo:B<=bc/\bc<w.heap.size
 set2:∀(W:World)(u:Int),Ext w W->GOk B (W.setCell ⟨bc,i*8+2,none⟩ (iv u)) g (hD x i (b5j (x.c i) u))
 set3:∀(W:World)(u:Int),Ext w W->GOk B (W.setCell ⟨bc,i*8+3,none⟩ (iv u)) g (hD x i (qN (x.c i) u))
theorem GOk.cel[qd](h:GOk B w g x)(i:Nat)(d:i<x.A.length):∃bc kc ap kp,GCel B w g x i bc kc ap kp:=by
 have⟨E,y,D,kc,A,C,bc,z,v,t,a,h⟩:=h;have c:0<x.A.length:=by omega
 refine⟨bc,kc,v i,t i,by have:=h.bx.2.2.2.2.1;rw[h.hc c]at this;exact this,h.rw.s i d,h.rw.p7 i d,(h.rw.nc c).1.2,⟨(h.rw.nc c).2,(h.rw.nc c).1.1⟩,λW u e=>?_,λW u e=>?_⟩
 ·have b:=h.ext e;have⟨o,k,n,r,f,l,m⟩:=b.rw.s i d;refine⟨E,y,D,kc,A,C,bc,z,v,t,a,b.setc d rfl (tE W bc (i*8+2) _) ⟨?_,?_,kM _ _ _ n,?_,?_,?_,?_⟩ (λj F=>uC _ (.inr (by omega))) ((b.rw.nc c).1.set _ _)⟩;all_goals
   rw[uC _ (.inr (by omega))];assumption
 have b:=h.ext e;have⟨o,k,n,r,f,l,m⟩:=b.rw.s i d;refine⟨E,y,D,kc,A,C,bc,z,v,t,a,b.setc d rfl (tE W bc (i*8+3) _) ⟨?_,?_,?_,kM _ _ _ r,?_,?_,?_⟩ (λj F=>uC _ (.inr (by omega))) ((b.rw.nc c).1.set _ _)⟩;all_goals
  rw[uC _ (.inr (by omega))];assumption
abbrev b3s(w:World):World:=w.alloc (.cells #[iv 0,iv 0] 35)
structure ABox(w W:World):Prop where
 r0:W.cell? ⟨w.heap.size,0,none⟩=some (iv 0)
 r1:W.cell? ⟨w.heap.size,1,none⟩=some (iv 0)
 rf:∀j,W.frozen? ⟨w.heap.size,j,none⟩=false
theorem ABox.new(w:World):ABox w (b3s w):=by refine⟨?_,?_,λj=>by simp[go_sem]⟩<;>simp[go_sem]
theorem GOk.abox{p p1:Inhabited uL}(o:Own p w.heap.size (b3s w).heap.size (b3s w) p1)(h:@GOk p1 B W g y):ABox w W:=by
 have e:=GOk.own o h w.heap.size (hT _) (by simp[b3s]);have n:=ABox.new w;exact⟨(cOb w.heap.size 0 e).trans n.r0,(cOb w.heap.size 1 e).trans n.r1,λj=>(fOb w.heap.size j e).trans (n.rf j)⟩
theorem GOk.done1{p p1:Inhabited uL}(o:Own p w.heap.size (b3s w).heap.size (b3s w) p1)(h:@GOk p1 B W g y)(b a:Int):@GOk p B (putA W w.heap.size b a) g y:=
 GOk.leave o h (uQ.setCell (uQ.setCell (uQ.refl _ W) (p:=(aA w.heap.size 0)) ⟨hT _,by simp[b3s]⟩ _) (p:=(aA w.heap.size 1)) ⟨hT _,by simp[b3s]⟩ _)
theorem d0o[p:qd](B g:Nat)(x:Hp)(a:Nat)(w:World)(h:GOk B w g x)(s:Snd x)(H:a<16)(v:World)(hv:v.heap.size<=B)(hx:Ext v w):
  Calls prog 96 #[pP g,iv a] w λe w'=>∃(y:Hp)(nm:Int),e=.returned (tQ 0 nm)/\Hid (b5k x a y nm)/\Hid (GOk B w' g y)/\Ext v w':=by
 have⟨p1,o1,L⟩:=GOk.enter h (w0:=b3s w) (eAl w _);have Y:=uU L;have C:=uU s.r1.B;have QN:=uU (show Calls prog 157 #[pP g] (b3s w) λe w'=>∃r:Int,e=.returned (iv r)/\Hid (qD x x.A.length r)/\Ext (b3s w) w' from by
  obtain⟨ar,Z,ac,kc,vg,j,F,pb,pa,pk,aa,h⟩:=L;obtain⟨ag,kg,M⟩:=h.hat s;refine(c6f x g _ M s.ok.n8).mono ?_;rintro e w' h2;exact h2)
 have V0:v.heap.size<=w.heap.size:=hx.size;have i0:=i0N a;have i1:(a:Int)<16:=by omega
 clear h s L;go_in;go_wp21;refine QN.mono ?_;rintro e k ⟨r,rfl,u,P⟩;have X1:=(show Ext v (b3s w) from hx.alloc _).trans P;have X:=uU (Y.ext P);clear P Y QN;by_cases h0:r<0
 ·have D:=uU (show qD x x.A.length (-1) by
   obtain⟨e,h⟩|⟨i,e,_⟩:=u;exact .inl ⟨rfl,h⟩;omega)
  clear u;have⟨j,Z,d⟩:=X.B C;have R1:=uU d;have A:=d.c3;have⟨E,I,N⟩:=d.r a H;have f:=d.f;have Q:=cLt A;have J:=cLt E;have S:=d.lo.1;have l:GOk B (cQ k j (a*3) Wd0) g (regTo x a Wd0)/\Ext v (cQ k j (a*3) Wd0):=⟨d.set k a Wd0 (hO _) H,(cE k j (a*3) Wd0).ext X1 (λq hq e=>by omega)⟩;have⟨W2,b⟩:∃W,W=cQ k j (a*3) Wd0:=⟨_,rfl⟩;rw[<-b]at l;unfold cQ Wd0 at b;clear d;go_wp21;rw[<-b];refine(a0j 0 _).mono ?_;rintro e R ⟨rfl,n⟩;have z:=l.1.ext n;have O:=l.2.trans n;have⟨u5,u6,u7⟩:=GOk.abox o1 z;have V:=cLt u5;clear n l b A E I N f;go_wp21;refine bodyPost_ret (v:=tQ 0 0) (by simp[results,results96,go_sem,u5,u6]) rfl ?_;exact⟨_,0,rfl,.inl ⟨D,rfl,rfl⟩,GOk.done1 o1 z 0 0,eY O V0 0 0⟩
 have⟨i,hi,K,D⟩:∃i:Nat,r=(i:Int)/\i<x.A.length/\Hid (qD x x.A.length (i:Int)):=by
  obtain e|⟨i,e,h⟩:=u.form;omega;exact⟨i,e,h,by have:=uH u;rw[e]at this;exact this⟩
 subst hi;clear u;have⟨F,kc,ap,kp,t⟩:=X.cel i K;have c4:=t.c4;have⟨q0,q1,q2,q3,q4,q5,q6⟩:=t.s;have fc:=t.f;have U:=cLt c4;have T:=cLt q3;have k0:=i0N i;have k1:(i:Int)<(x.A.length:Int):=by omega
 have G2:=uU (t.set3 k 3 (hO _));have X2:=uU (X1.setCell (p:=(aA F (i*8+3))) (kA hv t.lo.1) (iv 3));obtain⟨o,m⟩:∃W,W=k.setCell (aA F (i*8+3)) (iv 3):=⟨_,rfl⟩;rw[<-m]at G2 X2;obtain⟨j,Z,d⟩:=G2.B (show(hD x i (qN (x.c i) 3)).B.length=16 from uH C);have A:=d.c3;have⟨E,I,N⟩:=d.r a H;have f:=d.f;have Q:=cLt A;have J:=cLt E;have S:=d.lo.1;have l:GOk B (cQ o j (a*3) ⟨2,0,i⟩) g (regTo (hD x i (qN (x.c i) 3)) a ⟨2,0,i⟩)/\Ext v (cQ o j (a*3) ⟨2,0,i⟩):=⟨d.set o a ⟨2,0,i⟩ (hO _) H,(cE o j (a*3) ⟨2,0,i⟩).ext X2 (λq hq e=>by omega)⟩;have⟨W2,b⟩:∃W,W=cQ o j (a*3) ⟨2,0,i⟩:=⟨_,rfl⟩;rw[<-b]at l;unfold cQ at b;clear d t;go_upto_region 6 with(fail);rw[<-m];clear m c4 q0 q1 q2 q3 q4 q5 q6 fc U T;go_wp21;rw[<-b];refine(a0j 1 _).mono ?_;rintro e R ⟨rfl,n⟩;have z:=l.1.ext n;have O:=uU (l.2.trans n);have⟨u5,u6,u7⟩:=GOk.abox o1 z;have V:=cLt u5;clear n l b A E I N f;go_wp21;refine bodyPost_ret (v:=tQ 0 1) (by simp[results,results96,go_sem,u5,u6]) rfl ?_;exact⟨_,1,rfl,.inr ⟨i,D,rfl,rfl⟩,GOk.done1 o1 z 0 1,eY O V0 0 1⟩
structure GPr[qd](B:Nat)(w:World)(g:Nat)(x:Hp)(i k bc kc bp kp:Nat):Prop where
 c4:w.cell? ⟨g,4,none⟩=some (.slice (some ⟨bc,0,none⟩) x.A.length kc)
 p7:w.cell? ⟨bc,i*8+7,none⟩=some (.slice (some ⟨bp,0,none⟩) (x.c i).F.length kp)
 pr:qC w bp (k*6) ((x.c i).p k)
 f:∀j,w.frozen? ⟨bp,j,none⟩=false
 lo:B<=bp/\bp<w.heap.size
 set:∀(W:World)(q:Pr),Ext w W->GOk B (yE W bp (k*6) q) g (hD x i { x.c i with F:=(x.c i).F.set k q })
theorem GOk.prw[qd](h:GOk B w g x)(i:Nat)(a:i<x.A.length)(k:Nat)(f:k<(x.c i).F.length):∃bc kc bp kp,GPr B w g x i k bc kc bp kp:=by
 obtain⟨D,t,A,kc,v,y,bc,l,C,n,b,h⟩:=h;have s:0<x.A.length:=by omega
 have m:0<(x.c i).F.length:=by omega
 obtain⟨u,o,_,r⟩:=h.rw.pl i a (h.rw.pw a m);refine⟨bc,kc,l i,n i,?_,?_,h.rw.p i a k f,o.2,⟨r,o.1⟩,λW q e=>?_⟩;have:=h.bx.2.2.2.2.1;rw[h.hc s]at this;exact this;have:=h.rw.p7 i a;rw[u]at this;exact this;have d:=h.ext e;exact⟨D,t,A,kc,v,y,bc,l,C,n,b,d.setp i a k f q (a2d _ _ _ _) (b5e (d.rw.pl i a (d.rw.pw a m)).2.1.n1 _ _) (b5d _ _ _ _ _ (d.rw.p i a k f)) (λj z=>a7b _ _ _ _ j z)⟩
theorem GPr.ext[qd]{w':World}{i k bc kc bp kp:Nat}(h:GPr B w g x i k bc kc bp kp)(e:Ext w w'):GPr B w' g x i k bc kc bp kp:=
 ⟨e.keep h.c4,e.keep h.p7,h.pr.ext e,λj=>((cX e).2 bp j h.lo.2).trans (h.f j),⟨h.lo.1,kF h.lo.2 e.size⟩,λW q a=>h.set W q (e.trans a)⟩
theorem d4u[p:qd](q:Nat)(o:Int)(hq:q=5/\o=5\/q=6/\o=6)(B g:Nat)(x:Hp)(a b c:Nat)(n:Int)(w:World)(h:GOk B w g x)(s:Snd x)(ha:a<16)(hb:b<16)(v:World)(hv:v.heap.size<=B)(hx:Ext v w):
  Calls prog 93 #[pP g,yU o a b c n] w λe w'=>a1b B g x a b c n q v e w':=by
 obtain⟨p1,o1,g1⟩:=GOk.enter h (w0:=doW w o a b c n) ((eAl w _).alloc _);obtain⟨br,kr,y⟩:=g1.B s.r1.B;have J:=uU o1;have G1:=uU g1;have R1:=uU y;have S:=uU s;have V0:=uU (show v.heap.size<=w.heap.size+1 by have:=hx.size;omega);have X1:=uU (show Ext v (doW w o a b c n) from(hx.alloc _).alloc _);obtain⟨E,V,Y,I,t4,t5,Z,t7⟩:=yZ.new w o a b c n;have G:=y.c3;obtain⟨M,U,N⟩:=y.r b hb;have j0:=i0N b;have j1:(b:Int)<16:=by omega
 clear h s y o1 g1;obtain⟨F,X⟩:∃s:Pr->Wd,s=(if q=5 then Pr.key else Pr.val):=⟨_,rfl⟩;have HS:=uU X;clear X;have hq:(o == 5)=true/\q=5\/((o == 5)=false/\(o == 6)=true)/\q=6:=by obtain⟨rfl,rfl⟩|⟨rfl,rfl⟩:=hq <;> simp
 obtain⟨f5,rfl⟩|⟨⟨f5,f6⟩,rfl⟩:=hq;all_goals
  cases T:((x.r b).k == 2)
  have ae:((x.r b).k != 2)=true:=by simpa using T
  have D:=uU (show(x.r b).k≠2 by simpa using T);clear T;go_in;go_wp21;refine(a0s 2 _).mono ?_;rintro e w3 ⟨rfl,L⟩;have A:=uU (G1.ext L);have X3:=uU (X1.trans L);clear L G M U N E V Y I t4 t5 Z t7;obtain⟨u0,u1,u2,u3,u4,u5,u6,u7⟩:=A.boxes J;have aa:w.heap.size+1<w3.heap.size:=uZ u5;go_wp21;refine bodyPost_ret (v:=tQ 2 0) (by simp[results,results93,go_sem,u5,u6]) rfl ?_;exact⟨_,2,0,rfl,.inl ⟨D,rfl,rfl,rfl⟩,GOk.done J A 2 0,eY X3 V0 2 0⟩;have ae:((x.r b).k != 2)=false:=by simpa using T
  have D:=uU (show(x.r b).k=2 by simpa using T);obtain⟨_,ea,hi,_,_⟩:=S.at b hb D;have ab:=S.ok.p200 _ hi;obtain⟨i,hI⟩:=obE (x.at b);have HI:=uU hI;rw[<-hI]at ea hi ab;rw[ea]at N;clear T ea hI;have i0:=i0N i;have i1:(i:Int)<(x.A.length:Int):=by omega
  by_cases hc:c<(x.c i).F.length
  ·have ag:¬((c:Int)≥((x.c i).F.length:Int)):=by omega
   have an:(c:Int)<((x.c i).F.length:Int):=by omega
   have av:=i0N c;obtain⟨bc,kc,bp,kp,hp⟩:=G1.prw i hi c hc;have P1:=uU hp;have Q:=hp.c4;have R:=hp.p7;obtain⟨e0,e1,e2,e3,e4,e5⟩:=hp.pr;clear hp;go_in;go_wp21;go_quiet (fail);obtain⟨t,l⟩:∃W,W=(doW w o a b c n).drewN nq:=⟨_,rfl⟩;rw[<-l];have d:Ext (doW w o a b c n) t:=by rw[l];exact Ext.drewN (hO _) nq
   have G2:=uU (G1.ext d);have X2:=uU (X1.trans d);have Q:=d.keep Q;have R:=d.keep R;have E:=d.keep E;have I:=d.keep I;have e0:=d.keep e0;have e1:=d.keep e1;have e2:=d.keep e2;have e3:=d.keep e3;have e4:=d.keep e4;have e5:=d.keep e5;have ad:=cLt Q;have ah:=cLt R;have ai:=cLt e0;have aj:=cLt E;clear l d;clear G M U N V Y t4 t5 Z t7;go_wp21;go_region;obtain⟨z,C⟩:∃W,W=(t.alloc (oPr ((x.c i).p c))).drew:=⟨_,rfl⟩;rw[<-C];have O:Ext t z:=by rw[C];exact(eAl t _).drew
   have PB:qC z t.heap.size 0 ((x.c i).p c):=by rw[C];exact⟨by simp[go_sem],by simp[go_sem],by simp[go_sem],by simp[go_sem],by simp[go_sem],by simp[go_sem]⟩
   obtain⟨y0,y1,y2,y3,y4,y5⟩:=PB;have A:=uU (G2.ext O);have X3:=uU (X2.trans O);clear C O Q R E I e0 e1 e2 e3 e4 e5 ad ah ai aj;obtain⟨E,V,Y,I,t4,t5,Z,t7⟩:=A.boxes J;obtain⟨u,ao,y⟩:=A.B S.r1.B;have R3:=uU y;have G:=y.c3;obtain⟨M,U,N⟩:=y.r a ha;have f:=y.f;have al:=cLt G;have af:=cLt M;have aq:=y.lo.1;have aa:=cLt E;have au:=cLt y0;have a0:=i0N a;have a1:(a:Int)<16:=by omega
   have FK:=uU (show uJ ((x.c i).p c).key x.A.length/\uJ ((x.c i).p c).val x.A.length from by
    have:=((S.r4.2 i hi).2 c hc).2 (by rw[uH HI];exact(S.at b hb D).2.2.2.2);exact⟨this.1.1,this.2.1⟩)
   have X:=uH HS;simp at X;have FT:=uU (show uJ (F ((x.c i).p c)) x.A.length by rw[X];first|exact FK.1|exact FK.2);obtain⟨P,K⟩:∃r,r=qK x (F ((x.c i).p c)):=⟨_,rfl⟩;have QR:=uU (show ∀W,Ext z W->Calls prog 153 #[pP g,(F ((x.c i).p c)).v] W λe w'=>e=.returned P.v/\Ext W w' from λW xW=>by
    rw[K];obtain⟨ar,kr,ac,kc,vg,br,bc,pb,pa,pk,ak,h⟩:=A.ext xW;exact a7a (F ((x.c i).p c)) W h FT)
   subst X;clear FT HS FK;have HR:=uU K;have FN:=uU (show ∀W,Ext z W->GOk B (cQ W u (a*3) P) g (regTo x a P)/\Ext v (cQ W u (a*3) P) from λW xW=>⟨R3.set W a P xW ha,(cE W u (a*3) P).ext (X3.trans xW) (λq hq e=>by omega)⟩);unfold cQ at FN;clear y K;go_wp21;go_cut [] (λwx=>Hid (GOk B wx g (regTo x a P))/\Hid (Ext v wx))
   case first=>
    go_region_with (go_at_call 153;refine(QR _ (eDr z)).mono ?_;rintro e w5 ⟨rfl,x5⟩;have j:=kI (eDr z) x5;have k3:=j.keep G;have k0:=j.keep M;have k1:=j.keep U;have k2:=j.keep N;have kf:=λm=>((cX j).2 u m af).trans (f m);have ka:=j.keep V;have F5:=uU (FN w5 j);clear x5 j)
    all_goals
     go_wp21;go_meet;exact⟨F5.1,F5.2⟩
   case rest=>
    obtain⟨G5,X5⟩:=hcut;clear G M U N f E V Y I t4 t5 Z t7 y0 y1 y2 y3 y4 y5 FN QR;go_wp21;refine(a0j 0 _).mono ?_;rintro e w6 ⟨rfl,x6⟩;have G6:=uU (G5.ext x6);have X6:=uU (X5.trans x6);obtain⟨u0,u1,u2,u3,u4,u5,u6,u7⟩:=G6.boxes J;have am:w.heap.size+1<w6.heap.size:=uZ u5;clear x6;go_wp21;refine bodyPost_ret (v:=tQ 0 0) (by simp[results,results93,go_sem,u5,u6]) rfl ?_;exact⟨_,0,0,rfl,.inr (.inr ⟨D,by rw[<-uH HI];exact hc,by rw[<-uH HI];exact congrArg (regTo x a) HR,rfl,rfl⟩),GOk.done J G6 0 0,eY X6 V0 0 0⟩
  have ag:(c:Int)≥((x.c i).F.length:Int):=by omega
  obtain⟨bc,kc,ap,kp,H⟩:=G1.cel i hi;have Q:=H.c4;have R:=H.p7;clear H;go_in;go_wp21;go_quiet (fail);obtain⟨t,l⟩:∃W,W=(doW w o a b c n).drewN nq:=⟨_,rfl⟩;rw[<-l];have d:Ext (doW w o a b c n) t:=by rw[l];exact Ext.drewN (hO _) nq
  clear l;go_wp21;refine(a0s 3 _).mono ?_;rintro e w3 ⟨rfl,L⟩;have A:=uU (G1.ext (d.trans L));have X3:=uU (X1.trans (d.trans L));clear L d G M U N E V Y I t4 t5 Z t7 Q R;obtain⟨u0,u1,u2,u3,u4,u5,u6,u7⟩:=A.boxes J;have aa:w.heap.size+1<w3.heap.size:=uZ u5;go_wp21;refine bodyPost_ret (v:=tQ 3 0) (by simp[results,results93,go_sem,u5,u6]) rfl ?_;exact⟨_,3,0,rfl,.inr (.inl ⟨D,by rw[<-uH HI];omega,rfl,rfl,rfl⟩),GOk.done J A 3 0,eY X3 V0 3 0⟩
end Go.Proofs.YtolmnenlnpbcfaaGreatDoor
