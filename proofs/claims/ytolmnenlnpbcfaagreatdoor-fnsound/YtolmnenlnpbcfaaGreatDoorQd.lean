import Derived.Test.YtolmnenlnpbcfaaGreatDoorDn3
import Derived.Test.YtolmnenlnpbcfaaGreatDoorQe
import Derived.Test.YtolmnenlnpbcfaaGreatDoorOw
set_option maxRecDepth 100000
set_option maxHeartbeats 6000000
namespace Go.Proofs.YtolmnenlnpbcfaaGreatDoor
open Go.RowKit Go.Proofs.Tryz
attribute [local go_sem ↓] Go.wp_at_zero Go.wp_at_succ
variable{x y:Hp}{B b a g C c k:Nat}{w:World}{n cd nm:Int}
def a4h(z:Hp)(i m:Nat):Hp:={ z with A:=z.A.set i (tY (z.c i) m) }
theorem c7y(z:Hp)(i m:Nat)(a:i<z.A.length)(q:Nat):(a4h z i m).c q=if q=i then tY (z.c i) m else z.c q:=Hp.c_set z i (tY (z.c i) m) a q
theorem moreH_0(z:Hp)(i:Nat)(a:i<z.A.length):a4h z i 0=z:=by
 have e:tY (z.c i) 0=z.A[i]:=by rw[Hp.c_eq];simp[tY]
 unfold a4h;rw[e,List.set_getElem_self]
theorem moreH_s(z:Hp)(i m:Nat)(a:i<z.A.length):moreP (a4h z i m) i=a4h z i (m+1):=by
 have e:=c7y z i m a i;rw[if_pos rfl]at e;unfold moreP;rw[e];simp[a4h,tY,List.replicate_succ']
theorem d0s(z:Hp)(i m:Nat):(a4h z i m).A.length=z.A.length:=by simp[a4h]
theorem d4w(z:Hp)(i m:Nat)(a:i<z.A.length):((a4h z i m).c i).F.length=(z.c i).F.length+m:=by grind[a4h,Hp.c,c7y,tY]
abbrev GrwPo[qd](B g:Nat)(x:Hp)(a c:Nat)(v:World)(e:Ending)(w':World):Prop:=∃(y:Hp)(cd nm:Int),Hid (e=.returned (tQ cd nm))/\Hid (a7h x a c (x.at a) y cd nm)/\Hid (GOk B w' g y)/\Ext v w'
theorem c6h[p:qd](B g:Nat)(x:Hp)(a b c:Nat)(n:Int)(w:World)(h:GOk B w g x)(s:Snd x)(ha:a<16)(hc:c<=200)(hk:(x.r a).k=2)(v:World)(hv:v.heap.size<=B)(hx:Ext v w):
  Calls prog 155 #[pP g,yU 9 a b c n] w λe w'=>GrwPo B g x a c v e w':=by
 obtain⟨p1,o1,g1⟩:=GOk.enter h (w0:=doW w 9 a b c n) ((eAl w _).alloc _);obtain⟨V,E⟩:∃W,W=doW w 9 a b c n:=⟨_,rfl⟩;have bx:=yZ.new w 9 a b c n;have x1:Ext v (doW w 9 a b c n):=(hx.alloc _).alloc _;rw[<-E]at g1 bx x1;obtain⟨br,kr,hr⟩:=g1.B s.r1.B;have c3:=hr.c3;obtain⟨r0,r1,r2⟩:=hr.r a ha;have t:=cLt c3;have F:=cLt r0;have H:=uU o1;have G1:=uU g1;have V0:=uU (show v.heap.size<=w.heap.size+1 by have:=hx.size;omega);have X1:=uU x1;obtain⟨f,L,O,K,J,G,I,M⟩:=bx;have av:=cLt f;have j0:=i0N a;have j1:(a:Int)<16:=by omega
 have D:=uU hk;obtain⟨en,ea,hi,st,nd⟩:=s.at a ha hk;obtain⟨i,hI⟩:=obE (x.at a);have HI:=uU hI;rw[<-hI]at ea hi st nd;rw[ea]at r2;have S:=uU s;have ad:=s.ok.p200 i hi;have i0:=i0N i;have i1:(i:Int)<(x.A.length:Int):=by omega
 obtain⟨bc,kc,ap,kp,T⟩:=g1.cel i hi;have c4:=T.c4;have p7:=T.p7;have ai:=cLt p7;obtain⟨l,Z⟩:=obE ((x.c i).F.length);rw[<-Z]at p7 ad;have LL:=uU Z;clear Z;clear hk ea hI s en nd T;clear h hr o1 g1 x1;go_in;go_wp21;unfold doW at E;rw[<-E];clear E;by_cases hl:l+c<=200
 ·have q1:¬((l:Int)+(c:Int) > 200):=by omega
  have QR:=uU (λW(xW:Ext V W)=>b5f B g x c W (G1.ext xW) S (by omega) v hv (X1.trans xW));go_quiet (fail);go_wp21;refine(QR _ ((hO V).drewN nq)).mono ?_;rintro e w2 ⟨z,rfl,hz,g2,x2⟩;have G2:=uU g2;have X2:=uU x2;have HZ:=uU hz;clear g2 x2 hz QR c3 r0 r1 r2 c4 p7 f L O K J G I M t F av ai q1 i0 i1 G1 X1;obtain⟨f,L,O,K,J,G,I,M⟩:=G2.boxes H;have ay:=cLt f;have aj:w.heap.size+1<w2.heap.size:=uZ G;cases hf:zY z c;have HF:=uU hf;clear hf;go_wp21;refine(a0s 4 _).mono ?_;rintro e w3 ⟨rfl,x3⟩;have C:=uU (G2.ext x3);have X3:=uU (X2.trans x3);clear f L O K J G I M;obtain⟨u0,u1,u2,u3,u4,u5,u6,u7⟩:=C.boxes H;have u:w.heap.size+1<w3.heap.size:=uZ u5;clear x3;go_wp21;refine bodyPost_ret (v:=tQ 4 0) (by simp[results,results155,go_sem,u5,u6]) rfl ?_;exact⟨_,4,0,rfl,⟨rfl,.inr ⟨by rw[<-uH HI,<-uH LL];exact hl,z,HZ,.inl ⟨HF,rfl,rfl⟩⟩⟩,GOk.done H C 4 0,eY X3 V0 4 0⟩;have HF:=uU hf;clear hf;have sz:=HZ.snd S;obtain⟨k1,k2⟩:=KpN.M S ha D HZ;obtain⟨_,ea,ak,U,_⟩:=sz.at a ha k1;rw[<-uH HI,<-uH LL]at k2;obtain⟨m,hM⟩:=obE (z.at a);have HM:=uU hM;rw[<-hM]at ea ak U k2;have SZ:=uU sz;have ax:=uU (show z.K+c<=z.M by have e:=uH HF;unfold zY at e;exact of_decide_eq_true e);have KL:=uU k2;have aq:=uU U;obtain⟨au,bb,Q⟩:=G2.B sz.r1.B;have c3:=Q.c3;obtain⟨r0,r1,r2⟩:=Q.r a ha;rw[ea]at r2;have t:=cLt c3;have F:=cLt r2;clear hM k1 ea sz k2 Q U r0 r1;go_wp21;go_quiet (fail);obtain⟨W3,P⟩:∃W,W=w2.drewN nq:=⟨_,rfl⟩;have aa:Ext w2 W3:=by rw[P];exact(hO _).drewN _
  have C:=uU (G2.ext aa);have X3:=uU (X2.trans aa);rw[<-P];clear P aa c3 r2 t F f L O K J G I M ay aj G2 X2;obtain⟨f,L,O,K,J,G,I,M⟩:=C.boxes H;have u:=cLt f;clear f L O J G I M;go_wp21;obtain⟨ar,al,ac,ae,vg,ag,d,pb,pa,pk,N,A⟩:=uH C;have af:=uU (show GK B W3 g z ar al ac ae vg ag d from⟨pb,pa,pk,N,A⟩);have ZR:=uU (show 0<z.B.length by rw[SZ.r1.B];omega);have o:=uU ak;clear A C;go_loopw [7] (λsi wr=>∃k:Nat,k<=c/\si=iv k/\Hid (GK B wr g (a4h z m k) ar al ac ae vg ag d)/\Hid (Ext v wr)) (λsi _=>c-(intOf si).toNat)
  case atStart=>exact⟨0,kB _,rfl,by rw[moreH_0 z m (uH o)];exact uH af,X3⟩
  case round=>
   clear af X3 K u;obtain⟨k,hk,rfl,hG,hX⟩:=hrel;obtain⟨f,L,O,K,J,G,I,M⟩:=hG.ok.boxes H;have u:=cLt f;clear f L O J G I M;by_cases bf:k<c
   ·have aw:(k:Int)<(c:Int):=by omega
    have NX:=uU (moreH_s z m k o);have PL:=uU (show((a4h z m k).c m).F.length<200 by rw[d4w z m k (uH o),uH KL];omega);have X:m<(a4h z m k).A.length:=by rw[d0s];exact o
    have ab:=uU (show 0<(a4h z m k).B.length from uH ZR);obtain⟨q,hq⟩:=obE (a4h z m k);rw[<-hq]at hG NX PL ab X;clear hq;obtain⟨pb,pa,pk,N,A⟩:=uH hG;have HA:=uU A;have hn:0<q.A.length:=by omega
    have c4:=A.bx.2.2.2.2.1;rw[A.hc hn]at c4;have p7:=A.rw.p7 m X;have f7:=(A.rw.nc hn).1.2 (m*8+7);have R:v.heap.size<=d:=kA hv (A.rw.nc hn).2;have t:=cLt c4;have F:=cLt p7;have m0:=i0N m;have m1:(m:Int)<(q.A.length:Int):=by omega
    have wk:wrap64 ((k:Int)+1)=(k:Int)+1:=a1g _ (by omega) (by omega);have WK:=uU wk;clear A wk;go_wp21;go_region_law (refine c8z _ rfl _ _ rfl HA m X ab PL (by first|exact(hO wr).alloc _|exact(eAl wr _).drew|exact(eDr wr).alloc _) _ 1 (by first|rfl|simp[Act.eval,Act.put]) (by first|rfl|simp[Act.eval,Act.put];rfl) (World.news_of_block (cs:=#[iv 0,iv 0,iv 0,iv 0,iv 0,iv 0]) (by first|exact heap_alloc_new _ _|simp)) v hv hX ?_;intro a' k' w3 j;have ao:=(cOb g 4 (j.far g (.inl rfl))).trans c4;have an:=(cOb d (m*8+7) (j.far d (.inr rfl))).trans p7;have ba:=(fOb d (m*8+7) (j.far d (.inr rfl))).trans f7;have be:=cLt ao;have bg:=cLt an;have HP:=uU j;clear j);all_goals
     go_wp21;go_roundw
     case rel=>exact⟨k+1,by omega,by go_num,by rw[<-uH NX];first|exact HP.gk _ (hO _)|exact HP.gk _ (eDr _)|exact(HP.gk _ (hO _)).ext (eDr _),by first|exact HP.ex.sc d (m*8+7) R _|exact HP.ex.drew.sc d (m*8+7) R _|exact(HP.ex.sc d (m*8+7) R _).drew⟩
     simp[intOf];omega
   have am:k=c:=by omega
   have aw:¬((k:Int)<(c:Int)):=by omega
   have c1:wr.cell? (aA g 1)=some (iv z.K):=hG.ok.nums.2.1;obtain⟨_,_,_,fb,az,t⟩:=hG.ok.box;have f1:=fb 1;have us:=SZ.ok;have hu:0<=z.K/\z.K<=4000:=by have h3:=SZ.r3;have h1:=SZ.r1.M;unfold R3 at h3;omega
   have WU:=uU (show wrap64 (z.K+(c:Int))=z.K+(c:Int) from a1g _ (by omega) (by omega));have sg:=SZ.grow m c o aq (by rw[uH KL];exact hl) ax;have GF:=uU (show GOk B (wr.setCell (aA g 1) (iv (z.K+(c:Int)))) g (zD z m c) from by have:=hG.ok.set1 (z.K+(c:Int));rw[am]at this;exact this);have XF:=uU (show Ext v (wr.setCell (aA g 1) (iv (z.K+(c:Int)))) from hX.sc g 1 (kA hv az) _);have QP:=uU (λW(xW:Ext (wr.setCell (aA g 1) (iv (z.K+(c:Int)))) W)=>b5g B g (zD z m c) c W (GF.ext xW) sg (by omega) v hv (XF.trans xW));clear sg us fb hG hX GF XF am;go_wp21;go_region;go_wp21;refine(QP _ (eDr _)).mono ?_;rintro e w5 ⟨y,rfl,ah,g5,x5⟩;have G5:=uU g5;have X5:=uU x5;have PC:=uU ah;clear g5 x5 ah QP K u c1 f1;go_wp21;refine(a0j 0 _).mono ?_;rintro e w6 ⟨rfl,x6⟩;have G6:=uU (G5.ext x6);have X6:=uU (X5.trans x6);obtain⟨u0,u1,u2,u3,u4,u5,u6,u7⟩:=G6.boxes H;have bd:w.heap.size+1<w6.heap.size:=uZ u5;clear x6;go_wp21;refine bodyPost_ret (v:=tQ 0 0) (by simp[results,results155,go_sem,u5,u6]) rfl ?_;exact⟨_,0,0,rfl,⟨rfl,.inr ⟨by rw[<-uH HI,<-uH LL];exact hl,z,HZ,.inr ⟨HF,rfl,by rw[<-uH HM];exact uH PC⟩⟩⟩,GOk.done H G6 0 0,eY X6 V0 0 0⟩
 have q1:(l:Int)+(c:Int) > 200:=by omega
 go_quiet (fail);go_wp21;refine(a0s 5 _).mono ?_;rintro e w3 ⟨rfl,x3⟩;have Y:=((hO V).drewN nq).trans x3;have C:=uU (G1.ext Y);have X3:=uU (X1.trans Y);obtain⟨u0,u1,u2,u3,u4,u5,u6,u7⟩:=C.boxes H;have u:w.heap.size+1<w3.heap.size:=uZ u5;clear x3 Y;go_wp21;refine bodyPost_ret (v:=tQ 5 0) (by simp[results,results155,go_sem,u5,u6]) rfl ?_;exact⟨_,5,0,rfl,⟨rfl,.inl ⟨by rw[<-uH HI,<-uH LL];omega,rfl,rfl⟩⟩,GOk.done H C 5 0,eY X3 V0 5 0⟩
theorem b5u[qd](h:SOq C B w b x)(i:C<=1000000000)(s:Snd x)(a:World)(j:a.heap.size<=B)(g:Ext a w):
  Calls prog 107 #[pP b] w λe w'=>∃k:Nat,e=.returned (iv k)/\Hid (b3b x k)/\Hid (SOq C B w' b (itU k x))/\Ext a w':=by
 go_in;go_wp21;refine(a4f 9223372036854775807 h i s a j g).mono ?_;rintro e l ⟨k,rfl,d,f,c⟩;have E:=uU (show b3b x k by
  have⟨r,_,e⟩:=uH d;refine⟨?_,r⟩;obtain e|e:=e;have:=r.le s;omega;exact e)
 go_wp2;go_ret;exact⟨k,rfl,E,f,c⟩
def EndH(x:Hp)(y:Hp):Prop:=∃k,b3b x k/\y=itU k x
theorem EndH.snd(s:Snd x)(h:EndH x y):Snd y/\y.E=0:=by
 have⟨k,a,b⟩:=h;rw[b];exact⟨s.itU k,a.1⟩
theorem b2b[qd](h:SOq C B w b x)(t:C+16000<=1000000000)(s:Snd x)(a:World)(f:a.heap.size<=B)(r:Ext a w):
  Calls prog 48 #[pP b] w λe w'=>∃y z,e=.returned (.tuple #[])/\Hid (EndH x y/\EndH (dC y 1 0) z)/\Hid (SOq (C+16000) B w' b z)/\Ext a w':=by
 go_in;go_wp21;refine(b5u h (by omega) s a f r).mono ?_;rintro e v ⟨k,rfl,d,g,m⟩;have⟨y,i⟩:=obE (itU k x);rw[<-i]at g;have c:=uU (show EndH x y from⟨k,d,i⟩);go_wp21;refine(b2a g (c.snd s).2 a f m).mono ?_;rintro e u ⟨rfl,l,o⟩;go_wp21;refine(b5u l t ((c.snd s).1.begin (c.snd s).2) a f o).mono ?_;rintro e A ⟨j,rfl,d,q,n⟩;go_wp21;go_end0;exact⟨y,_,rfl,⟨c,(show EndH (dC y 1 0) (itU j (dC y 1 0)) from⟨j,d,rfl⟩)⟩,q,n⟩
theorem d0t{z:Hp}(r:a2n z x)(a:z.A.length=x.A.length):uV z=uV x:=by grind[Hp.r,a2n,uV,qQ.r5]
theorem Snd.stTo{x:Hp}(s:Snd x)(H:Nat->Bool):∀k,k<=x.A.length->Snd (stTo x H k)
 | 0,_=>s
 | k+1,hk=>by
  have sz:=Snd.stTo s H k (by omega);have zl:=a2o x H k;have zc:(Go.Proofs.YtolmnenlnpbcfaaGreatDoor.stTo x H k).c k=x.c k:=by rw[b2i x H k (by omega) k,if_neg (by omega)]
  have sc:=d0t (a3r x H k) zl;show Snd (a1d x H k (Go.Proofs.YtolmnenlnpbcfaaGreatDoor.stTo x H k));have⟨z,hz⟩:=obE (Go.Proofs.YtolmnenlnpbcfaaGreatDoor.stTo x H k);rw[<-hz]at sz zl zc sc ⊢;have hi:k<z.A.length:=by omega
  unfold a1d;split;have e:({ z with A:=z.A.set k (a7e x H (x.c k)),K:=z.K-eE x H (x.c k) (x.c k).F,sub:=zZ x H k z.sub }:Hp)=c0g z k (λp=>!goB x H (x.c k) p) (eE x H (x.c k) (x.c k).F) (zZ x H k z.sub):=by
   unfold c0g c0f a7e a5s;rw[zc]
  rw[e];refine sz.thin (b3t.flt sz k hi _ _ _ ?_ ?_);rw[zc];exact a4z x H (x.c k) (x.c k).F;unfold zZ;rw[sc,zc];split;rename_i es;have a:=sz.scan k (sc▸es);have b:=sz.r1.sub;rw[zc]at a;have c:=a4z x H (x.c k) ((x.c k).F.take z.sub.toNat);rw[mn]at c;unfold a5s at c;omega;rfl;split
  ·rename_i _ e1;have e:({ z with A:=z.A.set k (b5i (x.c k)) }:Hp)=hD z k (b5i (z.c k)):=by rw[zc];rfl
   rw[e];exact sz.thin (b3t.self sz k _ hi (a0v sz.r2 k hi (.inl (by rw[zc];exact e1))) ⟨rfl,rfl,rfl,rfl,rfl⟩ rfl (.inl rfl) (.inr ⟨by show(0:Int)<=2;omega,by show(2:Int)<=3;omega⟩) (λ_=>.inl (zc▸e1)))
  exact sz
theorem Snd.settle(s:Snd x)(H:Nat->Bool):Snd (a1r x H):=by
 rw[<-a4g];exact s.stTo H _ (hT _)
theorem DoR.sndB(s:Snd x)(m:a<16)(l:k≠1->k≠23->b<16)(d:k=1->b<=255/\c<=200)(g:k=23->b<=64/\c<=4000)(i:k=11->c<=3)(f:k=12->c<=1)(j:k≠9)(h:DoR x a b c n y cd nm k):Snd y:=by
 by_cases e:k=1;subst e;exact a7g.snd s (d rfl).1 (d rfl).2 h;grind[Snd.settle,DoR.sndA,DoR,Hp.c]
theorem GOk.set9[qd](h:GOk B w g x)(v:Int):GOk B (w.setCell (aA g 9) (iv v)) g { x with per:=v }:=by
 obtain⟨b,i,m,l,e,f,j,k,c,d,a,h⟩:=h;exact⟨_,_,_,_,_,_,_,_,_,_,_,h.boxed (x':={ x with per:=v }) (tE w g 9 _) (h.nf.set _ _) rfl rfl rfl (h.bx.set9 v)⟩
theorem GOk.set10[qd](h:GOk B w g x)(v:Int):GOk B (w.setCell (aA g 10) (iv v)) g { x with V:=v }:=by
 obtain⟨b,i,m,l,e,f,j,k,c,d,a,h⟩:=h;exact⟨_,_,_,_,_,_,_,_,_,_,_,h.boxed (x':={ x with V:=v }) (tE w g 10 _) (h.nf.set _ _) rfl rfl rfl (h.bx.set10 v)⟩
theorem GReg.put[qd]{A kr:Nat}{j v:World}(R:GReg B j g x A kr)(C:Ext v j)(hv:v.heap.size<=B)(ha:a<16)(u:Wd):∃z,z=cQ j A (a*3) u/\Hid (GOk B z g (regTo x a u)/\Ext v z):=
 ⟨_,rfl,R.set j a u (hO _) ha,(cE j A (a*3) u).ext C (λq hq e=>by have:=R.lo.1;omega)⟩
theorem d4t[p:qd](B g:Nat)(x:Hp)(k:Nat)(op:Int)(a b c:Nat)(n:Int)(w:World)(hk:(k=2/\op=2)\/(k=3/\op=3)\/(k=4/\op=4)\/(k=13/\op=13)\/(k=14/\op=14)\/(k=15/\op=15))(h:GOk B w g x)(s:Snd x)(ok:qV op a b c n=true)(v:World)(hv:v.heap.size<=B)(hx:Ext v w)(ha:a<16)(hB:k=4\/k=13->b<16):
  Calls prog 42 #[pP g,yU op a b c n] w λe w'=>a1b B g x a b c n k v e w':=by
 obtain⟨p1,o1,g1⟩:=GOk.enter h (w0:=doW w op a b c n) ((eAl w _).alloc _);obtain⟨A,kr,hr⟩:=g1.B s.r1.B;have HR:=uU hr;have i0:=i0N a;have i1:(a:Int)<16:=by omega
 have HG:=uU g1;have t:=uU o1;have QA:=uU (λW=>a1i op a b c n W);rw[ok]at QA;have G:=uU (show v.heap.size<=w.heap.size+1 by have:=hx.size;omega);have XD:=uU (show Ext v (doW w op a b c n) from(hx.alloc _).alloc _);have BX:=uU (yZ.new w op a b c n);clear h s hr o1 g1;obtain⟨rfl,rfl⟩|⟨rfl,rfl⟩|⟨rfl,rfl⟩|⟨rfl,rfl⟩|⟨rfl,rfl⟩|⟨rfl,rfl⟩:=hk;all_goals
  go_in;go_wp21;refine(QA _).mono ?_;rintro e j ⟨rfl,X⟩;have C:=uU (XD.trans X);have U:=uU (BX.ext X);obtain⟨R,N,M,O,K,P,H,L⟩:=uH U;have Z:=uU (HG.ext X);have R1:=uU (HR.ext X);have F:=R1.c3;obtain⟨D,E,I⟩:=R1.r a ha;clear X QA U BX XD HG HR
 focus
  obtain⟨z,d,u⟩:=R1.put C hv ha ⟨1,n,0⟩;clear M O
 rotate_left
 focus
  obtain⟨z,d,u⟩:=R1.put C hv ha Wd0;unfold Wd0 at d
 rotate_left
 focus
  have hb:=hB (by simp);have j0:=i0N b;have j1:(b:Int)<16:=by omega
  obtain⟨Y,T,V⟩:=R1.r b hb;obtain⟨z,d,u⟩:=R1.put C hv ha (x.r b)
 rotate_left
 ·have hb:=hB (by simp);have j0:=i0N b;have j1:(b:Int)<16:=by omega
  have we:=λW=>wd_eq (x.r a) (x.r b) W
  obtain⟨Y,T,V⟩:=R1.r b hb;cases q:wdB (x.r a) (x.r b);all_goals
   rw[q]at we;have Q:=uU q;clear q;go_wp21;go_quiet (fail);obtain⟨z,d⟩:=obE (j.drewN nq);rw[<-d];have i:Ext j z:=by rw[d];exact Ext.drewN (hO j) nq
   clear d;go_wp21;refine(a0j _ _).mono ?_;rintro e S ⟨rfl,l⟩;have o:=uU (Z.ext (i.trans l));have y:=uU (C.trans (i.trans l));clear F D E I Y T V R N M O K P H L l i we;obtain⟨u0,u1,u2,u3,u4,u5,u6,u7⟩:=o.boxes t;go_wp21;refine bodyPost_ret ?_ rfl (a7k t o y G ⟨rfl,rfl,by rw[uH Q];rfl⟩);simp[results,results42,go_sem,u5,u6]
 ·go_wp21;go_region_with (go_at_call 95;refine(a0j (x.r a).k _).mono ?_;rintro e S ⟨rfl,l⟩;have J:=kI (eDr j) l;have o:=uU (Z.ext J);have y:=uU (C.trans J);obtain⟨u0,u1,u2,u3,u4,u5,u6,u7⟩:=o.boxes t;clear l J);all_goals
   go_wp21;refine bodyPost_ret ?_ rfl (a7k t o y G ⟨rfl,rfl,rfl⟩);simp[results,results42,go_sem,u5,u6]
 ·cases q:((x.r a).k == 1)
  all_goals
   have q2:((x.r a).k != 1)=_:=congrArg not q;have Q:=uU q;clear q;go_wp21;go_quiet (fail);obtain⟨z,d⟩:=obE (j.drewN nq);rw[<-d];have i:Ext j z:=by rw[d];exact Ext.drewN (hO j) nq
   have e0:=uU (Z.ext i);have X2:=uU (C.trans i);clear d
  go_wp21;refine(a0s 2 _).mono ?_;rintro e S ⟨rfl,l⟩;have o:=uU (e0.ext l);have y:=uU (X2.trans l);clear F D E I R N M O K P H L l;obtain⟨u0,u1,u2,u3,u4,u5,u6,u7⟩:=o.boxes t;go_wp21;refine bodyPost_ret ?_ rfl (a7k t o y G ⟨rfl,.inl ⟨by simpa using uH Q,rfl,rfl⟩⟩);simp[results,results42,go_sem,u5,u6];have F:=i.keep F;have D:=i.keep D;have E:=i.keep E;obtain⟨u0,u1,u2,u3,u4,u5,u6,u7⟩:=e0.boxes t;go_wp21;go_region;all_goals
   go_wp21;refine bodyPost_ret (v:=tQ 0 (x.r a).n) (by simp[results,results42,go_sem,u5,u6]) rfl ?_;exact⟨x,0,(x.r a).n,rfl,⟨rfl,.inr ⟨by simpa using uH Q,rfl,rfl⟩⟩,GOk.doneD t e0 0 (x.r a).n,(eY X2 G 0 (x.r a).n).drew⟩
 all_goals
  have f:=R1.f;unfold cQ at d;go_wp21;go_region;go_wp21;rw[<-d];refine(a0j 0 _).mono ?_;rintro e S ⟨rfl,l⟩;have m:=kI (eDr z) l;have o:=uU (u.1.ext m);have y:=uU (u.2.trans m);obtain⟨u0,u1,u2,u3,u4,u5,u6,u7⟩:=o.boxes t;clear d u F D E I f R N K P H L l m;go_wp21;refine bodyPost_ret ?_ rfl (a7k t o y G ⟨rfl,rfl,rfl⟩);simp[results,results42,go_sem,u5,u6]
theorem l5do_in[p:qd](B g:Nat)(x:Hp)(k:Nat)(op:Int)(a b c:Nat)(n:Int)(w:World)(hk:(k=18/\op=18)\/(k=19/\op=19)\/(k=20/\op=20)\/(k=21/\op=21)\/(k=22/\op=22)\/(k=23/\op=23)\/(k=24/\op=24))(h:GOk B w g x)(s:Snd x)(ok:qV op a b c n=true)(v:World)(hv:v.heap.size<=B)(hx:Ext v w)(ha:a<16)(hC:k=22->c<=100000):
  Calls prog 42 #[pP g,yU op a b c n] w λe w'=>a1b B g x a b c n k v e w':=by
 obtain⟨p1,o1,g1⟩:=GOk.enter h (w0:=doW w op a b c n) ((eAl w _).alloc _);have S:=uU s;have HG:=uU g1;have j:=uU o1;have QA:=uU (λW=>a1i op a b c n W);rw[ok]at QA;have Q:=uU (show v.heap.size<=w.heap.size+1 by have:=hx.size;omega);have XD:=uU (show Ext v (doW w op a b c n) from(hx.alloc _).alloc _);have BX:=uU (yZ.new w op a b c n);clear h s o1 g1;obtain⟨rfl,rfl⟩|⟨rfl,rfl⟩|⟨rfl,rfl⟩|⟨rfl,rfl⟩|⟨rfl,rfl⟩|⟨rfl,rfl⟩|⟨rfl,rfl⟩:=hk;all_goals
  go_in;go_wp21;refine(QA _).mono ?_;rintro e t ⟨rfl,x1⟩;have D:=uU (XD.trans x1);have Y:=uU (BX.ext x1);obtain⟨N,G,M,J,K,P,O,F⟩:=uH Y;have m:=uU (HG.ext x1);clear x1 QA Y BX XD HG
 focus
  have QS:=uU (show Calls prog 44 #[pP g] t λe w'=>∃H:Nat->Bool,e=.returned (.tuple #[iv (qX x H x.A.length),iv (kL x H x.A.length)])/\Hid (∀i,H i=true↔eJ x i)/\GOk B w' g (a1r x H)/\Ext v w' from by
   obtain⟨V,R,T,X,vg,br,bc,pb,pa,pk,o,h⟩:=m;exact b0z ⟨pb,pa,pk,o,h⟩ S v hv D)
  go_wp21;refine QS.mono ?_;rintro e w2 ⟨H,rfl,hh,q,u⟩;have A:=uU q;clear q
 rotate_left
 ·go_wp21;refine(d0o B g x a _ m S ha v hv D).mono ?_;rintro e U ⟨y,nm,rfl,aa,f,l⟩;obtain⟨cd,E⟩:=obE (0:Int);rw[<-E];have dr:=uU (show DoR x a b c n y cd nm 19 from⟨E,aa⟩);clear E aa;obtain⟨u0,u1,u2,u3,u4,u5,u6,u7⟩:=f.boxes j;clear N G M J K P O F;go_wp21;refine bodyPost_ret ?_ rfl (a7k j f l Q dr);simp[results,results42,go_sem,u5,u6]
 focus
  obtain⟨Z,V,R,T,X,kg,HT⟩:∃Z V R T X kg,Hid (HAt t g x V R T X Z kg):=by
   obtain⟨V,R,T,X,vg,br,bc,pb,pa,pk,o,h⟩:=m;obtain⟨Z,kg,I⟩:=h.hat S;exact⟨Z,V,R,T,X,kg,I⟩
  go_wp21;refine(b3h x g t HT S.r2 S.r4 S.ok.n8).mono ?_;rintro e w2 ⟨vv,L,rfl,sn,hL,C⟩;have SN:=uU sn;have H2:=uU (HT.ext C);have A:=uU (m.ext C);have u:=D.trans C;clear sn C;go_wp21;refine(b7v x g t.heap.size (λi=>decide ((i:Int)∈L)) w2 H2 SN.s S.ok.n8 S.ok.p200).mono ?_;rintro e ae ⟨rfl,rfl⟩
 rotate_left
 focus
  have QL:=uU (show Calls prog 99 #[pP g] t λe w'=>∃r:Nat,Hid (e=.returned (iv (r:Int)))/\d2f x r/\Ext t w' from by
   obtain⟨V,R,T,X,vg,br,bc,pb,pa,pk,o,h⟩:=m;obtain⟨Z,kg,I⟩:=h.hat S;exact c5m x g t I S.ok)
  go_wp21;refine QL.mono ?_;rintro e w2 ⟨r,rfl,lv,C⟩;have LV:=uU lv;have A:=uU (m.ext C);have u:=D.trans C;clear lv C
 rotate_left
 focus
  have hc:=hC (by simp);go_wp21;refine(a5r B g x c _ m S hc v hv D).mono ?_;rintro e w2 ⟨k,rfl,st,q,u⟩;have A:=uU q;clear q
 rotate_left
 focus
  obtain⟨c0,c1,c2,c5,c9,ab,ad⟩:=m.nums;have fz:=m.box.2.2.2.1;have lo:v.heap.size<=g:=kA hv m.box.2.2.2.2.1;have A:=uU ((m.set9 b).set10 c);have u:=(D.sc g 9 lo (iv b)).sc g 10 lo (iv c);clear c0 c1 c2 c5 ad
 rotate_left
 focus
  go_wp21;refine(a7c B g x _ m S v hv D).mono ?_;rintro e w2 ⟨y,z,rfl,rr,q,u⟩;have A:=uU q;clear q
 rotate_left
 all_goals
  go_wp21;refine(a0j _ _).mono ?_;rintro e U ⟨rfl,d⟩;have f:=uU (A.ext d);have l:=uU (u.trans d);clear d N G M J K P O F;obtain⟨u0,u1,u2,u3,u4,u5,u6,u7⟩:=f.boxes j;go_wp21;refine bodyPost_ret ?_ rfl (a7k j f l Q ?_);simp[results,results42,go_sem,u5,u6]
 exact⟨rfl,H,hh,rfl,rfl⟩;exact⟨rfl,rfl,λi=>decide ((i:Int)∈L),λi=>by rw[decide_eq_true_iff];exact hL i,rfl⟩;obtain⟨_,p,h,q⟩|⟨h,_⟩:=uH LV
 ·exact⟨rfl,rfl,p,h,by rw[q]⟩
 exact absurd S.ok h;exact⟨rfl,rfl,k,st,rfl⟩;exact⟨rfl,rfl,rfl⟩;exact⟨rfl,rfl,y,rr.1,rr.2⟩
theorem d4x[p:qd](B g:Nat)(x:Hp)(a b c:Nat)(n:Int)(w:World)(h:GOk B w g x)(s:Snd x)(O:a<16)(hc:c<=200)(A:(x.r a).k=2)(v:World)(hv:v.heap.size<=B)(hx:Ext v w):
  Calls prog 94 #[pP g,yU 9 a b c n] w λe w'=>a1b B g x a b c n 9 v e w':=by
 obtain⟨p1,o1,q⟩:=GOk.enter h (w0:=doW w 9 a b c n) ((eAl w _).alloc _);obtain⟨l,d⟩:∃W,W=doW w 9 a b c n:=⟨_,rfl⟩;have X:=yZ.new w 9 a b c n;have G:Ext v (doW w 9 a b c n):=(hx.alloc _).alloc _;rw[<-d]at q X G;obtain⟨br,kr,J⟩:=q.B s.r1.B;have R:=J.c3;obtain⟨r0,r1,r2⟩:=J.r a O;have ac:=cLt R;have ae:=cLt r0;have K:=uU o1;have G1:=uU q;have X1:=uU G;obtain⟨o,I,M,F,E,z,C,L⟩:=X;have ad:=cLt o;have j0:=i0N a;have j1:(a:Int)<16:=by omega
 have D:=uU A;have af:((x.r a).k != 2)=false:=by simpa using A
 obtain⟨en,N,hi,st,nd⟩:=s.at a O A;obtain⟨i,H⟩:=obE (x.at a);have HI:=uU H;rw[<-H]at N hi st nd;have EA:=uU N;have S:=uU s;have i0:=i0N i;have i1:(i:Int)<(x.A.length:Int):=by omega
 clear A N H s en;clear nd;clear h J o1 q G;go_in;go_wp21;unfold doW at d;rw[<-d];clear d;go_region;obtain⟨m,f⟩:∃W,W=(l.alloc (oWd (x.r a))).drew:=⟨_,rfl⟩;rw[<-f];have j:Ext l m:=by rw[f];exact(eAl _ _).drew
 have WB:yL m l.heap.size 0 (x.r a):=by rw[f];exact⟨by simp[go_sem],by simp[go_sem],by simp[go_sem]⟩
 obtain⟨y0,y1,y2⟩:=WB;have U:=uU (G1.ext j);have X2:=uU (X1.trans j);have ab:=cLt y0;clear f j R r0 r1 r2 o I M F E z C L;obtain⟨o,I,M,F,E,z,C,L⟩:=U.boxes K;have ag:=cLt o;have aa:w.heap.size+1<m.heap.size:=uZ z;rw[uH EA]at y2;have Y:=uU (λW(xW:Ext m W)=>c6h B g x a b c n W (U.ext xW) S O hc D v hv (X2.trans xW));go_wp21;refine(Y _ (hO m)).mono ?_;rintro e w3 ⟨y,t,u,T,P,Z,V⟩;have e2:=uH T;subst e2;have DR:=uU P;have Q:=uU Z;have X3:=uU V;clear T Z V P Y;clear o I M F E z C L y0 y1 y2;obtain⟨u0,u1,u2,u3,u4,u5,u6,u7⟩:=Q.boxes K;have ah:w.heap.size+1<w3.heap.size:=uZ u5;go_wp21;refine bodyPost_ret (v:=tQ t u) (by simp[results,results94,go_sem,u5,u6]) rfl ?_;exact⟨y,t,u,rfl,.inr ⟨D,DR⟩,GOk.done K Q t u,eY X3 (show v.heap.size<=w.heap.size+1 by have:=hx.size;omega) t u⟩
theorem l5do_9[p:qd](B g:Nat)(x:Hp)(a b c:Nat)(n:Int)(w:World)(h:GOk B w g x)(s:Snd x)(T:qV 9 a b c n=true)(D:a<16)(R:c<=200)(v:World)(U:v.heap.size<=B)(C:Ext v w):
  Calls prog 42 #[pP g,yU 9 a b c n] w λe w'=>a1b B g x a b c n 9 v e w':=by
 have⟨p1,J,K⟩:=GOk.enter h (w0:=doW w 9 a b c n) ((eAl w _).alloc _);have S:=uU s;have q:=λW=>a1i 9 a b c n W;rw[T]at q;go_in;go_wp21;refine(q _).mono ?_;rintro e o ⟨rfl,l⟩;have u:=(show Ext v (doW w 9 a b c n) from(C.alloc _).alloc _).trans l;have m:=(yZ.new w 9 a b c n).ext l;have⟨t0,t1,t2,Z,t4,Y,X,t7⟩:=uH m;have t:=K.ext l
 go_wp21;refine(show Calls prog 94 #[pP g,yU 9 a b c n] o λe w'=>a1b B g x a b c n 9 v e w' from by
  by_cases i:(x.r a).k=2;exact d4x B g x a b c n o t S D R i v U u;exact(b8n B g x 9 a b c n o t S D i v u).mono λe V j=>⟨x,2,0,j.1,.inl ⟨i,rfl,rfl,rfl⟩,j.2.1,j.2.2⟩).mono ?_;rintro e w3 ⟨y,f,d,G,I,P,L⟩;have O:=uH G;subst O;have z:=uU P;obtain⟨u0,u1,u2,u3,u4,u5,u6,u7⟩:=z.boxes J;go_wp2;refine bodyPost_ret (v:=tQ f d) (by simp[results,results42,go_sem,u5,u6]) rfl ?_;exact⟨y,f,d,rfl,I,GOk.done J z f d,eY L (show v.heap.size<=w.heap.size+1 by have:=C.size;omega) f d⟩
theorem DoR.snd(s:Snd x)(i:a<16)(j:k≠1->k≠23->b<16)(l:k=1->b<=255/\c<=200)(f:k=23->b<=64/\c<=4000)(g:k=11->c<=3)(e:k=12->c<=1)(h:DoR x a b c n y cd nm k):Snd y:=by
 by_cases d:k=9;subst d;obtain h|h:=h
 ·rw[h.2.1];exact s
 exact a7h.snd s i h.1 rfl h.2;grind[DoR.sndB,DoR,Hp.c]
theorem c2p(p:Nat->Bool)(h:Nat):∀d,(List.range (h+d)).filter (λi=>p i && decide ((i:Int)<(h:Int)))=(List.range h).filter p
 | 0=>by
  refine List.filter_congr λi hi=>?_
  have:=mX.1 hi;have e:decide ((i:Int)<(h:Int))=true:=by simp;omega
  rw[e,nX]
 | d+1=>by
  rw[<-Nat.add_assoc,mb,k7,c2p p h d,n9 (by simp;intro _;omega),List.filter_nil,ni]
theorem c9z(x:Hp)(k:Nat):(a6w x k).length<=k:=a2u _ _ _
theorem b3q.soq[qd](hz:∀q,(default:uL).z q=none)(h:b3q B w b x)(s:Snd x):SOq 24000 B w b x:=by
 have⟨ar,kr,a4,n4,k4,a8,m8,k8,br,cB,cO,bn,pb,pa,pk,kn,hd,vf,F,vk,role,hst,ho,pm,hk⟩:=h;have hh:=s.r1.I;have n8:=s.ok.n8;refine⟨ar,kr,a4,n4,k4,a8,m8,k8,br,cB,cO,bn,pb,pa,pk,kn,hd,vf,F,vk,_,role,hst,⟨ho,λi hi h0=>by grind[a4v,b3q,SOq],λv hv=>by grind[a4v,b3q,SOq],?_,λh3=>?_,λh4=>?_,λh3 h4=>?_⟩,by omega,hz bn⟩;have l1:=pm.length_eq;have l2:=c9z x x.A.length;have l3:yK x<=16000:=by grind[yK,b3q,SOq]
 omega;have e:x.A.length=x.I.toNat+(x.A.length-x.I.toNat):=by omega
 have e2:zU x x.A.length=(List.range x.A.length).filter (λi=>((x.c i).st == 1) && decide ((i:Int)<(x.I.toNat:Int))):=by grind[zU,Hp.c,SAt.I,Snd.I,a1p,b3q,SOq]
 rw[e2,e,c2p (λi=>(x.c i).st == 1) x.I.toNat _];refine⟨List.pairwise_lt_range.filter _,λi hi=>?_,λi hi h1 hn=>?_⟩;grind[b3q,SOq];grind[b3q,SOq];have e2:zU x x.A.length=(List.range x.A.length).filter (λi=>(x.c i).st == 1):=by
  unfold zU;refine List.filter_congr λi _=>?_
  have:a1p x i=true:=by unfold a1p;simp[h4]
  rw[this,nX]
 rw[e2];refine⟨List.pairwise_lt_range.filter _,λi hi=>?_,λi hi h1 hn=>?_⟩;grind[b3q,SOq];grind[b3q,SOq];unfold zU;refine List.filter_eq_nil_iff.2 λi _=>?_
 have:a1p x i=false:=by unfold a1p;simp[h3,h4]
 simp[this]
end Go.Proofs.YtolmnenlnpbcfaaGreatDoor
