import Derived.Test.YtddkhnclmeikfaaGreatEi
set_option maxRecDepth 100000
set_option maxHeartbeats 100000000
namespace Go.Proofs.YtddkhnclmeikfaaGreat
open Go.RowKit Tryz
attribute [local go_sem ↓] Go.wp_at_zero Go.wp_at_succ
theorem d1k[p:Inhabited uQ](B g:Nat)(x:Hp)(a b c:Nat)(n:Int)(w:World)(h:GOk B w g x)(s:Snd x)(ha:a<16)(hb:b<16)(v:World)(hv:v.heap.size<=B)(hx:Ext v w):
  Calls prog 252 #[pP g,yQ 8 a b c n] w λe w'=>zN B g x a b c n 8 v e w':=by
 obtain⟨p1,o1,g1⟩:=GOk.enter h (w0:=doW w 8 a b c n) (((Ext.refl w).alloc _).alloc _);obtain⟨br,kr,hr⟩:=g1.B s.r1.B;have N:=uU o1;have G1:=uU g1;have R1:=uU hr;have S:=uU s;have V0:=uU (show v.heap.size<=w.heap.size+1 by have:=hx.size;omega);have X1:=uU (show Ext v (doW w 8 a b c n) from(hx.alloc _).alloc _);obtain⟨t,O,Y,G,X,t5,Z,L⟩:=tL.new w 8 a b c n;have V:=hr.c3;obtain⟨H,U,K⟩:=hr.r a ha;have j0:(0:Int)<=(a:Int):=by omega
 have j1:(a:Int)<16:=by omega
 clear h s hr o1 g1;cases q2:((x.r a).k == 2)
 ·have aq:((x.r a).k != 2)=true:=by simpa using q2
  have D:=uU (show(x.r a).k≠2 by simpa using q2);clear q2;go_enter func252,ntmps252;go_wp2_with fail;refine(a0m 2 _).mono ?_;rintro e w3 ⟨rfl,x3⟩;have G3:=uU (G1.ext x3);have X3:=uU (X1.trans x3);clear x3 V H U K t O Y G X t5 Z L;obtain⟨u0,u1,u2,u3,u4,u5,u6,u7⟩:=G3.boxes N;have ac:w.heap.size+1<w3.heap.size:=uL u5;go_wp2_with fail;refine bodyPost_ret (v:=eX 2 0) (by simp [results,results252,go_sem,u5,u6]) rfl ?_;exact⟨_,2,0,rfl,.inl ⟨D,rfl,rfl,rfl⟩,GOk.done N G3 2 0,dH X3 V0 2 0⟩
 ·have aq:((x.r a).k != 2)=false:=by simpa using q2
  have D:=uU (show(x.r a).k=2 by simpa using q2);obtain⟨_,ea,hi,_,_⟩:=S.at a ha D;have af:=S.ok.p200 _ hi;obtain⟨i,hI⟩:∃i,i=x.at a:=⟨_,rfl⟩;have HI:=uU hI;rw[<-hI] at ea hi af;rw[ea] at K;clear q2 ea hI;have i0:(0:Int)<=(i:Int):=by omega
  have i1:(i:Int)<(x.A.length:Int):=by omega
  by_cases hc:c<(x.c i).F.length
  ·have al:¬((c:Int)≥((x.c i).F.length:Int)):=by omega
   have bg:(c:Int)<((x.c i).F.length:Int):=by omega
   have bi:(0:Int)<=(c:Int):=by omega
   obtain⟨bc,kc,bp,kp,hp⟩:=G1.prw i hi c hc;have P1:=uU hp;have Q:=hp.c4;have T:=hp.p7;obtain⟨e0,e1,e2,e3,e4,e5⟩:=hp.pr;clear hp;go_enter func252,ntmps252;go_wp2_with fail;go_quiet (fail);obtain⟨m,u⟩:∃W,W=(doW w 8 a b c n).drewN nq:=⟨_,rfl⟩;rw[<-u];have d:Ext (doW w 8 a b c n) m:=by rw[u];exact Ext.drewN (Ext.refl _) nq
   have G2:=uU (G1.ext d);have ah:=uU d;have X2:=uU (X1.trans d);have Q:=d.keep Q;have T:=d.keep T;have t:=d.keep t;have G:=d.keep G;have e0:=d.keep e0;have e1:=d.keep e1;have e2:=d.keep e2;have e3:=d.keep e3;have e4:=d.keep e4;have e5:=d.keep e5;have az:g<m.heap.size:=uL Q;have ak:bc<m.heap.size:=uL T;have ba:bp<m.heap.size:=uL e0;have ay:w.heap.size<m.heap.size:=uL t;clear u d;clear V H U K O Y X t5 Z L;go_wp2_with fail
   go_region
   obtain⟨J,F⟩:∃W,W=(m.alloc (.cells #[iv ((x.c i).p c).key.k,iv ((x.c i).p c).key.n,iv ((x.c i).p c).key.a,iv ((x.c i).p c).val.k,iv ((x.c i).p c).val.n,iv ((x.c i).p c).val.a] 154)).drew:=⟨_,rfl⟩;rw[<-F];have M:Ext m J:=by rw[F];exact((Ext.refl m).alloc _).drew
   have au:=uU M;have yf:∀j,J.frozen? (aA m.heap.size j)=false:=λj=>by rw[F];simp [go_sem]
   have PB:qN J m.heap.size 0 ((x.c i).p c):=by rw[F];exact⟨by simp [go_sem],by simp [go_sem],by simp [go_sem],by simp [go_sem],by simp [go_sem],by simp [go_sem]⟩
   obtain⟨y0,y1,y2,y3,y4,y5⟩:=PB;have G3:=uU (G2.ext M);have X3:=uU (X2.trans M);clear F M Q T t G e0 e1 e2 e3 e4 e5 az ak ba ay;obtain⟨t,O,Y,G,X,t5,Z,L⟩:=G3.boxes N
   as_aux_lemma=>
    obtain⟨an,bb,hr⟩:=G3.B S.r1.B;have V:=hr.c3;obtain⟨H,U,K⟩:=hr.r b hb;have ao:g<J.heap.size:=uL V;have ai:an<J.heap.size:=uL H;have ac:w.heap.size<J.heap.size:=uL t;have ax:m.heap.size<J.heap.size:=uL y0;have b0:(0:Int)<=(b:Int):=by omega
    have b1:(b:Int)<16:=by omega
    clear hr;obtain⟨C,aa⟩:∃y,y=x.r b:=⟨_,rfl⟩;have HY:=uU aa;rw[<-aa] at H U K;obtain⟨qq,ae⟩:∃q:Pr,q=⟨((x.c i).p c).key,C⟩:=⟨_,rfl⟩;have QQ:=uU ae;clear aa ae;obtain⟨E,I⟩:∃W,W=(dZ J m.heap.size 3 C).drew:=⟨_,rfl⟩;have P:Ext m E:=by rw[I];exact((a0d J m.heap.size 3 C).ext au (λq hq e=>by omega)).drew
    have P4:qN E m.heap.size 0 qq:=by
     rw[I,uH QQ];have k:=a7q J m.heap.size 3 C ((x.c i).p c).val ⟨y3,y4,y5⟩;refine⟨?_,?_,?_,?_,?_,?_⟩
     ·rw[a6t,a0z _ _ _ _ _ (by omega)];exact y0
     ·rw[a6t,a0z _ _ _ _ _ (by omega)];exact y1
     ·rw[a6t,a0z _ _ _ _ _ (by omega)];exact y2
     ·rw[a6t];exact k.1
     ·rw[a6t];exact k.2.1
     ·rw[a6t];exact k.2.2
    unfold dZ at I;go_wp2_with fail
    go_region
    rw[<-I];have A:=uU (P1.ext (ah.trans P));have G4:=uU (G2.ext P);have X4:=uU (X2.trans P);clear I P V H U K t O Y G X t5 Z L y0 y1 y2 y3 y4 y5 yf ao ai ac ax;obtain⟨t,O,Y,G,X,t5,Z,L⟩:=G4.boxes N;have Q:=A.c4;have T:=A.p7;obtain⟨e0,e1,e2,e3,e4,e5⟩:=A.pr;obtain⟨y0,y1,y2,y3,y4,y5⟩:=P4;have fp:=A.f;have ag:g<E.heap.size:=uL Q;have am:bc<E.heap.size:=uL T;have aw:bp<E.heap.size:=uL e0;have av:w.heap.size<E.heap.size:=uL t;have aj:m.heap.size<E.heap.size:=uL y0;have FN:=uU (show GOk B (tH E bp (c*6) qq).drew g (cK x i { x.c i with F:=(x.c i).F.set c qq })/\Ext v (tH E bp (c*6) qq).drew from⟨(A.set E qq (Ext.refl _)).ext (Ext.refl _).drew,((a1t E bp (c*6) qq).ext X4 (λq hq e=>by have:=A.lo.1;omega)).drew⟩);obtain⟨W5,R⟩:∃W,W=(tH E bp (c*6) qq).drew:=⟨_,rfl⟩;rw[<-R] at FN;unfold tH at R;go_wp2_with fail
    go_region
    rw[<-R];clear R Q T e0 e1 e2 e3 e4 e5 y0 y1 y2 y3 y4 y5 fp ag am aw av aj t O Y G X t5 Z L
    as_aux_lemma=>
     obtain⟨z,hz⟩:∃z,z=cK x i { x.c i with F:=(x.c i).F.set c qq }:=⟨_,rfl⟩;rw[<-hz] at FN;have ZR:=uU (show z.B=x.B/\z.A.length=x.A.length/\z.D=x.D from by rw[hz];exact⟨rfl,by simp [cK],rfl⟩)
     have ZS:=uU (show ∀q,(z.c q).st=(x.c q).st from λq=>by
      rw[hz];show(({ x with A:=x.A.set i _ }:Hp).c q).st=_;rw[Hp.c_set x i _ hi q];by_cases e:q=i
      ·rw[if_pos e,e]
      ·rw[if_neg e])
     have HZ:=uU hz;clear hz;obtain⟨ar,bd,ab⟩:=FN.1.B (by rw[ZR.1];exact S.r1.B);have V:=ab.c3;obtain⟨H,U,K⟩:=ab.r b hb;have er:z.r b=C:=by rw[uH HY];unfold Hp.r;rw[ZR.1]
     rw[er] at H U K;have bj:g<W5.heap.size:=uL V;have be:ar<W5.heap.size:=uL H;obtain⟨t,O,Y,G,X,t5,Z,L⟩:=FN.1.boxes N;have bh:w.heap.size<W5.heap.size:=uL t
     have GD:=uU (show dQ z C/\(C.k=2->0<=C.a) from by
      have l:=S.reg b hb;rw[<-uH HY] at l;have l1:=l.1;unfold uW at l1
      exact⟨λhk=>⟨by rw[ZR.2.1];omega,by
       rw[uH ZS];rcases l.2 hk with o | o
       ·exact o.2.elim
       ·exact o.1⟩,λhk=>by omega⟩)
     have QS:=uU (show ∀W,Ext W5 W->Calls prog 232 #[pP g,C.v] W λe w'=>∃r:Bool,e=.returned (.bool r)/\Hid (GOk B w' g (shadeW z C))/\Ext v w' from λW xW=>by
      refine(b0x B g z C W (FN.1.ext xW) (by rw[ZR.2.1];exact S.ok.n8) (by rw[ZR.2.2];have:=S.r1.D;have:=S.ok.n8;omega) GD.1 GD.2 v hv (FN.2.trans xW) ?_).mono ?_
      ·have:=(FN.1.ext xW).box.2.2.2.2;omega
      ·rintro e w' h;exact⟨_,h.1,h.2.1,h.2.2⟩)
     clear ab er;go_wp2_with fail;go_cut [] (λwx=>Hid (GOk B wx g (shadeW z C))/\Hid (Ext v wx))
     case first=>
      go_region_with (go_at_call 232;refine(QS _ (Ext.refl W5).drew).mono ?_;rintro e w6 ⟨r,rfl,g6,x6⟩;have X6:=uU x6;clear x6)
      all_goals
       go_wp2_with fail;go_meet;exact⟨g6,X6⟩
     case rest=>as_aux_lemma=>
      obtain⟨G5,X5⟩:=hcut;clear V H U K t O Y G X t5 Z L FN QS;go_wp2_with fail;refine(cC 0 _).mono ?_;rintro e w6 ⟨rfl,x6⟩;have G6:=uU (G5.ext x6);have X6:=uU (X5.trans x6);obtain⟨u0,u1,u2,u3,u4,u5,u6,u7⟩:=G6.boxes N;have bf:w.heap.size+1<w6.heap.size:=uL u5;clear x6;go_wp2_with fail;refine bodyPost_ret (v:=eX 0 0) (by simp [results,results252,go_sem,u5,u6]) rfl ?_;exact⟨_,0,0,rfl,.inr (.inr ⟨D,by rw[<-uH HI];exact hc,by rw[<-uH HI];show shadeW z C=shadeW (cK x i (valC (x.c i) c (x.r b))) (x.r b);rw[<-uH HY,uH HZ,uH QQ];rfl,rfl,rfl⟩),GOk.done N G6 0 0,dH X6 V0 0 0⟩
  ·have al:(c:Int)≥((x.c i).F.length:Int):=by omega
   obtain⟨bc,kc,ap,kp,ad⟩:=G1.cel i hi;have Q:=ad.c4;have T:=ad.p7;clear ad;go_enter func252,ntmps252;go_wp2_with fail;go_quiet (fail);obtain⟨m,u⟩:∃W,W=(doW w 8 a b c n).drewN nq:=⟨_,rfl⟩;rw[<-u];have d:Ext (doW w 8 a b c n) m:=by rw[u];exact Ext.drewN (Ext.refl _) nq
   clear u;go_wp2_with fail;refine(a0m 3 _).mono ?_;rintro e w3 ⟨rfl,x3⟩;have G3:=uU (G1.ext (d.trans x3));have X3:=uU (X1.trans (d.trans x3));clear x3 d V H U K t O Y G X t5 Z L Q T;obtain⟨u0,u1,u2,u3,u4,u5,u6,u7⟩:=G3.boxes N;have ac:w.heap.size+1<w3.heap.size:=uL u5;go_wp2_with fail;refine bodyPost_ret (v:=eX 3 0) (by simp [results,results252,go_sem,u5,u6]) rfl ?_;exact⟨_,3,0,rfl,.inr (.inl ⟨D,by rw[<-uH HI];omega,rfl,rfl,rfl⟩),GOk.done N G3 3 0,dH X3 V0 3 0⟩
end Go.Proofs.YtddkhnclmeikfaaGreat
