import Derived.Test.YtgkpaibbdkggiaaGreatDoorDmn
set_option maxRecDepth 100000
set_option maxHeartbeats 100000000
namespace Go.Proofs.YtgkpaibbdkggiaaGreatDoor
open Go.RowKit Tryz
attribute [local go_sem ↓] Go.wp_at_zero Go.wp_at_succ
theorem a6b(w:World)(p:Addr):w.drew.cell? p=w.cell? p:=kT (a:=p) rfl
theorem d1q[p:qr](q:Nat)(o:Int)(hq:q=7/\o=7\/q=8/\o=8)(B g:Nat)(x:Hp)(a b c:Nat)(n:Int)(w:World)(h:GOk B w g x)(s:Snd x)(ha:a<16)(hb:b<16)(v:World)(hv:v.heap.size<=B)(hx:Ext v w):
  Calls prog 69 #[.pointer (some ⟨g,0,none⟩),yU o a b c n] w λe w'=>a1a B g x a b c n q v e w':=by
 obtain⟨p1,o1,g1⟩:=GOk.enter h (w0:=doW w o a b c n) ((eAl w _).alloc _);obtain⟨br,kr,hr⟩:=g1.B s.r1.B;have O1:=uU o1;have G1:=uU g1;have R1:=uU hr;have S:=uU s;have V0:=uU (show v.heap.size<=w.heap.size+1 by have:=hx.size;omega);have X1:=uU (show Ext v (doW w o a b c n) from(hx.alloc _).alloc _);obtain⟨t0,t1,t2,t3,t4,t5,t6,t7⟩:=yE.new w o a b c n;have c3:=hr.c3;obtain⟨r0,r1,r2⟩:=hr.r a ha;have j0:=i0N a;have j1:(a:Int)<16:=by omega
 clear h s hr o1 g1;obtain⟨sel,hs⟩:∃s:Pr->Wd->Pr×Nat,s=(λp y=>if q=7 then (⟨y,p.val⟩,0) else (⟨p.key,y⟩,3)):=⟨_,rfl⟩;have HS:=uU hs;clear hs;have f5:(o == 5)=false:=by obtain⟨_,rfl⟩|⟨_,rfl⟩:=hq <;> rfl
 have f6:(o == 6)=false:=by obtain⟨_,rfl⟩|⟨_,rfl⟩:=hq <;> rfl
 have hq:(o == 7)=true/\q=7\/(o == 7)=false/\q=8:=by obtain⟨rfl,rfl⟩|⟨rfl,rfl⟩:=hq <;> simp
 obtain⟨f7,rfl⟩|⟨f7,rfl⟩:=hq;all_goals
  cases q2:((x.r a).k == 2)
  have q2b:((x.r a).k != 2)=true:=by simpa using q2
  have D:=uU (show(x.r a).k≠2 by simpa using q2);clear q2;go_in;go_wp21;refine(a0r 2 _).mono ?_;rintro e w3 ⟨rfl,x3⟩;have G3:=uU (G1.ext x3);have X3:=uU (X1.trans x3);clear x3 c3 r0 r1 r2 t0 t1 t2 t3 t4 t5 t6 t7;obtain⟨u0,u1,u2,u3,u4,u5,u6,u7⟩:=G3.boxes O1;have hw3:w.heap.size+1<w3.heap.size:=uQ u5;go_wp21;refine bodyPost_ret (v:=tD 2 0) (by simp[results,results69,go_sem,u5,u6]) rfl ?_;exact⟨_,2,0,rfl,.inl ⟨D,rfl,rfl,rfl⟩,GOk.done O1 G3 2 0,eJ X3 V0 2 0⟩;have q2b:((x.r a).k != 2)=false:=by simpa using q2
  have D:=uU (show(x.r a).k=2 by simpa using q2);obtain⟨_,ea,hi,_,_⟩:=S.at a ha D;have L200:=S.ok.p200 _ hi;obtain⟨i,hI⟩:=obE (x.at a);have HI:=uU hI;rw[<-hI]at ea hi L200;rw[ea]at r2;clear q2 ea hI;have i0:=i0N i;have i1:(i:Int)<(x.A.length:Int):=by omega
  by_cases hc:c<(x.c i).F.length
  ·have hc1:¬((c:Int)≥((x.c i).F.length:Int)):=by omega
   have hc2:(c:Int)<((x.c i).F.length:Int):=by omega
   have hc0:=i0N c;obtain⟨bc,kc,bp,kp,hp⟩:=G1.prw i hi c hc;have P1:=uU hp;have c4:=hp.c4;have p7:=hp.p7;obtain⟨e0,e1,e2,e3,e4,e5⟩:=hp.pr;clear hp;go_in;go_wp21;go_quiet (fail);obtain⟨W2,hW2⟩:∃W,W=(doW w o a b c n).drewN nq:=⟨_,rfl⟩;rw[<-hW2];have x12:Ext (doW w o a b c n) W2:=by rw[hW2];exact Ext.drewN (hO _) nq
   have G2:=uU (G1.ext x12);have X12:=uU x12;have X2:=uU (X1.trans x12);have c4:=x12.keep c4;have p7:=x12.keep p7;have t0:=x12.keep t0;have t3:=x12.keep t3;have e0:=x12.keep e0;have e1:=x12.keep e1;have e2:=x12.keep e2;have e3:=x12.keep e3;have e4:=x12.keep e4;have e5:=x12.keep e5;have hg2:=cLt c4;have hb2:=cLt p7;have hp2:=cLt e0;have hw2:=cLt t0;clear hW2 x12;clear c3 r0 r1 r2 t1 t2 t4 t5 t6 t7;go_wp21;go_region;obtain⟨W3,hW3⟩:∃W,W=(W2.alloc (oPr ((x.c i).p c))).drew:=⟨_,rfl⟩;rw[<-hW3];have x23:Ext W2 W3:=by rw[hW3];exact(eAl W2 _).drew
   have X23:=uU x23;have yf:∀j,W3.frozen? ⟨W2.heap.size,j,none⟩=false:=λj=>by rw[hW3];simp[go_sem]
   have PB:qY W3 W2.heap.size 0 ((x.c i).p c):=by rw[hW3];exact⟨by simp[go_sem],by simp[go_sem],by simp[go_sem],by simp[go_sem],by simp[go_sem],by simp[go_sem]⟩
   obtain⟨y0,y1,y2,y3,y4,y5⟩:=PB;have G3:=uU (G2.ext x23);have X3:=uU (X2.trans x23);clear hW3 x23 c4 p7 t0 t3 e0 e1 e2 e3 e4 e5 hg2 hb2 hp2 hw2;obtain⟨t0,t1,t2,t3,t4,t5,t6,t7⟩:=G3.boxes O1;obtain⟨br',kr',hr⟩:=G3.B S.r1.B;have c3:=hr.c3;obtain⟨r0,r1,r2⟩:=hr.r b hb;have hg3:=cLt c3;have hb3:=cLt r0;have hw3:=cLt t0;have hy3:=cLt y0;have b0:=i0N b;have b1:(b:Int)<16:=by omega
   clear hr;obtain⟨yy,hyy⟩:∃y,y=x.r b:=⟨_,rfl⟩;have HY:=uU hyy;rw[<-hyy]at r0 r1 r2;obtain⟨oo,hoo⟩:∃o,o=(sel ((x.c i).p c) yy).2:=⟨_,rfl⟩;obtain⟨qq,hqq⟩:∃q,q=(sel ((x.c i).p c) yy).1:=⟨_,rfl⟩;have hs:=uH HS;simp at hs;rw[hs]at hoo hqq;dsimp only at hoo hqq;have QQ:=uU hqq;obtain⟨W4,hW4⟩:∃W,W=(cX W3 W2.heap.size oo yy).drew:=⟨_,rfl⟩;have x24:Ext W2 W4:=by rw[hW4];exact((cD W3 W2.heap.size oo yy).ext X23 (λq hq e=>by omega)).drew
   subst hoo;clear hyy hqq hs HS;have P4:qY W4 W2.heap.size 0 qq:=by
    rw[hW4,uH QQ];first
     | (have k:=a1m W3 W2.heap.size 0 yy ((x.c i).p c).key ⟨y0,y1,y2⟩;exact⟨(a6b _ _).trans k.1,(a6b _ _).trans k.2.1,(a6b _ _).trans k.2.2,by rw[a6b,dL _ _ _ _ _ (by omega)];exact y3,by rw[a6b,dL _ _ _ _ _ (by omega)];exact y4,by rw[a6b,dL _ _ _ _ _ (by omega)];exact y5⟩)
     | (have k:=a1m W3 W2.heap.size 3 yy ((x.c i).p c).val ⟨y3,y4,y5⟩;exact⟨by rw[a6b,dL _ _ _ _ _ (by omega)];exact y0,by rw[a6b,dL _ _ _ _ _ (by omega)];exact y1,by rw[a6b,dL _ _ _ _ _ (by omega)];exact y2,(a6b _ _).trans k.1,(a6b _ _).trans k.2.1,(a6b _ _).trans k.2.2⟩)
   unfold cX at hW4;go_wp21;go_region;rw[<-hW4];have P24:=uU (P1.ext (X12.trans x24));have G4:=uU (G2.ext x24);have X4:=uU (X2.trans x24);clear hW4 x24 c3 r0 r1 r2 t0 t1 t2 t3 t4 t5 t6 t7 y0 y1 y2 y3 y4 y5 yf hg3 hb3 hw3 hy3;obtain⟨t0,t1,t2,t3,t4,t5,t6,t7⟩:=G4.boxes O1;have c4:=P24.c4;have p7:=P24.p7;obtain⟨e0,e1,e2,e3,e4,e5⟩:=P24.pr;obtain⟨y0,y1,y2,y3,y4,y5⟩:=P4;have fp:=P24.f;have hg4:=cLt c4;have hb4:=cLt p7;have hp4:=cLt e0;have hw4:=cLt t0;have hy4:=cLt y0;have FN:=uU (show GOk B (yJ W4 bp (c*6) qq).drew g (hD x i { x.c i with F:=(x.c i).F.set c qq })/\Ext v (yJ W4 bp (c*6) qq).drew from⟨(P24.set W4 qq (hO _)).ext (eDr _),((a1z W4 bp (c*6) qq).ext X4 (λq hq e=>by have:=P24.lo.1;omega)).drew⟩);obtain⟨W5,hW5⟩:∃W,W=(yJ W4 bp (c*6) qq).drew:=⟨_,rfl⟩;rw[<-hW5]at FN;unfold yJ at hW5;go_wp21;go_region;rw[<-hW5];clear hW5 c4 p7 e0 e1 e2 e3 e4 e5 y0 y1 y2 y3 y4 y5 fp hg4 hb4 hp4 hw4 hy4 t0 t1 t2 t3 t4 t5 t6 t7;obtain⟨z,hz⟩:=obE (hD x i { x.c i with F:=(x.c i).F.set c qq });rw[<-hz]at FN;have ZR:=uU (show z.B=x.B/\z.A.length=x.A.length/\z.D=x.D from by rw[hz];exact⟨rfl,by simp[hD],rfl⟩);have ZS:=uU (show ∀q,(z.c q).st=(x.c q).st from λq=>by
    rw[hz];show(({ x with A:=x.A.set i _ }:Hp).c q).st=_;rw[Hp.c_set x i _ hi q];by_cases e:q=i;rw[if_pos e,e];rw[if_neg e])
   have HZ:=uU hz;clear hz;obtain⟨br2,kr2,hr2⟩:=FN.1.B (by rw[ZR.1];exact S.r1.B);have c3:=hr2.c3;obtain⟨r0,r1,r2⟩:=hr2.r b hb;have er:z.r b=yy:=by rw[uH HY];unfold Hp.r;rw[ZR.1]
   rw[er]at r0 r1 r2;have hg5:=cLt c3;have hb5:=cLt r0;obtain⟨t0,t1,t2,t3,t4,t5,t6,t7⟩:=FN.1.boxes O1;have hw5:=cLt t0;have GD:=uU (show eD z yy/\(yy.k=2->0<=yy.a) from by
    have l:=S.reg b hb;rw[<-uH HY]at l;have l1:=l.1;unfold uJ at l1;exact⟨λhk=>⟨by rw[ZR.2.1];omega,by
     rw[uH ZS];obtain o|o:=l.2 hk;exact o.2.elim;exact o.1⟩,λhk=>by omega⟩)
   have QS:=uU (show ∀W,Ext W5 W->Calls prog 128 #[.pointer (some ⟨g,0,none⟩),yy.v] W λe w'=>∃r:Bool,e=.returned (.bool r)/\Hid (GOk B w' g (uX z yy))/\Ext v w' from λW xW=>by
    refine(b4r B g z yy W (FN.1.ext xW) (by rw[ZR.2.1];exact S.ok.n8) (by rw[ZR.2.2];have:=S.r1.D;have:=S.ok.n8;omega) GD.1 GD.2 v hv (FN.2.trans xW) ?_).mono ?_;have:=(FN.1.ext xW).box.2.2.2.2;omega;rintro e w' h;exact⟨_,h.1,h.2.1,h.2.2⟩)
   clear hr2 er;go_wp21;go_region_with (go_at_call 128;refine(QS _ (eDr W5)).mono ?_;rintro e w6 ⟨r,rfl,G5,x6⟩;have X5:=uU x6;clear x6);all_goals
    clear c3 r0 r1 r2 t0 t1 t2 t3 t4 t5 t6 t7 FN QS;go_wp21;refine(a0j 0 _).mono ?_;rintro e w6 ⟨rfl,x6⟩;have G6:=uU (G5.ext x6);have X6:=uU (X5.trans x6);obtain⟨u0,u1,u2,u3,u4,u5,u6,u7⟩:=G6.boxes O1;have hw6:w.heap.size+1<w6.heap.size:=uQ u5;clear x6;go_wp21;refine bodyPost_ret (v:=tD 0 0) (by simp[results,results69,go_sem,u5,u6]) rfl ?_;exact⟨_,0,0,rfl,.inr (.inr ⟨D,by rw[<-uH HI];exact hc,by rw[<-uH HI,uH HZ,uH QQ,uH HY];rfl,rfl,rfl⟩),GOk.done O1 G6 0 0,eJ X6 V0 0 0⟩
  have hc1:(c:Int)≥((x.c i).F.length:Int):=by omega
  obtain⟨bc,kc,ap,kp,hce⟩:=G1.cel i hi;have c4:=hce.c4;have p7:=hce.p7;clear hce;go_in;go_wp21;go_quiet (fail);obtain⟨W2,hW2⟩:∃W,W=(doW w o a b c n).drewN nq:=⟨_,rfl⟩;rw[<-hW2];have x12:Ext (doW w o a b c n) W2:=by rw[hW2];exact Ext.drewN (hO _) nq
  clear hW2;go_wp21;refine(a0r 3 _).mono ?_;rintro e w3 ⟨rfl,x3⟩;have G3:=uU (G1.ext (x12.trans x3));have X3:=uU (X1.trans (x12.trans x3));clear x3 x12 c3 r0 r1 r2 t0 t1 t2 t3 t4 t5 t6 t7 c4 p7;obtain⟨u0,u1,u2,u3,u4,u5,u6,u7⟩:=G3.boxes O1;have hw3:w.heap.size+1<w3.heap.size:=uQ u5;go_wp21;refine bodyPost_ret (v:=tD 3 0) (by simp[results,results69,go_sem,u5,u6]) rfl ?_;exact⟨_,3,0,rfl,.inr (.inl ⟨D,by rw[<-uH HI];omega,rfl,rfl,rfl⟩),GOk.done O1 G3 3 0,eJ X3 V0 3 0⟩
