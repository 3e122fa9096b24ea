import Derived.Test.YtddkhnclmeikfaaGreatEl
set_option maxRecDepth 100000
set_option maxHeartbeats 1000000
namespace Go.Proofs.YtddkhnclmeikfaaGreat
open Go.RowKit
attribute [local go_sem ↓] Go.wp_at_zero Go.wp_at_succ
theorem c8k[p:Inhabited uQ](B g:Nat)(x:Hp)(a b c:Nat)(n:Int)(w:World)(h:GOk B w g x)(s:Snd x)(ha:a<16)(hb:b<16)(v:World)(hv:v.heap.size<=B)(hx:Ext v w):
  Calls Tryz.prog 252 #[.pointer (some ⟨g,0,none⟩),yL 6 a b c n] w λe w'=>zQ B g x a b c n 6 v e w':=by
 obtain⟨p1,o1,g1⟩:=GOk.enter h (w0:=doW w 6 a b c n) (((Ext.refl w).alloc _).alloc _);obtain⟨br,kr,hr⟩:=g1.B s.r1.B;have O1:=uU o1;have G1:=uU g1;have R1:=uU hr;have S:=uU s;have V0:=uU (show v.heap.size<=w.heap.size+1 by have:=hx.size;omega);have X1:=uU (show Ext v (doW w 6 a b c n) from(hx.alloc _).alloc _);obtain⟨t0,t1,t2,t3,t4,t5,t6,t7⟩:=tL.new w 6 a b c n;have c3:=hr.c3;obtain⟨r0,r1,r2⟩:=hr.r b hb;have j0:(0:Int)<=(b:Int):=by omega
 have j1:(b:Int)<16:=by omega
 clear h s hr o1 g1;cases q2:((x.r b).k == 2)
 ·have q2b:((x.r b).k != 2)=true:=by simpa using q2
  have D:=uU (show(x.r b).k≠2 by simpa using q2);clear q2;go_enter Tryz.func252,Tryz.ntmps252;go_wp2_with fail;refine(a0i 2 _).mono ?_;rintro e w3 ⟨rfl,x3⟩;have G3:=uU (G1.ext x3);have X3:=uU (X1.trans x3);clear x3 c3 r0 r1 r2 t0 t1 t2 t3 t4 t5 t6 t7;obtain⟨u0,u1,u2,u3,u4,u5,u6,u7⟩:=G3.boxes O1;have hw3:w.heap.size+1<w3.heap.size:=uL u5;go_wp2_with fail;refine bodyPost_ret (v:=qU 2 0) (by simp [results,Tryz.results252,go_sem,u5,u6]) rfl ?_;exact⟨_,2,0,rfl,.inl ⟨D,rfl,rfl,rfl⟩,GOk.done O1 G3 2 0,dZ X3 V0 2 0⟩
 ·have q2b:((x.r b).k != 2)=false:=by simpa using q2
  have D:=uU (show(x.r b).k=2 by simpa using q2);obtain⟨_,ea,hi,_,_⟩:=S.at b hb D;have L200:=S.ok.p200 _ hi;obtain⟨i,hI⟩:∃i,i=x.at b:=⟨_,rfl⟩;have HI:=uU hI;rw[<-hI] at ea hi L200;rw[ea] at r2;clear q2 ea hI;have i0:(0:Int)<=(i:Int):=by omega
  have i1:(i:Int)<(x.A.length:Int):=by omega
  by_cases hc:c<(x.c i).F.length
  ·have hc1:¬((c:Int)≥((x.c i).F.length:Int)):=by omega
   have hc2:(c:Int)<((x.c i).F.length:Int):=by omega
   have hc0:(0:Int)<=(c:Int):=by omega
   obtain⟨bc,kc,bp,kp,hp⟩:=G1.prw i hi c hc;have P1:=uU hp;have c4:=hp.c4;have p7:=hp.p7;obtain⟨e0,e1,e2,e3,e4,e5⟩:=hp.pr;clear hp;go_enter Tryz.func252,Tryz.ntmps252;go_wp2_with fail;go_quiet (fail);obtain⟨W2,hW2⟩:∃W,W=(doW w 6 a b c n).drewN nq:=⟨_,rfl⟩;rw[<-hW2];have x12:Ext (doW w 6 a b c n) W2:=by rw[hW2];exact Ext.drewN (Ext.refl _) nq
   have G2:=uU (G1.ext x12);have X2:=uU (X1.trans x12);have c4:=x12.keep c4;have p7:=x12.keep p7;have t0:=x12.keep t0;have t3:=x12.keep t3;have e0:=x12.keep e0;have e1:=x12.keep e1;have e2:=x12.keep e2;have e3:=x12.keep e3;have e4:=x12.keep e4;have e5:=x12.keep e5;have hg2:g<W2.heap.size:=uL c4;have hb2:bc<W2.heap.size:=uL p7;have hp2:bp<W2.heap.size:=uL e0;have hw2:w.heap.size<W2.heap.size:=uL t0;clear hW2 x12;clear c3 r0 r1 r2 t1 t2 t4 t5 t6 t7;go_wp2_with fail
   go_region
   obtain⟨W3,hW3⟩:∃W,W=(W2.alloc (.cells #[.int .i64 ((x.c i).p c).key.k,.int .i64 ((x.c i).p c).key.n,.int .i64 ((x.c i).p c).key.a,.int .i64 ((x.c i).p c).val.k,.int .i64 ((x.c i).p c).val.n,.int .i64 ((x.c i).p c).val.a] 154)).drew:=⟨_,rfl⟩;rw[<-hW3];have x23:Ext W2 W3:=by rw[hW3];exact((Ext.refl W2).alloc _).drew
   have PB:tQ W3 W2.heap.size 0 ((x.c i).p c):=by rw[hW3];exact⟨by simp [go_sem],by simp [go_sem],by simp [go_sem],by simp [go_sem],by simp [go_sem],by simp [go_sem]⟩
   obtain⟨y0,y1,y2,y3,y4,y5⟩:=PB;have G3:=uU (G2.ext x23);have X3:=uU (X2.trans x23);clear hW3 x23 c4 p7 t0 t3 e0 e1 e2 e3 e4 e5 hg2 hb2 hp2 hw2;obtain⟨t0,t1,t2,t3,t4,t5,t6,t7⟩:=G3.boxes O1;obtain⟨br',kr',hr⟩:=G3.B S.r1.B;have R3:=uU hr;have c3:=hr.c3;obtain⟨r0,r1,r2⟩:=hr.r a ha;have f:=hr.f;have hg3:g<W3.heap.size:=uL c3;have hb3:br'<W3.heap.size:=uL r0;have hbB:=hr.lo.1;have hw3:w.heap.size<W3.heap.size:=uL t0;have hy3:W2.heap.size<W3.heap.size:=uL y0;have a0:(0:Int)<=(a:Int):=by omega
   have a1:(a:Int)<16:=by omega
   have FK:=uU (show uE ((x.c i).p c).key x.A.length/\uE ((x.c i).p c).val x.A.length from by
    have:=((S.r4.2 i hi).2 c hc).2 (by rw[uH HI];exact(S.at b hb D).2.2.2.2);exact⟨this.1.1,this.2.1⟩)
   obtain⟨rr,hrr⟩:∃r,r=qX x ((x.c i).p c).val:=⟨_,rfl⟩
   have QR:=uU (show ∀W,Ext W3 W->Calls Tryz.prog 138 #[.pointer (some ⟨g,0,none⟩),(((x.c i).p c).val).v] W λe w'=>e=.returned rr.v/\Ext W w' from λW xW=>by
    rw[hrr];obtain⟨ar,kr,ac,kc,vg,br,bc,pb,pa,pk,role,h⟩:=G3.ext xW;exact a4q ((x.c i).p c).val W h FK.2)
   have HR:=uU hrr;have FN:=uU (show ∀W,Ext W3 W->GOk B (dV W br' (a*3) rr) g (regTo x a rr)/\Ext v (dV W br' (a*3) rr) from λW xW=>⟨R3.set W a rr xW ha,(a0e W br' (a*3) rr).ext (X3.trans xW) (λq hq e=>by omega)⟩);unfold dV at FN;clear hr hrr;go_wp2_with fail;go_cut [] (λwx=>Hid (GOk B wx g (regTo x a rr))/\Hid (Ext v wx))
   case first=>
    go_region_with (go_at_call 138;refine(QR _ (Ext.refl W3).drew).mono ?_;rintro e w5 ⟨rfl,x5⟩;have xw5:=Ext.trans (Ext.refl W3).drew x5;have k3:=xw5.keep c3;have k0:=xw5.keep r0;have k1:=xw5.keep r1;have k2:=xw5.keep r2;have kf:=λm=>((cD xw5).2 br' m hb3).trans (f m);have ka:=xw5.keep t1;have F5:=uU (FN w5 xw5);clear x5 xw5)
    all_goals
     go_wp2_with fail;go_meet;exact⟨F5.1,F5.2⟩
   case rest=>
    obtain⟨G5,X5⟩:=hcut;clear c3 r0 r1 r2 f t0 t1 t2 t3 t4 t5 t6 t7 y0 y1 y2 y3 y4 y5 FN QR;go_wp2_with fail;refine(cY 0 _).mono ?_;rintro e w6 ⟨rfl,x6⟩;have G6:=uU (G5.ext x6);have X6:=uU (X5.trans x6);obtain⟨u0,u1,u2,u3,u4,u5,u6,u7⟩:=G6.boxes O1;have hw6:w.heap.size+1<w6.heap.size:=uL u5;clear x6;go_wp2_with fail;refine bodyPost_ret (v:=qU 0 0) (by simp [results,Tryz.results252,go_sem,u5,u6]) rfl ?_;exact⟨_,0,0,rfl,.inr (.inr ⟨D,by rw[<-uH HI];exact hc,by rw[<-uH HI];show regTo x a rr=regTo x a (qX x ((x.c i).p c).val);rw[<-uH HR],rfl,rfl⟩),GOk.done O1 G6 0 0,dZ X6 V0 0 0⟩
  ·have hc1:(c:Int)≥((x.c i).F.length:Int):=by omega
   obtain⟨bc,kc,ap,kp,hce⟩:=G1.cel i hi;have c4:=hce.c4;have p7:=hce.p7;clear hce;go_enter Tryz.func252,Tryz.ntmps252;go_wp2_with fail;go_quiet (fail);obtain⟨W2,hW2⟩:∃W,W=(doW w 6 a b c n).drewN nq:=⟨_,rfl⟩;rw[<-hW2];have x12:Ext (doW w 6 a b c n) W2:=by rw[hW2];exact Ext.drewN (Ext.refl _) nq
   clear hW2;go_wp2_with fail;refine(a0i 3 _).mono ?_;rintro e w3 ⟨rfl,x3⟩;have G3:=uU (G1.ext (x12.trans x3));have X3:=uU (X1.trans (x12.trans x3));clear x3 x12 c3 r0 r1 r2 t0 t1 t2 t3 t4 t5 t6 t7 c4 p7;obtain⟨u0,u1,u2,u3,u4,u5,u6,u7⟩:=G3.boxes O1;have hw3:w.heap.size+1<w3.heap.size:=uL u5;go_wp2_with fail;refine bodyPost_ret (v:=qU 3 0) (by simp [results,Tryz.results252,go_sem,u5,u6]) rfl ?_;exact⟨_,3,0,rfl,.inr (.inl ⟨D,by rw[<-uH HI];omega,rfl,rfl,rfl⟩),GOk.done O1 G3 3 0,dZ X3 V0 3 0⟩
end Go.Proofs.YtddkhnclmeikfaaGreat
