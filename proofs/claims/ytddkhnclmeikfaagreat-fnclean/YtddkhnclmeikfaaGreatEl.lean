import Derived.Test.YtddkhnclmeikfaaGreatVg
set_option maxRecDepth 100000
set_option maxHeartbeats 6000000
namespace Go.Proofs.YtddkhnclmeikfaaGreat
open Go.RowKit
attribute [local go_sem ↓] Go.wp_at_zero Go.wp_at_succ
variable{x:Hp}{w w':World}{B g i bc kc kp:Nat}{vr vc vg:Value}
theorem dE.set9(h:dE w B x vr vc vg)(u:Int):dE (w.setCell ⟨B,9,none⟩ (iv u)) B { x with per:=u } vr vc vg:=by
 obtain⟨h0,h1,h2,h3,h4,h5,h6,h7,h8,h9,h10,h11,h12⟩:=h;refine⟨?_,?_,?_,?_,?_,?_,?_,?_,?_,?_,?_,?_,?_⟩ <;> first | exact(uC _ (by omega)).trans (by assumption) | exact World.cell?_setCell_same _ _ _ (by assumption)
theorem dE.set10(h:dE w B x vr vc vg)(u:Int):dE (w.setCell ⟨B,10,none⟩ (iv u)) B { x with V:=u } vr vc vg:=by
 obtain⟨h0,h1,h2,h3,h4,h5,h6,h7,h8,h9,h10,h11,h12⟩:=h;refine⟨?_,?_,?_,?_,?_,?_,?_,?_,?_,?_,?_,?_,?_⟩ <;> first | exact(uC _ (by omega)).trans (by assumption) | exact World.cell?_setCell_same _ _ _ (by assumption)
theorem GOk.set9[Inhabited uQ](h:GOk B w g x)(v:Int):GOk B (w.setCell ⟨g,9,none⟩ (iv v)) g { x with per:=v }:=by
 obtain⟨ar,kr,ac,kc,vg,br,bc,pb,pa,pk,role,h⟩:=h;exact⟨_,_,_,_,_,_,_,_,_,_,_,h.boxed (x':={ x with per:=v }) (uZ.setCell (S:=λq=>q=g) (uZ.refl _ w) (p:=⟨g,9,none⟩) rfl _) (h.nf.set _ _) rfl rfl rfl (h.bx.set9 v)⟩
theorem GOk.set10[Inhabited uQ](h:GOk B w g x)(v:Int):GOk B (w.setCell ⟨g,10,none⟩ (iv v)) g { x with V:=v }:=by
 obtain⟨ar,kr,ac,kc,vg,br,bc,pb,pa,pk,role,h⟩:=h;exact⟨_,_,_,_,_,_,_,_,_,_,_,h.boxed (x':={ x with V:=v }) (uZ.setCell (S:=λq=>q=g) (uZ.refl _ w) (p:=⟨g,10,none⟩) rfl _) (h.nf.set _ _) rfl rfl rfl (h.bx.set10 v)⟩
theorem a4y[p:Inhabited uQ](B g:Nat)(x:Hp)(k:Nat)(op:Int)(a b c:Nat)(n:Int)(w:World)(hk:(k=2/\op=2)\/(k=3/\op=3)\/(k=4/\op=4)\/(k=13/\op=13)\/(k=14/\op=14)\/(k=15/\op=15))(h:GOk B w g x)(s:Snd x)(ok:qY op a b c n=true)(v:World)(hv:v.heap.size<=B)(hx:Ext v w)(ha:a<16)(hB:k=4\/k=13->b<16):
  Calls Tryz.prog 234 #[.pointer (some ⟨g,0,none⟩),yL op a b c n] w λe w'=>zQ B g x a b c n k v e w':=by
 obtain⟨p1,o1,g1⟩:=GOk.enter h (w0:=doW w op a b c n) (((Ext.refl w).alloc _).alloc _);obtain⟨br,kr,hr⟩:=g1.B s.r1.B;have HR:=uU hr;have i0:(0:Int)<=(a:Int):=by omega
 have i1:(a:Int)<16:=by omega
 have HG:=uU g1;have O1:=uU o1;have QA:=uU (λW=>a1g op a b c n W);rw[ok] at QA;have V0:=uU (show v.heap.size<=w.heap.size+1 by have:=hx.size;omega);have XD:=uU (show Ext v (doW w op a b c n) from(hx.alloc _).alloc _);have BX:=uU (tL.new w op a b c n);clear h s hr o1 g1;rcases hk with⟨rfl,rfl⟩ | ⟨rfl,rfl⟩ | ⟨rfl,rfl⟩ | ⟨rfl,rfl⟩ | ⟨rfl,rfl⟩ | ⟨rfl,rfl⟩
 all_goals
  go_enter Tryz.func234,Tryz.ntmps234;go_wp2_with fail;refine(QA _).mono ?_;rintro e w1 ⟨rfl,x1⟩;have X1:=uU (XD.trans x1);have BX1:=uU (BX.ext x1);obtain⟨t0,t1,t2,t3,t4,t5,t6,t7⟩:=uH BX1;have hw1:w.heap.size+1<w1.heap.size:=uL t5;have hw0:w.heap.size<w1.heap.size:=uL t0;have G1:=uU (HG.ext x1);have R1:=uU (HR.ext x1);have c3:=R1.c3;obtain⟨r0,r1,r2⟩:=R1.r a ha;have hg1:g<w1.heap.size:=uL c3;have hb1:br<w1.heap.size:=uL r0;clear x1 QA BX1 BX XD HG HR
 ·have f:=R1.f;have hbB:=R1.lo.1;have FN:=uU (show GOk B (dV w1 br (a*3) ⟨1,n,0⟩) g (regTo x a ⟨1,n,0⟩)/\Ext v (dV w1 br (a*3) ⟨1,n,0⟩) from⟨R1.set w1 a ⟨1,n,0⟩ (Ext.refl _) ha,(a0e w1 br (a*3) ⟨1,n,0⟩).ext X1 (λq hq e=>by omega)⟩);obtain⟨W2,hW2⟩:∃W,W=dV w1 br (a*3) ⟨1,n,0⟩:=⟨_,rfl⟩;rw[<-hW2] at FN;unfold dV at hW2;clear t2 t3;go_wp2_with fail
  go_region
  go_wp2_with fail;rw[<-hW2];refine(cY 0 _).mono ?_;rintro e w3 ⟨rfl,x3⟩;have x23:=Ext.trans (Ext.refl W2).drew x3;have G3:=uU (FN.1.ext x23);have X3:=uU (FN.2.trans x23);obtain⟨u0,u1,u2,u3,u4,u5,u6,u7⟩:=G3.boxes O1;have hw3:w.heap.size+1<w3.heap.size:=uL u5;clear hW2 FN c3 r0 r1 r2 f t0 t1 t4 t5 t6 t7 x3 x23;go_wp2_with fail;refine bodyPost_ret (v:=qU 0 0) (by simp [results,Tryz.results234,go_sem,u5,u6]) rfl ?_;exact a1e O1 G3 X3 V0 (⟨rfl,rfl,rfl⟩)
 ·have f:=R1.f;have hbB:=R1.lo.1;have FN:=uU (show GOk B (dV w1 br (a*3) Wd0) g (regTo x a Wd0)/\Ext v (dV w1 br (a*3) Wd0) from⟨R1.set w1 a Wd0 (Ext.refl _) ha,(a0e w1 br (a*3) Wd0).ext X1 (λq hq e=>by omega)⟩);obtain⟨W2,hW2⟩:∃W,W=dV w1 br (a*3) Wd0:=⟨_,rfl⟩;rw[<-hW2] at FN;unfold dV Wd0 at hW2;go_wp2_with fail
  go_region
  go_wp2_with fail;rw[<-hW2];refine(cY 0 _).mono ?_;rintro e w3 ⟨rfl,x3⟩;have x23:=Ext.trans (Ext.refl W2).drew x3;have G3:=uU (FN.1.ext x23);have X3:=uU (FN.2.trans x23);clear hW2 FN c3 r0 r1 r2 f t0 t1 t2 t3 t4 t5 t6 t7 x3 x23;obtain⟨u0,u1,u2,u3,u4,u5,u6,u7⟩:=G3.boxes O1;have hw3:w.heap.size+1<w3.heap.size:=uL u5;go_wp2_with fail;refine bodyPost_ret (v:=qU 0 0) (by simp [results,Tryz.results234,go_sem,u5,u6]) rfl ?_;exact a1e O1 G3 X3 V0 (⟨rfl,rfl,rfl⟩)
 ·have hb:=hB (by simp);have j0:(0:Int)<=(b:Int):=by omega
  have j1:(b:Int)<16:=by omega
  obtain⟨s0,s1,s2⟩:=R1.r b hb;have f:=R1.f;have hbB:=R1.lo.1;have FN:=uU (show GOk B (dV w1 br (a*3) (x.r b)) g (regTo x a (x.r b))/\Ext v (dV w1 br (a*3) (x.r b)) from⟨R1.set w1 a (x.r b) (Ext.refl _) ha,(a0e w1 br (a*3) (x.r b)).ext X1 (λq hq e=>by omega)⟩);obtain⟨W2,hW2⟩:∃W,W=dV w1 br (a*3) (x.r b):=⟨_,rfl⟩;rw[<-hW2] at FN;unfold dV at hW2;go_wp2_with fail
  go_region
  go_wp2_with fail;rw[<-hW2];refine(cY 0 _).mono ?_;rintro e w3 ⟨rfl,x3⟩;have x23:=Ext.trans (Ext.refl W2).drew x3;have G3:=uU (FN.1.ext x23);have X3:=uU (FN.2.trans x23);clear hW2 FN c3 r0 r1 r2 f t0 t1 t2 t3 t4 t5 t6 t7 x3 x23 s0 s1 s2;obtain⟨u0,u1,u2,u3,u4,u5,u6,u7⟩:=G3.boxes O1;have hw3:w.heap.size+1<w3.heap.size:=uL u5;go_wp2_with fail;refine bodyPost_ret (v:=qU 0 0) (by simp [results,Tryz.results234,go_sem,u5,u6]) rfl ?_;exact a1e O1 G3 X3 V0 (⟨rfl,rfl,rfl⟩)
 ·have hb:=hB (by simp);have j0:(0:Int)<=(b:Int):=by omega
  have j1:(b:Int)<16:=by omega
  cases q:wdB (x.r a) (x.r b)
  ·have we:=λW=>wd_eq (x.r a) (x.r b) W
   rw[q] at we;have Q:=uU q;clear q;obtain⟨s0,s1,s2⟩:=R1.r b hb;go_wp2_with fail;go_quiet (fail);obtain⟨W2,hW2⟩:∃W,W=w1.drewN nq:=⟨_,rfl⟩;rw[<-hW2];have x12:Ext w1 W2:=by rw[hW2];exact Ext.drewN (Ext.refl w1) nq
   clear hW2;go_wp2_with fail;refine(cY 0 _).mono ?_;rintro e w3 ⟨rfl,x3⟩;have G3:=uU (G1.ext (x12.trans x3));have X3:=uU (X1.trans (x12.trans x3));clear c3 r0 r1 r2 s0 s1 s2 t0 t1 t2 t3 t4 t5 t6 t7 x3 x12 we;obtain⟨u0,u1,u2,u3,u4,u5,u6,u7⟩:=G3.boxes O1;have hw3:w.heap.size+1<w3.heap.size:=uL u5;go_wp2_with fail;refine bodyPost_ret (v:=qU 0 0) (by simp [results,Tryz.results234,go_sem,u5,u6]) rfl ?_;exact a1e O1 G3 X3 V0 (⟨rfl,rfl,by rw[uH Q];rfl⟩)
  ·have we:=λW=>wd_eq (x.r a) (x.r b) W
   rw[q] at we;have Q:=uU q;clear q;obtain⟨s0,s1,s2⟩:=R1.r b hb;go_wp2_with fail;go_quiet (fail);obtain⟨W2,hW2⟩:∃W,W=w1.drewN nq:=⟨_,rfl⟩;rw[<-hW2];have x12:Ext w1 W2:=by rw[hW2];exact Ext.drewN (Ext.refl w1) nq
   clear hW2;go_wp2_with fail;refine(cY 1 _).mono ?_;rintro e w3 ⟨rfl,x3⟩;have G3:=uU (G1.ext (x12.trans x3));have X3:=uU (X1.trans (x12.trans x3));clear c3 r0 r1 r2 s0 s1 s2 t0 t1 t2 t3 t4 t5 t6 t7 x3 x12 we;obtain⟨u0,u1,u2,u3,u4,u5,u6,u7⟩:=G3.boxes O1;have hw3:w.heap.size+1<w3.heap.size:=uL u5;go_wp2_with fail;refine bodyPost_ret (v:=qU 0 1) (by simp [results,Tryz.results234,go_sem,u5,u6]) rfl ?_;exact a1e O1 G3 X3 V0 (⟨rfl,rfl,by rw[uH Q];rfl⟩)
 ·go_wp2_with fail;go_region_with (go_at_call 161;refine(cY (x.r a).k _).mono ?_;rintro e w3 ⟨rfl,x3⟩;have x13:=Ext.trans (Ext.refl w1).drew x3;have G3:=uU (G1.ext x13);have X3:=uU (X1.trans x13);obtain⟨u0,u1,u2,u3,u4,u5,u6,u7⟩:=G3.boxes O1;have hw3:w.heap.size+1<w3.heap.size:=uL u5;clear x3 x13)
  all_goals
   go_wp2_with fail;refine bodyPost_ret (v:=qU 0 (x.r a).k) (by simp [results,Tryz.results234,go_sem,u5,u6]) rfl ?_;exact a1e O1 G3 X3 V0 (⟨rfl,rfl,rfl⟩)
 ·cases q:((x.r a).k == 1)
  ·have q2:((x.r a).k != 1)=true:=by simpa using q
   have QD:=uU (show(x.r a).k≠1 by simpa using q);clear q;go_wp2_with fail;go_quiet (fail);obtain⟨W2,hW2⟩:∃W,W=w1.drewN nq:=⟨_,rfl⟩;rw[<-hW2];have x12:Ext w1 W2:=by rw[hW2];exact Ext.drewN (Ext.refl w1) nq
   clear hW2;go_wp2_with fail;refine(a0i 2 _).mono ?_;rintro e w3 ⟨rfl,x3⟩;have G3:=uU (G1.ext (x12.trans x3));have X3:=uU (X1.trans (x12.trans x3));clear c3 r0 r1 r2 t0 t1 t2 t3 t4 t5 t6 t7 x3;obtain⟨u0,u1,u2,u3,u4,u5,u6,u7⟩:=G3.boxes O1;have hw3:w.heap.size+1<w3.heap.size:=uL u5;go_wp2_with fail;refine bodyPost_ret (v:=qU 2 0) (by simp [results,Tryz.results234,go_sem,u5,u6]) rfl ?_;exact a1e O1 G3 X3 V0 (⟨rfl,.inl ⟨QD,rfl,rfl⟩⟩)
  ·have q2:((x.r a).k != 1)=false:=by simpa using q
   have QD:=uU (show(x.r a).k=1 by simpa using q);clear q;go_wp2_with fail;go_quiet (fail);obtain⟨W2,hW2⟩:∃W,W=w1.drewN nq:=⟨_,rfl⟩;rw[<-hW2];have x12:Ext w1 W2:=by rw[hW2];exact Ext.drewN (Ext.refl w1) nq
   have G2:=uU (G1.ext x12);have X2:=uU (X1.trans x12);have e3:=x12.keep c3;have e0:=x12.keep r0;have e1:=x12.keep r1;obtain⟨u0,u1,u2,u3,u4,u5,u6,u7⟩:=G2.boxes O1;have hw3:w.heap.size+1<W2.heap.size:=uL u5;have hw4:w.heap.size<W2.heap.size:=uL u0;have hg2:g<W2.heap.size:=uL e3;have hb2:br<W2.heap.size:=uL e0;clear hW2 x12 c3 r0 r1 r2 t0 t1 t2 t3 t4 t5 t6 t7;go_wp2_with fail
   go_region
   all_goals
    go_wp2_with fail;refine bodyPost_ret (v:=qU 0 (x.r a).n) (by simp [results,Tryz.results234,go_sem,u5,u6]) rfl ?_;exact⟨x,0,(x.r a).n,rfl,⟨rfl,.inr ⟨QD,rfl,rfl⟩⟩,GOk.doneD O1 G2 0 (x.r a).n,(dZ X2 V0 0 (x.r a).n).drew⟩
theorem a5n[p:Inhabited uQ](B g:Nat)(x:Hp)(k:Nat)(op:Int)(a b c:Nat)(n:Int)(w:World)(hk:(k=18/\op=18)\/(k=19/\op=19)\/(k=20/\op=20)\/(k=21/\op=21)\/(k=22/\op=22)\/(k=23/\op=23)\/(k=24/\op=24))(h:GOk B w g x)(s:Snd x)(ok:qY op a b c n=true)(v:World)(hv:v.heap.size<=B)(hx:Ext v w)(ha:a<16)(hC:k=22->c<=100000):
  Calls Tryz.prog 234 #[.pointer (some ⟨g,0,none⟩),yL op a b c n] w λe w'=>zQ B g x a b c n k v e w':=by
 obtain⟨p1,o1,g1⟩:=GOk.enter h (w0:=doW w op a b c n) (((Ext.refl w).alloc _).alloc _);have S:=uU s;have HG:=uU g1;have O1:=uU o1;have QA:=uU (λW=>a1g op a b c n W);rw[ok] at QA;have V0:=uU (show v.heap.size<=w.heap.size+1 by have:=hx.size;omega);have XD:=uU (show Ext v (doW w op a b c n) from(hx.alloc _).alloc _);have BX:=uU (tL.new w op a b c n);clear h s o1 g1;rcases hk with⟨rfl,rfl⟩ | ⟨rfl,rfl⟩ | ⟨rfl,rfl⟩ | ⟨rfl,rfl⟩ | ⟨rfl,rfl⟩ | ⟨rfl,rfl⟩ | ⟨rfl,rfl⟩
 all_goals
  go_enter Tryz.func234,Tryz.ntmps234;go_wp2_with fail;refine(QA _).mono ?_;rintro e w1 ⟨rfl,x1⟩;have X1:=uU (XD.trans x1);have BX1:=uU (BX.ext x1);obtain⟨t0,t1,t2,t3,t4,t5,t6,t7⟩:=uH BX1;have hw1:w.heap.size+1<w1.heap.size:=uL t5;have hw0:w.heap.size<w1.heap.size:=uL t0;have G1:=uU (HG.ext x1);clear x1 QA BX1 BX XD HG
 ·have QS:=uU (show Calls Tryz.prog 90 #[.pointer (some ⟨g,0,none⟩)] w1 λe w'=>∃H:Nat->Bool,e=.returned (.tuple #[.int .i64 (a1p x H x.A.length),.int .i64 (a8o x H x.A.length)])/\Hid (∀i,H i=true↔tU x i)/\GOk B w' g (a4h x H)/\Ext v w' from by
   obtain⟨ar,kr,ac,kc,vg,br,bc,pb,pa,pk,role,h⟩:=G1;exact b6u ⟨pb,pa,pk,role,h⟩ S v hv X1)
  go_wp2_with fail;refine QS.mono ?_;rintro e w2 ⟨H,rfl,hh,h2,x2⟩;have G2:=uU h2;clear h2;go_wp2_with fail;refine(cY (a8o x H x.A.length:Nat) _).mono ?_;rintro e w3 ⟨rfl,x3⟩;have G3:=uU (G2.ext x3);have X3:=uU (x2.trans x3);clear x3 t0 t1 t2 t3 t4 t5 t6 t7;obtain⟨u0,u1,u2,u3,u4,u5,u6,u7⟩:=G3.boxes O1;have hw3:w.heap.size+1<w3.heap.size:=uL u5;go_wp2_with fail;refine bodyPost_ret (v:=qU 0 (a8o x H x.A.length:Nat)) (by simp [results,Tryz.results234,go_sem,u5,u6]) rfl ?_;exact a1e O1 G3 X3 V0 (⟨rfl,H,hh,rfl,rfl⟩)
 ·have QP:=uU (λ(W:World) (xW:Ext w1 W)=>c4x B g x a W (G1.ext xW) S ha v hv (X1.trans xW));go_wp2_with fail;refine(QP _ (Ext.refl _)).mono ?_;rintro e w3 ⟨y,nm,rfl,dr0,g3,x3⟩;obtain⟨cd,hcd⟩:∃cd:Int,cd=0:=⟨_,rfl⟩;have dr:=uU (show DoR x a b c n y cd nm 19 from⟨hcd,dr0⟩);have G3:=uU g3;have X3:=uU x3;rw[<-hcd];clear g3 x3 QP hcd dr0;obtain⟨u0,u1,u2,u3,u4,u5,u6,u7⟩:=G3.boxes O1;have hw3:w.heap.size+1<w3.heap.size:=uL u5;clear t0 t1 t2 t3 t4 t5 t6 t7;go_wp2_with fail;refine bodyPost_ret (v:=qU cd nm) (by simp [results,Tryz.results234,go_sem,u5,u6]) rfl ?_;exact a1e O1 G3 X3 V0 dr
 ·obtain⟨ag,ar,kr,ac,kc,kg,HT⟩:∃ag ar kr ac kc kg,Hid (HAt w1 g x ar kr ac kc ag kg):=by
   obtain⟨ar,kr,ac,kc,vg,br,bc,pb,pa,pk,role,h⟩:=G1;obtain⟨ag,kg,hat⟩:=h.hat S;exact⟨ag,ar,kr,ac,kc,kg,hat⟩
  go_wp2_with fail;refine(b1g x g w1 HT S.r2 S.r4 S.ok.n8).mono ?_;rintro e w2 ⟨vv,L,rfl,sn,hL,q2⟩;have SN:=uU sn;have H2:=uU (HT.ext q2);have G2:=uU (G1.ext q2);have x2:=X1.trans q2;clear sn q2;go_wp2_with fail;refine(b4x x g w1.heap.size (λi=>decide ((i:Int)∈L)) w2 H2 SN.s S.ok.n8 S.ok.p200).mono ?_;rintro e w2' ⟨rfl,rfl⟩;go_wp2_with fail;refine(cY (zY x (λi=>decide ((i:Int)∈L)) x.A.length:Nat) _).mono ?_;rintro e w3 ⟨rfl,x3⟩;have G3:=uU (G2.ext x3);have X3:=uU (x2.trans x3);clear x3 t0 t1 t2 t3 t4 t5 t6 t7;obtain⟨u0,u1,u2,u3,u4,u5,u6,u7⟩:=G3.boxes O1;have hw3:w.heap.size+1<w3.heap.size:=uL u5;go_wp2_with fail;refine bodyPost_ret (v:=qU 0 (zY x (λi=>decide ((i:Int)∈L)) x.A.length:Nat)) (by simp [results,Tryz.results234,go_sem,u5,u6]) rfl ?_;exact⟨_,0,(zY x (λi=>decide ((i:Int)∈L)) x.A.length:Nat),rfl,⟨rfl,rfl,λi=>decide ((i:Int)∈L),λi=>by rw[decide_eq_true_iff];exact hL i,rfl⟩,GOk.done O1 G3 0 (zY x (λi=>decide ((i:Int)∈L)) x.A.length:Nat),dZ X3 V0 0 (zY x (λi=>decide ((i:Int)∈L)) x.A.length:Nat)⟩
 ·have QL:=uU (show Calls Tryz.prog 75 #[.pointer (some ⟨g,0,none⟩)] w1 λe w'=>∃r:Nat,Hid (e=.returned (.int .i64 (r:Int)))/\zL x r/\Ext w1 w' from by
   obtain⟨ar,kr,ac,kc,vg,br,bc,pb,pa,pk,role,h⟩:=G1;obtain⟨ag,kg,hat⟩:=h.hat S;exact b2d x g w1 hat S.ok)
  go_wp2_with fail;refine QL.mono ?_;rintro e w2 ⟨r,rfl,lv,q2⟩
  have LV:=uU (show SumIs x (uY x) r from by
   rcases lv with⟨_,pp,h1,h2⟩ | ⟨h1,_⟩
   ·exact⟨pp,h1,by rw[h2]⟩
   ·exact absurd S.ok h1)
  have G2:=uU (G1.ext q2);have x2:=X1.trans q2;clear lv q2;go_wp2_with fail;refine(cY r _).mono ?_;rintro e w3 ⟨rfl,x3⟩;have G3:=uU (G2.ext x3);have X3:=uU (x2.trans x3);clear x3 t0 t1 t2 t3 t4 t5 t6 t7;obtain⟨u0,u1,u2,u3,u4,u5,u6,u7⟩:=G3.boxes O1;have hw3:w.heap.size+1<w3.heap.size:=uL u5;go_wp2_with fail;refine bodyPost_ret (v:=qU 0 r) (by simp [results,Tryz.results234,go_sem,u5,u6]) rfl ?_;exact a1e O1 G3 X3 V0 (⟨rfl,rfl,LV⟩)
 ·have hc:=hC (by simp);go_wp2_with fail;refine(a8i B g x c _ G1 S hc v hv X1).mono ?_;rintro e w2 ⟨k,rfl,st,h2,x2⟩;have G2:=uU h2;clear h2;go_wp2_with fail;refine(cY 0 _).mono ?_;rintro e w3 ⟨rfl,x3⟩;have G3:=uU (G2.ext x3);have X3:=uU (x2.trans x3);clear x3 t0 t1 t2 t3 t4 t5 t6 t7;obtain⟨u0,u1,u2,u3,u4,u5,u6,u7⟩:=G3.boxes O1;have hw3:w.heap.size+1<w3.heap.size:=uL u5;go_wp2_with fail;refine bodyPost_ret (v:=qU 0 0) (by simp [results,Tryz.results234,go_sem,u5,u6]) rfl ?_;exact a1e O1 G3 X3 V0 (⟨rfl,rfl,k,st,rfl⟩)
 ·obtain⟨c0,c1,c2,c5,c9,c10,c12⟩:=G1.nums;have fz:=G1.box.2.2.2.1;have lo:v.heap.size<=g:=Nat.le_trans hv G1.box.2.2.2.2.1;have hg1:g<w1.heap.size:=uL c0;have FN:=uU (show GOk B ((w1.setCell ⟨g,9,none⟩ (iv b)).setCell ⟨g,10,none⟩ (iv c)) g (paceTo x b c)/\Ext v ((w1.setCell ⟨g,9,none⟩ (iv b)).setCell ⟨g,10,none⟩ (iv c)) from⟨(G1.set9 b).set10 c,(X1.setCell (p:=⟨g,9,none⟩) lo _).setCell (p:=⟨g,10,none⟩) lo _⟩);clear c0 c1 c2 c5 c12;go_wp2_with fail;refine(cY 0 _).mono ?_;rintro e w3 ⟨rfl,x3⟩;have G3:=uU (FN.1.ext x3);have X3:=uU (FN.2.trans x3);clear x3 t0 t1 t2 t3 t4 t5 t6 t7 c9 c10 FN;obtain⟨u0,u1,u2,u3,u4,u5,u6,u7⟩:=G3.boxes O1;have hw3:w.heap.size+1<w3.heap.size:=uL u5;go_wp2_with fail;refine bodyPost_ret (v:=qU 0 0) (by simp [results,Tryz.results234,go_sem,u5,u6]) rfl ?_;exact a1e O1 G3 X3 V0 (⟨rfl,rfl,rfl⟩)
 ·go_wp2_with fail;refine(a6i B g x _ G1 S v hv X1).mono ?_;rintro e w2 ⟨y,z,rfl,rr,h2,x2⟩;have G2:=uU h2;clear h2;go_wp2_with fail;refine(cY 0 _).mono ?_;rintro e w3 ⟨rfl,x3⟩;have G3:=uU (G2.ext x3);have X3:=uU (x2.trans x3);clear x3 t0 t1 t2 t3 t4 t5 t6 t7;obtain⟨u0,u1,u2,u3,u4,u5,u6,u7⟩:=G3.boxes O1;have hw3:w.heap.size+1<w3.heap.size:=uL u5;go_wp2_with fail;refine bodyPost_ret (v:=qU 0 0) (by simp [results,Tryz.results234,go_sem,u5,u6]) rfl ?_;exact a1e O1 G3 X3 V0 (⟨rfl,rfl,y,rr.1,rr.2⟩)
theorem b3q(x:Hp)(i:Nat)(hi:i<x.A.length)(n:Nat)(hn:(x.c i).F.length<=n)(hs:dC x=(i:Int)->x.sub<=(x.c i).F.length):qJ x i n=x:=by
 have e1:a1d (x.c i) n=x.c i:=by unfold a1d;rw[List.take_of_length_le hn]
 have e2:x.A.set i (x.c i)=x.A:=by rw[<-Hp.c_eq x i hi];exact List.set_getElem_self _
 unfold qJ;rw[e1,e2,if_neg (λh=>by have:=hs h.1;omega),show(x.c i).F.length-n=0 by omega];simp
theorem b9c(x:Hp)(i n:Nat)(hi:i<x.A.length)(q:Nat):(qJ x i n).c q=if q=i then a1d (x.c i) n else x.c q:=Hp.c_set x i (a1d (x.c i) n) hi q
theorem b9d(x:Hp)(i n:Nat):dC (qJ x i n)=dC x:=by unfold dC qJ;simp
theorem c1s(x:Hp)(i m:Nat)(hi:i<x.A.length)(hm:m<(x.c i).F.length):b1p (qJ x i (m+1)) i m=qJ x i m:=by
 have hc:=b9c x i (m+1) hi i;rw[if_pos rfl] at hc
 have e1:(a1d (x.c i) (m+1)).F.eraseIdx m=(x.c i).F.take m:=by
  unfold a1d;show((x.c i).F.take (m+1)).eraseIdx m=_;rw[List.take_succ_eq_append_getElem hm,List.eraseIdx_append_of_length_le (by simp;omega)];have:m-((x.c i).F.take m).length=0:=by simp;omega
  rw[this];simp
 have e2:({ (qJ x i (m+1)).c i with F:=((qJ x i (m+1)).c i).F.eraseIdx m }:Cl)=a1d (x.c i) m:=by
  rw[hc,e1];rfl
 unfold b1p;rw[e2,b9d];unfold qJ;simp only [List.set_set];by_cases sc:dC x=(i:Int)
 ·by_cases h1:(m:Int)<x.sub
  ·by_cases h2:((m+1:Nat):Int)<x.sub
   ·simp only [sc,h2,h1,if_true,and_true];rw[if_pos (by omega)];simp only [Hp.mk.injEq,true_and,and_true];refine⟨by omega,by omega⟩
   ·have:x.sub=(m:Int)+1:=by omega
    simp only [sc,h2,h1,true_and,if_true,if_false,and_true];simp only [Hp.mk.injEq,true_and,and_true];refine⟨by omega,by omega⟩
  ·have h2:¬((m+1:Nat):Int)<x.sub:=by omega
   simp only [sc,h2,h1,true_and,if_false,and_true];simp only [Hp.mk.injEq,true_and,and_true];omega
 ·simp only [sc,false_and,and_false,if_false];simp only [Hp.mk.injEq,true_and,and_true];omega
theorem c4y[Inhabited uQ](B g:Nat)(x:Hp)(i n:Nat)(w:World)(h:GOk B w g x)(s:Snd x)(hi:i<x.A.length)(h1:(x.c i).st=1)(a:World)(ha:a.heap.size<=B)(hx:Ext a w):
  Calls Tryz.prog 263 #[.pointer (some ⟨g,0,none⟩),.int .i64 i,.int .i64 n] w λe w'=>e=.returned (.tuple #[])/\Hid (GOk B w' g (qJ x i n))/\Ext a w':=by
 obtain⟨ar,kr,ac,kc,vg,br,bc,pb,pa,pk,role,h⟩:=h;have GK0:=uU (show GK B w g x ar kr ac kc vg br bc from⟨pb,pa,pk,role,h⟩);have l200:=s.ok.p200 i hi;have n8:=s.ok.n8;have SUB:=uU (show dC x=(i:Int)->x.sub<=(x.c i).F.length from λe=>(b9b s hi h1 e).2);have US:=uU (show 0<=x.K/\x.K<=4000 by have h3:=s.r3;have h1:=s.r1.M;unfold R3 at h3;omega);have SB:=uU s.r1.sub;have r0:0<x.B.length:=by rw[s.r1.B];omega
 have TOP:=uU (b3q x i hi (x.c i).F.length (Nat.le_refl _) SUB);have HI:=uU hi;have i0:(0:Int)<=(i:Int):=by omega
 have i1:(i:Int)<(x.A.length:Int):=by omega
 have R0:=uU r0;clear h h1 s r0;go_enter Tryz.func263,Tryz.ntmps263;go_wp2_with fail
 go_loopg [] ((x.c i).F.length) (λgk wr=>∃m:Nat,m=gk/\m<=(x.c i).F.length/\Hid ((x.c i).F.length<=n->m=(x.c i).F.length)/\Hid (n<=(x.c i).F.length->n<=m)/\Hid (GK B wr g (qJ x i m) ar kr ac kc vg br bc)/\Ext a wr)
 case atStart=>exact⟨_,rfl,Nat.le_refl _,λ_=>rfl,id,by rw[uH TOP];exact uH GK0,hx⟩
 case round=>
  clear GK0 hx;obtain⟨m,rfl,hm,hA,hB,hG,hxr⟩:=hrel;obtain⟨z,hz⟩:∃z,z=qJ x i m:=⟨_,rfl⟩;have HZ:=uU hz;rw[<-hz] at hG;have ZL:=uU (show z.A.length=x.A.length by rw[hz];simp [qJ]);have ZC:=uU (show z.c i=a1d (x.c i) m by rw[hz,b9c x i m (uH HI) i,if_pos rfl]);have ZP:=uU (show(z.c i).F.length=m by rw[uH ZC];simp [a1d];omega)
  have ZN:=uU (show -3000000<=z.K/\z.K<=1000000/\-3000000<=z.sub/\z.sub<=1000000 by
   have h1:=uH US;have h2:=uH SB;rw[hz];unfold qJ;refine⟨?_,?_,?_,?_⟩
   ·show -3000000<=x.K-(((x.c i).F.length-m:Nat):Int);omega
   ·show x.K-(((x.c i).F.length-m:Nat):Int)<=1000000;omega
   ·show -3000000<=(if dC x=(i:Int)/\(m:Int)<x.sub then (m:Int) else x.sub);split <;> omega
   ·show(if dC x=(i:Int)/\(m:Int)<x.sub then (m:Int) else x.sub)<=1000000;split <;> omega)
  have ZR:=uU (show 0<z.B.length by rw[hz];exact R0);clear hz;obtain⟨pb,pa,pk,role,h⟩:=uH hG;have hn:0<z.A.length:=by rw[uH ZL];omega
  have hiz:i<z.A.length:=by rw[uH ZL];omega
  have c4:=h.bx.2.2.2.2.1;rw[h.hc hn,uH ZL] at c4;have p7:=h.rw.p7 i hiz;rw[uH ZP] at p7;have hg1:g<wr.heap.size:=uL c4;have hb1:bc<wr.heap.size:=uL p7;clear h;by_cases hc:n<m
  ·have q1:(m:Int) > (n:Int):=by omega
   have wm:wrap64 ((m:Int)-1)=((m-1:Nat):Int):=by rw[a2e _ (by omega) (by omega)];omega
   have CUT:=uU (show b1p z i (m-1)=qJ x i (m-1) by
    rw[uH HZ];have:=c1s x i (m-1) HI (by omega);rw[show m-1+1=m by omega] at this;exact this)
   have QC:=uU (b5f hG i (m-1) hiz (by rw[uH ZP];omega) ZR (by rw[uH ZP];omega) ⟨ZN.1,ZN.2.1⟩ ⟨ZN.2.2.1,ZN.2.2.2⟩ (by rw[uH ZL];exact n8) a ha hxr);go_wp2_with fail;rw[show((m:Int)-1)=((m-1:Nat):Int) by omega];refine QC.mono ?_;rintro e w2 ⟨rfl,h2,_,x2⟩;rw[uH CUT] at h2;have G2:=uU h2;have B2:=uU hB;clear h2 QC CUT c4 p7 hG;go_wp2_with fail
   go_roundg (m-1)
   case measure=>omega
   case rel=>exact⟨m-1,rfl,by omega,λh=>by omega,λh=>by have:=uH B2 h;omega,G2,x2⟩
  ·have q1:¬(m:Int) > (n:Int):=by omega
   have E:=uU (show qJ x i n=z by
    rw[uH HZ];rcases Nat.lt_or_ge (x.c i).F.length n with l | l
    ·have:=uH hA (by omega);rw[b3q x i (uH HI) n (by omega) (uH SUB),this,uH TOP]
    ·have:=uH hB l;have:n=m:=by omega
     rw[this])
   go_wp2_with fail
   go_end0
   exact⟨rfl,by rw[uH E];exact hG.ok,hxr⟩
theorem Snd.reg(s:Snd x)(f:Nat)(hf:f<16):cL x (x.r f) False:=by
 have h:=s.r4.1 f (by rw[s.r1.B];exact hf);rw[Hp.r_eq] at h;exact h
theorem Snd.at(s:Snd x)(f:Nat)(hf:f<16)(h2:(x.r f).k=2):(x.r f).n=0/\(x.r f).a=(x.at f:Int)/\x.at f<x.A.length/\(x.c (x.at f)).st=1/\¬hY x (x.at f):=by
 have h:=s.reg f hf;have h1:=h.1;unfold uE at h1;have ha:(x.r f).a=((x.r f).a.toNat:Int):=by omega
 rcases h.2 h2 with o | o
 ·exact o.2.elim
 ·exact⟨by omega,ha,by unfold Hp.at;omega,o.1,o.2⟩
structure GPr[Inhabited uQ](B:Nat)(w:World)(g:Nat)(x:Hp)(i k bc kc bp kp:Nat):Prop where
 c4:w.cell? ⟨g,4,none⟩=some (.slice (some ⟨bc,0,none⟩) x.A.length kc)
 p7:w.cell? ⟨bc,i*8+7,none⟩=some (.slice (some ⟨bp,0,none⟩) (x.c i).F.length kp)
 pr:tQ w bp (k*6) ((x.c i).p k)
 f:∀j,w.frozen? ⟨bp,j,none⟩=false
 lo:B<=bp/\bp<w.heap.size
 set:∀(W:World) (q:Pr),Ext w W->GOk B (tH W bp (k*6) q) g (dW x i { x.c i with F:=(x.c i).F.set k q })
theorem GOk.prw[Inhabited uQ](h:GOk B w g x)(i:Nat)(hi:i<x.A.length)(k:Nat)(hk:k<(x.c i).F.length):∃bc kc bp kp,GPr B w g x i k bc kc bp kp:=by
 obtain⟨ar,kr,ac,kc,vg,br,bc,pb,pa,pk,role,h⟩:=h;have hn:0<x.A.length:=by omega
 have hl:0<(x.c i).F.length:=by omega
 obtain⟨e1,e2,_,e4⟩:=h.rw.pl i hi (h.rw.pw hi hl);refine⟨bc,kc,pb i,pk i,?_,?_,h.rw.p i hi k hk,e2.2,⟨e4,e2.1⟩,λW q e=>?_⟩
 ·have:=h.bx.2.2.2.2.1;rw[h.hc hn] at this;exact this
 ·have:=h.rw.p7 i hi;rw[e1] at this;exact this
 ·have g1:=h.ext e;exact⟨ar,kr,ac,kc,vg,br,bc,pb,pa,pk,role,g1.setp i hi k hk q (a1o _ _ _ _) (b2y (g1.rw.pl i hi (g1.rw.pw hi hl)).2.1.n1 _ _) (b2x _ _ _ _ _ (g1.rw.p i hi k hk)) (λj hj=>a6h _ _ _ _ j hj)⟩
theorem GPr.ext[Inhabited uQ]{k bp:Nat}(h:GPr B w g x i k bc kc bp kp)(e:Ext w w'):GPr B w' g x i k bc kc bp kp:=
 ⟨e.keep h.c4,e.keep h.p7,h.pr.ext e,λj=>((cD e).2 bp j h.lo.2).trans (h.f j),⟨h.lo.1,Nat.lt_of_lt_of_le h.lo.2 e.size⟩,λW q e2=>h.set W q (e.trans e2)⟩
theorem b5i[p:Inhabited uQ](B g:Nat)(x:Hp)(op:Int)(a b c:Nat)(n:Int)(w:World)(h:GOk B w g x)(s:Snd x)(ha:a<16)(hk:(x.r a).k≠2)(v:World)(hx:Ext v w):
  Calls Tryz.prog 253 #[.pointer (some ⟨g,0,none⟩),yL op a b c n] w λe w'=>e=.returned (qU 2 0)/\Hid (GOk B w' g x)/\Ext v w':=by
 obtain⟨p1,o1,g1⟩:=GOk.enter h (w0:=doW w op a b c n) (((Ext.refl w).alloc _).alloc _);obtain⟨W1,hW1⟩:∃W,W=doW w op a b c n:=⟨_,rfl⟩;have bx:=tL.new w op a b c n;have x1:Ext v (doW w op a b c n):=(hx.alloc _).alloc _;rw[<-hW1] at g1 bx x1;obtain⟨br,kr,hr⟩:=g1.B s.r1.B;have c3:=hr.c3;obtain⟨r0,r1,r2⟩:=hr.r a ha;have hgw:g<W1.heap.size:=uL c3;have hbw:br<W1.heap.size:=uL r0;have O1:=uU o1;have G1:=uU g1;have V0:=uU (show v.heap.size<=w.heap.size+1 by have:=hx.size;omega);have X1:=uU x1;obtain⟨t0,t1,t2,t3,t4,t5,t6,t7⟩:=bx;have hw1:w.heap.size<W1.heap.size:=uL t0;have j0:(0:Int)<=(a:Int):=by omega
 have j1:(a:Int)<16:=by omega
 have q2b:((x.r a).k != 2)=true:=by simpa using hk
 clear hk s;clear h hr o1 g1 x1;go_enter Tryz.func253,Tryz.ntmps253;go_wp2_with fail;unfold doW at hW1;rw[<-hW1];clear hW1
 go_region
 obtain⟨W2,hW2⟩:∃W,W=(W1.alloc (.cells #[.int .i64 (x.r a).k,.int .i64 (x.r a).n,.int .i64 (x.r a).a] 152)).drew:=⟨_,rfl⟩;rw[<-hW2];have x12:Ext W1 W2:=by rw[hW2];exact((Ext.refl _).alloc _).drew
 have WB:yQ W2 W1.heap.size 0 (x.r a):=by rw[hW2];exact⟨by simp [go_sem],by simp [go_sem],by simp [go_sem]⟩
 obtain⟨y0,y1,y2⟩:=WB;have G2:=uU (G1.ext x12);have X2:=uU (X1.trans x12);have hy2:W1.heap.size<W2.heap.size:=uL y0;clear hW2 x12 c3 r0 r1 r2 t0 t1 t2 t3 t4 t5 t6 t7;obtain⟨t0,t1,t2,t3,t4,t5,t6,t7⟩:=G2.boxes O1;have hw2:w.heap.size<W2.heap.size:=uL t0;have hw2':w.heap.size+1<W2.heap.size:=uL t5;go_wp2_with fail;refine(a0i 2 _).mono ?_;rintro e w3 ⟨rfl,x3⟩;have G3:=uU (G2.ext x3);have X3:=uU (X2.trans x3);clear x3;obtain⟨u0,u1,u2,u3,u4,u5,u6,u7⟩:=G3.boxes O1;have hw3:w.heap.size+1<w3.heap.size:=uL u5;clear t0 t1 t2 t3 t4 t5 t6 t7 y0 y1 y2;go_wp2_with fail;refine bodyPost_ret (v:=qU 2 0) (by simp [results,Tryz.results253,go_sem,u5,u6]) rfl ?_;exact⟨rfl,GOk.done O1 G3 2 0,dZ X3 V0 2 0⟩
theorem GCel.ext[Inhabited uQ]{ap:Option Addr}(h:GCel B w g x i bc kc ap kp)(e:Ext w w'):GCel B w' g x i bc kc ap kp:=
 ⟨e.keep h.c4,⟨e.keep h.s.1,e.keep h.s.2.1,e.keep h.s.2.2.1,e.keep h.s.2.2.2.1,e.keep h.s.2.2.2.2.1,e.keep h.s.2.2.2.2.2.1,e.keep h.s.2.2.2.2.2.2⟩,e.keep h.p7,λj=>((cD e).2 bc j h.lo.2).trans (h.f j),⟨h.lo.1,Nat.lt_of_lt_of_le h.lo.2 e.size⟩,λW u e2=>h.set2 W u (e.trans e2),λW u e2=>h.set3 W u (e.trans e2)⟩
theorem a4z[p:Inhabited uQ](B g:Nat)(x:Hp)(k:Nat)(op:Int)(a b c:Nat)(n:Int)(w:World)(ho:(k=10/\op=10)\/(k=11/\op=11)\/(k=12/\op=12)\/(k=16/\op=16)\/(k=17/\op=17))(h:GOk B w g x)(s:Snd x)(ha:a<16)(hk:(x.r a).k=2)(v:World)(hv:v.heap.size<=B)(hx:Ext v w):
  Calls Tryz.prog 253 #[.pointer (some ⟨g,0,none⟩),yL op a b c n] w λe w'=>zQ B g x a b c n k v e w':=by
 obtain⟨p1,o1,g1⟩:=GOk.enter h (w0:=doW w op a b c n) (((Ext.refl w).alloc _).alloc _);obtain⟨W1,hW1⟩:∃W,W=doW w op a b c n:=⟨_,rfl⟩;have bx:=tL.new w op a b c n;have x1:Ext v (doW w op a b c n):=(hx.alloc _).alloc _;rw[<-hW1] at g1 bx x1;obtain⟨br,kr,hr⟩:=g1.B s.r1.B;have c3:=hr.c3;obtain⟨r0,r1,r2⟩:=hr.r a ha;have hgw:g<W1.heap.size:=uL c3;have hbw:br<W1.heap.size:=uL r0;have O1:=uU o1;have G1:=uU g1;have V0:=uU (show v.heap.size<=w.heap.size+1 by have:=hx.size;omega);have X1:=uU x1;obtain⟨t0,t1,t2,t3,t4,t5,t6,t7⟩:=bx;have hw1:w.heap.size<W1.heap.size:=uL t0;have j0:(0:Int)<=(a:Int):=by omega
 have j1:(a:Int)<16:=by omega
 have D:=uU hk;have q2b:((x.r a).k != 2)=false:=by simpa using hk
 obtain⟨en,ea,hi,st,nd⟩:=s.at a ha hk;obtain⟨i,hI⟩:∃i,i=x.at a:=⟨_,rfl⟩;have HI:=uU hI;rw[<-hI] at ea hi st nd;have EA:=uU ea;have S:=uU s;have i0:(0:Int)<=(i:Int):=by omega
 have i1:(i:Int)<(x.A.length:Int):=by omega
 clear hk ea hI s en;clear nd;clear h hr o1 g1 x1;rcases ho with⟨rfl,rfl⟩ | ⟨rfl,rfl⟩ | ⟨rfl,rfl⟩ | ⟨rfl,rfl⟩ | ⟨rfl,rfl⟩
 all_goals
  go_enter Tryz.func253,Tryz.ntmps253;go_wp2_with fail;unfold doW at hW1;rw[<-hW1];clear hW1
  go_region
  obtain⟨W2,hW2⟩:∃W,W=(W1.alloc (.cells #[.int .i64 (x.r a).k,.int .i64 (x.r a).n,.int .i64 (x.r a).a] 152)).drew:=⟨_,rfl⟩;rw[<-hW2];have x12:Ext W1 W2:=by rw[hW2];exact((Ext.refl _).alloc _).drew
  have X12:=uU x12;have WB:yQ W2 W1.heap.size 0 (x.r a):=by rw[hW2];exact⟨by simp [go_sem],by simp [go_sem],by simp [go_sem]⟩
  obtain⟨y0,y1,y2⟩:=WB;have G2:=uU (G1.ext x12);have X2:=uU (X1.trans x12);have hy2:W1.heap.size<W2.heap.size:=uL y0;clear hW2 x12 c3 r0 r1 r2 t0 t1 t2 t3 t4 t5 t6 t7;obtain⟨t0,t1,t2,t3,t4,t5,t6,t7⟩:=G2.boxes O1;have hw2:w.heap.size<W2.heap.size:=uL t0;have hw2':w.heap.size+1<W2.heap.size:=uL t5;rw[uH EA] at y2
 ·have QC:=uU (λ(W:World) (xW:Ext W2 W)=>c4y B g x i c W (G2.ext xW) S hi st v hv (X2.trans xW));go_wp2_with fail;refine(QC _ (Ext.refl W2)).mono ?_;rintro e w6 ⟨rfl,g6,x6⟩;have X5:=uU x6;have G5:=uU g6;clear t0 t1 t2 t3 t4 t5 t6 t7 y0 y1 y2 QC x6 g6;go_wp2_with fail;refine(cY 0 _).mono ?_;rintro e w3 ⟨rfl,x3⟩;have G3:=uU (G5.ext x3);have X3:=uU (X5.trans x3);obtain⟨u0,u1,u2,u3,u4,u5,u6,u7⟩:=G3.boxes O1;have hw3:w.heap.size+1<w3.heap.size:=uL u5;clear x3;go_wp2_with fail;refine bodyPost_ret (v:=qU 0 0) (by simp [results,Tryz.results253,go_sem,u5,u6]) rfl ?_;exact a1e O1 G3 X3 V0 (.inr ⟨D,by rw[<-uH HI];exact⟨rfl,rfl,rfl⟩⟩)
 ·clear st;obtain⟨bc,kc,ap,kp,hc⟩:=G2.cel i hi;have c4:=hc.c4;have p7:=hc.p7;obtain⟨q0,q1,q2,q3,q4,q5,q6⟩:=hc.s;have fc:=hc.f;have hg2:g<W2.heap.size:=uL c4;have hb2:bc<W2.heap.size:=uL q3;have FN:=uU (show GOk B (W2.setCell ⟨bc,i*8+2,none⟩ (iv c)).drew g (dW x i (c3e (x.c i) c))/\Ext v (W2.setCell ⟨bc,i*8+2,none⟩ (iv c)).drew from⟨(hc.set2 W2 c (Ext.refl _)).ext (Ext.refl _).drew,(X2.setCell (p:=⟨bc,i*8+2,none⟩) (Nat.le_trans hv hc.lo.1) _).drew⟩);obtain⟨W3,hW3⟩:∃W,W=(W2.setCell ⟨bc,i*8+2,none⟩ (iv c)).drew:=⟨_,rfl⟩;rw[<-hW3] at FN;clear hc;go_wp2_with fail
  go_region
  rw[<-hW3];clear hW3 c4 p7 q0 q1 q2 q3 q4 q5 q6 fc hg2 hb2 t0 t1 t2 t3 t4 t5 t6 t7 y0 y1 y2;go_wp2_with fail;refine(cY 0 _).mono ?_;rintro e w3 ⟨rfl,x3⟩;have G3:=uU (FN.1.ext x3);have X3:=uU (FN.2.trans x3);obtain⟨u0,u1,u2,u3,u4,u5,u6,u7⟩:=G3.boxes O1;have hw3:w.heap.size+1<w3.heap.size:=uL u5;clear x3;go_wp2_with fail;refine bodyPost_ret (v:=qU 0 0) (by simp [results,Tryz.results253,go_sem,u5,u6]) rfl ?_;exact a1e O1 G3 X3 V0 (.inr ⟨D,by rw[<-uH HI];exact⟨rfl,rfl,rfl⟩⟩)
 ·obtain⟨bc,kc,ap,kp,hc1⟩:=G1.cel i hi;have hbl:bc<W1.heap.size:=hc1.lo.2;have hc:=hc1.ext X12;have c4:=hc.c4;obtain⟨q0,q1,q2,q3,q4,q5,q6⟩:=hc.s;have fc:=hc.f;have hg2:g<W2.heap.size:=uL c4;have hb2:bc<W2.heap.size:=uL q3;have FN:=uU (show GOk B (W2.setCell ⟨bc,i*8+3,none⟩ (iv c)).drew g (dW x i (a2i (x.c i) c))/\Ext v (W2.setCell ⟨bc,i*8+3,none⟩ (iv c)).drew from⟨(hc.set3 W2 c (Ext.refl _)).ext (Ext.refl _).drew,(X2.setCell (p:=⟨bc,i*8+3,none⟩) (Nat.le_trans hv hc.lo.1) _).drew⟩)
  have YY:=uU (show yQ (W2.setCell ⟨bc,i*8+3,none⟩ (iv c)).drew W1.heap.size 0 ⟨(x.r a).k,(x.r a).n,i⟩ from by
   have k:=λo=>(show(W2.setCell ⟨bc,i*8+3,none⟩ (iv c)).drew.cell? ⟨W1.heap.size,o,none⟩=W2.cell? ⟨W1.heap.size,o,none⟩ from(World.cell?_of_block (a:=⟨W1.heap.size,o,none⟩) rfl).trans (uC _ (.inl (by omega))))
   exact⟨(k 0).trans y0,(k 1).trans y1,(k 2).trans y2⟩)
  obtain⟨W3,hW3⟩:∃W,W=(W2.setCell ⟨bc,i*8+3,none⟩ (iv c)).drew:=⟨_,rfl⟩;rw[<-hW3] at FN YY;clear hc hc1;go_wp2_with fail
  go_region
  rw[<-hW3];clear hW3 c4 q0 q1 q2 q3 q4 q5 q6 fc hg2 hb2 t0 t1 t2 t3 t4 t5 t6 t7 y0 y1 y2 hw2 hw2' hy2;obtain⟨t0,t1,t2,t3,t4,t5,t6,t7⟩:=FN.1.boxes O1;obtain⟨y0,y1,y2⟩:=uH YY;have hw3:w.heap.size<W3.heap.size:=uL t0;have hy3:W1.heap.size<W3.heap.size:=uL y0;cases qc:((c:Int) == 1)
  ·have QC:=uU (show ¬c=1 by simp at qc;omega);go_wp2_with fail;clear t0 t1 t2 t3 t4 t5 t6 t7 y0 y1 y2;refine(cY 0 _).mono ?_;rintro e w3 ⟨rfl,x3⟩;have G3:=uU (FN.1.ext x3);have X3:=uU (FN.2.trans x3);obtain⟨u0,u1,u2,u3,u4,u5,u6,u7⟩:=G3.boxes O1;have hw3:w.heap.size+1<w3.heap.size:=uL u5;clear x3;go_wp2_with fail;refine bodyPost_ret (v:=qU 0 0) (by simp [results,Tryz.results253,go_sem,u5,u6]) rfl ?_;exact a1e O1 G3 X3 V0 (.inr ⟨D,by rw[<-uH HI];exact⟨by rw[if_neg (uH QC)],rfl,rfl⟩⟩)
  ·have QC:=uU (show c=1 by simp at qc;omega);obtain⟨z,hz⟩:∃z,z=dW x i (a2i (x.c i) c):=⟨_,rfl⟩;rw[<-hz] at FN;have HZ:=uU hz
   have ZL:=uU (show z.A.length=x.A.length/\z.D=x.D/\(z.c i).st=1 from by
    rw[hz];refine⟨by simp [dW],rfl,?_⟩;show(({ x with A:=x.A.set i _ }:Hp).c i).st=_;rw[Hp.c_set x i _ hi i,if_pos rfl];exact st)
   have QS:=uU (show Calls Tryz.prog 232 #[.pointer (some ⟨g,0,none⟩),.agg #[iv (x.r a).k,iv (x.r a).n,iv i]] W3 λe w'=>∃r:Bool,e=.returned (.bool r)/\Hid (GOk B w' g (uW z i))/\Ext v w' from by
    refine(a9k B g z ⟨(x.r a).k,(x.r a).n,i⟩ W3 FN.1 (by rw[ZL.1];exact S.ok.n8) (by rw[ZL.2.1];have:=S.r1.D;have:=S.ok.n8;omega) (λ_=>⟨by rw[ZL.1];exact hi,ZL.2.2⟩) (λ_=>by show(0:Int)<=(i:Int);omega) v hv FN.2 (by have:=FN.1.box.2.2.2.2;omega)).mono ?_;rintro e w' ⟨h1,h2,h3⟩;refine⟨_,h1,?_,h3⟩;have e2:shadeW z ⟨(x.r a).k,(x.r a).n,i⟩=uW z i:=by unfold shadeW;rw[if_pos (by simpa using uH D)];rfl
    rw[e2] at h2;exact h2)
   clear hz;go_wp2_with fail;refine QS.mono ?_;rintro e w6 ⟨r,rfl,g6,x6⟩;have X5:=uU x6;have G5:=uU g6;clear t0 t1 t2 t3 t4 t5 t6 t7 y0 y1 y2 QS x6 g6;go_wp2_with fail;refine(cY 0 _).mono ?_;rintro e w3 ⟨rfl,x3⟩;have G3:=uU (G5.ext x3);have X3:=uU (X5.trans x3);obtain⟨u0,u1,u2,u3,u4,u5,u6,u7⟩:=G3.boxes O1;have hw3:w.heap.size+1<w3.heap.size:=uL u5;clear x3;go_wp2_with fail;refine bodyPost_ret (v:=qU 0 0) (by simp [results,Tryz.results253,go_sem,u5,u6]) rfl ?_;exact a1e O1 G3 X3 V0 (.inr ⟨D,by rw[<-uH HI];exact⟨by rw[if_pos (uH QC),uH HZ],rfl,rfl⟩⟩)
 ·clear st;obtain⟨bc,kc,ap,kp,hc⟩:=G2.cel i hi;have c4:=hc.c4;have p7:=hc.p7;obtain⟨q0,q1,q2,q3,q4,q5,q6⟩:=hc.s;have fc:=hc.f;have hg2:g<W2.heap.size:=uL c4;have hb2:bc<W2.heap.size:=uL q3;clear hc;go_wp2_with fail;go_region_with (go_at_call 161;refine(cY (x.c i).kind _).mono ?_;rintro e w3 ⟨rfl,x3⟩;have x13:=Ext.trans (Ext.refl W2).drew x3;have G3:=uU (G2.ext x13);have X3:=uU (X2.trans x13);obtain⟨u0,u1,u2,u3,u4,u5,u6,u7⟩:=G3.boxes O1;have hw3:w.heap.size+1<w3.heap.size:=uL u5;clear x3 x13)
  all_goals
   go_wp2_with fail;refine bodyPost_ret (v:=qU 0 (x.c i).kind) (by simp [results,Tryz.results253,go_sem,u5,u6]) rfl ?_;exact a1e O1 G3 X3 V0 (.inr ⟨D,by rw[<-uH HI];exact⟨rfl,rfl,rfl⟩⟩)
 ·clear st;obtain⟨bc,kc,ap,kp,hc⟩:=G2.cel i hi;have c4:=hc.c4;have p7:=hc.p7;obtain⟨q0,q1,q2,q3,q4,q5,q6⟩:=hc.s;have fc:=hc.f;have hg2:g<W2.heap.size:=uL c4;have hb2:bc<W2.heap.size:=uL q3;clear hc;go_wp2_with fail;go_region_with (go_at_call 161;refine(cY ((x.c i).F.length:Nat) _).mono ?_;rintro e w3 ⟨rfl,x3⟩;have x13:=Ext.trans (Ext.refl W2).drew x3;have G3:=uU (G2.ext x13);have X3:=uU (X2.trans x13);obtain⟨u0,u1,u2,u3,u4,u5,u6,u7⟩:=G3.boxes O1;have hw3:w.heap.size+1<w3.heap.size:=uL u5;clear x3 x13)
  all_goals
   go_wp2_with fail;refine bodyPost_ret (v:=qU 0 ((x.c i).F.length:Nat)) (by simp [results,Tryz.results253,go_sem,u5,u6]) rfl ?_;exact a1e O1 G3 X3 V0 (.inr ⟨D,by rw[<-uH HI];exact⟨rfl,rfl,rfl⟩⟩)
theorem a5a[p:Inhabited uQ](B g:Nat)(x:Hp)(k:Nat)(op:Int)(a b c:Nat)(n:Int)(w:World)(h:GOk B w g x)(s:Snd x)(ha:a<16)(v:World)(hx:Ext v w)(dr:¬(x.r a).k=2->DoR x a b c n x 2 0 k)(hq:(x.r a).k=2->Calls Tryz.prog 253 #[.pointer (some ⟨g,0,none⟩),yL op a b c n] w λe w'=>zQ B g x a b c n k v e w'):
  Calls Tryz.prog 253 #[.pointer (some ⟨g,0,none⟩),yL op a b c n] w λe w'=>zQ B g x a b c n k v e w':=by
 by_cases hk:(x.r a).k=2
 ·exact hq hk
 ·exact(b5i B g x op a b c n w h s ha hk v hx).mono λe w2 hh=>⟨x,2,0,hh.1,dr hk,hh.2.1,hh.2.2⟩
def calK(k:Nat):FuncId:=if k<=8 then 252 else 253
theorem a1t[p:Inhabited uQ](B g:Nat)(x:Hp)(k:Nat)(op:Int)(a b c:Nat)(n:Int)(w:World)(hk:(k=5/\op=5)\/(k=6/\op=6)\/(k=7/\op=7)\/(k=8/\op=8)\/(k=10/\op=10)\/(k=11/\op=11)\/(k=12/\op=12)\/(k=16/\op=16)\/(k=17/\op=17))(h:GOk B w g x)(ok:qY op a b c n=true)(v:World)(hx:Ext v w)
  (hq:∀(_:Inhabited uQ) (w1:World),GOk B w1 g x->Ext v w1->Calls Tryz.prog (calK k) #[.pointer (some ⟨g,0,none⟩),yL op a b c n] w1 λe w'=>zQ B g x a b c n k v e w') :
  Calls Tryz.prog 234 #[.pointer (some ⟨g,0,none⟩),yL op a b c n] w λe w'=>zQ B g x a b c n k v e w':=by
 obtain⟨p1,o1,g1⟩:=GOk.enter h (w0:=doW w op a b c n) (((Ext.refl w).alloc _).alloc _);have HG:=uU g1;have O1:=uU o1;have QA:=uU (λW=>a1g op a b c n W);rw[ok] at QA;have V0:=uU (show v.heap.size<=w.heap.size+1 by have:=hx.size;omega);have XD:=uU (show Ext v (doW w op a b c n) from(hx.alloc _).alloc _);have BX:=uU (tL.new w op a b c n);clear h o1 g1;rcases hk with⟨rfl,rfl⟩ | ⟨rfl,rfl⟩ | ⟨rfl,rfl⟩ | ⟨rfl,rfl⟩ | ⟨rfl,rfl⟩ | ⟨rfl,rfl⟩ | ⟨rfl,rfl⟩ | ⟨rfl,rfl⟩ | ⟨rfl,rfl⟩
 all_goals
  go_enter Tryz.func234,Tryz.ntmps234;go_wp2_with fail;refine(QA _).mono ?_;rintro e w1 ⟨rfl,x1⟩;have X1:=uU (XD.trans x1);have BX1:=uU (BX.ext x1);obtain⟨t0,t1,t2,t3,t4,t5,t6,t7⟩:=uH BX1;have hw1:w.heap.size+1<w1.heap.size:=uL t5;have hw0:w.heap.size<w1.heap.size:=uL t0;have G1:=uU (HG.ext x1);have QP:=uU (hq p1 w1 G1 X1);clear x1 QA BX1 BX XD HG;go_wp2_with fail;refine QP.mono ?_;rintro e w3 ⟨y,cd,nm,he,dr,g3,x3⟩;have e2:=uH he;subst e2;have G3:=uU g3;have X3:=uU x3;clear he g3 x3 QP;obtain⟨u0,u1,u2,u3,u4,u5,u6,u7⟩:=G3.boxes O1;have hw3:w.heap.size+1<w3.heap.size:=uL u5;clear t0 t1 t2 t3 t4 t5 t6 t7;go_wp2_with fail;refine bodyPost_ret (v:=qU cd nm) (by simp [results,Tryz.results234,go_sem,u5,u6]) rfl ?_;exact⟨y,cd,nm,rfl,dr,GOk.done O1 G3 cd nm,dZ X3 V0 cd nm⟩
end Go.Proofs.YtddkhnclmeikfaaGreat
