import Derived.Test.YtddkhnclmeikfaaGreatDm
set_option maxRecDepth 100000
set_option maxHeartbeats 8000000
namespace Go.Proofs.YtddkhnclmeikfaaGreat
open Go.RowKit
attribute [local go_sem ↓] Go.wp_at_zero Go.wp_at_succ
variable{w w' W w1 W':World}{B g kr bc kc br bs j k kg i:Nat}{x y z:Hp}{ar ac ag:Option Addr}{v vg v':Value}{op a b c n wk:Int}{pb pk role:Nat->Nat}{pa:Nat->Option Addr}{T L:List Int}{p:Pr}{l:List Pr}
structure GReg[Inhabited uN](B:Nat)(w:World)(g:Nat)(x:Hp)(br kr:Nat):Prop where
 c3:w.cell? ⟨g,3,none⟩=some (.slice (some ⟨br,0,none⟩) 16 kr)
 r:∀i,i<16->tW w br (i*3) (x.r i)
 f:∀j,w.frozen? ⟨br,j,none⟩=false
 lo:B<=br/\br<w.heap.size/\br≠g
 set:∀(W:World) (i:Nat) (y:Wd),Ext w W->i<16->GOk B (dJ W br (i*3) y) g (regTo x i y)
theorem GOk.regs[Inhabited uN](h:GOk B w g x)(r16:x.regs.length=16):∃br kr,GReg B w g x br kr:=by
 obtain⟨ar,kr,ac,kc,vg,br,bc,pb,pa,pk,role,h⟩:=h;have h0:0<x.regs.length:=by omega
 refine⟨br,kr,?_,λi hi=>?_,(h.rw.nr h0).1.2,⟨(h.rw.nr h0).2,(h.rw.nr h0).1.1,λe=>?_⟩,λW i y e hi=>?_⟩
 ·have:=h.bx.2.2.2.1;rw[h.ha h0,r16] at this;exact this
 ·have:=h.rw.r i (by omega);rw[Hp.r_eq] at this;exact this
 ·have h1:=h.sp.r h0;have h2:=h.sp.g;rw[e] at h1;omega
 ·have g1:=h.ext e;exact⟨ar,kr,ac,kc,vg,br,bc,pb,pa,pk,role,g1.setr i (by omega) y (a0e _ _ _ _) (b1y (g1.rw.nr h0).1 _ _) (a5x _ _ _ _ _ (g1.rw.r i (by omega))) (λm hm=>a0u _ _ _ _ m hm)⟩
theorem GReg.ext[Inhabited uN](h:GReg B w g x br kr)(e:Ext w w'):GReg B w' g x br kr:=
 ⟨e.keep h.c3,λi hi=>(h.r i hi).ext e,λj=>((cZ e).2 br j h.lo.2.1).trans (h.f j),⟨h.lo.1,Nat.lt_of_lt_of_le h.lo.2.1 e.size,h.lo.2.2⟩,λW i y e2 hi=>h.set W i y (e.trans e2) hi⟩
abbrev doW(w:World)(op a b c n:Int):World:=(w.alloc (.cells #[iv op,iv a,iv b,iv c,iv n] 39)).alloc (.cells #[iv 0,iv 0] 41)
structure eQ(w W:World)(op a b c n:Int):Prop where
 a0:W.cell? ⟨w.heap.size,0,none⟩=some (iv op)
 a1:W.cell? ⟨w.heap.size,1,none⟩=some (iv a)
 a2:W.cell? ⟨w.heap.size,2,none⟩=some (iv b)
 a3:W.cell? ⟨w.heap.size,3,none⟩=some (iv c)
 a4:W.cell? ⟨w.heap.size,4,none⟩=some (iv n)
 r0:W.cell? ⟨w.heap.size+1,0,none⟩=some (iv 0)
 r1:W.cell? ⟨w.heap.size+1,1,none⟩=some (iv 0)
 rf:∀j,W.frozen? ⟨w.heap.size+1,j,none⟩=false
theorem eQ.new(w:World)(op a b c n:Int):eQ w (doW w op a b c n) op a b c n:=
 ⟨by simp [go_sem],by simp [go_sem],by simp [go_sem],by simp [go_sem],by simp [go_sem],by simp [go_sem],by simp [go_sem],λj=>by simp [go_sem]⟩
theorem eQ.of(h:eQ w W op a b c n)(e:∀q,w.heap.size<=q->q<w.heap.size+2->W'.heap[q]?=W.heap[q]?):eQ w W' op a b c n:=by
 have e0:=λj=>World.cell?_of_block (a:=⟨w.heap.size,j,none⟩) (e w.heap.size (Nat.le_refl _) (by omega))
 have e1:=λj=>World.cell?_of_block (a:=⟨w.heap.size+1,j,none⟩) (e (w.heap.size+1) (by omega) (by omega))
 exact⟨(e0 0).trans h.a0,(e0 1).trans h.a1,(e0 2).trans h.a2,(e0 3).trans h.a3,(e0 4).trans h.a4,(e1 0).trans h.r0,(e1 1).trans h.r1,λj=>(World.frozen?_of_block (a:=⟨w.heap.size+1,j,none⟩) (e (w.heap.size+1) (by omega) (by omega))).trans (h.rf j)⟩
theorem eQ.ext(h:eQ w W op a b c n)(e:Ext W W'):eQ w W' op a b c n:=by
 have l0:=uL h.a0;have l1:=uL h.r0
 exact h.of λq h1 h2=>e.block q (by
  have l0:w.heap.size<W.heap.size:=l0;have l1:w.heap.size+1<W.heap.size:=l1;omega)
theorem a6f(w:World)(op a b c n:Int):(doW w op a b c n).heap.size=w.heap.size+2:=by simp [doW]
theorem GOk.boxes{p p1:Inhabited uN}(o:Own p w.heap.size (doW w op a b c n).heap.size (doW w op a b c n) p1)(h:@GOk p1 B W g y):eQ w W op a b c n:=
 (eQ.new w op a b c n).of λq h1 h2=>GOk.own o h q h1 (by rw[a6f];exact h2)
abbrev putA(W:World)(r:Nat)(cd nm:Int):World:=(W.setCell ⟨r,0,none⟩ (iv cd)).setCell ⟨r,1,none⟩ (iv nm)
theorem GOk.done{p p1:Inhabited uN}(o:Own p w.heap.size (doW w op a b c n).heap.size (doW w op a b c n) p1)(h:@GOk p1 B W g y)(cd nm:Int):@GOk p B (putA W (w.heap.size+1) cd nm) g y:=
 GOk.leave o h (uX.setCell (uX.setCell (uX.refl _ W) (p:=⟨w.heap.size+1,0,none⟩) ⟨by show w.heap.size<=w.heap.size+1;omega,by rw[a6f];show w.heap.size+1<w.heap.size+2;omega⟩ _) (p:=⟨w.heap.size+1,1,none⟩) ⟨by show w.heap.size<=w.heap.size+1;omega,by rw[a6f];show w.heap.size+1<w.heap.size+2;omega⟩ _)
theorem GOk.doneD{p p1:Inhabited uN}(o:Own p w.heap.size (doW w op a b c n).heap.size (doW w op a b c n) p1)(h:@GOk p1 B W g y)(cd nm:Int):@GOk p B (putA W (w.heap.size+1) cd nm).drew g y:=
 GOk.leave o h (uX.drew (uX.setCell (uX.setCell (uX.refl _ W) (p:=⟨w.heap.size+1,0,none⟩) ⟨by show w.heap.size<=w.heap.size+1;omega,by rw[a6f];show w.heap.size+1<w.heap.size+2;omega⟩ _) (p:=⟨w.heap.size+1,1,none⟩) ⟨by show w.heap.size<=w.heap.size+1;omega,by rw[a6f];show w.heap.size+1<w.heap.size+2;omega⟩ _))
theorem uW{v:World}{r:Nat}(h:Ext v W)(hr:v.heap.size<=r)(cd nm:Int):Ext v (putA W r cd nm):=(h.setCell (p:=⟨r,0,none⟩) hr _).setCell (p:=⟨r,1,none⟩) hr _
abbrev dC[Inhabited uN](B g:Nat)(x:Hp)(a b c:Nat)(n:Int)(k:Nat)(v:World)(e:Ending)(w':World):Prop:=∃(y:Hp) (cd nm:Int),Hid (e=.returned (eY cd nm))/\Hid (DoR x a b c n y cd nm k)/\Hid (GOk B w' g y)/\Ext v w'
theorem l5do_2[p:Inhabited uN](B g:Nat)(x:Hp)(a b c:Nat)(n:Int)(w:World)(h:GOk B w g x)(s:Snd x)(ok:dU 2 a b c n=true)(ha:a<16)(v:World)(hv:v.heap.size<=B)(hx:Ext v w):
  Calls Tryz.prog 234 #[.pointer (some ⟨g,0,none⟩),qZ 2 a b c n] w λe w'=>dC B g x a b c n 2 v e w':=by
 obtain⟨p1,o1,g1⟩:=GOk.enter h (w0:=doW w 2 a b c n) (((Ext.refl w).alloc _).alloc _);obtain⟨br,kr,hr⟩:=g1.regs s.r1.regs;have O1:=uU o1;have HR:=uU hr;have QA:=uU (λW=>hE 2 a b c n W);rw[ok] at QA;have i0:(0:Int)<=(a:Int):=by omega
 have i1:(a:Int)<16:=by omega
 have V0:=uU (show v.heap.size<=w.heap.size+1 by have:=hx.size;omega);have XD:=uU (show Ext v (doW w 2 a b c n) from(hx.alloc _).alloc _);have BX:=uU (eQ.new w 2 a b c n);clear h s hr o1 g1;go_enter Tryz.func234,Tryz.ntmps234;go_wp2_with fail;refine(QA _).mono ?_;rintro e w1 ⟨rfl,x1⟩;have X1:=uU (XD.trans x1);have BX1:=uU (BX.ext x1);have R1:=uU (HR.ext x1);obtain⟨t0,t1,t2,t3,t4,t5,t6,t7⟩:=uH BX1;have c3:=R1.c3;obtain⟨r0,r1,r2⟩:=R1.r a ha;have f:=R1.f;have hg1:g<w1.heap.size:=uL c3;have hb1:br<w1.heap.size:=uL r0;have hw1:w.heap.size<w1.heap.size:=uL t0;have hbB:=R1.lo.1;have FN:=uU (show GOk B (dJ w1 br (a*3) ⟨1,n,0⟩) g (regTo x a ⟨1,n,0⟩)/\Ext v (dJ w1 br (a*3) ⟨1,n,0⟩) from⟨R1.set w1 a ⟨1,n,0⟩ (Ext.refl _) ha,(a0e w1 br (a*3) ⟨1,n,0⟩).ext X1 (λq hq e=>by omega)⟩);obtain⟨W2,hW2⟩:∃W,W=dJ w1 br (a*3) ⟨1,n,0⟩:=⟨_,rfl⟩;rw[<-hW2] at FN;unfold dJ at hW2;clear x1 QA t2 t3 BX1 BX XD HR;go_wp2_with fail
 go_region
 go_wp2_with fail;rw[<-hW2];refine(cK 0 _).mono ?_;rintro e w3 ⟨rfl,x3⟩;have x23:=Ext.trans (Ext.refl W2).drew x3;have G3:=uU (FN.1.ext x23);have X3:=uU (FN.2.trans x23);obtain⟨u0,u1,u2,u3,u4,u5,u6,u7⟩:=G3.boxes O1;have hw3:w.heap.size+1<w3.heap.size:=uL u5;clear hW2 FN c3 r0 r1 r2 f t0 t1 t4 t5 t6 t7 x3 x23;go_wp2_with fail;refine bodyPost_ret (v:=eY 0 0) (by simp [results,Tryz.results234,go_sem,u5,u6]) rfl ?_;exact⟨_,0,0,rfl,⟨rfl,rfl,rfl⟩,GOk.done O1 G3 0 0,uW X3 V0 0 0⟩
theorem wd_eq0(a b:Wd)(w:World):(Op.equalIn 10000 152 (.agg #[iv a.k,iv a.n,iv a.a]) (.agg #[iv b.k,iv b.n,iv b.a])).run Tryz.prog w=.ok (wdB a b) w:=by
 rw[run_equalIn_struct w 9999 _ _ _ (by kernel_rfl) (by kernel_rfl)];simp [go_sem,wdB]
 repeat' split
 all_goals simp_all
theorem wd_eq(a b:Wd)(w:World):(binOp .eql 152 (.agg #[iv a.k,iv a.n,iv a.a]) (.agg #[iv b.k,iv b.n,iv b.a])).run Tryz.prog w=.ok (.bool (wdB a b)) w:=by
 rw[run_eql_struct,wd_eq0];rfl
theorem l5do_3[p:Inhabited uN](B g:Nat)(x:Hp)(a b c:Nat)(n:Int)(w:World)(h:GOk B w g x)(s:Snd x)(ok:dU 3 a b c n=true)(ha:a<16)(v:World)(hv:v.heap.size<=B)(hx:Ext v w):
  Calls Tryz.prog 234 #[.pointer (some ⟨g,0,none⟩),qZ 3 a b c n] w λe w'=>dC B g x a b c n 3 v e w':=by
 obtain⟨p1,o1,g1⟩:=GOk.enter h (w0:=doW w 3 a b c n) (((Ext.refl w).alloc _).alloc _);obtain⟨br,kr,hr⟩:=g1.regs s.r1.regs;have HR:=uU hr;have O1:=uU o1;have QA:=uU (λW=>hE 3 a b c n W);rw[ok] at QA;have V0:=uU (show v.heap.size<=w.heap.size+1 by have:=hx.size;omega);have XD:=uU (show Ext v (doW w 3 a b c n) from(hx.alloc _).alloc _);have BX:=uU (eQ.new w 3 a b c n);have i0:(0:Int)<=(a:Int):=by omega
 have i1:(a:Int)<16:=by omega
 clear h s hr o1 g1;go_enter Tryz.func234,Tryz.ntmps234;go_wp2_with fail;refine(QA _).mono ?_;rintro e w1 ⟨rfl,x1⟩;have X1:=uU (XD.trans x1);have BX1:=uU (BX.ext x1);obtain⟨t0,t1,t2,t3,t4,t5,t6,t7⟩:=uH BX1;have hw1:w.heap.size+1<w1.heap.size:=uL t5;have hw0:w.heap.size<w1.heap.size:=uL t0;have R1:=uU (HR.ext x1);have c3:=R1.c3;obtain⟨r0,r1,r2⟩:=R1.r a ha;have f:=R1.f;have hg1:g<w1.heap.size:=uL c3;have hb1:br<w1.heap.size:=uL r0;have hbB:=R1.lo.1;have FN:=uU (show GOk B (dJ w1 br (a*3) Wd0) g (regTo x a Wd0)/\Ext v (dJ w1 br (a*3) Wd0) from⟨R1.set w1 a Wd0 (Ext.refl _) ha,(a0e w1 br (a*3) Wd0).ext X1 (λq hq e=>by omega)⟩);obtain⟨W2,hW2⟩:∃W,W=dJ w1 br (a*3) Wd0:=⟨_,rfl⟩;rw[<-hW2] at FN;unfold dJ Wd0 at hW2;clear x1 QA BX1 BX XD HR;go_wp2_with fail
 go_region
 go_wp2_with fail;rw[<-hW2];refine(cK 0 _).mono ?_;rintro e w3 ⟨rfl,x3⟩;have x23:=Ext.trans (Ext.refl W2).drew x3;have G3:=uU (FN.1.ext x23);have X3:=uU (FN.2.trans x23);clear hW2 FN c3 r0 r1 r2 f t0 t1 t2 t3 t4 t5 t6 t7 x3 x23;obtain⟨u0,u1,u2,u3,u4,u5,u6,u7⟩:=G3.boxes O1;have hw3:w.heap.size+1<w3.heap.size:=uL u5;go_wp2_with fail;refine bodyPost_ret (v:=eY 0 0) (by simp [results,Tryz.results234,go_sem,u5,u6]) rfl ?_;exact⟨_,0,0,rfl,⟨rfl,rfl,rfl⟩,GOk.done O1 G3 0 0,uW X3 V0 0 0⟩
theorem l5do_4[p:Inhabited uN](B g:Nat)(x:Hp)(a b c:Nat)(n:Int)(w:World)(h:GOk B w g x)(s:Snd x)(ok:dU 4 a b c n=true)(ha:a<16)(hb:b<16)(v:World)(hv:v.heap.size<=B)(hx:Ext v w):
  Calls Tryz.prog 234 #[.pointer (some ⟨g,0,none⟩),qZ 4 a b c n] w λe w'=>dC B g x a b c n 4 v e w':=by
 obtain⟨p1,o1,g1⟩:=GOk.enter h (w0:=doW w 4 a b c n) (((Ext.refl w).alloc _).alloc _);obtain⟨br,kr,hr⟩:=g1.regs s.r1.regs;have HR:=uU hr;have O1:=uU o1;have QA:=uU (λW=>hE 4 a b c n W);rw[ok] at QA;have V0:=uU (show v.heap.size<=w.heap.size+1 by have:=hx.size;omega);have XD:=uU (show Ext v (doW w 4 a b c n) from(hx.alloc _).alloc _);have BX:=uU (eQ.new w 4 a b c n);have i0:(0:Int)<=(a:Int):=by omega
 have i1:(a:Int)<16:=by omega
 have j0:(0:Int)<=(b:Int):=by omega
 have j1:(b:Int)<16:=by omega
 clear h s hr o1 g1;go_enter Tryz.func234,Tryz.ntmps234;go_wp2_with fail;refine(QA _).mono ?_;rintro e w1 ⟨rfl,x1⟩;have X1:=uU (XD.trans x1);have BX1:=uU (BX.ext x1);obtain⟨t0,t1,t2,t3,t4,t5,t6,t7⟩:=uH BX1;have hw1:w.heap.size+1<w1.heap.size:=uL t5;have hw0:w.heap.size<w1.heap.size:=uL t0;have R1:=uU (HR.ext x1);have c3:=R1.c3;obtain⟨r0,r1,r2⟩:=R1.r a ha;obtain⟨s0,s1,s2⟩:=R1.r b hb;have f:=R1.f;have hg1:g<w1.heap.size:=uL c3;have hb1:br<w1.heap.size:=uL r0;have hbB:=R1.lo.1;have FN:=uU (show GOk B (dJ w1 br (a*3) (x.r b)) g (regTo x a (x.r b))/\Ext v (dJ w1 br (a*3) (x.r b)) from⟨R1.set w1 a (x.r b) (Ext.refl _) ha,(a0e w1 br (a*3) (x.r b)).ext X1 (λq hq e=>by omega)⟩);obtain⟨W2,hW2⟩:∃W,W=dJ w1 br (a*3) (x.r b):=⟨_,rfl⟩;rw[<-hW2] at FN;unfold dJ at hW2;clear x1 QA BX1 BX XD HR;go_wp2_with fail
 go_region
 go_wp2_with fail;rw[<-hW2];refine(cK 0 _).mono ?_;rintro e w3 ⟨rfl,x3⟩;have x23:=Ext.trans (Ext.refl W2).drew x3;have G3:=uU (FN.1.ext x23);have X3:=uU (FN.2.trans x23);clear hW2 FN c3 r0 r1 r2 f t0 t1 t2 t3 t4 t5 t6 t7 x3 x23 s0 s1 s2;obtain⟨u0,u1,u2,u3,u4,u5,u6,u7⟩:=G3.boxes O1;have hw3:w.heap.size+1<w3.heap.size:=uL u5;go_wp2_with fail;refine bodyPost_ret (v:=eY 0 0) (by simp [results,Tryz.results234,go_sem,u5,u6]) rfl ?_;exact⟨_,0,0,rfl,⟨rfl,rfl,rfl⟩,GOk.done O1 G3 0 0,uW X3 V0 0 0⟩
theorem l5do_14[p:Inhabited uN](B g:Nat)(x:Hp)(a b c:Nat)(n:Int)(w:World)(h:GOk B w g x)(s:Snd x)(ok:dU 14 a b c n=true)(ha:a<16)(v:World)(hx:Ext v w):
  Calls Tryz.prog 234 #[.pointer (some ⟨g,0,none⟩),qZ 14 a b c n] w λe w'=>dC B g x a b c n 14 v e w':=by
 obtain⟨p1,o1,g1⟩:=GOk.enter h (w0:=doW w 14 a b c n) (((Ext.refl w).alloc _).alloc _);obtain⟨br,kr,hr⟩:=g1.regs s.r1.regs;have HR:=uU hr;have HG:=uU g1;have O1:=uU o1;have QA:=uU (λW=>hE 14 a b c n W);rw[ok] at QA;have V0:=uU (show v.heap.size<=w.heap.size+1 by have:=hx.size;omega);have XD:=uU (show Ext v (doW w 14 a b c n) from(hx.alloc _).alloc _);have BX:=uU (eQ.new w 14 a b c n);have i0:(0:Int)<=(a:Int):=by omega
 have i1:(a:Int)<16:=by omega
 clear h s hr o1 g1;go_enter Tryz.func234,Tryz.ntmps234;go_wp2_with fail;refine(QA _).mono ?_;rintro e w1 ⟨rfl,x1⟩;have X1:=uU (XD.trans x1);have BX1:=uU (BX.ext x1);obtain⟨t0,t1,t2,t3,t4,t5,t6,t7⟩:=uH BX1;have hw1:w.heap.size+1<w1.heap.size:=uL t5;have hw0:w.heap.size<w1.heap.size:=uL t0;have R1:=uU (HR.ext x1);have G1:=uU (HG.ext x1);have c3:=R1.c3;obtain⟨r0,r1,r2⟩:=R1.r a ha;have hg1:g<w1.heap.size:=uL c3;have hb1:br<w1.heap.size:=uL r0;clear x1 QA BX1 BX XD HR;go_wp2_with fail;go_region_with (go_at_call 161;refine(cK (x.r a).k _).mono ?_;rintro e w3 ⟨rfl,x3⟩;have x13:=Ext.trans (Ext.refl w1).drew x3;have G3:=uU (G1.ext x13);have X3:=uU (X1.trans x13);obtain⟨u0,u1,u2,u3,u4,u5,u6,u7⟩:=G3.boxes O1;have hw3:w.heap.size+1<w3.heap.size:=uL u5;clear x3 x13)
 all_goals
  go_wp2_with fail;refine bodyPost_ret (v:=eY 0 (x.r a).k) (by simp [results,Tryz.results234,go_sem,u5,u6]) rfl ?_;exact⟨x,0,(x.r a).k,rfl,⟨rfl,rfl,rfl⟩,GOk.done O1 G3 0 (x.r a).k,uW X3 V0 0 (x.r a).k⟩
theorem l5do_15[p:Inhabited uN](B g:Nat)(x:Hp)(a b c:Nat)(n:Int)(w:World)(h:GOk B w g x)(s:Snd x)(ok:dU 15 a b c n=true)(ha:a<16)(v:World)(hx:Ext v w):
  Calls Tryz.prog 234 #[.pointer (some ⟨g,0,none⟩),qZ 15 a b c n] w λe w'=>dC B g x a b c n 15 v e w':=by
 obtain⟨p1,o1,g1⟩:=GOk.enter h (w0:=doW w 15 a b c n) (((Ext.refl w).alloc _).alloc _);obtain⟨br,kr,hr⟩:=g1.regs s.r1.regs;have HR:=uU hr;have HG:=uU g1;have O1:=uU o1;have QA:=uU (λW=>hE 15 a b c n W);rw[ok] at QA;have V0:=uU (show v.heap.size<=w.heap.size+1 by have:=hx.size;omega);have XD:=uU (show Ext v (doW w 15 a b c n) from(hx.alloc _).alloc _);have BX:=uU (eQ.new w 15 a b c n);have i0:(0:Int)<=(a:Int):=by omega
 have i1:(a:Int)<16:=by omega
 clear h s hr o1 g1;cases q:((x.r a).k == 1)
 ·have q2:((x.r a).k != 1)=true:=by simpa using q
  go_enter Tryz.func234,Tryz.ntmps234;go_wp2_with fail;refine(QA _).mono ?_;rintro e w1 ⟨rfl,x1⟩;have X1:=uU (XD.trans x1);have BX1:=uU (BX.ext x1);obtain⟨t0,t1,t2,t3,t4,t5,t6,t7⟩:=uH BX1;have hw1:w.heap.size+1<w1.heap.size:=uL t5;have hw0:w.heap.size<w1.heap.size:=uL t0;have R1:=uU (HR.ext x1);have G1:=uU (HG.ext x1);have c3:=R1.c3;obtain⟨r0,r1,r2⟩:=R1.r a ha;have hg1:g<w1.heap.size:=uL c3;have hb1:br<w1.heap.size:=uL r0;clear x1 QA BX1 BX XD HR;have QD:=uU (show(x.r a).k≠1 by simpa using q);clear q;go_wp2_with fail;go_quiet (fail);obtain⟨W2,hW2⟩:∃W,W=w1.drewN nq:=⟨_,rfl⟩;rw[<-hW2];have x12:Ext w1 W2:=by rw[hW2];exact Ext.drewN (Ext.refl w1) nq
  clear hW2;go_wp2_with fail;refine(a0i 2 _).mono ?_;rintro e w3 ⟨rfl,x3⟩;have G3:=uU (G1.ext (x12.trans x3));have X3:=uU (X1.trans (x12.trans x3));clear c3 r0 r1 r2 t0 t1 t2 t3 t4 t5 t6 t7 x3;obtain⟨u0,u1,u2,u3,u4,u5,u6,u7⟩:=G3.boxes O1;have hw3:w.heap.size+1<w3.heap.size:=uL u5;go_wp2_with fail;refine bodyPost_ret (v:=eY 2 0) (by simp [results,Tryz.results234,go_sem,u5,u6]) rfl ?_;exact⟨x,2,0,rfl,⟨rfl,.inl ⟨QD,rfl,rfl⟩⟩,GOk.done O1 G3 2 0,uW X3 V0 2 0⟩
 ·have q2:((x.r a).k != 1)=false:=by simpa using q
  go_enter Tryz.func234,Tryz.ntmps234;go_wp2_with fail;refine(QA _).mono ?_;rintro e w1 ⟨rfl,x1⟩;have X1:=uU (XD.trans x1);have BX1:=uU (BX.ext x1);obtain⟨t0,t1,t2,t3,t4,t5,t6,t7⟩:=uH BX1;have hw1:w.heap.size+1<w1.heap.size:=uL t5;have hw0:w.heap.size<w1.heap.size:=uL t0;have R1:=uU (HR.ext x1);have G1:=uU (HG.ext x1);have c3:=R1.c3;obtain⟨r0,r1,r2⟩:=R1.r a ha;have hg1:g<w1.heap.size:=uL c3;have hb1:br<w1.heap.size:=uL r0;clear x1 QA BX1 BX XD HR;have QD:=uU (show(x.r a).k=1 by simpa using q);clear q;go_wp2_with fail;go_quiet (fail);obtain⟨W2,hW2⟩:∃W,W=w1.drewN nq:=⟨_,rfl⟩;rw[<-hW2];have x12:Ext w1 W2:=by rw[hW2];exact Ext.drewN (Ext.refl w1) nq
  have G2:=uU (G1.ext x12);have X2:=uU (X1.trans x12);have e3:=x12.keep c3;have e0:=x12.keep r0;have e1:=x12.keep r1;obtain⟨u0,u1,u2,u3,u4,u5,u6,u7⟩:=G2.boxes O1;have hw3:w.heap.size+1<W2.heap.size:=uL u5;have hw4:w.heap.size<W2.heap.size:=uL u0;have hg2:g<W2.heap.size:=uL e3;have hb2:br<W2.heap.size:=uL e0;clear hW2 x12 c3 r0 r1 r2 t0 t1 t2 t3 t4 t5 t6 t7;go_wp2_with fail
  go_region
  all_goals
   go_wp2_with fail;refine bodyPost_ret (v:=eY 0 (x.r a).n) (by simp [results,Tryz.results234,go_sem,u5,u6]) rfl ?_;exact⟨x,0,(x.r a).n,rfl,⟨rfl,.inr ⟨QD,rfl,rfl⟩⟩,GOk.doneD O1 G2 0 (x.r a).n,(uW X2 V0 0 (x.r a).n).drew⟩
theorem l5do_13[p:Inhabited uN](B g:Nat)(x:Hp)(a b c:Nat)(n:Int)(w:World)(h:GOk B w g x)(s:Snd x)(ok:dU 13 a b c n=true)(ha:a<16)(hb:b<16)(v:World)(hx:Ext v w):
  Calls Tryz.prog 234 #[.pointer (some ⟨g,0,none⟩),qZ 13 a b c n] w λe w'=>dC B g x a b c n 13 v e w':=by
 obtain⟨p1,o1,g1⟩:=GOk.enter h (w0:=doW w 13 a b c n) (((Ext.refl w).alloc _).alloc _);obtain⟨br,kr,hr⟩:=g1.regs s.r1.regs;have HR:=uU hr;have HG:=uU g1;have O1:=uU o1;have QA:=uU (λW=>hE 13 a b c n W);rw[ok] at QA;have V0:=uU (show v.heap.size<=w.heap.size+1 by have:=hx.size;omega);have XD:=uU (show Ext v (doW w 13 a b c n) from(hx.alloc _).alloc _);have BX:=uU (eQ.new w 13 a b c n);have i0:(0:Int)<=(a:Int):=by omega
 have i1:(a:Int)<16:=by omega
 have j0:(0:Int)<=(b:Int):=by omega
 have j1:(b:Int)<16:=by omega
 clear h s hr o1 g1;cases q:wdB (x.r a) (x.r b)
 ·have we:=λW=>wd_eq (x.r a) (x.r b) W
  rw[q] at we;have Q:=uU q;clear q;go_enter Tryz.func234,Tryz.ntmps234;go_wp2_with fail;refine(QA _).mono ?_;rintro e w1 ⟨rfl,x1⟩;have X1:=uU (XD.trans x1);have BX1:=uU (BX.ext x1);obtain⟨t0,t1,t2,t3,t4,t5,t6,t7⟩:=uH BX1;have hw1:w.heap.size+1<w1.heap.size:=uL t5;have hw0:w.heap.size<w1.heap.size:=uL t0;have R1:=uU (HR.ext x1);have G1:=uU (HG.ext x1);have c3:=R1.c3;obtain⟨r0,r1,r2⟩:=R1.r a ha;obtain⟨s0,s1,s2⟩:=R1.r b hb;have hg1:g<w1.heap.size:=uL c3;have hb1:br<w1.heap.size:=uL r0;clear x1 QA BX1 BX XD HR;go_wp2_with fail;go_quiet (fail);obtain⟨W2,hW2⟩:∃W,W=w1.drewN nq:=⟨_,rfl⟩;rw[<-hW2];have x12:Ext w1 W2:=by rw[hW2];exact Ext.drewN (Ext.refl w1) nq
  clear hW2;go_wp2_with fail;refine(cK 0 _).mono ?_;rintro e w3 ⟨rfl,x3⟩;have G3:=uU (G1.ext (x12.trans x3));have X3:=uU (X1.trans (x12.trans x3));clear c3 r0 r1 r2 s0 s1 s2 t0 t1 t2 t3 t4 t5 t6 t7 x3 x12 we;obtain⟨u0,u1,u2,u3,u4,u5,u6,u7⟩:=G3.boxes O1;have hw3:w.heap.size+1<w3.heap.size:=uL u5;go_wp2_with fail;refine bodyPost_ret (v:=eY 0 0) (by simp [results,Tryz.results234,go_sem,u5,u6]) rfl ?_;exact⟨x,0,0,rfl,⟨rfl,rfl,by rw[uH Q];rfl⟩,GOk.done O1 G3 0 0,uW X3 V0 0 0⟩
 ·have we:=λW=>wd_eq (x.r a) (x.r b) W
  rw[q] at we;have Q:=uU q;clear q;go_enter Tryz.func234,Tryz.ntmps234;go_wp2_with fail;refine(QA _).mono ?_;rintro e w1 ⟨rfl,x1⟩;have X1:=uU (XD.trans x1);have BX1:=uU (BX.ext x1);obtain⟨t0,t1,t2,t3,t4,t5,t6,t7⟩:=uH BX1;have hw1:w.heap.size+1<w1.heap.size:=uL t5;have hw0:w.heap.size<w1.heap.size:=uL t0;have R1:=uU (HR.ext x1);have G1:=uU (HG.ext x1);have c3:=R1.c3;obtain⟨r0,r1,r2⟩:=R1.r a ha;obtain⟨s0,s1,s2⟩:=R1.r b hb;have hg1:g<w1.heap.size:=uL c3;have hb1:br<w1.heap.size:=uL r0;clear x1 QA BX1 BX XD HR;go_wp2_with fail;go_quiet (fail);obtain⟨W2,hW2⟩:∃W,W=w1.drewN nq:=⟨_,rfl⟩;rw[<-hW2];have x12:Ext w1 W2:=by rw[hW2];exact Ext.drewN (Ext.refl w1) nq
  clear hW2;go_wp2_with fail;refine(cK 1 _).mono ?_;rintro e w3 ⟨rfl,x3⟩;have G3:=uU (G1.ext (x12.trans x3));have X3:=uU (X1.trans (x12.trans x3));clear c3 r0 r1 r2 s0 s1 s2 t0 t1 t2 t3 t4 t5 t6 t7 x3 x12 we;obtain⟨u0,u1,u2,u3,u4,u5,u6,u7⟩:=G3.boxes O1;have hw3:w.heap.size+1<w3.heap.size:=uL u5;go_wp2_with fail;refine bodyPost_ret (v:=eY 0 1) (by simp [results,Tryz.results234,go_sem,u5,u6]) rfl ?_;exact⟨x,0,1,rfl,⟨rfl,rfl,by rw[uH Q];rfl⟩,GOk.done O1 G3 0 1,uW X3 V0 0 1⟩
theorem GAt.prow[Inhabited uN](h:GAt B w g x ar kr ac kc vg br bc pb pa pk role)(i:Nat)(hi:i<x.cells.length)(r0:0<x.regs.length)(L:List Pr)(qb:Nat)(qa:Option Addr)(qk:Nat)(o:uX (λq=>q=bc) w w')(nfc:Nf1 bc w')(c7:w'.cell? ⟨bc,i*8+7,none⟩=some (.slice qa L.length qk))(co:∀j,j≠i*8+7->w'.cell? ⟨bc,j,none⟩=w.cell? ⟨bc,j,none⟩)
  (hp:∀k,k<L.length->tL w' qb (k*6) (L.getD k Pr0)) (hkL:L.length<=qk) (hN:0<qk->qa=some ⟨qb,0,none⟩/\Nfp qb qk w'/\w.heap.size<=qb/\B<=qb) :
  GAt B w' g { x with cells:=x.cells.set i { x.c i with prs:=L } } ar kr ac kc vg br bc (λq=>if q=i then qb else pb q) (λq=>if q=i then qa else pa q) (λq=>if q=i then qk else pk q) (λd=>if w.heap.size<=d then 6+i else role d):=by
 have hn:0<x.cells.length:=by omega
 have far:∀q,q<w.heap.size->role q≠3->w'.heap[q]?=w.heap[q]?:=λq hq hr=>o.block q hq (λe=>hr (by rw[e];exact h.sp.c hn))
 have old:∀q,q<w.heap.size->(if w.heap.size<=q then 6+i else role q)=role q:=λq hq=>if_neg (by omega)
 have hl:({ x with cells:=x.cells.set i { x.c i with prs:=L } }:Hp).cells.length=x.cells.length:=by simp
 have hc:=Hp.c_set x i { x.c i with prs:=L } hi;have hne:∀q,q≠i->(({ x with cells:=x.cells.set i { x.c i with prs:=L } }:Hp).c q)=x.c q:=λq e=>by rw[hc q,if_neg e]
 have hei:(({ x with cells:=x.cells.set i { x.c i with prs:=L } }:Hp).c i)={ x.c i with prs:=L }:=by rw[hc i,if_pos rfl]
 have fg:=far g h.nf.1 (by rw[h.sp.g];omega);have pf:∀q,q<x.cells.length->0<pk q->w'.heap[pb q]?=w.heap[pb q]?:=λq hq hl=>far (pb q) (h.rw.pl q hq hl).2.1.1 (by rw[h.sp.p q hq hl];omega)
 have fr:0<x.regs.length->w'.heap[br]?=w.heap[br]?:=λhr=>far br (h.rw.nr hr).1.1 (by rw[h.sp.r hr];omega)
 refine⟨?_,hY h.nf fg o.size,h.lo,h.ha,λ_=>h.hc hn,⟨λj hj=>?_,λq hq=>?_,λq hq=>?_,λq hq j hj=>?_,λq hq hlq=>?_,λhr=>⟨hY (h.rw.nr hr).1 (fr hr) o.size,(h.rw.nr hr).2⟩,λ_=>⟨nfc,(h.rw.nc hn).2⟩,λ_=>h.rw.d hn,λq q' hq hq' hqq h1 h2=>?_,λq hq=>?_⟩,h.gr.block (λq hq=>far q (h.gr.lt q hq).2 (by rw[h.sp.y q hq];omega)),⟨?_,λhr=>?_,λ_=>?_,λq hq=>?_,λq hq hlq=>?_⟩,by rw[hl];exact h.kl,h.pr.of (λq hq h1=>far q hq (by rw[h1];omega)) (λq hq h1=>by(try dsimp only);rw[if_neg (by omega)];exact h1),λhk=>(h.cc hk).cells (old bc (h.cc hk).nf.1) nfc (λj v _ hv=>?_)⟩
 ·rw[hl];exact h.bx.block fg
 ·exact(h.rw.r j hj).of λm _=>World.cell?_of_block (a:=⟨br,_,none⟩) (fr (by have:j<x.regs.length:=hj;omega))
 ·rw[hl] at hq;have key:S7 w' bc (q*8) (x.c q):=(h.rw.s q hq).of λm hm=>co _ (by omega)
  by_cases e:q=i
  ·subst e;rw[hei];exact key
  ·rw[hne q e];exact key
 ·rw[hl] at hq;by_cases e:q=i
  ·subst e;rw[hei];simp only [if_true];exact c7
  ·rw[hne q e];simp only [if_neg e];rw[co _ (by omega)];exact h.rw.p7 q hq
 ·rw[hl] at hq;by_cases e:q=i
  ·subst e;rw[hei] at hj ⊢;simp only [if_true];exact hp j hj
  ·rw[hne q e] at hj ⊢;simp only [if_neg e];exact(h.rw.p q hq j hj).of λm _=>World.cell?_of_block (a:=⟨pb q,_,none⟩) (pf q hq (h.rw.pw hq (by omega)))
 ·rw[hl] at hq;by_cases e:q=i
  ·subst e;simp only [if_true] at hlq ⊢;obtain⟨a1,a2,a3,a4⟩:=hN hlq;refine⟨a1,a2,⟨λe=>?_,λe=>?_⟩,a4⟩
   ·have:=(h.rw.nr r0).1.1;omega
   ·have:=(h.rw.nc hn).1.1;omega
  ·simp only [if_neg e] at hlq ⊢;obtain⟨a1,a2,a3,a4⟩:=h.rw.pl q hq hlq;exact⟨a1,a0f a2 (pf q hq hlq) o.size,a3,a4⟩
 ·rw[hl] at hq hq';by_cases e:q=i
  ·subst e;have e':q'≠q:=λe=>hqq e.symm
   simp only [if_true,if_neg e'] at h1 h2 ⊢;have:=(h.rw.pl q' hq' h2).2.1.1;have:=(hN h1).2.2.1;omega
  ·by_cases e2:q'=i
   ·subst e2;simp only [if_true,if_neg e] at h1 h2 ⊢;have:=(h.rw.pl q hq h1).2.1.1;have:=(hN h2).2.2.1;omega
   ·simp only [if_neg e,if_neg e2] at h1 h2 ⊢;exact h.rw.dp q q' hq hq' hqq h1 h2
 ·rw[hl] at hq;by_cases e:q=i
  ·subst e;rw[hei];simp only [if_true];exact hkL
  ·rw[hne q e];simp only [if_neg e];exact h.rw.kp q hq
 ·rw[old g h.nf.1];exact h.sp.g
 ·rw[old br (h.rw.nr hr).1.1];exact h.sp.r hr
 ·rw[old bc (h.rw.nc hn).1.1];exact h.sp.c hn
 ·rw[old q (h.gr.lt q hq).2];exact h.sp.y q hq
 ·rw[hl] at hq;by_cases e:q=i
  ·subst e;simp only [if_true] at hlq ⊢;rw[if_pos (hN hlq).2.2.1]
  ·simp only [if_neg e] at hlq ⊢;rw[old (pb q) (h.rw.pl q hq hlq).2.1.1];exact h.sp.p q hq hlq
 ·by_cases e:j=i*8+7
  ·rw[e];exact⟨_,c7⟩
  ·exact⟨v,(co j e).trans hv⟩
theorem b3o[Inhabited uN](h:GAt B w g x ar kr ac kc vg br bc pb pa pk role):
  Calls Tryz.prog 218 #[.pointer (some ⟨g,0,none⟩)] w λe w'=>e=.returned (.int .i64 (dL x))/\Ext w w':=by
 obtain⟨ag,kg,hvg⟩:=h.gr.form;subst hvg;have c4:=h.bx.2.2.2.2.1;have c5:=h.bx.2.2.2.2.2.1;have c6:=h.bx.2.2.2.2.2.2.1;have c8:=h.bx.2.2.2.2.2.2.2.2.1;have GA:=uU (λi hi=>h.gr.at i hi);clear h;cases q2:(x.phase == 2)
 ·cases q5:(x.phase == 5)
  ·have E:=uU (show dL x = -1 by unfold dL;rw[if_neg (λh=>by simp [h.1] at q2),if_neg (λh=>by simp [h.1] at q5)]);go_enter Tryz.func218,Tryz.ntmps218;go_wp2_with fail;go_quiet (fail);go_wp2_with fail;go_ret;exact⟨by rw[uH E];rfl,by repeat (first | exact Ext.refl _ | refine Ext.drewN ?_ _ | refine Ext.drew ?_)⟩
  ·by_cases hl:x.hand<x.cells.length
   ·have E:=uU (show dL x=x.hand by unfold dL;rw[if_neg (λh=>by simp [h.1] at q2),if_pos ⟨by simpa using q5,hl⟩]);go_enter Tryz.func218,Tryz.ntmps218;go_wp2_with fail;go_quiet (fail);go_wp2_with fail;go_ret;exact⟨by rw[uH E];rfl,by repeat (first | exact Ext.refl _ | refine Ext.drewN ?_ _ | refine Ext.drew ?_)⟩
   ·have E:=uU (show dL x = -1 by unfold dL;rw[if_neg (λh=>by simp [h.1] at q2),if_neg (λh=>hl h.2)]);go_enter Tryz.func218,Tryz.ntmps218;go_wp2_with fail;go_quiet (fail);go_wp2_with fail;go_ret;exact⟨by rw[uH E];rfl,by repeat (first | exact Ext.refl _ | refine Ext.drewN ?_ _ | refine Ext.drew ?_)⟩
 ·have q5:(x.phase == 5)=false:=by simp at q2 ⊢;omega
  by_cases hl:0<x.gray.length
  ·obtain⟨gb,go,rfl,gc,_⟩:=uH GA 0 hl;have E:=uU (show dL x=x.gray[0] by unfold dL;rw[if_pos ⟨by simpa using q2,hl⟩];simp [hl]);have g0:(x.gray.length:Int) > 0:=by omega
   have g1:(0:Int)<(x.gray.length:Int):=by omega
   rw[Nat.add_zero] at gc;go_enter Tryz.func218,Tryz.ntmps218;go_wp2_with fail;go_ret;exact⟨by rw[uH E];rfl,by repeat (first | exact Ext.refl _ | refine Ext.drewN ?_ _ | refine Ext.drew ?_)⟩
  ·have E:=uU (show dL x = -1 by unfold dL;rw[if_neg (λh=>hl h.2),if_neg (λh=>by simp [h.1] at q5)]);have g0:¬(x.gray.length:Int) > 0:=by omega
   go_enter Tryz.func218,Tryz.ntmps218;go_wp2_with fail;go_quiet (fail);go_wp2_with fail;go_ret;exact⟨by rw[uH E];rfl,by repeat (first | exact Ext.refl _ | refine Ext.drewN ?_ _ | refine Ext.drew ?_)⟩
theorem b9s[Inhabited uN](h:GAt B w g x ar kr ac kc vg br bc pb pa pk role)(H:Nat->Bool)(bs:Nat)(hs:∀j,j<x.cells.length->w.cell? ⟨bs,j,none⟩=some (.bool (H j)))(y:Wd)(hy:uK y x.cells.length)(hr:(qJ x y).k=2->0<=(qJ x y).a/\(qJ x y).a<x.cells.length):
  Calls Tryz.prog 148 #[.pointer (some ⟨g,0,none⟩),.slice (some ⟨bs,0,none⟩) x.cells.length x.cells.length,y.v] w λe w'=>e=.returned (.bool (tZ x H y))/\Ext w w':=by
 have XA:=(Ext.refl w).alloc (.cells #[iv y.k,iv y.n,iv y.a] 152);have QR:=uU (a4n y _ (h.ext XA) hy);have HS:=uU (show ∀W,Ext w W->∀j,j<x.cells.length->W.cell? ⟨bs,j,none⟩=some (.bool (H j)) from λW e j hj=>e.keep (hs j hj));have XA2:=uU XA;obtain⟨r,hrr⟩:∃r,r=qJ x y:=⟨_,rfl⟩;have LB:=uU (show tZ x H y=(r.k == 2 && !H r.a.toNat) by unfold tZ;rw[hrr]);rw[<-hrr] at QR hr;clear h hs XA hrr;go_enter Tryz.func148,Tryz.ntmps148;go_wp2_with fail;refine QR.mono ?_;rintro e w1 ⟨rfl,q1⟩;have X1:=uU (XA2.trans q1);cases q:(r.k == 2)
 ·have E:=uU (show tZ x H y=false by rw[uH LB,q];rfl);go_wp2_with fail;go_ret;exact⟨by rw[uH E];rfl,by repeat (first | exact X1 | refine Ext.drewN ?_ _ | refine Ext.drew ?_ | refine Ext.alloc ?_ _)⟩
 ·obtain⟨a0,a1⟩:=hr (by simpa using q);obtain⟨j,hj⟩:∃j:Nat,r.a=(j:Int):=⟨r.a.toNat,by omega⟩;have hjl:j<x.cells.length:=by omega
  have c0:=uH HS w1 X1 j hjl;have j0:(0:Int)<=(j:Int):=by omega
  have j1:(j:Int)<(x.cells.length:Int):=by omega
  have hb:bs<w1.heap.size:=uL c0;have E:=uU (show tZ x H y = !H j by rw[uH LB,q,hj];rfl);cases hH:H j
  all_goals
   rw[hH] at c0;have E2:=uU E;rw[hH] at E2;go_wp2_with fail;go_ret;exact⟨by rw[uH E2];rfl,by repeat (first | exact X1 | refine Ext.drewN ?_ _ | refine Ext.drew ?_ | refine Ext.alloc ?_ _)⟩
theorem a7d(n:Int)(h0:-4000000<=n)(h1:n<=4000000):wrap64 n=n:=by unfold wrap64;omega
def b0x(x:Hp)(i k:Nat):Hp:={ x with cells:=x.cells.set i { x.c i with prs:=(x.c i).prs.eraseIdx k },used:=x.used-1,sub:=if (k:Int)<x.sub/\dL x=(i:Int) then x.sub-1 else x.sub }
theorem b2q(l:List Pr)(k j:Nat)(h:j<l.length):(l.take (j+1)).eraseIdx k=if j=k then l.take j else (l.take j).eraseIdx k++[l[j]]:=by
 rw[List.take_succ_eq_append_getElem h];have hl:(l.take j).length=j:=by simp;omega
 by_cases e:j=k
 ·rw[if_pos e,List.eraseIdx_append_of_length_le (by omega),hl,show k-j=0 by omega];simp
 ·rw[if_neg e];rcases Nat.lt_or_ge k j with q | q
  ·rw[List.eraseIdx_append_of_lt_length (by omega)]
  ·rw[List.eraseIdx_append_of_length_le (by omega),hl,List.eraseIdx_of_length_le (l:=l.take j) (by omega)]
   congr 1
   rw[List.eraseIdx_of_length_le];simp;omega
theorem cut_no(h:Hid (w.ownsRow B 154 6 v ((l.take j).eraseIdx k).length (((l.take j).eraseIdx k).flatMap fP)))(hj:j<l.length)(e:j=k):Hid (w.ownsRow B 154 6 v ((l.take (j+1)).eraseIdx k).length (((l.take (j+1)).eraseIdx k).flatMap fP)):=by
 rw[b2q l k j hj,if_pos e];have:(l.take j).eraseIdx k=l.take j:=List.eraseIdx_of_length_le (by simp;omega);rw[this] at h;exact h
theorem cut_all(h:Hid (w.ownsRow B 154 6 v ((l.take j).eraseIdx k).length (((l.take j).eraseIdx k).flatMap fP)))(hj:l.length<=j):Hid (w.ownsRow B 154 6 v (l.eraseIdx k).length ((l.eraseIdx k).flatMap fP)):=by
 rw[List.take_of_length_le hj] at h;exact h
theorem c2t{n:Nat}{l:List Value}(h:Hid (w.ownsRow B 154 6 v n l))(e:Ext w w'):Hid (w'.ownsRow B 154 6 v n l):=uQ h (λq hq=>e.block q (h.lt q hq).2)
def GK[Inhabited uN](B:Nat)(w:World)(g:Nat)(x:Hp)(ar:Option Addr)(kr:Nat)(ac:Option Addr)(kc:Nat)(vg:Value)(br bc:Nat):Prop:=∃pb pa pk role,GAt B w g x ar kr ac kc vg br bc pb pa pk role
theorem GK.ext[Inhabited uN](h:GK B w g x ar kr ac kc vg br bc)(e:Ext w w'):GK B w' g x ar kr ac kc vg br bc:=let ⟨pb,pa,pk,role,h⟩:=h;⟨pb,pa,pk,role,h.ext e⟩
theorem GK.ok[Inhabited uN](h:GK B w g x ar kr ac kc vg br bc):GOk B w g x:=let ⟨pb,pa,pk,role,h⟩:=h;⟨_,_,_,_,_,_,_,pb,pa,pk,role,h⟩
theorem GK.set1[Inhabited uN](h:GK B w g x ar kr ac kc vg br bc)(v:Int):GK B (w.setCell ⟨g,1,none⟩ (iv v)) g { x with used:=v } ar kr ac kc vg br bc:=let ⟨_,_,_,_,h⟩:=h;⟨_,_,_,_,h.boxed (x':={ x with used:=v }) (uX.setCell (S:=λq=>q=g) (uX.refl _ w) (p:=⟨g,1,none⟩) rfl _) (h.nf.set _ _) rfl rfl rfl (h.bx.set1 v)⟩
theorem GK.set7[Inhabited uN](h:GK B w g x ar kr ac kc vg br bc)(v:Int):GK B (w.setCell ⟨g,7,none⟩ (iv v)) g { x with sub:=v } ar kr ac kc vg br bc:=let ⟨_,_,_,_,h⟩:=h;⟨_,_,_,_,h.boxed (x':={ x with sub:=v }) (uX.setCell (S:=λq=>q=g) (uX.refl _ w) (p:=⟨g,7,none⟩) rfl _) (h.nf.set _ _) rfl rfl rfl (h.bx.set7 v)⟩
def Fr2(g bc:Nat)(w w':World):Prop:=w.heap.size<=w'.heap.size/\∀q,q<w.heap.size->q≠g->q≠bc->w'.heap[q]?=w.heap[q]?
theorem Fr2.ext{w2:World}(h:Fr2 g bc w w1)(e:Ext w1 w2):Fr2 g bc w w2:=⟨Nat.le_trans h.1 e.size,λq h1 h2 h3=>(e.block q (Nat.lt_of_lt_of_le h1 h.1)).trans (h.2 q h1 h2 h3)⟩
theorem Fr2.of(e:Ext w w1):Fr2 g bc w w1:=⟨e.size,λq h1 _ _=>e.block q h1⟩
theorem Fr2.set(h:Fr2 g bc w w1)(p:Addr)(hp:p.block=g\/p.block=bc)(u:Value):Fr2 g bc w (w1.setCell p u):=⟨by have:=h.1;simpa [World.setCell] using this,λq h1 h2 h3=>(Below.heap_setCell _ _ _ _ (by rcases hp with e | e <;> rw[e] <;> assumption)).trans (h.2 q h1 h2 h3)⟩
theorem c5w{T:TypeId}{c n:Nat}{xs:List Value}(h:w.ownsRow B T c v n xs):∃va vq,v=.slice va n vq:=⟨_,_,(a0k h).1⟩
theorem b7j[Inhabited uN]{wr:World}(h:GAt B w g x ar kr ac kc vg br bc pb pa pk role)(i:Nat)(hi:i<x.cells.length)(r0:0<x.regs.length)(L:List Pr)(va:Option Addr)(vq:Nat)(e:Ext w wr)(ow:wr.ownsRow w.heap.size 154 6 (.slice va L.length vq) L.length (L.flatMap fP)):
  GK B (wr.setCell ⟨bc,i*8+7,none⟩ (.slice va L.length vq)) g { x with cells:=x.cells.set i { x.c i with prs:=L } } ar kr ac kc vg br bc:=by
 have hn:0<x.cells.length:=by omega
 have hBg:B<=w.heap.size:=Nat.le_trans h.lo (Nat.le_of_lt h.nf.1);have hbc:=(h.rw.nc hn).1;obtain⟨ad,cap,e1,e2,hc⟩:=b3u (f:=fP) (λ_=>rfl) ow
 injection e1 with e1 _ e3
 subst e1 e3
 have hq:∀qb,va=some ⟨qb,0,none⟩->w.heap.size<=qb/\qb<wr.heap.size/\qb≠bc:=λqb hv=>by
  have:=ow.lt qb (by rw[hv];rfl);have:=hbc.1;omega
 have c7:(wr.setCell ⟨bc,i*8+7,none⟩ (.slice va L.length vq)).cell? ⟨bc,i*8+7,none⟩=some (.slice va L.length vq):=World.cell?_setCell_same _ _ _ (e.keep (h.rw.p7 i hi));refine⟨_,_,_,_,h.prow i hi r0 L (qQ (.slice va L.length vq)) va vq (uX.setCell (S:=λq=>q=bc) (uX.of_ext e) (p:=⟨bc,i*8+7,none⟩) rfl _) ((hbc.ext e).set _ _) c7 (λj hj=>?_) (λk hk=>?_) (b4u ow) (λhl=>?_)⟩
 ·rw[uC _ (.inr (λe=>hj e.symm))];exact(cZ e).1 bc j hbc.1
 ·obtain⟨qb,rfl⟩:=e2 (by omega);obtain⟨q2,e4,_,_,hcc⟩:=hc k hk
  injection e4 with e4
  injection e4 with e4
  subst e4;have el:L.getD k Pr0=L[k]:=by simp [hk]
  rw[el]
  have key:∀m,m<6->(wr.setCell ⟨bc,i*8+7,none⟩ (.slice (some ⟨qb,0,none⟩) L.length vq)).cell? ⟨qb,k*6+m,none⟩=(fP L[k])[m]?:=λm hm=>by
   rw[uC _ (.inl (λe=>(hq qb rfl).2.2 e.symm))];have:=hcc m hm
   rwa [Nat.zero_add] at this
  exact⟨key 0 (by omega),key 1 (by omega),key 2 (by omega),key 3 (by omega),key 4 (by omega),key 5 (by omega)⟩
 ·obtain⟨o1,_,o3,_⟩:=b4v ow hl;have hb:=hq _ o1;exact⟨o1,a0f o3 (Below.heap_setCell _ _ _ _ hb.2.2) (by simp [World.setCell]),hb.1,Nat.le_trans hBg hb.1⟩
theorem b4a[Inhabited uN]{B:Nat}{w:World}{g:Nat}{x:Hp}{ar:Option Addr}{kr:Nat}{ac:Option Addr}{kc:Nat}{vg:Value}{br bc:Nat}(h:GK B w g x ar kr ac kc vg br bc)(i k:Nat)(hi:i<x.cells.length)(hk:k<(x.c i).prs.length)(r0:0<x.regs.length)(h200:(x.c i).prs.length<=200)(hu:-3000000<=x.used/\x.used<=1000000)(hsb:-3000000<=x.sub/\x.sub<=1000000)(n8:x.cells.length<=8000)(a:World)(ha:a.heap.size<=B)(hx:Ext a w):
  Calls Tryz.prog 149 #[.pointer (some ⟨g,0,none⟩),.int .i64 i,.int .i64 k] w λe w'=>e=.returned (.tuple #[])/\GK B w' g (b0x x i k) ar kr ac kc vg br bc/\Fr2 g bc w w'/\Ext a w':=by
 obtain⟨pb,pa,pk,role,h⟩:=h;have hn:0<x.cells.length:=by omega
 have HH:=uU h;have c4:=h.bx.2.2.2.2.1;rw[h.hc hn] at c4;have p7:=h.rw.p7 i hi;have PL:=uU (h.rw.pl i hi (h.rw.pw hi (by omega)));obtain⟨i0,hi0,hz0,hz1,hz2⟩:=info_parts a4i;have j0:(0:Int)<=(i:Int):=by omega
 have j1:(i:Int)<(x.cells.length:Int):=by omega
 rw[(uH PL).1] at p7;have hgw:g<w.heap.size:=uL c4;have hbw:bc<w.heap.size:=uL p7;have XS:=uU hx;clear h;go_enter Tryz.func149,Tryz.ntmps149;go_wp2_with fail;obtain⟨l,hl⟩:∃l,l=(x.c i).prs:=⟨_,rfl⟩;rw[<-hl] at p7 hk h200
 have PP:=uU (show ∀j (hj:j<l.length),tL w (pb i) (j*6) l[j] from λj hj=>by
  have h1:=(uH HH).rw.p i hi j (by rw[<-hl];exact hj);have h2:(x.c i).p j=l[j]:=by simp [Cl.p,<-hl,hj]
  rw[h2] at h1;exact h1)
 have HL:=uU hl;have C4:=uU c4;have P7:=uU p7;rw[<-hl];clear hl;go_loopw [6,18] (λv s wr=>∃j:Nat,j<=l.length/\s=.int .i64 j/\Hid (wr.ownsRow w.heap.size 154 6 v ((l.take j).eraseIdx k).length (((l.take j).eraseIdx k).flatMap fP))/\Ext w wr) (λ_ s _=>l.length-(intOf s).toNat)
 case atStart=>exact⟨0,Nat.zero_le _,rfl,World.ownsRow_nil _ _ _ _,Ext.refl _⟩
 case round=>
  clear c4 p7;obtain⟨j,hj,rfl,hown,hbl⟩:=hrel;by_cases hlt:j<l.length
  ·obtain⟨e0,e1,e2,e3,e4,e5⟩:=(uH PP j hlt).ext hbl;have hb':pb i<wr.heap.size:=uL e0;have k0:(0:Int)<=(j:Int):=by omega
   have k1:(j:Int)<(l.length:Int):=by omega
   have NO:=uU (λq=>cut_no hown hlt q);have YES:=uU (b2q l k j hlt);have LE:=uU (show((l.take j).eraseIdx k).length<=j by have:=List.length_eraseIdx_le (l.take j) k;simp at this;omega);obtain⟨y,hy⟩:∃y,y=l[j]:=⟨_,rfl⟩;rw[<-hy] at e0 e1 e2 e3 e4 e5 YES;clear hy;obtain⟨L,hL⟩:∃L,L=(l.take j).eraseIdx k:=⟨_,rfl⟩;rw[<-hL] at hown YES LE;clear hL;have xa:=(Ext.refl wr).alloc (.cells #[iv y.key.k,iv y.key.n,iv y.key.a,iv y.val.k,iv y.val.n,iv y.val.a] 154);by_cases e:j=k
   ·have eb:((j:Int) != (k:Int))=false:=by simp [e]
    have N:=uU (uH (c2t (uH NO e) xa));clear NO YES e;go_wp2_with fail;go_roundw
    case rel=>exact⟨j+1,by omega,by go_num,uH N,hbl.trans xa⟩
    case measure=>simp [intOf];omega
   ·have eb:((j:Int) != (k:Int))=true:=by simp;omega
    have Y:=uU (show(l.take (j+1)).eraseIdx k=L++[y] by rw[uH YES,if_neg e]);clear NO YES e;go_wp2_with (at_builtin;refine wpList_append_lies _ rfl _ _ 60 rfl w.heap.size 154 i0 (.agg #[iv 0,iv 0,iv 0,iv 0,iv 0,iv 0]) 6 48 Tryz.underlying60 hi0 hz0 hz1 hz2 rfl (by decide) _ L.length (L.flatMap fP) rfl (((uH hown).alloc _).alloc _) _ 1 1 (fP y) rfl rfl ?c1 ?c2 (by decide) ?c3 ?c4 ?c5 _ rfl ?_)
    case c1=>
     intro q u hk
     match q,hk with
     | 0,hk=>simp [fP] at hk;subst hk;simp [Addr.add,go_sem]
     | 1,hk=>simp [fP] at hk;subst hk;simp [Addr.add,go_sem]
     | 2,hk=>simp [fP] at hk;subst hk;simp [Addr.add,go_sem]
     | 3,hk=>simp [fP] at hk;subst hk;simp [Addr.add,go_sem]
     | 4,hk=>simp [fP] at hk;subst hk;simp [Addr.add,go_sem]
     | 5,hk=>simp [fP] at hk;subst hk;simp [Addr.add,go_sem]
     | q+6,hk=>simp [fP] at hk
    case c2=>intro u hu;simp [fP] at hu;rcases hu with e | e | e | e | e | e <;> subst e <;> rfl
    case c3=>have:=uH LE;unfold maxLen;omega
    case c4=>have:=uH LE;omega
    case c5=>have:=hbl.size;simp;omega
    intro gq cap' w2 hown2 hgrow hat hglt
    have R:=uU (show w2.ownsRow w.heap.size 154 6 (.slice (some ⟨gq,0,none⟩) (L.length+1) cap') ((l.take (j+1)).eraseIdx k).length (((l.take (j+1)).eraseIdx k).flatMap fP) by
     rw[uH Y,List.flatMap_append]
     simpa using hown2)
    have X2:=uU (a2k ((hbl.alloc _).alloc _) (((uH hown).alloc _).alloc _) (Nat.le_refl _) hgrow);clear hown2 hgrow hat Y;go_wp2_with fail;go_roundw
    case rel=>exact⟨j+1,by omega,by go_num,uH R,uH X2⟩
    case measure=>simp [intOf];omega
  ·have OW:=uU (uH (cut_all hown (by omega)));obtain⟨va,vq,hv⟩:=c5w (uH OW);subst hv;have G1:=uU (b7j (uH HH) i hi r0 (l.eraseIdx k) va vq hbl (uH OW));have d4:=hbl.keep (uH C4);have d7:=hbl.keep (uH P7);have hgr:g<wr.heap.size:=uL d4;have hbr:bc<wr.heap.size:=uL d7;have fc:=(((uH HH).ext hbl).rw.nc hn).1.2 (i*8+7);have X1:=uU (show Ext a (wr.setCell ⟨bc,i*8+7,none⟩ (.slice va (l.eraseIdx k).length vq)) from((uH XS).trans hbl).setCell (p:=⟨bc,i*8+7,none⟩) (Nat.le_trans ha ((uH HH).rw.nc hn).2) _);have ngc:¬g=bc:=λe=>by have h1:=(uH HH).sp.g;have h2:=(uH HH).sp.c hn;rw[e] at h1;omega
   have ncg:¬bc=g:=λe=>ngc e.symm
   have b1:=hbl.keep (uH HH).bx.2.1;have b7:=hbl.keep (uH HH).bx.2.2.2.2.2.2.2.1;have f1:=((uH HH).ext hbl).nf.2 1;have f7:=((uH HH).ext hbl).nf.2 7;have wu:wrap64 (x.used-1)=x.used-1:=a7d _ (by omega) (by omega);have G2:=uU ((uH G1).set1 (x.used-1));have LO:=uU (uH HH).lo;have FR:=uU (((Fr2.of (g:=g) (bc:=bc) hbl).set ⟨bc,i*8+7,none⟩ (.inr rfl) (.slice va (l.eraseIdx k).length vq)).set ⟨g,1,none⟩ (.inl rfl) (iv (x.used-1)));have X2:=uU ((uH X1).setCell (p:=⟨g,1,none⟩) (Nat.le_trans ha (uH HH).lo) (iv (x.used-1)));clear hown OW;obtain⟨z,hz⟩:∃z:Hp,z={ ({ x with cells:=x.cells.set i { x.c i with prs:=l.eraseIdx k } }:Hp) with used:=x.used-1 }:=⟨_,rfl⟩;have HZ:=uU hz;have SZ:=uU (show dL z=dL x by rw[hz];unfold dL;simp);have ZS:=uU (show z.sub=x.sub by rw[hz]);have G2:=uU (show GK B ((wr.setCell ⟨bc,i*8+7,none⟩ (.slice va (l.eraseIdx k).length vq)).setCell ⟨g,1,none⟩ (iv (x.used-1))) g z ar kr ac kc vg br bc by rw[hz];exact uH G2);clear hz;by_cases hks:(k:Int)<x.sub
   ·obtain⟨pb2,pa2,pk2,role2,g2⟩:=uH G2;have QS:=uU (b3o g2);rw[uH SZ] at QS;clear g2;go_wp2_with fail;refine(uH QS).mono ?_;rintro e w3 ⟨rfl,q3⟩;have G3:=uU ((uH G2).ext q3);have X3:=uU ((uH X2).trans q3);have d1:w3.cell? ⟨g,7,none⟩=some (iv x.sub):=by have:=(uH G3).ok.box;exact this.2.1.trans (by rw[uH ZS])
    have d2:w3.frozen? ⟨g,7,none⟩=false:=by obtain⟨_,_,_,_,g3⟩:=uH G3;exact g3.nf.2 7
    have hg3:g<w3.heap.size:=uL d1;have ws:wrap64 (x.sub-1)=x.sub-1:=a7d _ (by omega) (by omega);cases q:(dL x == (i:Int))
    ·have E:=uU (show b0x x i k=z by rw[uH HZ];unfold b0x;rw[if_neg (λh=>by simp [h.2] at q),uH HL]);go_wp2_with fail
     go_end0
     exact⟨rfl,by rw[uH E];exact uH G3,(uH FR).ext q3,uH X3⟩
    ·have E:=uU (show b0x x i k={ z with sub:=x.sub-1 } by rw[uH HZ];unfold b0x;rw[if_pos ⟨hks,by simpa using q⟩,uH HL]);have G4:=uU ((uH G3).set7 (x.sub-1));have X4:=uU ((uH X3).setCell (p:=⟨g,7,none⟩) (Nat.le_trans ha (uH LO)) (iv (x.sub-1)));go_wp2_with fail
     go_end0
     exact⟨rfl,by rw[uH E];exact uH G4,((uH FR).ext q3).set ⟨g,7,none⟩ (.inl rfl) _,uH X4⟩
   ·have E:=uU (show b0x x i k=z by rw[uH HZ];unfold b0x;rw[if_neg (λh=>hks h.1),uH HL]);go_wp2_with fail
    go_end0
    exact⟨rfl,by rw[uH E];exact uH G2,uH FR,uH X2⟩
def inH(x:Hp)(H:Nat->Bool)(b:Hp)(i k:Nat):Hp:={ b with cells:=b.cells.set i { x.c i with prs:=(x.c i).prs.take k++yD x H (x.c i) ((x.c i).prs.drop k) },used:=b.used-tY x H (x.c i) ((x.c i).prs.drop k),sub:=if dL x=(i:Int) then b.sub-tY x H (x.c i) (((x.c i).prs.take b.sub.toNat).drop k) else b.sub }
theorem b4b(x:Hp)(H:Nat->Bool)(c:Cl)(p:Pr)(l:List Pr):yD x H c (p::l)=if goB x H c p=true then yD x H c l else p::yD x H c l:=by
 unfold yD;cases h:goB x H c p <;> simp [h]
theorem a3i(x:Hp)(H:Nat->Bool)(c:Cl)(p:Pr)(l:List Pr):tY x H c (p::l)=if goB x H c p=true then tY x H c l+1 else tY x H c l:=by
 unfold tY;cases h:goB x H c p <;> simp [h]
theorem a7e(x:Hp)(H:Nat->Bool)(c:Cl)(l:List Pr):tY x H c l<=l.length:=by
 have:=a7b x H c l;omega
theorem a4u(l:List Pr)(k:Nat)(h:k<l.length):l.drop k=l[k]::l.drop (k+1):=List.drop_eq_getElem_cons h
theorem b7k(l:List Pr)(s k:Nat)(h:k<s)(hs:s<=l.length):(l.take s).drop k=(l[k]'(by omega))::(l.take s).drop (k+1):=by
 rw[List.drop_eq_getElem_cons (by simp;omega)];simp
theorem inH_top(x:Hp)(H:Nat->Bool)(b:Hp)(i:Nat)(hi:i<b.cells.length)(hb:b.c i=x.c i):inH x H b i (x.c i).prs.length=b:=by
 have e1:(x.c i).prs.drop (x.c i).prs.length=[]:=List.drop_length;have e2:((x.c i).prs.take b.sub.toNat).drop (x.c i).prs.length=[]:=List.drop_eq_nil_of_le (by simp;omega);unfold inH;rw[e1,e2,List.take_length]
 have e3:b.cells.set i { x.c i with prs:=(x.c i).prs++yD x H (x.c i) [] }=b.cells:=by
  have:({ x.c i with prs:=(x.c i).prs++yD x H (x.c i) [] }:Cl)=b.cells[i]:=by rw[Hp.c_eq b i hi,hb];simp [yD]
  rw[this];simp
 rw[e3];simp [tY]
theorem c5x(x:Hp)(H:Nat->Bool)(b:Hp)(i k:Nat)(hk:k<(x.c i).prs.length)(q:goB x H (x.c i) (x.c i).prs[k]=false)(hs:dL x=(i:Int)->b.sub<=(x.c i).prs.length):inH x H b i k=inH x H b i (k+1):=by
 unfold inH;rw[a4u _ k hk,b4b,a3i,if_neg (by simp [q]),if_neg (by simp [q]),List.take_succ_eq_append_getElem hk,List.append_assoc,List.singleton_append]
 congr 1
 by_cases e:dL x=(i:Int)
 ·rw[if_pos e,if_pos e];have hs:=hs e;by_cases hlt:k<b.sub.toNat
  ·rw[b7k _ _ k hlt (by omega),a3i,if_neg (by simp [q])]
  ·rw[List.drop_eq_nil_of_le (by simp;omega),List.drop_eq_nil_of_le (by simp;omega)]
 ·rw[if_neg e,if_neg e]
theorem c5y(x:Hp)(H:Nat->Bool)(b:Hp)(i k:Nat)(hsc:dL b=dL x):dL (inH x H b i k)=dL x:=by
 rw[<-hsc];unfold dL inH;simp
theorem inH_len(x:Hp)(H:Nat->Bool)(b:Hp)(i k:Nat):(inH x H b i k).cells.length=b.cells.length:=by simp [inH]
theorem inH_c(x:Hp)(H:Nat->Bool)(b:Hp)(i k:Nat)(hi:i<b.cells.length):(inH x H b i k).c i={ x.c i with prs:=(x.c i).prs.take k++yD x H (x.c i) ((x.c i).prs.drop k) }:=by
 have:=Hp.c_set b i { x.c i with prs:=(x.c i).prs.take k++yD x H (x.c i) ((x.c i).prs.drop k) } hi i;rw[if_pos rfl] at this;exact this
theorem inH_cut(x:Hp)(H:Nat->Bool)(b:Hp)(i k:Nat)(hi:i<b.cells.length)(hk:k<(x.c i).prs.length)(q:goB x H (x.c i) (x.c i).prs[k]=true)(hs:dL x=(i:Int)->0<=b.sub/\b.sub<=(x.c i).prs.length)(hsc:dL b=dL x):b0x (inH x H b i (k+1)) i k=inH x H b i k:=by
 have ec:=inH_c x H b i (k+1) hi;have hl:((x.c i).prs.take k).length=k:=by simp;omega
 have e1:(((x.c i).prs.take (k+1)++yD x H (x.c i) ((x.c i).prs.drop (k+1))).eraseIdx k)=(x.c i).prs.take k++yD x H (x.c i) ((x.c i).prs.drop k):=by
  rw[a4u _ k hk,b4b,if_pos q,List.take_succ_eq_append_getElem hk,List.append_assoc,List.eraseIdx_append_of_length_le (by omega),hl,Nat.sub_self];simp
 have e2:tY x H (x.c i) ((x.c i).prs.drop k)=tY x H (x.c i) ((x.c i).prs.drop (k+1))+1:=by rw[a4u _ k hk,a3i,if_pos q]
 have e3:(if (k:Int)<(inH x H b i (k+1)).sub/\dL (inH x H b i (k+1))=(i:Int) then (inH x H b i (k+1)).sub-1 else (inH x H b i (k+1)).sub)=(inH x H b i k).sub:=by
  rw[c5y x H b i (k+1) hsc];by_cases e:dL x=(i:Int)
  ·have hs:=hs e;simp only [inH,if_pos e];by_cases hlt:k<b.sub.toNat
   ·have h1:=b7k (x.c i).prs b.sub.toNat k hlt (by omega);have h2:=a7e x H (x.c i) (((x.c i).prs.take b.sub.toNat).drop (k+1));have h3:(((x.c i).prs.take b.sub.toNat).drop (k+1)).length=b.sub.toNat-(k+1):=by simp;omega
    rw[if_pos ⟨by omega,e⟩,h1,a3i,if_pos q];omega
   ·rw[List.drop_eq_nil_of_le (by simp;omega),List.drop_eq_nil_of_le (by simp;omega)];rw[if_neg (λh=>by have:=h.1;simp [tY] at this;omega)]
  ·rw[if_neg (λh=>e h.2)];simp only [inH,if_neg e]
 unfold b0x;rw[e3,ec];simp only [e1];unfold inH;simp only [e2,List.set_set]
 congr 1
 omega
theorem a2t(x:Hp)(y:Wd)(b:Nat)(w:World)(h:HAt w b x ar kr ac kc ag kg)(hy:a4a x y):
  Calls Tryz.prog 138 #[.pointer (some ⟨b,0,none⟩),y.v] w λe w'=>∃t:Wd,Hid (e=.returned t.v)/\Hid ((y.k≠2/\t=y)\/(y.k=2/\t=⟨2,0,(tgt x y:Int)⟩))/\Ext w w':=by
 cases k2:(y.k == 2)
 ·exact(a7m y b w k2).mono λ_ _ ⟨he,hx⟩=>⟨y,he,.inl ⟨by simpa using k2,rfl⟩,hx⟩
 ·have hk:y.k=2:=by simpa using k2
  obtain⟨n0,a0,a1,ht,hg⟩:=hy hk;obtain⟨i,hi⟩:∃i:Nat,y.a=(i:Int):=⟨y.a.toNat,by omega⟩;have et:tgt x y=a2x x i:=by unfold tgt;rw[hi];simp
  have ev:(.agg #[iv 2,iv 0,iv i]:Value)=y.v:=by rw[<-hi,<-n0,<-hk]
  have ei:y.a.toNat=i:=by omega
  rw[ei] at ht;have:=a8u x b i w h (by omega) ht;rw[ev] at this;exact this.mono λ_ _ ⟨he,hx⟩=>⟨⟨2,0,(tgt x y:Int)⟩,by rw[he,et];rfl,.inr ⟨hk,rfl⟩,hx⟩
def b0y(w:World)(B bs:Nat)(v:Value)(wk:Int):Prop:=w.cell? ⟨B,2,none⟩=some (iv wk)/\B≠bs/\v.ownBlock≠some B
theorem b0y.ext(h:b0y w B bs v wk)(e:Ext w w'):b0y w' B bs v wk:=⟨e.keep h.1,h.2⟩
theorem Mfr.apart(m:Mfr bs v v' w w')(hB:B<w.heap.size)(hv:v.ownBlock≠some B):v'.ownBlock≠some B:=λe=>by
 rcases m.own with q | ⟨g,q,hg⟩
 ·rw[q] at e;exact hv e
 ·rw[q] at e;cases e;omega
theorem b0y.mfr(h:b0y w B bs v wk)(m:Mfr bs v v' w w'):b0y w' B bs v' wk:=
 have hB:=uL h.1
 ⟨(World.cell?_of_block (a:=⟨B,2,none⟩) (m.block B hB h.2.1 h.2.2)).trans h.1,h.2.1,m.apart hB h.2.2⟩
structure PBx(w:World)(B bs:Nat)(v:Value)(p:Pr):Prop where
 c:w.cell? ⟨B,0,none⟩=some (.int .i64 p.key.k)/\w.cell? ⟨B,1,none⟩=some (.int .i64 p.key.n)/\w.cell? ⟨B,2,none⟩=some (.int .i64 p.key.a)/\w.cell? ⟨B,3,none⟩=some (.int .i64 p.val.k)/\w.cell? ⟨B,4,none⟩=some (.int .i64 p.val.n)/\w.cell? ⟨B,5,none⟩=some (.int .i64 p.val.a)
 n:B≠bs
 o:v.ownBlock≠some B
theorem PBx.ext(h:PBx w B bs v p)(e:Ext w w'):PBx w' B bs v p:=⟨⟨e.keep h.c.1,e.keep h.c.2.1,e.keep h.c.2.2.1,e.keep h.c.2.2.2.1,e.keep h.c.2.2.2.2.1,e.keep h.c.2.2.2.2.2⟩,h.n,h.o⟩
theorem PBx.mfr(h:PBx w B bs v p)(m:Mfr bs v v' w w'):PBx w' B bs v' p:=by
 have hB:B<w.heap.size:=uL h.c.1;have k:=λo=>World.cell?_of_block (w:=w) (w':=w') (a:=⟨B,o,none⟩) (m.block B hB h.n h.o)
 exact⟨⟨(k 0).trans h.c.1,(k 1).trans h.c.2.1,(k 2).trans h.c.2.2.1,(k 3).trans h.c.2.2.2.1,(k 4).trans h.c.2.2.2.2.1,(k 5).trans h.c.2.2.2.2.2⟩,h.n,m.apart hB h.o⟩
theorem PBx.new{base n:Nat}{t:TypeId}(h:Sn w base bs n v T):PBx (w.alloc (.cells #[.int .i64 p.key.k,.int .i64 p.key.n,.int .i64 p.key.a,.int .i64 p.val.k,.int .i64 p.val.n,.int .i64 p.val.a] t)) w.heap.size bs v p:=
 ⟨by simp [go_sem],by have:=h.hb.2;omega,λe=>by have:=(h.own.lt _ e).2;omega⟩
theorem qD.more{L0:List Int}{p:Nat}(h:qD x L0 j p T)(hk:SK (x.c j)->((x.c j).p p).key.k=2->(tgt x ((x.c j).p p).key:Int)∈T)(hv:SV (x.c j)->(((x.c j).p p).key.k=2->(tgt x ((x.c j).p p).key:Int)∈L0)->((x.c j).p p).val.k=2->(tgt x ((x.c j).p p).val:Int)∈T):qD x L0 j (p+1) T:=λq hq=>by
 by_cases e:q=p
 ·subst e;exact⟨hk,hv⟩
 ·exact h q (by omega)
abbrev AtC(x:Hp)(L:List Int)(c j p:Nat)(T:List Int):Prop:=tD x L c T/\it T c=(j:Int)/\c<T.length/\qD x L j p T
theorem AtC.mark{c p:Nat}{T5:List Int}(h:AtC x L c j p T)(a:Add x ((x.c j).p p).key T T5)(hy:((x.c j).p p).key.k=2->tH x (tgt x ((x.c j).p p).key)):tD x L c T5/\it T5 c=(j:Int)/\c<T5.length/\qD x L j p T5/\(SK (x.c j)->((x.c j).p p).key.k=2->(tgt x ((x.c j).p p).key:Int)∈T5):=by
 obtain⟨i1,i2,i3,i4⟩:=h;obtain⟨R,r⟩:=a.pre;have l5:T.length<=T5.length:=by rw[r];simp
 refine⟨i1.add a (by omega) hy,?_,by omega,i4.mono (λz hz=>a.sub hz),λ_ e=>a.has e⟩;rw[r,a9t i3];exact i2
theorem tD.val{c p:Nat}{T8:List Int}(h:tD x L c T/\it T c=(j:Int)/\c<T.length/\qD x L j p T/\(SK (x.c j)->((x.c j).p p).key.k=2->(tgt x ((x.c j).p p).key:Int)∈T))(a:Add x ((x.c j).p p).val T T8)(hy:((x.c j).p p).val.k=2->tH x (tgt x ((x.c j).p p).val)):tD x L c T8/\it T8 c=(j:Int)/\c<T8.length/\qD x L j (p+1) T8:=by
 obtain⟨i1,i2,i3,i4,i5⟩:=h;obtain⟨R,r⟩:=a.pre;have l5:T.length<=T8.length:=by rw[r];simp
 refine⟨i1.add a (by omega) hy,?_,by omega,(i4.mono (λz hz=>a.sub hz)).more (λs e=>a.sub (i5 s e)) (λ_ _ e=>a.has e)⟩;rw[r,a9t i3];exact i2
theorem b0r (x : Hp) (b : Nat) (w : World)       (h : HAt w b x ar kr ac kc ag kg) (r2 : R2 x) (r4 : R4 x) (hn8 : x.cells.length <= 8000) :
    Calls Tryz.prog 77 #[.pointer (some ⟨b, 0, none⟩)] w λe w' => ∃ v L, Hid (e = .returned (.slice (some ⟨w.heap.size, 0, none⟩) x.cells.length x.cells.length)) /\ Sn w' w.heap.size w.heap.size x.cells.length v L /\ Hid (∀ i : Nat, (i : Int) ∈ L ↔ tH x i) /\ Ext w w' := by
  have c4 := h.c4
  have c3 := h.c3
  have lr := h.lr
  have hb : b < w.heap.size := uL c4
  have HH := uU h
  have Q2 := uU r2
  have Q4 := uU r4
  clear h r2 r4
  obtain ⟨z, hmk, hz⟩ := c1b x.cells.length (by omega) w
  have S0 := uU (Sn.start w x.cells.length 4)
  rw [<- hz] at S0
  clear hz
  go_enter Tryz.func77, Tryz.ntmps77
  go_wp2_with fail
  go_loopw [4, 26] (λv i wr => ∃ (k : Nat) (L : List Int), k <= x.regs.length /\ i = .int .i64 k /\ Sn wr w.heap.size w.heap.size x.cells.length v L /\ Hid (a9c x L /\ a3t x k L) /\ Ext w wr) (λ_ i _ => x.regs.length - (intOf i).toNat)
  case atStart => exact ⟨0, [], Nat.zero_le _, rfl, uH S0, ⟨(λz hz => by cases hz), λj _ hj => by omega⟩, (Ext.refl w).alloc _⟩
  case round =>
    clear S0 hmk c4 c3
    obtain ⟨k, L, hk, rfl, hs, hinv, hbl⟩ := hrel
    have HS := uU hs
    clear hs
    by_cases hlt : k < x.regs.length
    · have hh := HH.ext hbl
      obtain ⟨b', o, e1, p0, p1, p2⟩ := hh.R k hlt
      have d3 := hh.c3
      rw [e1] at d3
      have hk0 : (0:Int) <= (k:Int) := by omega
      have hk1 : (k:Int) < (x.regs.length:Int) := by omega
      have xa := (Ext.refl wr).alloc (.cells #[iv x.regs[k].k, iv x.regs[k].n, iv x.regs[k].a] 152)
      subst e1
      clear hh
      go_wp2_with fail
      refine (a0o x x.regs[k] b w.heap.size w.heap.size _ L _ (HH.ext (hbl.trans xa)) (b5f Q2 Q4 k hlt) (HS.ext xa) (hbl.trans xa).size hn8).mono ?_
      rintro e w2 ⟨v', L', rfl, hs', ha, hm⟩
      have R := uU (show Sn w2 w.heap.size w.heap.size x.cells.length v' L' /\ (a9c x L' /\ a3t x (k + 1) L') /\ Ext w w2 from
        ⟨hs', ⟨hinv.1.add ha (λe => tH.reg k hlt e), λj hj hjk e => by
          by_cases q : j = k
          · subst q; exact ha.has e
          · exact ha.sub (hinv.2 j hj (by omega) e)⟩, (HS.ext xa).mext hm (hbl.trans xa)⟩)
      clear hs' ha hm xa
      go_wp2_with fail
      go_roundw
      case rel => exact ⟨k + 1, L', by omega, by go_num, R.1, R.2.1, R.2.2⟩
      case measure => simp [intOf]; omega
    · have hk2 : k = x.regs.length := by omega
      subst hk2
      have c4 := (HH.ext hbl).c4
      have B0 := uU hbl
      clear hlt hk
      go_wp2_with fail
      clear hbl
      go_loopw [4, 41] (λv i wr => ∃ (k : Nat) (L : List Int), k <= x.cells.length /\ i = .int .i64 k /\ Sn wr w.heap.size w.heap.size x.cells.length v L /\ Hid (a9c x L /\ a3t x x.regs.length L /\ b7g x k L) /\ Ext w wr) (λ_ i _ => x.cells.length - (intOf i).toNat)
      case atStart => exact ⟨0, L, Nat.zero_le _, rfl, uH HS, ⟨hinv.1, hinv.2, λi hi => by omega⟩, uH B0⟩
      case round =>
        clear HS hinv B0 c4 L
        obtain ⟨k, L, hk, rfl, hs, hinv, hbl⟩ := hrel
        have HS := uU hs
        clear hs
        by_cases hlt : k < x.cells.length
        · have hh := HH.ext hbl
          obtain ⟨b', o, ap, kp, e1, p0, p1, p2, p3, p4, p5, p6, p7, lp, P⟩ := hh.cell k hlt
          have hb' : b' < wr.heap.size := uL p0
          have d4 := hh.c4
          rw [e1] at d4
          have hk0 : (0:Int) <= (k:Int) := by omega
          have hk1 : (k:Int) < (x.cells.length:Int) := by omega
          have xa := (Ext.refl wr).alloc (.cells #[iv (x.c k).st, iv (x.c k).kind, iv (x.c k).weak, iv (x.c k).last, iv (x.c k).born, iv (x.c k).color, iv (x.c k).to, .slice ap (x.c k).prs.length kp] 62)
          subst e1
          clear P hh
          cases tl : ((x.c k).last == 2)
          · have R := uU (show b7g x (k + 1) L from λi hi hn e => by
              by_cases q : i = k
              · subst q; simp at tl; exact (tl e).elim
              · exact hinv.2.2 i (by omega) hn e)
            have A := uU (And.intro (HS.ext xa) (hbl.trans xa))
            clear xa
            go_wp2_with fail
            go_roundw
            case rel => exact ⟨k + 1, L, by omega, by go_num, A.1, ⟨hinv.1, hinv.2.1, uH R⟩, A.2⟩
            case measure => simp [intOf]; omega
          · have hl2 : (x.c k).last = 2 := by simpa using tl
            have HL := uU hl2
            have hst := a2z Q2 k hlt (.inr hl2)
            have et : tgt x ⟨2, 0, (k : Int)⟩ = k := by unfold tgt a2x; simp [hst]
            have MY := uU (show a4a x ⟨2, 0, (k : Int)⟩ from λ_ => ⟨rfl, by simp, by simpa using hlt, (λh => by simp [hst] at h), by rw [et]; exact a9s Q4 k hlt hst (.inr hl2)⟩)
            have ET := uU et
            clear hl2 hst et
            go_wp2_with fail
            refine (a0o x ⟨2, 0, (k : Int)⟩ b w.heap.size w.heap.size _ L _ (HH.ext (hbl.trans xa)) MY (HS.ext xa) (hbl.trans xa).size hn8).mono ?_
            rintro e w2 ⟨v', L', rfl, hs', ha, hm⟩
            have R := uU (show Sn w2 w.heap.size w.heap.size x.cells.length v' L' /\ (a9c x L' /\ a3t x x.regs.length L' /\ b7g x (k + 1) L') /\ Ext w w2 from
              ⟨hs', ⟨hinv.1.add ha (λ_ => by rw [uH ET]; exact tH.due k hlt HL), λj hj hjk e => ha.sub (hinv.2.1 j hj hjk e), λi hi hn e => by
                by_cases q : i = k
                · subst q; have := ha.has rfl; rw [uH ET] at this; exact this
                · exact ha.sub (hinv.2.2 i (by omega) hn e)⟩, (HS.ext xa).mext hm (hbl.trans xa)⟩)
            clear hs' ha hm xa
            go_wp2_with fail
            go_roundw
            case rel => exact ⟨k + 1, L', by omega, by go_num, R.1, R.2.1, R.2.2⟩
            case measure => simp [intOf]; omega
        · have hk2 : k = x.cells.length := by omega
          subst hk2
          have B0 := uU hbl
          have R0 := uU (show b7h x (-1) L from ⟨hinv.1, hinv.2.1, hinv.2.2, ⟨by omega, by omega⟩, λe => by omega⟩)
          clear hlt hk hinv hbl
          go_wp2_with fail
          go_loopw [4, 9] (λv n wr => ∃ (m : Int) (L : List Int), n = .int .i64 m /\ Sn wr w.heap.size w.heap.size x.cells.length v L /\ Hid (b7h x m L) /\ Ext w wr) (λ_ n _ => ((x.cells.length : Int) - intOf n).toNat)
          case atStart => exact ⟨-1, L, rfl, uH HS, uH R0, uH B0⟩
          case round =>
            clear HS R0 B0 L
            obtain ⟨m, L, rfl, hs, hre, hbl⟩ := hrel
            have HS := uU hs
            have hLn := hs.len
            have hmb := hre.b
            obtain ⟨ad, cap, rfl, hgl⟩ := hs.form
            clear hs hgl
            by_cases hml : m = (L.length : Int)
            · have D := uU (show ∀ i : Nat, (i : Int) ∈ L ↔ tH x i by have := uH hre; rw [hml] at this; exact this.done)
              have hnn : (m != (L.length : Int)) = false := by simp [hml]
              clear hre
              go_wp2_with fail
              go_ret
              exact ⟨_, L, rfl, uH HS, uH D, hbl⟩
            · have hnn : (m != (L.length : Int)) = true := by simp [hml]
              have P0 := uU hre.begin
              have B0 := uU hbl
              have hm2 : m < (L.length : Int) := by omega
              clear hre hbl hml
              go_wp2_with fail
              go_loopw [4, 10] (λv i wr => ∃ (c : Nat) (T : List Int), c <= T.length /\ i = .int .i64 c /\ Sn wr w.heap.size w.heap.size x.cells.length v T /\ Hid (tD x L c T) /\ Ext w wr) (λ_ i _ => x.cells.length - (intOf i).toNat)
              case atStart => exact ⟨0, L, Nat.zero_le _, rfl, uH HS, uH P0, uH B0⟩
              case round =>
                clear HS P0 B0
                obtain ⟨c, T, hc, rfl, hs, hpa, hbl⟩ := hrel
                have HS := uU hs
                obtain ⟨ad, cap, rfl, hgl⟩ := hs.form
                have hTn := hs.len
                by_cases hlt : c < T.length
                · obtain ⟨g, rfl⟩ := hgl (by omega)
                  obtain ⟨a1, a2, a3⟩ := (Rw1.mk hs.own).cell c hlt
                  obtain ⟨j, ej, hrj⟩ := hpa.o _ (a2m T c hlt)
                  rw [ej] at a1
                  have hgj := hrj.good Q2 Q4
                  have hh := HH.ext hbl
                  obtain ⟨b', o, ap, kp, e1, C⟩ := HH.cell j hgj.1
                  have d4 := hh.c4
                  rw [e1] at d4
                  have q0 := hbl.keep C.p0
                  have q1 := hbl.keep C.p1
                  have q2 := hbl.keep C.p2
                  have q3 := hbl.keep C.p3
                  have q4 := hbl.keep C.p4
                  have q5 := hbl.keep C.p5
                  have q6 := hbl.keep C.p6
                  have q7 := hbl.keep C.p7
                  have hbq : b' < wr.heap.size := uL q0
                  have hbd : b < wr.heap.size := uL d4
                  have hbg : g < wr.heap.size := uL a1
                  have lp := C.lp
                  have HP := uU C.P
                  have EJ := uU ej
                  have RJ := uU hrj
                  have GJ := uU hgj
                  have hjn := hgj.1
                  have c0 : (0:Int) <= (c:Int) := by omega
                  have c1 : (c:Int) < (T.length:Int) := by omega
                  have j0 : (0:Int) <= (j:Int) := by omega
                  have j1 : (j:Int) < (x.cells.length:Int) := by omega
                  clear hs C hh e1 ej hrj hgj a3 a2
                  obtain ⟨WR, hWR⟩ : ∃ W, W = wr := ⟨_, rfl⟩
                  subst hWR
                  have hwk : (x.c j).weak = 0 \/ (x.c j).weak = 1 \/ (x.c j).weak = 2 \/ (x.c j).weak = 3 := by
                    have h2 := GJ.2.1
                    rcases Q2.1 j hjn with z | z | z
                    · omega
                    · omega
                    · have := z.2.2.1; omega
                  have OB := uU (show ∀ q, WR.heap.size <= q -> (Value.slice (some ⟨g, 0, none⟩) T.length cap).ownBlock ≠ some q from λq hq e => by have := (HS.own.lt _ e).2; omega)
                  have PA := uU hpa
                  clear hpa
                  go_wp2_with fail
                  go_cut [11] (λs11 wx => ∃ B : Nat, s11 = .pointer (some ⟨B, 0, none⟩) /\ Hid (wx.cell? ⟨B, 2, none⟩ = some (iv (x.c j).weak) /\ wx.cell? ⟨B, 7, none⟩ = some (.slice ap (x.c j).prs.length kp) /\ WR.heap.size <= B) /\ Ext WR wx)
                  case first =>
                    go_region_with (fail)
                    all_goals
                      go_wp2_with fail
                      go_meet
                      exact ⟨_, rfl, ⟨by simp [go_sem], by simp [go_sem], Nat.le_refl _⟩, ((Ext.refl WR).alloc _).drew⟩
                  case rest =>
                    obtain ⟨B, rfl, hbx, xB⟩ := hcut
                    have b7 := hbx.2.1
                    have X0 := uU (hbl.trans xB)
                    have S0 := uU (HS.ext xB)
                    have B0 := uU (show b0y wc B w.heap.size (.slice (some ⟨g, 0, none⟩) T.length cap) (x.c j).weak from ⟨hbx.1, by have := hbl.size; have := hbx.2.2; have := HS.hb.2; omega, uH OB B hbx.2.2⟩)
                    clear hbx xB hbl HS OB q0 q1 q2 q3 q4 q5 q6 q7 d4 a1 hbq hbd hbg
                    go_wp2_with fail
                    go_loopw [4, 81] (λv i wz => ∃ (p : Nat) (T' : List Int), p <= (x.c j).prs.length /\ i = .int .i64 p /\ Sn wz w.heap.size w.heap.size x.cells.length v T' /\ Hid (tD x L c T' /\ it T' c = (j : Int) /\ c < T'.length /\ qD x L j p T') /\ Hid (b0y wz B w.heap.size v (x.c j).weak) /\ Ext w wz) (λ_ i _ => (x.c j).prs.length - (intOf i).toNat)
                    case atStart => exact ⟨0, T, Nat.zero_le _, rfl, uH S0, ⟨PA, uH EJ, hlt, λp hp => by omega⟩, uH B0, uH X0⟩
                    case round =>
                      clear S0 PA B0 X0 b7
                      obtain ⟨p, T, hp, rfl, hs, hinv, hbo, hbl⟩ := hrel
                      have HS := uU hs
                      have hTn := hs.len
                      by_cases hpl : p < (x.c j).prs.length
                      · obtain ⟨b2, o2, rfl, q0, q1, q2, q3, q4, q5⟩ := uH HP p hpl
                        have e0 := hbl.keep q0
                        have e1 := hbl.keep q1
                        have e2 := hbl.keep q2
                        have e3 := hbl.keep q3
                        have e4 := hbl.keep q4
                        have e5 := hbl.keep q5
                        have hb2 : b2 < wr.heap.size := uL e0
                        have hBl : B < wr.heap.size := uL hbo.1
                        clear q0 q1 q2 q3 q4 q5 hs
                        have hp0 : (0:Int) <= (p:Int) := by omega
                        have hp1 : (p:Int) < ((x.c j).prs.length:Int) := by omega
                        have xa := (Ext.refl wr).alloc (.cells #[.int .i64 ((x.c j).p p).key.k, .int .i64 ((x.c j).p p).key.n, .int .i64 ((x.c j).p p).key.a, .int .i64 ((x.c j).p p).val.k, .int .i64 ((x.c j).p p).val.n, .int .i64 ((x.c j).p p).val.a] 154)
                        have hMM := uU (a8w Q2 Q4 j p GJ hpl)
                        have bx := hbo.1
                        have HSA := uU (HS.ext xa)
                        have BXA := uU (hbo.ext xa)
                        have XA := hbl.trans xa
                        have PB := uU (show PBx (wr.alloc (.cells #[.int .i64 ((x.c j).p p).key.k, .int .i64 ((x.c j).p p).key.n, .int .i64 ((x.c j).p p).key.a, .int .i64 ((x.c j).p p).val.k, .int .i64 ((x.c j).p p).val.n, .int .i64 ((x.c j).p p).val.a] 154)) wr.heap.size w.heap.size _ ((x.c j).p p) from PBx.new HS)
                        rcases hwk with hwk | hwk | hwk | hwk
                        · have bx2 := bx
                          rw [hwk] at bx2
                          go_wp2_with fail
                          refine (a0o x ((x.c j).p p).key b w.heap.size w.heap.size _ T _ (HH.ext XA) hMM.1 HSA XA.size hn8).mono ?_
                          rintro e w5 ⟨v5, T5, rfl, hs5, ha5, hm5⟩
                          have X5 := HSA.mext hm5 XA
                          have S5 := uU hs5
                          have A5 := uU ha5
                          have B5 := uU (BXA.mfr hm5)
                          have P5 := uU (PB.mfr hm5)
                          have bx5 := B5.1
                          rw [hwk] at bx5
                          have G5 := uU (show tD x L c T5 /\ it T5 c = (j : Int) /\ c < T5.length /\ qD x L j p T5 /\ (SK (x.c j) -> ((x.c j).p p).key.k = 2 -> (tgt x ((x.c j).p p).key : Int) ∈ T5) from AtC.mark hinv A5 (λe => tH.key j p RJ hpl ⟨by omega, by omega⟩ e))
                          obtain ⟨u0, u1, u2, u3, u4, u5⟩ := P5.c
                          clear hm5 hs5 ha5 e0 e1 e2 e3 e4 e5 bx2
                          go_wp2_with fail
                          refine (a2t x ((x.c j).p p).key b _ (HH.ext X5) hMM.1).mono ?_
                          rintro e w6 ⟨t, rfl, ht, hq6⟩
                          have X6 := X5.trans hq6
                          have S6 := uU (S5.ext hq6)
                          have B6 := uU (B5.ext hq6)
                          have P6 := uU (P5.ext hq6)
                          have bx6 := B6.1
                          rw [hwk] at bx6
                          have hB6 : B < w6.heap.size := uL bx6
                          obtain ⟨z0, z1, z2, z3, z4, z5⟩ := P6.c
                          have hp6 : wr.heap.size < w6.heap.size := uL z0
                          have hs6 : w.heap.size < w6.heap.size := S6.hb.2
                          have xk := (Ext.refl w6).alloc (.cells #[iv t.k, iv t.n, iv t.a] 152)
                          have X7 := X6.trans xk
                          have S7 := uU (S6.ext xk)
                          have B7 := uU (B6.ext xk)
                          clear hq6 u0 u1 u2 u3 u4 u5 bx5
                          rcases uH ht with ⟨hk, rfl⟩ | ⟨hk, rfl⟩
                          · have hkb : (((x.c j).p p).key.k != 2) = true := by simp [hk]
                            go_wp2_with fail
                            refine (a0o x ((x.c j).p p).val b w.heap.size w.heap.size _ T5 _ (HH.ext X7) hMM.2 S7 X7.size hn8).mono ?_
                            rintro e w8 ⟨v8, T8, rfl, hs8, ha8, hm8⟩
                            have R := uU (show Sn w8 w.heap.size w.heap.size x.cells.length v8 T8 /\ (tD x L c T8 /\ it T8 c = (j : Int) /\ c < T8.length /\ qD x L j (p + 1) T8) /\ b0y w8 B w.heap.size v8 (x.c j).weak /\ Ext w w8 from
                              ⟨hs8, tD.val G5 ha8 (λe => tH.val j p RJ hpl ⟨by omega, by omega⟩ (λe => (hk e).elim) e), B7.mfr hm8, S7.mext hm8 X7⟩)
                            clear hs8 ha8 hm8
                            go_wp2_with fail
                            go_roundw
                            case rel => exact ⟨p + 1, T8, by omega, by go_num, R.1, R.2.1, R.2.2.1, R.2.2.2⟩
                            case measure => simp [intOf]; omega
                          · have htl : tgt x ((x.c j).p p).key < x.cells.length := (hMM.1 hk).2.2.2.2.1
                            have sn := S7.s _ htl
                            obtain ⟨tg, etg⟩ : ∃ q, q = tgt x ((x.c j).p p).key := ⟨_, rfl⟩
                            rw [<- etg] at sn htl xk S7 B7 X7 ⊢
                            have ETG := uU etg
                            clear etg
                            have t0 : (0:Int) <= (tg:Int) := by omega
                            have t1 : (tg:Int) < (x.cells.length:Int) := by omega
                            by_cases hm : (tg : Int) ∈ T5
                            · have E : decide ((tg : Int) ∈ T5) = true := decide_eq_true hm
                              rw [E] at sn
                              clear E
                              go_wp2_with fail
                              refine (a0o x ((x.c j).p p).val b w.heap.size w.heap.size _ T5 _ (HH.ext X7) hMM.2 S7 X7.size hn8).mono ?_
                              rintro e w8 ⟨v8, T8, rfl, hs8, ha8, hm8⟩
                              have R := uU (show Sn w8 w.heap.size w.heap.size x.cells.length v8 T8 /\ (tD x L c T8 /\ it T8 c = (j : Int) /\ c < T8.length /\ qD x L j (p + 1) T8) /\ b0y w8 B w.heap.size v8 (x.c j).weak /\ Ext w w8 from
                                ⟨hs8, tD.val G5 ha8 (λe => tH.val j p RJ hpl ⟨by omega, by omega⟩ (λ_ => by rw [<- uH ETG]; obtain ⟨q, eq, hq⟩ := G5.1.o _ hm; have e3 : tg = q := (by omega); rw [e3]; exact hq) e), B7.mfr hm8, S7.mext hm8 X7⟩)
                              clear hs8 ha8 hm8
                              go_wp2_with fail
                              go_roundw
                              case rel => exact ⟨p + 1, T8, by omega, by go_num, R.1, R.2.1, R.2.2.1, R.2.2.2⟩
                              case measure => simp [intOf]; omega
                            · have E : decide ((tg : Int) ∈ T5) = false := decide_eq_false hm
                              rw [E] at sn
                              clear E
                              have R := uU (show qD x L j (p + 1) T5 from G5.2.2.2.1.more G5.2.2.2.2 (λ_ hh => (hm (by obtain ⟨R, e⟩ := G5.1.e; rw [e]; exact List.mem_append_left _ (by rw [uH ETG]; exact hh hk))).elim))
                              go_wp2_with fail
                              go_roundw
                              case rel => exact ⟨p + 1, T5, by omega, by go_num, uH S7, ⟨G5.1, G5.2.1, G5.2.2.1, uH R⟩, uH B7, X7⟩
                              case measure => simp [intOf]; omega
                        · have bx2 := bx
                          rw [hwk] at bx2
                          go_wp2_with fail
                          have X5 := XA
                          have S5 := uU HSA
                          have B5 := uU BXA
                          have P5 := uU PB
                          have G5 := uU (show tD x L c T /\ it T c = (j : Int) /\ c < T.length /\ qD x L j p T /\ (SK (x.c j) -> ((x.c j).p p).key.k = 2 -> (tgt x ((x.c j).p p).key : Int) ∈ T) from ⟨hinv.1, hinv.2.1, hinv.2.2.1, hinv.2.2.2, λs => by unfold SK at s; omega⟩)
                          refine (a2t x ((x.c j).p p).key b _ (HH.ext X5) hMM.1).mono ?_
                          rintro e w6 ⟨t, rfl, ht, hq6⟩
                          have X6 := X5.trans hq6
                          have S6 := uU (S5.ext hq6)
                          have B6 := uU (B5.ext hq6)
                          have P6 := uU (P5.ext hq6)
                          have bx6 := B6.1
                          rw [hwk] at bx6
                          have hB6 : B < w6.heap.size := uL bx6
                          obtain ⟨z0, z1, z2, z3, z4, z5⟩ := P6.c
                          have hp6 : wr.heap.size < w6.heap.size := uL z0
                          have hs6 : w.heap.size < w6.heap.size := S6.hb.2
                          have xk := (Ext.refl w6).alloc (.cells #[iv t.k, iv t.n, iv t.a] 152)
                          have X7 := X6.trans xk
                          have S7 := uU (S6.ext xk)
                          have B7 := uU (B6.ext xk)
                          clear hq6 e0 e1 e2 e3 e4 e5 bx2
                          rcases uH ht with ⟨hk, rfl⟩ | ⟨hk, rfl⟩
                          · have hkb : (((x.c j).p p).key.k != 2) = true := by simp [hk]
                            go_wp2_with fail
                            refine (a0o x ((x.c j).p p).val b w.heap.size w.heap.size _ T _ (HH.ext X7) hMM.2 S7 X7.size hn8).mono ?_
                            rintro e w8 ⟨v8, T8, rfl, hs8, ha8, hm8⟩
                            have R := uU (show Sn w8 w.heap.size w.heap.size x.cells.length v8 T8 /\ (tD x L c T8 /\ it T8 c = (j : Int) /\ c < T8.length /\ qD x L j (p + 1) T8) /\ b0y w8 B w.heap.size v8 (x.c j).weak /\ Ext w w8 from
                              ⟨hs8, tD.val G5 ha8 (λe => tH.val j p RJ hpl ⟨by omega, by omega⟩ (λe => (hk e).elim) e), B7.mfr hm8, S7.mext hm8 X7⟩)
                            clear hs8 ha8 hm8
                            go_wp2_with fail
                            go_roundw
                            case rel => exact ⟨p + 1, T8, by omega, by go_num, R.1, R.2.1, R.2.2.1, R.2.2.2⟩
                            case measure => simp [intOf]; omega
                          · have htl : tgt x ((x.c j).p p).key < x.cells.length := (hMM.1 hk).2.2.2.2.1
                            have sn := S7.s _ htl
                            obtain ⟨tg, etg⟩ : ∃ q, q = tgt x ((x.c j).p p).key := ⟨_, rfl⟩
                            rw [<- etg] at sn htl xk S7 B7 X7 ⊢
                            have ETG := uU etg
                            clear etg
                            have t0 : (0:Int) <= (tg:Int) := by omega
                            have t1 : (tg:Int) < (x.cells.length:Int) := by omega
                            by_cases hm : (tg : Int) ∈ T
                            · have E : decide ((tg : Int) ∈ T) = true := decide_eq_true hm
                              rw [E] at sn
                              clear E
                              go_wp2_with fail
                              refine (a0o x ((x.c j).p p).val b w.heap.size w.heap.size _ T _ (HH.ext X7) hMM.2 S7 X7.size hn8).mono ?_
                              rintro e w8 ⟨v8, T8, rfl, hs8, ha8, hm8⟩
                              have R := uU (show Sn w8 w.heap.size w.heap.size x.cells.length v8 T8 /\ (tD x L c T8 /\ it T8 c = (j : Int) /\ c < T8.length /\ qD x L j (p + 1) T8) /\ b0y w8 B w.heap.size v8 (x.c j).weak /\ Ext w w8 from
                                ⟨hs8, tD.val G5 ha8 (λe => tH.val j p RJ hpl ⟨by omega, by omega⟩ (λ_ => by rw [<- uH ETG]; obtain ⟨q, eq, hq⟩ := G5.1.o _ hm; have e3 : tg = q := (by omega); rw [e3]; exact hq) e), B7.mfr hm8, S7.mext hm8 X7⟩)
                              clear hs8 ha8 hm8
                              go_wp2_with fail
                              go_roundw
                              case rel => exact ⟨p + 1, T8, by omega, by go_num, R.1, R.2.1, R.2.2.1, R.2.2.2⟩
                              case measure => simp [intOf]; omega
                            · have E : decide ((tg : Int) ∈ T) = false := decide_eq_false hm
                              rw [E] at sn
                              clear E
                              have R := uU (show qD x L j (p + 1) T from G5.2.2.2.1.more G5.2.2.2.2 (λ_ hh => (hm (by obtain ⟨R, e⟩ := G5.1.e; rw [e]; exact List.mem_append_left _ (by rw [uH ETG]; exact hh hk))).elim))
                              go_wp2_with fail
                              go_roundw
                              case rel => exact ⟨p + 1, T, by omega, by go_num, uH S7, ⟨G5.1, G5.2.1, G5.2.2.1, uH R⟩, uH B7, X7⟩
                              case measure => simp [intOf]; omega
                        · have bx2 := bx
                          rw [hwk] at bx2
                          go_wp2_with fail
                          refine (a0o x ((x.c j).p p).key b w.heap.size w.heap.size _ T _ (HH.ext XA) hMM.1 HSA XA.size hn8).mono ?_
                          rintro e w5 ⟨v5, T5, rfl, hs5, ha5, hm5⟩
                          have X5 := HSA.mext hm5 XA
                          have S5 := uU hs5
                          have A5 := uU ha5
                          have B5 := uU (BXA.mfr hm5)
                          have P5 := uU (PB.mfr hm5)
                          have bx5 := B5.1
                          rw [hwk] at bx5
                          have G5 := uU (show tD x L c T5 /\ it T5 c = (j : Int) /\ c < T5.length /\ qD x L j p T5 /\ (SK (x.c j) -> ((x.c j).p p).key.k = 2 -> (tgt x ((x.c j).p p).key : Int) ∈ T5) from AtC.mark hinv A5 (λe => tH.key j p RJ hpl ⟨by omega, by omega⟩ e))
                          obtain ⟨u0, u1, u2, u3, u4, u5⟩ := P5.c
                          clear hm5 hs5 ha5 e0 e1 e2 e3 e4 e5 bx2
                          go_wp2_with fail
                          refine (a2t x ((x.c j).p p).key b _ (HH.ext X5) hMM.1).mono ?_
                          rintro e w6 ⟨t, rfl, ht, hq6⟩
                          have X6 := X5.trans hq6
                          have S6 := uU (S5.ext hq6)
                          have B6 := uU (B5.ext hq6)
                          have P6 := uU (P5.ext hq6)
                          have bx6 := B6.1
                          rw [hwk] at bx6
                          have hB6 : B < w6.heap.size := uL bx6
                          obtain ⟨z0, z1, z2, z3, z4, z5⟩ := P6.c
                          have hp6 : wr.heap.size < w6.heap.size := uL z0
                          have hs6 : w.heap.size < w6.heap.size := S6.hb.2
                          have xk := (Ext.refl w6).alloc (.cells #[iv t.k, iv t.n, iv t.a] 152)
                          have X7 := X6.trans xk
                          have S7 := uU (S6.ext xk)
                          have B7 := uU (B6.ext xk)
                          clear hq6 u0 u1 u2 u3 u4 u5 bx5
                          have R := uU (show qD x L j (p + 1) T5 from G5.2.2.2.1.more G5.2.2.2.2 (λs => by unfold SV at s; omega))
                          go_wp2_with fail
                          go_roundw
                          case rel => exact ⟨p + 1, T5, by omega, by go_num, uH S7, ⟨G5.1, G5.2.1, G5.2.2.1, uH R⟩, uH B7, X7⟩
                          case measure => simp [intOf]; omega
                        · have bx2 := bx
                          rw [hwk] at bx2
                          go_wp2_with fail
                          have X5 := XA
                          have S5 := uU HSA
                          have B5 := uU BXA
                          have P5 := uU PB
                          have G5 := uU (show tD x L c T /\ it T c = (j : Int) /\ c < T.length /\ qD x L j p T /\ (SK (x.c j) -> ((x.c j).p p).key.k = 2 -> (tgt x ((x.c j).p p).key : Int) ∈ T) from ⟨hinv.1, hinv.2.1, hinv.2.2.1, hinv.2.2.2, λs => by unfold SK at s; omega⟩)
                          refine (a2t x ((x.c j).p p).key b _ (HH.ext X5) hMM.1).mono ?_
                          rintro e w6 ⟨t, rfl, ht, hq6⟩
                          have X6 := X5.trans hq6
                          have S6 := uU (S5.ext hq6)
                          have B6 := uU (B5.ext hq6)
                          have P6 := uU (P5.ext hq6)
                          have bx6 := B6.1
                          rw [hwk] at bx6
                          have hB6 : B < w6.heap.size := uL bx6
                          obtain ⟨z0, z1, z2, z3, z4, z5⟩ := P6.c
                          have hp6 : wr.heap.size < w6.heap.size := uL z0
                          have hs6 : w.heap.size < w6.heap.size := S6.hb.2
                          have xk := (Ext.refl w6).alloc (.cells #[iv t.k, iv t.n, iv t.a] 152)
                          have X7 := X6.trans xk
                          have S7 := uU (S6.ext xk)
                          have B7 := uU (B6.ext xk)
                          clear hq6 e0 e1 e2 e3 e4 e5 bx2
                          have R := uU (show qD x L j (p + 1) T from G5.2.2.2.1.more G5.2.2.2.2 (λs => by unfold SV at s; omega))
                          go_wp2_with fail
                          go_roundw
                          case rel => exact ⟨p + 1, T, by omega, by go_num, uH S7, ⟨G5.1, G5.2.1, G5.2.2.1, uH R⟩, uH B7, X7⟩
                          case measure => simp [intOf]; omega
                      · have hpe : p = (x.c j).prs.length := by omega
                        have R := uU (show tD x L (c + 1) T /\ c + 1 <= T.length by
                          obtain ⟨i1, i2, i3, i4⟩ := uH hinv
                          rw [hpe] at i4
                          exact ⟨i1.step i2 i4, i3⟩)
                        clear hs hpe
                        go_wp2_with fail
                        go_roundw
                        case rel => exact ⟨c + 1, T, R.2, by go_num, uH HS, R.1, hbl⟩
                        case measure => simp [intOf]; omega
                · have hce : c = T.length := by omega
                  have R := uU (show b7h x (L.length : Int) T by have := uH hpa; rw [hce] at this; exact this.rest)
                  clear hs hce hgl hpa
                  go_wp2_with fail
                  go_roundw
                  case rel => exact ⟨_, T, rfl, uH HS, uH R, hbl⟩
                  case measure => simp [intOf]; omega
theorem GAt.hat[Inhabited uN](h:GAt B w g x ar kr ac kc vg br bc pb pa pk role)(s:Snd x):∃ag kg,HAt w g x ar kr ac kc ag kg:=by
 obtain⟨ag,kg,hvg⟩:=h.gr.form;subst hvg;have n8:=s.ok.n8;have ng:=s.r1.gray;obtain⟨⟨ar',kr',e1,_,hr⟩,⟨ac',kc',e2,_,hc⟩,⟨ag',kg',e3,_,hg⟩⟩:=h.rd (by rw[s.r1.regs];omega) (by omega) (λq hq=>s.ok.p200 q hq) (by omega)
 injection e1 with e1;injection e2 with e2;injection e3 with e3
 subst e1 e2 e3;obtain⟨b0,b1,b2,b3,b4,b5,b6,b7,b8,b9,b10,b11,b12⟩:=h.bx;exact⟨ag,kg,b0,b1,b2,b3,b4,b5,b6,b7,b8,b9,b10,b11,b12,by rw[s.r1.regs];omega,by omega,by omega,hr,λi hi=>by obtain⟨b',o,e,q⟩:=hc i hi;rw[Hp.c_eq x i hi] at q;exact⟨b',o,e,q⟩,hg⟩
theorem res_in(r2:R2 x){y:Wd}(hy:uK y x.cells.length):(qJ x y).k=2->0<=(qJ x y).a/\(qJ x y).a<x.cells.length:=λhk=>by
 unfold uK at hy;unfold qJ at hk ⊢
 split
 ·rename_i h;have hi:y.a.toNat<x.cells.length:=by omega
  have:=r2.1 y.a.toNat hi;unfold cE eD at this;show 0<=(x.c y.a.toNat).to/\(x.c y.a.toNat).to<x.cells.length;omega
 ·rename_i h;rw[if_neg h] at hk;omega
theorem b7m(h:∀q,(z.c q).st=(x.c q).st/\(z.c q).to=(x.c q).to)(y:Wd):qJ z y=qJ x y:=by
 unfold qJ;rw[(h _).1,(h _).2]
theorem c2u(h:∀q,(z.c q).st=(x.c q).st/\(z.c q).to=(x.c q).to)(H:Nat->Bool)(y:Wd):tZ z H y=tZ x H y:=by
 unfold tZ;rw[b7m h]
theorem c2v(s:Snd x)(h:tH x i)(k:Nat)(hk:k<(x.c i).prs.length):uK ((x.c i).p k).key x.cells.length/\uK ((x.c i).p k).val x.cells.length:=by
 have g:=h.good s.r2 s.r4;have p:=((s.r4.2 i g.1).2 k hk).2 g.2.2;exact⟨p.1.1,p.2.1⟩
theorem inH_st(x:Hp)(H:Nat->Bool)(b:Hp)(i k:Nat)(hi:i<b.cells.length)(hb:∀q,(b.c q).st=(x.c q).st/\(b.c q).to=(x.c q).to)(q:Nat):((inH x H b i k).c q).st=(x.c q).st/\((inH x H b i k).c q).to=(x.c q).to:=by
 have:=Hp.c_set b i { x.c i with prs:=(x.c i).prs.take k++yD x H (x.c i) ((x.c i).prs.drop k) } hi q;have e:(inH x H b i k).c q=({ b with cells:=b.cells.set i { x.c i with prs:=(x.c i).prs.take k++yD x H (x.c i) ((x.c i).prs.drop k) } }:Hp).c q:=rfl;rw[e,this];by_cases c:q=i
 ·rw[if_pos c,c];exact⟨rfl,rfl⟩
 ·rw[if_neg c];exact hb q
theorem c5z(x:Hp)(H:Nat->Bool)(k:Nat)(hk:k<=x.cells.length)(q:Nat):((cV x H k).c q).st=(x.c q).st/\((cV x H k).c q).to=(x.c q).to:=by
 rw[a9d x H k hk q]
 split
 ·exact⟨rfl,rfl⟩
 ·exact⟨rfl,rfl⟩
theorem a5g(x:Hp)(H:Nat->Bool):∀k,(cV x H k).phase=x.phase/\(cV x H k).hand=x.hand/\(cV x H k).gray=x.gray/\(cV x H k).regs=x.regs
 | 0=>⟨rfl,rfl,rfl,rfl⟩
 | k+1=>by
  unfold cV
  split
  ·exact a5g x H k
  ·exact a5g x H k
theorem b9t(x:Hp)(H:Nat->Bool)(k:Nat):dL (cV x H k)=dL x:=by
 obtain⟨a,b,c,_⟩:=a5g x H k;unfold dL;rw[a,b,c,a2a]
theorem b4c(x:Hp)(H:Nat->Bool)(i:Nat)(e:dL x=(i:Int)):∀k,k<=i->(cV x H k).sub=x.sub
 | 0,_=>rfl
 | k+1,hk=>by
  have ih:=b4c x H i e k (by omega);unfold cV
  split
  ·show a2e x H k (cV x H k).sub=x.sub;unfold a2e;rw[if_neg (by rw[e];omega)];exact ih
  ·exact ih
theorem c2w(x:Hp)(H:Nat->Bool)(i:Nat)(h:H i=true):cV x H (i+1)=inH x H (cV x H i) i 0:=by
 show(if H i=true then _ else _)=_;rw[if_pos h];unfold inH b3k a2e;simp
theorem a9z(x:Hp)(H:Nat->Bool)(hp:∀i,i<x.cells.length->(x.c i).prs.length<=200):∀k,k<=x.cells.length->a1j x H k<=200*k
 | 0,_=>Nat.le_refl _
 | k+1,hk=>by
  have ih:=a9z x H hp k (by omega);have h1:=a7e x H (x.c k) (x.c k).prs;have h2:=hp k (by omega);unfold a1j
  split <;> omega
theorem b2r(x:Hp)(H:Nat->Bool):∀k,(cV x H k).used=x.used-a1j x H k
 | 0=>by simp [cV,a1j]
 | k+1=>by
  have ih:=b2r x H k;unfold cV a1j
  split
  ·show(cV x H k).used-tY x H (x.c k) (x.c k).prs=_;rw[ih];omega
  ·exact ih
theorem b2s(x:Hp)(H:Nat->Bool)(hp:∀i,i<x.cells.length->(x.c i).prs.length<=200):∀k,k<=x.cells.length->x.sub-200*k<=(cV x H k).sub/\(cV x H k).sub<=x.sub
 | 0,_=>by simp [cV]
 | k+1,hk=>by
  have ih:=b2s x H hp k (by omega);unfold cV
  split
  ·show x.sub-200*((k+1:Nat):Int)<=a2e x H k (cV x H k).sub/\a2e x H k (cV x H k).sub<=x.sub;unfold a2e;have h1:=a7e x H (x.c k) ((x.c k).prs.take (cV x H k).sub.toNat);have h2:=hp k (by omega);have h3:((x.c k).prs.take (cV x H k).sub.toNat).length<=200:=by simp;omega
   split <;> omega
  ·omega
theorem inH_num(x:Hp)(H:Nat->Bool)(hp:∀i,i<x.cells.length->(x.c i).prs.length<=200)(i k:Nat)(hi:i<x.cells.length)(n8:x.cells.length<=8000)(hu:0<=x.used/\x.used<=4000)(hs:0<=x.sub/\x.sub<=200):
  (-3000000<=(inH x H (cV x H i) i k).used/\(inH x H (cV x H i) i k).used<=1000000)/\(-3000000<=(inH x H (cV x H i) i k).sub/\(inH x H (cV x H i) i k).sub<=1000000):=by
 have h1:=a9z x H hp i (by omega);have h2:=b2r x H i;have h3:=b2s x H hp i (by omega);have h4:=a7e x H (x.c i) ((x.c i).prs.drop k);have h5:=hp i hi;have h6:((x.c i).prs.drop k).length<=200:=by simp;omega
 have h7:=a7e x H (x.c i) (((x.c i).prs.take (cV x H i).sub.toNat).drop k);have h8:(((x.c i).prs.take (cV x H i).sub.toNat).drop k).length<=200:=by simp;omega
 unfold inH;refine⟨?_,?_⟩
 ·simp only;omega
 ·simp only;split <;> omega
theorem a3j(x z:Hp)(H:Nat->Bool):∀k,(zU x z H k).cells.length=z.cells.length
 | 0=>rfl
 | k+1=>by
  unfold zU
  split
  ·simp [a3j x z H k]
  ·exact a3j x z H k
theorem c1g(x z:Hp)(H:Nat->Bool):∀k,k<=z.cells.length->∀q,k<=q->(zU x z H k).c q=z.c q
 | 0,_,q,_=>rfl
 | k+1,hk,q,hq=>by
  have ih:=c1g x z H k (by omega) q (by omega);unfold zU
  split
  ·have:=Hp.c_set (zU x z H k) k (b5k (x.c k)) (by rw[a3j];omega) q;rw[this,if_neg (by omega)];exact ih
  ·exact ih
theorem c1h(x:Hp)(H:Nat->Bool):∀k,a5q x H k<=k
 | 0=>Nat.le_refl _
 | k+1=>by
  have:=c1h x H k;unfold a5q
  split <;> omega
theorem b7n(s:Snd x)(hi:i<x.cells.length)(h1:(x.c i).st=1)(e:dL x=(i:Int)):0<=x.sub/\x.sub<=(x.c i).prs.length:=by
 refine⟨s.r1.sub.1,?_⟩;unfold dL at e
 split at e
 ·rename_i h;have:=(s.r6.2.1 h.1).2.2 (by omega);have e2:x.g0=i:=by unfold Hp.g0;rw[e];simp
  rw[e2] at this;exact this
 ·split at e
  ·rename_i h;have e2:x.hand.toNat=i:=by omega
   have:=(s.r6.2.2.1 h.1).2;rw[e2] at this;exact this ⟨by omega,h1⟩
  ·omega
end Go.Proofs.YtddkhnclmeikfaaGreat
