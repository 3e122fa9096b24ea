import Derived.Test.YtddkhnclmeikfaaGreatEh0
set_option maxRecDepth 100000
set_option maxHeartbeats 100000000
namespace Go.Proofs.YtddkhnclmeikfaaGreat
open Go.RowKit
attribute [local go_sem ↓] Go.wp_at_zero Go.wp_at_succ
theorem b6c[p:Inhabited uZ](B g:Nat)(x:Hp)(op:Int)(a b c:Nat)(n:Int)(w:World)(h:GOk B w g x)(s:Snd x)(ha:a<16)(hk:(x.r a).k≠2)(v:World)(hx:Ext v w):
  Calls Tryz.prog 253 #[.pointer (some ⟨g,0,none⟩),tJ op a b c n] w λe w'=>e=.returned (eK 2 0)/\Hid (GOk B w' g x)/\Ext v w':=by
 obtain⟨p1,o1,g1⟩:=GOk.enter h (w0:=doW w op a b c n) (((Ext.refl w).alloc _).alloc _);obtain⟨W1,hW1⟩:∃W,W=doW w op a b c n:=⟨_,rfl⟩;have bx:=zL.new w op a b c n;have x1:Ext v (doW w op a b c n):=(hx.alloc _).alloc _;rw[<-hW1] at g1 bx x1;obtain⟨br,kr,hr⟩:=g1.regs s.r1.regs;have c3:=hr.c3;obtain⟨r0,r1,r2⟩:=hr.r a ha;have hgw:g<W1.heap.size:=uL c3;have hbw:br<W1.heap.size:=uL r0;have O1:=uU o1;have G1:=uU g1;have V0:=uU (show v.heap.size<=w.heap.size+1 by have:=hx.size;omega);have X1:=uU x1;obtain⟨t0,t1,t2,t3,t4,t5,t6,t7⟩:=bx;have hw1:w.heap.size<W1.heap.size:=uL t0;have j0:(0:Int)<=(a:Int):=by omega
 have j1:(a:Int)<16:=by omega
 have q2b:((x.r a).k != 2)=true:=by simpa using hk
 clear hk s;clear h hr o1 g1 x1;go_enter Tryz.func253,Tryz.ntmps253;go_wp2_with fail;unfold doW at hW1;rw[<-hW1];clear hW1
 go_region
 obtain⟨W2,hW2⟩:∃W,W=(W1.alloc (.cells #[.int .i64 (x.r a).k,.int .i64 (x.r a).n,.int .i64 (x.r a).a] 152)).drew:=⟨_,rfl⟩;rw[<-hW2];have x12:Ext W1 W2:=by rw[hW2];exact((Ext.refl _).alloc _).drew
 have WB:yC W2 W1.heap.size 0 (x.r a):=by rw[hW2];exact⟨by simp [go_sem],by simp [go_sem],by simp [go_sem]⟩
 obtain⟨y0,y1,y2⟩:=WB;have G2:=uU (G1.ext x12);have X2:=uU (X1.trans x12);have hy2:W1.heap.size<W2.heap.size:=uL y0;clear hW2 x12 c3 r0 r1 r2 t0 t1 t2 t3 t4 t5 t6 t7;obtain⟨t0,t1,t2,t3,t4,t5,t6,t7⟩:=G2.boxes O1;have hw2:w.heap.size<W2.heap.size:=uL t0;have hw2':w.heap.size+1<W2.heap.size:=uL t5;go_wp2_with fail;refine(a0g 2 _).mono ?_;rintro e w3 ⟨rfl,x3⟩;have G3:=uU (G2.ext x3);have X3:=uU (X2.trans x3);clear x3;obtain⟨u0,u1,u2,u3,u4,u5,u6,u7⟩:=G3.boxes O1;have hw3:w.heap.size+1<w3.heap.size:=uL u5;clear t0 t1 t2 t3 t4 t5 t6 t7 y0 y1 y2;go_wp2_with fail;refine bodyPost_ret (v:=eK 2 0) (by simp [results,Tryz.results253,go_sem,u5,u6]) rfl ?_;exact⟨rfl,GOk.done O1 G3 2 0,cV X3 V0 2 0⟩
theorem c6f[p:Inhabited uZ](B g:Nat)(x:Hp)(a b c:Nat)(n:Int)(w:World)(h:GOk B w g x)(s:Snd x)(ha:a<16)(hk:(x.r a).k=2)(v:World)(hx:Ext v w):
  Calls Tryz.prog 253 #[.pointer (some ⟨g,0,none⟩),tJ 16 a b c n] w λe w'=>qX B g x a b c n 16 v e w':=by
 obtain⟨p1,o1,g1⟩:=GOk.enter h (w0:=doW w 16 a b c n) (((Ext.refl w).alloc _).alloc _);obtain⟨W1,hW1⟩:∃W,W=doW w 16 a b c n:=⟨_,rfl⟩;have bx:=zL.new w 16 a b c n;have x1:Ext v (doW w 16 a b c n):=(hx.alloc _).alloc _;rw[<-hW1] at g1 bx x1;obtain⟨br,kr,hr⟩:=g1.regs s.r1.regs;have c3:=hr.c3;obtain⟨r0,r1,r2⟩:=hr.r a ha;have hgw:g<W1.heap.size:=uL c3;have hbw:br<W1.heap.size:=uL r0;have O1:=uU o1;have G1:=uU g1;have V0:=uU (show v.heap.size<=w.heap.size+1 by have:=hx.size;omega);have X1:=uU x1;obtain⟨t0,t1,t2,t3,t4,t5,t6,t7⟩:=bx;have hw1:w.heap.size<W1.heap.size:=uL t0;have j0:(0:Int)<=(a:Int):=by omega
 have j1:(a:Int)<16:=by omega
 have D:=uU hk;have q2b:((x.r a).k != 2)=false:=by simpa using hk
 obtain⟨en,ea,hi,st,nd⟩:=s.at a ha hk;obtain⟨i,hI⟩:∃i,i=x.at a:=⟨_,rfl⟩;have HI:=uU hI;rw[<-hI] at ea hi st nd;have EA:=uU ea;have i0:(0:Int)<=(i:Int):=by omega
 have i1:(i:Int)<(x.cells.length:Int):=by omega
 clear hk ea hI s en;clear st nd;clear h hr o1 g1 x1;go_enter Tryz.func253,Tryz.ntmps253;go_wp2_with fail;unfold doW at hW1;rw[<-hW1];clear hW1
 go_region
 obtain⟨W2,hW2⟩:∃W,W=(W1.alloc (.cells #[.int .i64 (x.r a).k,.int .i64 (x.r a).n,.int .i64 (x.r a).a] 152)).drew:=⟨_,rfl⟩;rw[<-hW2];have x12:Ext W1 W2:=by rw[hW2];exact((Ext.refl _).alloc _).drew
 have WB:yC W2 W1.heap.size 0 (x.r a):=by rw[hW2];exact⟨by simp [go_sem],by simp [go_sem],by simp [go_sem]⟩
 obtain⟨y0,y1,y2⟩:=WB;have G2:=uU (G1.ext x12);have X2:=uU (X1.trans x12);have hy2:W1.heap.size<W2.heap.size:=uL y0;clear hW2 x12 c3 r0 r1 r2 t0 t1 t2 t3 t4 t5 t6 t7;obtain⟨t0,t1,t2,t3,t4,t5,t6,t7⟩:=G2.boxes O1;have hw2:w.heap.size<W2.heap.size:=uL t0;have hw2':w.heap.size+1<W2.heap.size:=uL t5;rw[uH EA] at y2;obtain⟨bc,kc,ap,kp,hc⟩:=G2.cel i hi;have c4:=hc.c4;have p7:=hc.p7;obtain⟨q0,q1,q2,q3,q4,q5,q6⟩:=hc.s;have fc:=hc.f;have hg2:g<W2.heap.size:=uL c4;have hb2:bc<W2.heap.size:=uL q3;clear hc;go_wp2_with fail;go_region_with (go_at_call 161;refine(cE (x.c i).kind _).mono ?_;rintro e w3 ⟨rfl,x3⟩;have x13:=Ext.trans (Ext.refl W2).drew x3;have G3:=uU (G2.ext x13);have X3:=uU (X2.trans x13);obtain⟨u0,u1,u2,u3,u4,u5,u6,u7⟩:=G3.boxes O1;have hw3:w.heap.size+1<w3.heap.size:=uL u5;clear x3 x13)
 all_goals
  go_wp2_with fail;refine bodyPost_ret (v:=eK 0 (x.c i).kind) (by simp [results,Tryz.results253,go_sem,u5,u6]) rfl ?_;exact⟨x,0,(x.c i).kind,rfl,.inr ⟨D,by rw[<-uH HI];exact⟨rfl,rfl,rfl⟩⟩,GOk.done O1 G3 0 (x.c i).kind,cV X3 V0 0 (x.c i).kind⟩
theorem c6g[p:Inhabited uZ](B g:Nat)(x:Hp)(a b c:Nat)(n:Int)(w:World)(h:GOk B w g x)(s:Snd x)(ha:a<16)(hk:(x.r a).k=2)(v:World)(hx:Ext v w):
  Calls Tryz.prog 253 #[.pointer (some ⟨g,0,none⟩),tJ 17 a b c n] w λe w'=>qX B g x a b c n 17 v e w':=by
 obtain⟨p1,o1,g1⟩:=GOk.enter h (w0:=doW w 17 a b c n) (((Ext.refl w).alloc _).alloc _);obtain⟨W1,hW1⟩:∃W,W=doW w 17 a b c n:=⟨_,rfl⟩;have bx:=zL.new w 17 a b c n;have x1:Ext v (doW w 17 a b c n):=(hx.alloc _).alloc _;rw[<-hW1] at g1 bx x1;obtain⟨br,kr,hr⟩:=g1.regs s.r1.regs;have c3:=hr.c3;obtain⟨r0,r1,r2⟩:=hr.r a ha;have hgw:g<W1.heap.size:=uL c3;have hbw:br<W1.heap.size:=uL r0;have O1:=uU o1;have G1:=uU g1;have V0:=uU (show v.heap.size<=w.heap.size+1 by have:=hx.size;omega);have X1:=uU x1;obtain⟨t0,t1,t2,t3,t4,t5,t6,t7⟩:=bx;have hw1:w.heap.size<W1.heap.size:=uL t0;have j0:(0:Int)<=(a:Int):=by omega
 have j1:(a:Int)<16:=by omega
 have D:=uU hk;have q2b:((x.r a).k != 2)=false:=by simpa using hk
 obtain⟨en,ea,hi,st,nd⟩:=s.at a ha hk;obtain⟨i,hI⟩:∃i,i=x.at a:=⟨_,rfl⟩;have HI:=uU hI;rw[<-hI] at ea hi st nd;have EA:=uU ea;have i0:(0:Int)<=(i:Int):=by omega
 have i1:(i:Int)<(x.cells.length:Int):=by omega
 clear hk ea hI s en;clear st nd;clear h hr o1 g1 x1;go_enter Tryz.func253,Tryz.ntmps253;go_wp2_with fail;unfold doW at hW1;rw[<-hW1];clear hW1
 go_region
 obtain⟨W2,hW2⟩:∃W,W=(W1.alloc (.cells #[.int .i64 (x.r a).k,.int .i64 (x.r a).n,.int .i64 (x.r a).a] 152)).drew:=⟨_,rfl⟩;rw[<-hW2];have x12:Ext W1 W2:=by rw[hW2];exact((Ext.refl _).alloc _).drew
 have WB:yC W2 W1.heap.size 0 (x.r a):=by rw[hW2];exact⟨by simp [go_sem],by simp [go_sem],by simp [go_sem]⟩
 obtain⟨y0,y1,y2⟩:=WB;have G2:=uU (G1.ext x12);have X2:=uU (X1.trans x12);have hy2:W1.heap.size<W2.heap.size:=uL y0;clear hW2 x12 c3 r0 r1 r2 t0 t1 t2 t3 t4 t5 t6 t7;obtain⟨t0,t1,t2,t3,t4,t5,t6,t7⟩:=G2.boxes O1;have hw2:w.heap.size<W2.heap.size:=uL t0;have hw2':w.heap.size+1<W2.heap.size:=uL t5;rw[uH EA] at y2;obtain⟨bc,kc,ap,kp,hc⟩:=G2.cel i hi;have c4:=hc.c4;have p7:=hc.p7;obtain⟨q0,q1,q2,q3,q4,q5,q6⟩:=hc.s;have fc:=hc.f;have hg2:g<W2.heap.size:=uL c4;have hb2:bc<W2.heap.size:=uL q3;clear hc;go_wp2_with fail;go_region_with (go_at_call 161;refine(cE ((x.c i).prs.length:Nat) _).mono ?_;rintro e w3 ⟨rfl,x3⟩;have x13:=Ext.trans (Ext.refl W2).drew x3;have G3:=uU (G2.ext x13);have X3:=uU (X2.trans x13);obtain⟨u0,u1,u2,u3,u4,u5,u6,u7⟩:=G3.boxes O1;have hw3:w.heap.size+1<w3.heap.size:=uL u5;clear x3 x13)
 all_goals
  go_wp2_with fail;refine bodyPost_ret (v:=eK 0 ((x.c i).prs.length:Nat)) (by simp [results,Tryz.results253,go_sem,u5,u6]) rfl ?_;exact⟨x,0,((x.c i).prs.length:Nat),rfl,.inr ⟨D,by rw[<-uH HI];exact⟨rfl,rfl,rfl⟩⟩,GOk.done O1 G3 0 ((x.c i).prs.length:Nat),cV X3 V0 0 ((x.c i).prs.length:Nat)⟩
theorem c6h[p:Inhabited uZ](B g:Nat)(x:Hp)(a b c:Nat)(n:Int)(w:World)(h:GOk B w g x)(s:Snd x)(ha:a<16)(hk:(x.r a).k=2)(v:World)(hv:v.heap.size<=B)(hx:Ext v w):
  Calls Tryz.prog 253 #[.pointer (some ⟨g,0,none⟩),tJ 11 a b c n] w λe w'=>qX B g x a b c n 11 v e w':=by
 obtain⟨p1,o1,g1⟩:=GOk.enter h (w0:=doW w 11 a b c n) (((Ext.refl w).alloc _).alloc _);obtain⟨W1,hW1⟩:∃W,W=doW w 11 a b c n:=⟨_,rfl⟩;have bx:=zL.new w 11 a b c n;have x1:Ext v (doW w 11 a b c n):=(hx.alloc _).alloc _;rw[<-hW1] at g1 bx x1;obtain⟨br,kr,hr⟩:=g1.regs s.r1.regs;have c3:=hr.c3;obtain⟨r0,r1,r2⟩:=hr.r a ha;have hgw:g<W1.heap.size:=uL c3;have hbw:br<W1.heap.size:=uL r0;have O1:=uU o1;have G1:=uU g1;have V0:=uU (show v.heap.size<=w.heap.size+1 by have:=hx.size;omega);have X1:=uU x1;obtain⟨t0,t1,t2,t3,t4,t5,t6,t7⟩:=bx;have hw1:w.heap.size<W1.heap.size:=uL t0;have j0:(0:Int)<=(a:Int):=by omega
 have j1:(a:Int)<16:=by omega
 have D:=uU hk;have q2b:((x.r a).k != 2)=false:=by simpa using hk
 obtain⟨en,ea,hi,st,nd⟩:=s.at a ha hk;obtain⟨i,hI⟩:∃i,i=x.at a:=⟨_,rfl⟩;have HI:=uU hI;rw[<-hI] at ea hi st nd;have EA:=uU ea;have i0:(0:Int)<=(i:Int):=by omega
 have i1:(i:Int)<(x.cells.length:Int):=by omega
 clear hk ea hI s en;clear st nd;clear h hr o1 g1 x1;go_enter Tryz.func253,Tryz.ntmps253;go_wp2_with fail;unfold doW at hW1;rw[<-hW1];clear hW1
 go_region
 obtain⟨W2,hW2⟩:∃W,W=(W1.alloc (.cells #[.int .i64 (x.r a).k,.int .i64 (x.r a).n,.int .i64 (x.r a).a] 152)).drew:=⟨_,rfl⟩;rw[<-hW2];have x12:Ext W1 W2:=by rw[hW2];exact((Ext.refl _).alloc _).drew
 have WB:yC W2 W1.heap.size 0 (x.r a):=by rw[hW2];exact⟨by simp [go_sem],by simp [go_sem],by simp [go_sem]⟩
 obtain⟨y0,y1,y2⟩:=WB;have G2:=uU (G1.ext x12);have X2:=uU (X1.trans x12);have hy2:W1.heap.size<W2.heap.size:=uL y0;clear hW2 x12 c3 r0 r1 r2 t0 t1 t2 t3 t4 t5 t6 t7;obtain⟨t0,t1,t2,t3,t4,t5,t6,t7⟩:=G2.boxes O1;have hw2:w.heap.size<W2.heap.size:=uL t0;have hw2':w.heap.size+1<W2.heap.size:=uL t5;rw[uH EA] at y2;obtain⟨bc,kc,ap,kp,hc⟩:=G2.cel i hi;have c4:=hc.c4;have p7:=hc.p7;obtain⟨q0,q1,q2,q3,q4,q5,q6⟩:=hc.s;have fc:=hc.f;have hg2:g<W2.heap.size:=uL c4;have hb2:bc<W2.heap.size:=uL q3;have FN:=uU (show GOk B (W2.setCell ⟨bc,i*8+2,none⟩ (iv c)).drew g (dE x i (c3u (x.c i) c))/\Ext v (W2.setCell ⟨bc,i*8+2,none⟩ (iv c)).drew from⟨(hc.set2 W2 c (Ext.refl _)).ext (Ext.refl _).drew,(X2.setCell (p:=⟨bc,i*8+2,none⟩) (Nat.le_trans hv hc.lo.1) _).drew⟩);obtain⟨W3,hW3⟩:∃W,W=(W2.setCell ⟨bc,i*8+2,none⟩ (iv c)).drew:=⟨_,rfl⟩;rw[<-hW3] at FN;clear hc;go_wp2_with fail
 go_region
 rw[<-hW3];clear hW3 c4 p7 q0 q1 q2 q3 q4 q5 q6 fc hg2 hb2 t0 t1 t2 t3 t4 t5 t6 t7 y0 y1 y2;go_wp2_with fail;refine(cE 0 _).mono ?_;rintro e w3 ⟨rfl,x3⟩;have G3:=uU (FN.1.ext x3);have X3:=uU (FN.2.trans x3);obtain⟨u0,u1,u2,u3,u4,u5,u6,u7⟩:=G3.boxes O1;have hw3:w.heap.size+1<w3.heap.size:=uL u5;clear x3;go_wp2_with fail;refine bodyPost_ret (v:=eK 0 0) (by simp [results,Tryz.results253,go_sem,u5,u6]) rfl ?_;exact⟨_,0,0,rfl,.inr ⟨D,by rw[<-uH HI];exact⟨rfl,rfl,rfl⟩⟩,GOk.done O1 G3 0 0,cV X3 V0 0 0⟩
theorem c6i[p:Inhabited uZ](B g:Nat)(x:Hp)(a b c:Nat)(n:Int)(w:World)(h:GOk B w g x)(s:Snd x)(ha:a<16)(hk:(x.r a).k=2)(v:World)(hv:v.heap.size<=B)(hx:Ext v w):
  Calls Tryz.prog 253 #[.pointer (some ⟨g,0,none⟩),tJ 10 a b c n] w λe w'=>qX B g x a b c n 10 v e w':=by
 obtain⟨p1,o1,g1⟩:=GOk.enter h (w0:=doW w 10 a b c n) (((Ext.refl w).alloc _).alloc _);obtain⟨W1,hW1⟩:∃W,W=doW w 10 a b c n:=⟨_,rfl⟩;have bx:=zL.new w 10 a b c n;have x1:Ext v (doW w 10 a b c n):=(hx.alloc _).alloc _;rw[<-hW1] at g1 bx x1;obtain⟨br,kr,hr⟩:=g1.regs s.r1.regs;have c3:=hr.c3;obtain⟨r0,r1,r2⟩:=hr.r a ha;have hgw:g<W1.heap.size:=uL c3;have hbw:br<W1.heap.size:=uL r0;have O1:=uU o1;have G1:=uU g1;have V0:=uU (show v.heap.size<=w.heap.size+1 by have:=hx.size;omega);have X1:=uU x1;obtain⟨t0,t1,t2,t3,t4,t5,t6,t7⟩:=bx;have hw1:w.heap.size<W1.heap.size:=uL t0;have j0:(0:Int)<=(a:Int):=by omega
 have j1:(a:Int)<16:=by omega
 have D:=uU hk;have q2b:((x.r a).k != 2)=false:=by simpa using hk
 obtain⟨en,ea,hi,st,nd⟩:=s.at a ha hk;obtain⟨i,hI⟩:∃i,i=x.at a:=⟨_,rfl⟩;have HI:=uU hI;rw[<-hI] at ea hi st nd;have EA:=uU ea;have S:=uU s;have i0:(0:Int)<=(i:Int):=by omega
 have i1:(i:Int)<(x.cells.length:Int):=by omega
 clear hk ea hI s en;clear nd;clear h hr o1 g1 x1;go_enter Tryz.func253,Tryz.ntmps253;go_wp2_with fail;unfold doW at hW1;rw[<-hW1];clear hW1
 go_region
 obtain⟨W2,hW2⟩:∃W,W=(W1.alloc (.cells #[.int .i64 (x.r a).k,.int .i64 (x.r a).n,.int .i64 (x.r a).a] 152)).drew:=⟨_,rfl⟩;rw[<-hW2];have x12:Ext W1 W2:=by rw[hW2];exact((Ext.refl _).alloc _).drew
 have WB:yC W2 W1.heap.size 0 (x.r a):=by rw[hW2];exact⟨by simp [go_sem],by simp [go_sem],by simp [go_sem]⟩
 obtain⟨y0,y1,y2⟩:=WB;have G2:=uU (G1.ext x12);have X2:=uU (X1.trans x12);have hy2:W1.heap.size<W2.heap.size:=uL y0;clear hW2 x12 c3 r0 r1 r2 t0 t1 t2 t3 t4 t5 t6 t7;obtain⟨t0,t1,t2,t3,t4,t5,t6,t7⟩:=G2.boxes O1;have hw2:w.heap.size<W2.heap.size:=uL t0;have hw2':w.heap.size+1<W2.heap.size:=uL t5;rw[uH EA] at y2;have QC:=uU (λ(W:World) (xW:Ext W2 W)=>c6e B g x i c W (G2.ext xW) S hi st v hv (X2.trans xW));go_wp2_with fail;refine(QC _ (Ext.refl W2)).mono ?_;rintro e w6 ⟨rfl,g6,x6⟩;have X5:=uU x6;have G5:=uU g6;clear t0 t1 t2 t3 t4 t5 t6 t7 y0 y1 y2 QC x6 g6;go_wp2_with fail;refine(cE 0 _).mono ?_;rintro e w3 ⟨rfl,x3⟩;have G3:=uU (G5.ext x3);have X3:=uU (X5.trans x3);obtain⟨u0,u1,u2,u3,u4,u5,u6,u7⟩:=G3.boxes O1;have hw3:w.heap.size+1<w3.heap.size:=uL u5;clear x3;go_wp2_with fail;refine bodyPost_ret (v:=eK 0 0) (by simp [results,Tryz.results253,go_sem,u5,u6]) rfl ?_;exact⟨_,0,0,rfl,.inr ⟨D,by rw[<-uH HI];exact⟨rfl,rfl,rfl⟩⟩,GOk.done O1 G3 0 0,cV X3 V0 0 0⟩
theorem GCel.ext[Inhabited uZ]{B:Nat}{w w':World}{g:Nat}{x:Hp}{i bc kc:Nat}{ap:Option Addr}{kp:Nat}(h:GCel B w g x i bc kc ap kp)(e:Ext w w'):GCel B w' g x i bc kc ap kp:=
 ⟨e.keep h.c4,⟨e.keep h.s.1,e.keep h.s.2.1,e.keep h.s.2.2.1,e.keep h.s.2.2.2.1,e.keep h.s.2.2.2.2.1,e.keep h.s.2.2.2.2.2.1,e.keep h.s.2.2.2.2.2.2⟩,e.keep h.p7,λj=>((dH e).2 bc j h.lo.2).trans (h.f j),⟨h.lo.1,Nat.lt_of_lt_of_le h.lo.2 e.size⟩,λW u e2=>h.set2 W u (e.trans e2),λW u e2=>h.set3 W u (e.trans e2)⟩
theorem c6j[p:Inhabited uZ](B g:Nat)(x:Hp)(a b c:Nat)(n:Int)(w:World)(h:GOk B w g x)(s:Snd x)(ha:a<16)(hk:(x.r a).k=2)(v:World)(hv:v.heap.size<=B)(hx:Ext v w):
  Calls Tryz.prog 253 #[.pointer (some ⟨g,0,none⟩),tJ 12 a b c n] w λe w'=>qX B g x a b c n 12 v e w':=by
 obtain⟨p1,o1,g1⟩:=GOk.enter h (w0:=doW w 12 a b c n) (((Ext.refl w).alloc _).alloc _);obtain⟨W1,hW1⟩:∃W,W=doW w 12 a b c n:=⟨_,rfl⟩;have bx:=zL.new w 12 a b c n;have x1:Ext v (doW w 12 a b c n):=(hx.alloc _).alloc _;rw[<-hW1] at g1 bx x1;obtain⟨br,kr,hr⟩:=g1.regs s.r1.regs;have c3:=hr.c3;obtain⟨r0,r1,r2⟩:=hr.r a ha;have hgw:g<W1.heap.size:=uL c3;have hbw:br<W1.heap.size:=uL r0;have O1:=uU o1;have G1:=uU g1;have V0:=uU (show v.heap.size<=w.heap.size+1 by have:=hx.size;omega);have X1:=uU x1;obtain⟨t0,t1,t2,t3,t4,t5,t6,t7⟩:=bx;have hw1:w.heap.size<W1.heap.size:=uL t0;have j0:(0:Int)<=(a:Int):=by omega
 have j1:(a:Int)<16:=by omega
 have D:=uU hk;have q2b:((x.r a).k != 2)=false:=by simpa using hk
 obtain⟨en,ea,hi,st,nd⟩:=s.at a ha hk;obtain⟨i,hI⟩:∃i,i=x.at a:=⟨_,rfl⟩;have HI:=uU hI;rw[<-hI] at ea hi st nd;have EA:=uU ea;have S:=uU s;have i0:(0:Int)<=(i:Int):=by omega
 have i1:(i:Int)<(x.cells.length:Int):=by omega
 clear hk ea hI s en;clear nd;clear h hr o1 g1 x1;go_enter Tryz.func253,Tryz.ntmps253;go_wp2_with fail;unfold doW at hW1;rw[<-hW1];clear hW1
 go_region
 obtain⟨W2,hW2⟩:∃W,W=(W1.alloc (.cells #[.int .i64 (x.r a).k,.int .i64 (x.r a).n,.int .i64 (x.r a).a] 152)).drew:=⟨_,rfl⟩;rw[<-hW2];have x12:Ext W1 W2:=by rw[hW2];exact((Ext.refl _).alloc _).drew
 have WB:yC W2 W1.heap.size 0 (x.r a):=by rw[hW2];exact⟨by simp [go_sem],by simp [go_sem],by simp [go_sem]⟩
 obtain⟨y0,y1,y2⟩:=WB;have G2:=uU (G1.ext x12);have X12:=uU x12;have X2:=uU (X1.trans x12);have hy2:W1.heap.size<W2.heap.size:=uL y0;clear hW2 x12 c3 r0 r1 r2 t0 t1 t2 t3 t4 t5 t6 t7;obtain⟨t0,t1,t2,t3,t4,t5,t6,t7⟩:=G2.boxes O1;have hw2:w.heap.size<W2.heap.size:=uL t0;have hw2':w.heap.size+1<W2.heap.size:=uL t5;rw[uH EA] at y2;obtain⟨bc,kc,ap,kp,hc1⟩:=G1.cel i hi;have hbl:bc<W1.heap.size:=hc1.lo.2;have hc:=hc1.ext X12;have c4:=hc.c4;obtain⟨q0,q1,q2,q3,q4,q5,q6⟩:=hc.s;have fc:=hc.f;have hg2:g<W2.heap.size:=uL c4;have hb2:bc<W2.heap.size:=uL q3;have FN:=uU (show GOk B (W2.setCell ⟨bc,i*8+3,none⟩ (iv c)).drew g (dE x i (a2g (x.c i) c))/\Ext v (W2.setCell ⟨bc,i*8+3,none⟩ (iv c)).drew from⟨(hc.set3 W2 c (Ext.refl _)).ext (Ext.refl _).drew,(X2.setCell (p:=⟨bc,i*8+3,none⟩) (Nat.le_trans hv hc.lo.1) _).drew⟩)
 have YY:=uU (show yC (W2.setCell ⟨bc,i*8+3,none⟩ (iv c)).drew W1.heap.size 0 ⟨(x.r a).k,(x.r a).n,i⟩ from by
  have k:=λo=>(show(W2.setCell ⟨bc,i*8+3,none⟩ (iv c)).drew.cell? ⟨W1.heap.size,o,none⟩=W2.cell? ⟨W1.heap.size,o,none⟩ from(World.cell?_of_block (a:=⟨W1.heap.size,o,none⟩) rfl).trans (uC _ (.inl (by omega))))
  exact⟨(k 0).trans y0,(k 1).trans y1,(k 2).trans y2⟩)
 obtain⟨W3,hW3⟩:∃W,W=(W2.setCell ⟨bc,i*8+3,none⟩ (iv c)).drew:=⟨_,rfl⟩;rw[<-hW3] at FN YY;clear hc hc1;go_wp2_with fail
 go_region
 rw[<-hW3];clear hW3 c4 q0 q1 q2 q3 q4 q5 q6 fc hg2 hb2 t0 t1 t2 t3 t4 t5 t6 t7 y0 y1 y2 hw2 hw2' hy2;obtain⟨t0,t1,t2,t3,t4,t5,t6,t7⟩:=FN.1.boxes O1;obtain⟨y0,y1,y2⟩:=uH YY;have hw3:w.heap.size<W3.heap.size:=uL t0;have hy3:W1.heap.size<W3.heap.size:=uL y0;cases qc:((c:Int) == 1)
 ·have QC:=uU (show ¬c=1 by simp at qc;omega);go_wp2_with fail;clear t0 t1 t2 t3 t4 t5 t6 t7 y0 y1 y2;refine(cE 0 _).mono ?_;rintro e w3 ⟨rfl,x3⟩;have G3:=uU (FN.1.ext x3);have X3:=uU (FN.2.trans x3);obtain⟨u0,u1,u2,u3,u4,u5,u6,u7⟩:=G3.boxes O1;have hw3:w.heap.size+1<w3.heap.size:=uL u5;clear x3;go_wp2_with fail;refine bodyPost_ret (v:=eK 0 0) (by simp [results,Tryz.results253,go_sem,u5,u6]) rfl ?_;exact⟨_,0,0,rfl,.inr ⟨D,by rw[<-uH HI];exact⟨by rw[if_neg (uH QC)],rfl,rfl⟩⟩,GOk.done O1 G3 0 0,cV X3 V0 0 0⟩
 ·have QC:=uU (show c=1 by simp at qc;omega);obtain⟨z,hz⟩:∃z,z=dE x i (a2g (x.c i) c):=⟨_,rfl⟩;rw[<-hz] at FN;have HZ:=uU hz
  have ZL:=uU (show z.cells.length=x.cells.length/\z.gray=x.gray/\(z.c i).st=1 from by
   rw[hz];refine⟨by simp [dE],rfl,?_⟩;show(({ x with cells:=x.cells.set i _ }:Hp).c i).st=_;rw[Hp.c_set x i _ hi i,if_pos rfl];exact st)
  have QS:=uU (show Calls Tryz.prog 232 #[.pointer (some ⟨g,0,none⟩),.agg #[iv (x.r a).k,iv (x.r a).n,iv i]] W3 λe w'=>∃r:Bool,e=.returned (.bool r)/\Hid (GOk B w' g (cC z i))/\Ext v w' from by
   refine(b0c B g z ⟨(x.r a).k,(x.r a).n,i⟩ W3 FN.1 (by rw[ZL.1];exact S.ok.n8) (by rw[ZL.2.1];have:=S.r1.gray;have:=S.ok.n8;omega) (λ_=>⟨by rw[ZL.1];exact hi,ZL.2.2⟩) (λ_=>by show(0:Int)<=(i:Int);omega) v hv FN.2 (by have:=FN.1.box.2.2.2.2;omega)).mono ?_;rintro e w' ⟨h1,h2,h3⟩;refine⟨_,h1,?_,h3⟩;have e2:uY z ⟨(x.r a).k,(x.r a).n,i⟩=cC z i:=by unfold uY;rw[if_pos (by simpa using uH D)];rfl
   rw[e2] at h2;exact h2)
  clear hz;go_wp2_with fail;refine QS.mono ?_;rintro e w6 ⟨r,rfl,g6,x6⟩;have X5:=uU x6;have G5:=uU g6;clear t0 t1 t2 t3 t4 t5 t6 t7 y0 y1 y2 QS x6 g6;go_wp2_with fail;refine(cE 0 _).mono ?_;rintro e w3 ⟨rfl,x3⟩;have G3:=uU (G5.ext x3);have X3:=uU (X5.trans x3);obtain⟨u0,u1,u2,u3,u4,u5,u6,u7⟩:=G3.boxes O1;have hw3:w.heap.size+1<w3.heap.size:=uL u5;clear x3;go_wp2_with fail;refine bodyPost_ret (v:=eK 0 0) (by simp [results,Tryz.results253,go_sem,u5,u6]) rfl ?_;exact⟨_,0,0,rfl,.inr ⟨D,by rw[<-uH HI];exact⟨by rw[if_pos (uH QC),uH HZ],rfl,rfl⟩⟩,GOk.done O1 G3 0 0,cV X3 V0 0 0⟩
theorem a5i[p:Inhabited uZ](B g:Nat)(x:Hp)(k:Nat)(op:Int)(a b c:Nat)(n:Int)(w:World)(h:GOk B w g x)(s:Snd x)(ha:a<16)(v:World)(hx:Ext v w)(dr:¬(x.r a).k=2->DoR x a b c n x 2 0 k)(hq:(x.r a).k=2->Calls Tryz.prog 253 #[.pointer (some ⟨g,0,none⟩),tJ op a b c n] w λe w'=>qX B g x a b c n k v e w'):
  Calls Tryz.prog 253 #[.pointer (some ⟨g,0,none⟩),tJ op a b c n] w λe w'=>qX B g x a b c n k v e w':=by
 by_cases hk:(x.r a).k=2
 ·exact hq hk
 ·exact(b6c B g x op a b c n w h s ha hk v hx).mono λe w2 hh=>⟨x,2,0,hh.1,dr hk,hh.2.1,hh.2.2⟩
def calK(k:Nat):FuncId:=if k<=8 then 252 else 253
theorem a1r[p:Inhabited uZ](B g:Nat)(x:Hp)(k:Nat)(op:Int)(a b c:Nat)(n:Int)(w:World)(hk:(k=5/\op=5)\/(k=6/\op=6)\/(k=7/\op=7)\/(k=8/\op=8)\/(k=10/\op=10)\/(k=11/\op=11)\/(k=12/\op=12)\/(k=16/\op=16)\/(k=17/\op=17))(h:GOk B w g x)(ok:eD op a b c n=true)(v:World)(hx:Ext v w)
  (hq:∀(_:Inhabited uZ) (w1:World),GOk B w1 g x->Ext v w1->Calls Tryz.prog (calK k) #[.pointer (some ⟨g,0,none⟩),tJ op a b c n] w1 λe w'=>qX B g x a b c n k v e w') :
  Calls Tryz.prog 234 #[.pointer (some ⟨g,0,none⟩),tJ op a b c n] w λe w'=>qX B g x a b c n k v e w':=by
 obtain⟨p1,o1,g1⟩:=GOk.enter h (w0:=doW w op a b c n) (((Ext.refl w).alloc _).alloc _);have HG:=uU g1;have O1:=uU o1;have QA:=uU (λW=>a1g op a b c n W);rw[ok] at QA;have V0:=uU (show v.heap.size<=w.heap.size+1 by have:=hx.size;omega);have XD:=uU (show Ext v (doW w op a b c n) from(hx.alloc _).alloc _);have BX:=uU (zL.new w op a b c n);clear h o1 g1;rcases hk with⟨rfl,rfl⟩ | ⟨rfl,rfl⟩ | ⟨rfl,rfl⟩ | ⟨rfl,rfl⟩ | ⟨rfl,rfl⟩ | ⟨rfl,rfl⟩ | ⟨rfl,rfl⟩ | ⟨rfl,rfl⟩ | ⟨rfl,rfl⟩
 all_goals
  go_enter Tryz.func234,Tryz.ntmps234;go_wp2_with fail;refine(QA _).mono ?_;rintro e w1 ⟨rfl,x1⟩;have X1:=uU (XD.trans x1);have BX1:=uU (BX.ext x1);obtain⟨t0,t1,t2,t3,t4,t5,t6,t7⟩:=uH BX1;have hw1:w.heap.size+1<w1.heap.size:=uL t5;have hw0:w.heap.size<w1.heap.size:=uL t0;have G1:=uU (HG.ext x1);have QP:=uU (hq p1 w1 G1 X1);clear x1 QA BX1 BX XD HG;go_wp2_with fail;refine QP.mono ?_;rintro e w3 ⟨y,cd,nm,he,dr,g3,x3⟩;have e2:=uH he;subst e2;have G3:=uU g3;have X3:=uU x3;clear he g3 x3 QP;obtain⟨u0,u1,u2,u3,u4,u5,u6,u7⟩:=G3.boxes O1;have hw3:w.heap.size+1<w3.heap.size:=uL u5;clear t0 t1 t2 t3 t4 t5 t6 t7;go_wp2_with fail;refine bodyPost_ret (v:=eK cd nm) (by simp [results,Tryz.results234,go_sem,u5,u6]) rfl ?_;exact⟨y,cd,nm,rfl,dr,GOk.done O1 G3 cd nm,cV X3 V0 cd nm⟩
theorem a6q(w:World)(p:Addr):w.drew.cell? p=w.cell? p:=World.cell?_of_block (a:=p) rfl
end Go.Proofs.YtddkhnclmeikfaaGreat
