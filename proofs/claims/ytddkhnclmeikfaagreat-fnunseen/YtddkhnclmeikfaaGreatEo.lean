import Derived.Test.YtddkhnclmeikfaaGreatEl
set_option maxRecDepth 100000
set_option maxHeartbeats 1000000
namespace Go.Proofs.YtddkhnclmeikfaaGreat
open Go.RowKit Tryz
attribute [local go_sem ↓] Go.wp_at_zero Go.wp_at_succ
theorem d1q[p:Inhabited uQ](B g:Nat)(x:Hp)(a b c:Nat)(n:Int)(w:World)(h:GOk B w g x)(s:Snd x)(O:a<16)(hc:c<=200)(A:(x.r a).k=2)(v:World)(hv:v.heap.size<=B)(hx:Ext v w):
  Calls prog 253 #[pP g,yQ 9 a b c n] w λe w'=>zN B g x a b c n 9 v e w':=by
 obtain⟨p1,o1,q⟩:=GOk.enter h (w0:=doW w 9 a b c n) (((Ext.refl w).alloc _).alloc _);obtain⟨l,d⟩:∃W,W=doW w 9 a b c n:=⟨_,rfl⟩;have X:=tL.new w 9 a b c n;have G:Ext v (doW w 9 a b c n):=(hx.alloc _).alloc _;rw[<-d] at q X G;obtain⟨br,kr,J⟩:=q.B s.r1.B;have R:=J.c3;obtain⟨r0,r1,r2⟩:=J.r a O;have ac:g<l.heap.size:=uL R;have ae:br<l.heap.size:=uL r0;have K:=uU o1;have G1:=uU q;have V0:=uU (show v.heap.size<=w.heap.size+1 by have:=hx.size;omega);have X1:=uU G;obtain⟨o,I,M,F,E,z,C,L⟩:=X;have ad:w.heap.size<l.heap.size:=uL o;have j0:(0:Int)<=(a:Int):=by omega
 have j1:(a:Int)<16:=by omega
 have D:=uU A;have af:((x.r a).k != 2)=false:=by simpa using A
 obtain⟨en,N,hi,st,nd⟩:=s.at a O A;obtain⟨i,H⟩:∃i,i=x.at a:=⟨_,rfl⟩;have HI:=uU H;rw[<-H] at N hi st nd;have EA:=uU N;have S:=uU s;have i0:(0:Int)<=(i:Int):=by omega
 have i1:(i:Int)<(x.A.length:Int):=by omega
 clear A N H s en;clear nd;clear h J o1 q G;go_enter func253,ntmps253;go_wp2_with fail;unfold doW at d;rw[<-d];clear d
 go_region
 obtain⟨m,f⟩:∃W,W=(l.alloc (.cells #[iv (x.r a).k,iv (x.r a).n,iv (x.r a).a] 152)).drew:=⟨_,rfl⟩;rw[<-f];have j:Ext l m:=by rw[f];exact((Ext.refl _).alloc _).drew
 have WB:yU m l.heap.size 0 (x.r a):=by rw[f];exact⟨by simp [go_sem],by simp [go_sem],by simp [go_sem]⟩
 obtain⟨y0,y1,y2⟩:=WB;have U:=uU (G1.ext j);have X2:=uU (X1.trans j);have ab:l.heap.size<m.heap.size:=uL y0;clear f j R r0 r1 r2 o I M F E z C L;obtain⟨o,I,M,F,E,z,C,L⟩:=U.boxes K;have ag:w.heap.size<m.heap.size:=uL o;have aa:w.heap.size+1<m.heap.size:=uL z;rw[uH EA] at y2;have Y:=uU (λ(W:World) (xW:Ext m W)=>c4w B g x a b c n W (U.ext xW) S O hc D v hv (X2.trans xW));go_wp2_with fail;refine(Y _ (Ext.refl m)).mono ?_;rintro e w3 ⟨y,t,u,T,P,Z,V⟩;have e2:=uH T;subst e2;have DR:=uU P;have Q:=uU Z;have X3:=uU V;clear T Z V P Y;clear o I M F E z C L y0 y1 y2;obtain⟨u0,u1,u2,u3,u4,u5,u6,u7⟩:=Q.boxes K;have ah:w.heap.size+1<w3.heap.size:=uL u5;go_wp2_with fail;refine bodyPost_ret (v:=eX t u) (by simp [results,results253,go_sem,u5,u6]) rfl ?_;exact⟨y,t,u,rfl,.inr ⟨D,DR⟩,GOk.done K Q t u,dH X3 V0 t u⟩
theorem l5do_9[p:Inhabited uQ](B g:Nat)(x:Hp)(a b c:Nat)(n:Int)(w:World)(h:GOk B w g x)(s:Snd x)(T:qL 9 a b c n=true)(D:a<16)(R:c<=200)(v:World)(U:v.heap.size<=B)(C:Ext v w):
  Calls prog 234 #[pP g,yQ 9 a b c n] w λe w'=>zN B g x a b c n 9 v e w':=by
 obtain⟨p1,J,K⟩:=GOk.enter h (w0:=doW w 9 a b c n) (((Ext.refl w).alloc _).alloc _);have E:=uU K;have S:=uU s;have A:=uU J;have q:=uU (λW=>a1n 9 a b c n W);rw[T] at q;have Q:=uU (show v.heap.size<=w.heap.size+1 by have:=C.size;omega);have M:=uU (show Ext v (doW w 9 a b c n) from(C.alloc _).alloc _);have N:=uU (tL.new w 9 a b c n);go_enter func234,ntmps234;go_wp2_with fail;refine(q _).mono ?_;rintro e o ⟨rfl,l⟩;have u:=uU (M.trans l);have m:=uU (N.ext l);obtain⟨t0,t1,t2,Z,t4,Y,X,t7⟩:=uH m;have t:=uU (E.ext l)
 have F:=uU (show Calls prog 253 #[pP g,yQ 9 a b c n] o λe w'=>zN B g x a b c n 9 v e w' from by
  by_cases i:(x.r a).k=2
  ·exact d1q B g x a b c n o t S D R i v U u
  ·exact(b7w B g x 9 a b c n o t S D i v u).mono λe V j=>⟨x,2,0,j.1,.inl ⟨i,rfl,rfl,rfl⟩,j.2.1,j.2.2⟩)
 go_wp2_with fail;refine F.mono ?_;rintro e w3 ⟨y,f,d,G,I,P,L⟩;have O:=uH G;subst O;have z:=uU P;have H:=uU L;obtain⟨u0,u1,u2,u3,u4,u5,u6,u7⟩:=z.boxes A;go_wp2;refine bodyPost_ret (v:=eX f d) (by simp [results,results234,go_sem,u5,u6]) rfl ?_;exact⟨y,f,d,rfl,I,GOk.done A z f d,dH H Q f d⟩
end Go.Proofs.YtddkhnclmeikfaaGreat
