import Derived.Test.YtddkhnclmeikfaaGreatSh4
import Derived.Test.YtddkhnclmeikfaaGreatDsn
import Derived.Test.YtddkhnclmeikfaaGreatVg
set_option maxRecDepth 100000
set_option maxHeartbeats 6000000
namespace Go.Proofs.YtddkhnclmeikfaaGreat
open Go.RowKit Tryz
attribute [local go_sem ↓] Go.wp_at_zero Go.wp_at_succ
variable{B g:Nat}{w W:World}{x y:Hp}
structure GCel[Inhabited uQ](B:Nat)(w:World)(g:Nat)(x:Hp)(i bc kc:Nat)(ap:Option Addr)(kp:Nat):Prop where
 c4:w.cell? ⟨g,4,none⟩=some (.slice (some ⟨bc,0,none⟩) x.A.length kc)
 s:S7 w bc (i*8) (x.c i)
 p7:w.cell? ⟨bc,i*8+7,none⟩=some (.slice ap (x.c i).F.length kp)
 f:∀j,w.frozen? ⟨bc,j,none⟩=false
 lo:B<=bc/\bc<w.heap.size
 set2:∀(W:World) (u:Int),Ext w W->GOk B (W.setCell ⟨bc,i*8+2,none⟩ (iv u)) g (cK x i (c6e (x.c i) u))
 set3:∀(W:World) (u:Int),Ext w W->GOk B (W.setCell ⟨bc,i*8+3,none⟩ (iv u)) g (cK x i (tY (x.c i) u))
theorem GOk.cel[Inhabited uQ](h:GOk B w g x)(i:Nat)(d:i<x.A.length):∃bc kc ap kp,GCel B w g x i bc kc ap kp:=by
 obtain⟨E,y,D,kc,A,C,bc,z,v,t,a,h⟩:=h;have c:0<x.A.length:=by omega
 refine⟨bc,kc,v i,t i,?_,h.rw.s i d,h.rw.p7 i d,(h.rw.nc c).1.2,⟨(h.rw.nc c).2,(h.rw.nc c).1.1⟩,λW u e=>?_,λW u e=>?_⟩
 ·have:=h.bx.2.2.2.2.1;rw[h.hc c] at this;exact this
 ·have b:=h.ext e;obtain⟨o,k,n,r,f,l,m⟩:=b.rw.s i d;refine⟨E,y,D,kc,A,C,bc,z,v,t,a,b.setc d rfl (uX.setCell (S:=λq=>q=bc) (uX.refl _ W) (p:=(aA bc (i*8+2))) rfl _) ⟨?_,?_,World.cell?_setCell_same _ _ _ n,?_,?_,?_,?_⟩ (λj F=>uC _ (.inr (by omega))) ((b.rw.nc c).1.set _ _)⟩
  ·rw[uC _ (.inr (by omega))];exact o
  ·rw[uC _ (.inr (by omega))];exact k
  ·rw[uC _ (.inr (by omega))];exact r
  ·rw[uC _ (.inr (by omega))];exact f
  ·rw[uC _ (.inr (by omega))];exact l
  ·rw[uC _ (.inr (by omega))];exact m
 ·have b:=h.ext e;obtain⟨o,k,n,r,f,l,m⟩:=b.rw.s i d;refine⟨E,y,D,kc,A,C,bc,z,v,t,a,b.setc d rfl (uX.setCell (S:=λq=>q=bc) (uX.refl _ W) (p:=(aA bc (i*8+3))) rfl _) ⟨?_,?_,?_,World.cell?_setCell_same _ _ _ r,?_,?_,?_⟩ (λj F=>uC _ (.inr (by omega))) ((b.rw.nc c).1.set _ _)⟩
  ·rw[uC _ (.inr (by omega))];exact o
  ·rw[uC _ (.inr (by omega))];exact k
  ·rw[uC _ (.inr (by omega))];exact n
  ·rw[uC _ (.inr (by omega))];exact f
  ·rw[uC _ (.inr (by omega))];exact l
  ·rw[uC _ (.inr (by omega))];exact m
abbrev b3v(w:World):World:=w.alloc (.cells #[iv 0,iv 0] 41)
structure ABox(w W:World):Prop where
 r0:W.cell? ⟨w.heap.size,0,none⟩=some (iv 0)
 r1:W.cell? ⟨w.heap.size,1,none⟩=some (iv 0)
 rf:∀j,W.frozen? ⟨w.heap.size,j,none⟩=false
theorem ABox.new(w:World):ABox w (b3v w):=⟨by simp [go_sem],by simp [go_sem],λj=>by simp [go_sem]⟩
theorem GOk.abox{p p1:Inhabited uQ}(o:Own p w.heap.size (b3v w).heap.size (b3v w) p1)(h:@GOk p1 B W g y):ABox w W:=by
 have e:=GOk.own o h w.heap.size (Nat.le_refl _) (by simp [b3v]);have n:=ABox.new w;exact⟨(World.cell?_of_block (a:=(aA w.heap.size 0)) e).trans n.r0,(World.cell?_of_block (a:=(aA w.heap.size 1)) e).trans n.r1,λj=>(World.frozen?_of_block (a:=(aA w.heap.size j)) e).trans (n.rf j)⟩
theorem GOk.done1{p p1:Inhabited uQ}(o:Own p w.heap.size (b3v w).heap.size (b3v w) p1)(h:@GOk p1 B W g y)(b a:Int):@GOk p B (putA W w.heap.size b a) g y:=
 GOk.leave o h (uX.setCell (uX.setCell (uX.refl _ W) (p:=(aA w.heap.size 0)) ⟨Nat.le_refl _,by simp [b3v]⟩ _) (p:=(aA w.heap.size 1)) ⟨Nat.le_refl _,by simp [b3v]⟩ _)
theorem c7z[p:Inhabited uQ](B g:Nat)(x:Hp)(a:Nat)(w:World)(h:GOk B w g x)(s:Snd x)(H:a<16)(v:World)(hv:v.heap.size<=B)(hx:Ext v w):
  Calls prog 254 #[pP g,iv a] w λe w'=>∃(y:Hp) (nm:Int),e=.returned (eX 0 nm)/\Hid (d1b x a y nm)/\Hid (GOk B w' g y)/\Ext v w':=by
 obtain⟨p1,o1,L⟩:=GOk.enter h (w0:=b3v w) ((Ext.refl w).alloc _);have G:=uU o1;have Y:=uU L;have C:=uU s.r1.B
 have QN:=uU (show Calls prog 92 #[pP g] (b3v w) λe w'=>∃r:Int,e=.returned (iv r)/\Hid (zZ x x.A.length r)/\Ext (b3v w) w' from by
  obtain⟨ar,Z,ac,kc,vg,j,F,pb,pa,pk,aa,h⟩:=L;obtain⟨ag,kg,M⟩:=h.hat s;refine(c4t x g _ M s.ok.n8).mono ?_;rintro e w' h2;exact h2)
 have V0:=uU (show v.heap.size<=w.heap.size from hx.size);have XD:=uU (show Ext v (b3v w) from hx.alloc _);have i0:(0:Int)<=(a:Int):=by omega
 have i1:(a:Int)<16:=by omega
 clear h s o1 L;go_enter func254,ntmps254;go_wp2_with fail;refine QN.mono ?_;rintro e k ⟨r,rfl,u,P⟩;have X1:=uU (XD.trans P);have X:=uU (Y.ext P);clear P XD Y QN;by_cases h0:r<0
 ·have D:=uU (show zZ x x.A.length (-1) by
   rcases uH u with⟨e,h⟩ | ⟨i,e,_⟩
   ·exact .inl ⟨rfl,h⟩
   ·omega)
  clear u;obtain⟨j,Z,d⟩:=X.B C;have R1:=uU d;have A:=d.c3;obtain⟨E,I,N⟩:=d.r a H;have f:=d.f;have Q:g<k.heap.size:=uL A;have J:j<k.heap.size:=uL E;have S:=d.lo.1;have l:=uU (show GOk B (dZ k j (a*3) Wd0) g (regTo x a Wd0)/\Ext v (dZ k j (a*3) Wd0) from⟨d.set k a Wd0 (Ext.refl _) H,(a0d k j (a*3) Wd0).ext X1 (λq hq e=>by omega)⟩);obtain⟨W2,b⟩:∃W,W=dZ k j (a*3) Wd0:=⟨_,rfl⟩;rw[<-b] at l;unfold dZ Wd0 at b;clear d;go_wp2_with fail;rw[<-b];refine(cC 0 _).mono ?_;rintro e R ⟨rfl,n⟩;have z:=uU (l.1.ext n);have O:=uU (l.2.trans n);obtain⟨u5,u6,u7⟩:=GOk.abox G z;have V:w.heap.size<R.heap.size:=uL u5;clear n l b A E I N f;go_wp2_with fail;refine bodyPost_ret (v:=eX 0 0) (by simp [results,results254,go_sem,u5,u6]) rfl ?_;exact⟨_,0,rfl,.inl ⟨D,rfl,rfl⟩,GOk.done1 G z 0 0,dH O V0 0 0⟩
 ·obtain⟨i,hi,K,D⟩:∃i:Nat,r=(i:Int)/\i<x.A.length/\Hid (zZ x x.A.length (i:Int)):=by
   rcases u.form with e | ⟨i,e,h⟩
   ·omega
   ·exact⟨i,e,h,by have:=uH u;rw[e] at this;exact this⟩
  subst hi;clear u;obtain⟨F,kc,ap,kp,t⟩:=X.cel i K;have c4:=t.c4;obtain⟨q0,q1,q2,q3,q4,q5,q6⟩:=t.s;have fc:=t.f;have U:g<k.heap.size:=uL c4;have T:F<k.heap.size:=uL q3;have k0:(0:Int)<=(i:Int):=by omega
  have k1:(i:Int)<(x.A.length:Int):=by omega
  have G2:=uU (t.set3 k 3 (Ext.refl _));have X2:=uU (X1.setCell (p:=(aA F (i*8+3))) (Nat.le_trans hv t.lo.1) (iv 3));obtain⟨o,m⟩:∃W,W=k.setCell (aA F (i*8+3)) (iv 3):=⟨_,rfl⟩;rw[<-m] at G2 X2;obtain⟨j,Z,d⟩:=G2.B (show(cK x i (tY (x.c i) 3)).B.length=16 from uH C);have A:=d.c3;obtain⟨E,I,N⟩:=d.r a H;have f:=d.f;have Q:g<o.heap.size:=uL A;have J:j<o.heap.size:=uL E;have S:=d.lo.1;have l:=uU (show GOk B (dZ o j (a*3) ⟨2,0,i⟩) g (regTo (cK x i (tY (x.c i) 3)) a ⟨2,0,i⟩)/\Ext v (dZ o j (a*3) ⟨2,0,i⟩) from⟨d.set o a ⟨2,0,i⟩ (Ext.refl _) H,(a0d o j (a*3) ⟨2,0,i⟩).ext X2 (λq hq e=>by omega)⟩);obtain⟨W2,b⟩:∃W,W=dZ o j (a*3) ⟨2,0,i⟩:=⟨_,rfl⟩;rw[<-b] at l;unfold dZ at b;clear d t
  go_upto_region 6 with(fail)
  rw[<-m];clear m c4 q0 q1 q2 q3 q4 q5 q6 fc U T;go_wp2_with fail;rw[<-b];refine(cC 1 _).mono ?_;rintro e R ⟨rfl,n⟩;have z:=uU (l.1.ext n);have O:=uU (l.2.trans n);obtain⟨u5,u6,u7⟩:=GOk.abox G z;have V:w.heap.size<R.heap.size:=uL u5;clear n l b A E I N f;go_wp2_with fail;refine bodyPost_ret (v:=eX 0 1) (by simp [results,results254,go_sem,u5,u6]) rfl ?_;exact⟨_,1,rfl,.inr ⟨i,D,rfl,rfl⟩,GOk.done1 G z 0 1,dH O V0 0 1⟩
structure GPr[Inhabited uQ](B:Nat)(w:World)(g:Nat)(x:Hp)(i k bc kc bp kp:Nat):Prop where
 c4:w.cell? ⟨g,4,none⟩=some (.slice (some ⟨bc,0,none⟩) x.A.length kc)
 p7:w.cell? ⟨bc,i*8+7,none⟩=some (.slice (some ⟨bp,0,none⟩) (x.c i).F.length kp)
 pr:qN w bp (k*6) ((x.c i).p k)
 f:∀j,w.frozen? ⟨bp,j,none⟩=false
 lo:B<=bp/\bp<w.heap.size
 set:∀(W:World) (q:Pr),Ext w W->GOk B (tH W bp (k*6) q) g (cK x i { x.c i with F:=(x.c i).F.set k q })
theorem GOk.prw[Inhabited uQ](h:GOk B w g x)(i:Nat)(a:i<x.A.length)(k:Nat)(f:k<(x.c i).F.length):∃bc kc bp kp,GPr B w g x i k bc kc bp kp:=by
 obtain⟨D,t,A,kc,v,y,bc,l,C,n,b,h⟩:=h;have s:0<x.A.length:=by omega
 have m:0<(x.c i).F.length:=by omega
 obtain⟨u,o,_,r⟩:=h.rw.pl i a (h.rw.pw a m);refine⟨bc,kc,l i,n i,?_,?_,h.rw.p i a k f,o.2,⟨r,o.1⟩,λW q e=>?_⟩
 ·have:=h.bx.2.2.2.2.1;rw[h.hc s] at this;exact this
 ·have:=h.rw.p7 i a;rw[u] at this;exact this
 ·have d:=h.ext e;exact⟨D,t,A,kc,v,y,bc,l,C,n,b,d.setp i a k f q (a1t _ _ _ _) (b5x (d.rw.pl i a (d.rw.pw a m)).2.1.n1 _ _) (b5w _ _ _ _ _ (d.rw.p i a k f)) (λj z=>a7r _ _ _ _ j z)⟩
theorem GPr.ext[Inhabited uQ]{w':World}{i k bc kc bp kp:Nat}(h:GPr B w g x i k bc kc bp kp)(e:Ext w w'):GPr B w' g x i k bc kc bp kp:=
 ⟨e.keep h.c4,e.keep h.p7,h.pr.ext e,λj=>((uK e).2 bp j h.lo.2).trans (h.f j),⟨h.lo.1,Nat.lt_of_lt_of_le h.lo.2 e.size⟩,λW q a=>h.set W q (e.trans a)⟩
theorem d1h[p:Inhabited uQ](B g:Nat)(x:Hp)(a b c:Nat)(n:Int)(w:World)(h:GOk B w g x)(s:Snd x)(ha:a<16)(hb:b<16)(v:World)(hv:v.heap.size<=B)(hx:Ext v w):
  Calls prog 252 #[pP g,yQ 5 a b c n] w λe w'=>zN B g x a b c n 5 v e w':=by
 obtain⟨p1,o1,g1⟩:=GOk.enter h (w0:=doW w 5 a b c n) (((Ext.refl w).alloc _).alloc _);obtain⟨br,kr,u⟩:=g1.B s.r1.B;have L:=uU o1;have V:=uU g1;have R1:=uU u;have S:=uU s;have V0:=uU (show v.heap.size<=w.heap.size+1 by have:=hx.size;omega);have X1:=uU (show Ext v (doW w 5 a b c n) from(hx.alloc _).alloc _);obtain⟨C,Q,t2,H,X,t5,U,t7⟩:=tL.new w 5 a b c n;have G:=u.c3;obtain⟨N,O,I⟩:=u.r b hb;have j0:(0:Int)<=(b:Int):=by omega
 have j1:(b:Int)<16:=by omega
 clear h s u o1 g1;cases R:((x.r b).k == 2)
 ·have af:((x.r b).k != 2)=true:=by simpa using R
  have D:=uU (show(x.r b).k≠2 by simpa using R);clear R;go_enter func252,ntmps252;go_wp2_with fail;refine(a0m 2 _).mono ?_;rintro e w3 ⟨rfl,J⟩;have A:=uU (V.ext J);have Y:=uU (X1.trans J);clear J G N O I C Q t2 H X t5 U t7;obtain⟨u0,u1,u2,u3,u4,u5,u6,u7⟩:=A.boxes L;have aa:w.heap.size+1<w3.heap.size:=uL u5;go_wp2_with fail;refine bodyPost_ret (v:=eX 2 0) (by simp [results,results252,go_sem,u5,u6]) rfl ?_;exact⟨_,2,0,rfl,.inl ⟨D,rfl,rfl,rfl⟩,GOk.done L A 2 0,dH Y V0 2 0⟩
 ·have af:((x.r b).k != 2)=false:=by simpa using R
  have D:=uU (show(x.r b).k=2 by simpa using R);obtain⟨_,ea,hi,_,_⟩:=S.at b hb D;have Z:=S.ok.p200 _ hi;obtain⟨i,hI⟩:∃i,i=x.at b:=⟨_,rfl⟩;have HI:=uU hI;rw[<-hI] at ea hi Z;rw[ea] at I;clear R ea hI;have i0:(0:Int)<=(i:Int):=by omega
  have i1:(i:Int)<(x.A.length:Int):=by omega
  by_cases hc:c<(x.c i).F.length
  ·have ag:¬((c:Int)≥((x.c i).F.length:Int)):=by omega
   have au:(c:Int)<((x.c i).F.length:Int):=by omega
   have ak:(0:Int)<=(c:Int):=by omega
   obtain⟨bc,kc,bp,kp,hp⟩:=V.prw i hi c hc;have P1:=uU hp;have T:=hp.c4;have P:=hp.p7;obtain⟨e0,e1,e2,e3,e4,e5⟩:=hp.pr;clear hp;go_enter func252,ntmps252;go_wp2_with fail;go_quiet (fail);obtain⟨o,l⟩:∃W,W=(doW w 5 a b c n).drewN nq:=⟨_,rfl⟩;rw[<-l];have d:Ext (doW w 5 a b c n) o:=by rw[l];exact Ext.drewN (Ext.refl _) nq
   have G2:=uU (V.ext d);have X2:=uU (X1.trans d);have T:=d.keep T;have P:=d.keep P;have C:=d.keep C;have H:=d.keep H;have e0:=d.keep e0;have e1:=d.keep e1;have e2:=d.keep e2;have e3:=d.keep e3;have e4:=d.keep e4;have e5:=d.keep e5;have ad:g<o.heap.size:=uL T;have ae:bc<o.heap.size:=uL P;have ab:bp<o.heap.size:=uL e0;have ah:w.heap.size<o.heap.size:=uL C;clear l d;clear G N O I Q t2 X t5 U t7;go_wp2_with fail
   go_region
   obtain⟨y,z⟩:∃W,W=(o.alloc (.cells #[iv ((x.c i).p c).key.k,iv ((x.c i).p c).key.n,iv ((x.c i).p c).key.a,iv ((x.c i).p c).val.k,iv ((x.c i).p c).val.n,iv ((x.c i).p c).val.a] 154)).drew:=⟨_,rfl⟩;rw[<-z];have M:Ext o y:=by rw[z];exact((Ext.refl o).alloc _).drew
   have PB:qN y o.heap.size 0 ((x.c i).p c):=by rw[z];exact⟨by simp [go_sem],by simp [go_sem],by simp [go_sem],by simp [go_sem],by simp [go_sem],by simp [go_sem]⟩
   obtain⟨y0,y1,y2,y3,y4,y5⟩:=PB;have A:=uU (G2.ext M);have Y:=uU (X2.trans M);clear z M T P C H e0 e1 e2 e3 e4 e5 ad ae ab ah;obtain⟨C,Q,t2,H,X,t5,U,t7⟩:=A.boxes L;obtain⟨t,am,u⟩:=A.B S.r1.B;have R3:=uU u;have G:=u.c3;obtain⟨N,O,I⟩:=u.r a ha;have f:=u.f;have ao:g<y.heap.size:=uL G;have ai:t<y.heap.size:=uL N;have aq:=u.lo.1;have aa:w.heap.size<y.heap.size:=uL C;have al:o.heap.size<y.heap.size:=uL y0;have a0:(0:Int)<=(a:Int):=by omega
   have a1:(a:Int)<16:=by omega
   have FK:=uU (show uW ((x.c i).p c).key x.A.length/\uW ((x.c i).p c).val x.A.length from by
    have:=((S.r4.2 i hi).2 c hc).2 (by rw[uH HI];exact(S.at b hb D).2.2.2.2);exact⟨this.1.1,this.2.1⟩)
   obtain⟨E,F⟩:∃r,r=eZ x ((x.c i).p c).key:=⟨_,rfl⟩
   have QR:=uU (show ∀W,Ext y W->Calls prog 138 #[pP g,(((x.c i).p c).key).v] W λe w'=>e=.returned E.v/\Ext W w' from λW xW=>by
    rw[F];obtain⟨ar,kr,ac,kc,vg,br,bc,pb,pa,pk,aj,h⟩:=A.ext xW;exact a5m ((x.c i).p c).key W h FK.1)
   have HR:=uU F;have FN:=uU (show ∀W,Ext y W->GOk B (dZ W t (a*3) E) g (regTo x a E)/\Ext v (dZ W t (a*3) E) from λW xW=>⟨R3.set W a E xW ha,(a0d W t (a*3) E).ext (Y.trans xW) (λq hq e=>by omega)⟩);unfold dZ at FN;clear u F;go_wp2_with fail;go_cut [] (λwx=>Hid (GOk B wx g (regTo x a E))/\Hid (Ext v wx))
   case first=>
    go_region_with (go_at_call 138;refine(QR _ (Ext.refl y).drew).mono ?_;rintro e w5 ⟨rfl,x5⟩;have j:=Ext.trans (Ext.refl y).drew x5;have k3:=j.keep G;have k0:=j.keep N;have k1:=j.keep O;have k2:=j.keep I;have kf:=λm=>((uK j).2 t m ai).trans (f m);have ka:=j.keep Q;have F5:=uU (FN w5 j);clear x5 j)
    all_goals
     go_wp2_with fail;go_meet;exact⟨F5.1,F5.2⟩
   case rest=>
    obtain⟨G5,X5⟩:=hcut;clear G N O I f C Q t2 H X t5 U t7 y0 y1 y2 y3 y4 y5 FN QR;go_wp2_with fail;refine(cC 0 _).mono ?_;rintro e w6 ⟨rfl,x6⟩;have G6:=uU (G5.ext x6);have X6:=uU (X5.trans x6);obtain⟨u0,u1,u2,u3,u4,u5,u6,u7⟩:=G6.boxes L;have an:w.heap.size+1<w6.heap.size:=uL u5;clear x6;go_wp2_with fail;refine bodyPost_ret (v:=eX 0 0) (by simp [results,results252,go_sem,u5,u6]) rfl ?_;exact⟨_,0,0,rfl,.inr (.inr ⟨D,by rw[<-uH HI];exact hc,by rw[<-uH HI];show regTo x a E=regTo x a (eZ x ((x.c i).p c).key);rw[<-uH HR],rfl,rfl⟩),GOk.done L G6 0 0,dH X6 V0 0 0⟩
  ·have ag:(c:Int)≥((x.c i).F.length:Int):=by omega
   obtain⟨bc,kc,ap,kp,K⟩:=V.cel i hi;have T:=K.c4;have P:=K.p7;clear K;go_enter func252,ntmps252;go_wp2_with fail;go_quiet (fail);obtain⟨o,l⟩:∃W,W=(doW w 5 a b c n).drewN nq:=⟨_,rfl⟩;rw[<-l];have d:Ext (doW w 5 a b c n) o:=by rw[l];exact Ext.drewN (Ext.refl _) nq
   clear l;go_wp2_with fail;refine(a0m 3 _).mono ?_;rintro e w3 ⟨rfl,J⟩;have A:=uU (V.ext (d.trans J));have Y:=uU (X1.trans (d.trans J));clear J d G N O I C Q t2 H X t5 U t7 T P;obtain⟨u0,u1,u2,u3,u4,u5,u6,u7⟩:=A.boxes L;have aa:w.heap.size+1<w3.heap.size:=uL u5;go_wp2_with fail;refine bodyPost_ret (v:=eX 3 0) (by simp [results,results252,go_sem,u5,u6]) rfl ?_;exact⟨_,3,0,rfl,.inr (.inl ⟨D,by rw[<-uH HI];omega,rfl,rfl,rfl⟩),GOk.done L A 3 0,dH Y V0 3 0⟩
theorem GOk.set9[Inhabited uQ](h:GOk B w g x)(v:Int):GOk B (w.setCell (aA g 9) (iv v)) g { x with per:=v }:=by
 obtain⟨b,i,m,l,e,f,j,k,c,d,a,h⟩:=h;exact⟨_,_,_,_,_,_,_,_,_,_,_,h.boxed (x':={ x with per:=v }) (uX.setCell (S:=λq=>q=g) (uX.refl _ w) (p:=(aA g 9)) rfl _) (h.nf.set _ _) rfl rfl rfl (h.bx.set9 v)⟩
theorem GOk.set10[Inhabited uQ](h:GOk B w g x)(v:Int):GOk B (w.setCell (aA g 10) (iv v)) g { x with V:=v }:=by
 obtain⟨b,i,m,l,e,f,j,k,c,d,a,h⟩:=h;exact⟨_,_,_,_,_,_,_,_,_,_,_,h.boxed (x':={ x with V:=v }) (uX.setCell (S:=λq=>q=g) (uX.refl _ w) (p:=(aA g 10)) rfl _) (h.nf.set _ _) rfl rfl rfl (h.bx.set10 v)⟩
theorem a5q[p:Inhabited uQ](B g:Nat)(x:Hp)(k:Nat)(op:Int)(a b c:Nat)(n:Int)(w:World)(hk:(k=2/\op=2)\/(k=3/\op=3)\/(k=4/\op=4)\/(k=13/\op=13)\/(k=14/\op=14)\/(k=15/\op=15))(h:GOk B w g x)(s:Snd x)(ok:qL op a b c n=true)(v:World)(hv:v.heap.size<=B)(hx:Ext v w)(ha:a<16)(hB:k=4\/k=13->b<16):
  Calls prog 234 #[pP g,yQ op a b c n] w λe w'=>zN B g x a b c n k v e w':=by
 obtain⟨p1,o1,g1⟩:=GOk.enter h (w0:=doW w op a b c n) (((Ext.refl w).alloc _).alloc _);obtain⟨A,kr,hr⟩:=g1.B s.r1.B;have HR:=uU hr;have i0:(0:Int)<=(a:Int):=by omega
 have i1:(a:Int)<16:=by omega
 have HG:=uU g1;have t:=uU o1;have QA:=uU (λW=>a1n op a b c n W);rw[ok] at QA;have G:=uU (show v.heap.size<=w.heap.size+1 by have:=hx.size;omega);have XD:=uU (show Ext v (doW w op a b c n) from(hx.alloc _).alloc _);have BX:=uU (tL.new w op a b c n);clear h s hr o1 g1;rcases hk with⟨rfl,rfl⟩ | ⟨rfl,rfl⟩ | ⟨rfl,rfl⟩ | ⟨rfl,rfl⟩ | ⟨rfl,rfl⟩ | ⟨rfl,rfl⟩
 all_goals
  go_enter func234,ntmps234;go_wp2_with fail;refine(QA _).mono ?_;rintro e j ⟨rfl,X⟩;have C:=uU (XD.trans X);have U:=uU (BX.ext X);obtain⟨R,N,M,O,K,P,H,L⟩:=uH U;have Z:=uU (HG.ext X);have R1:=uU (HR.ext X);have F:=R1.c3;obtain⟨D,E,I⟩:=R1.r a ha;clear X QA U BX XD HG HR
 ·have f:=R1.f;have aa:=R1.lo.1;have u:=uU (show GOk B (dZ j A (a*3) ⟨1,n,0⟩) g (regTo x a ⟨1,n,0⟩)/\Ext v (dZ j A (a*3) ⟨1,n,0⟩) from⟨R1.set j a ⟨1,n,0⟩ (Ext.refl _) ha,(a0d j A (a*3) ⟨1,n,0⟩).ext C (λq hq e=>by omega)⟩);obtain⟨z,d⟩:∃W,W=dZ j A (a*3) ⟨1,n,0⟩:=⟨_,rfl⟩;rw[<-d] at u;unfold dZ at d;clear M O;go_wp2_with fail
  go_region
  go_wp2_with fail;rw[<-d];refine(cC 0 _).mono ?_;rintro e S ⟨rfl,l⟩;have m:=Ext.trans (Ext.refl z).drew l;have o:=uU (u.1.ext m);have y:=uU (u.2.trans m);obtain⟨u0,u1,u2,u3,u4,u5,u6,u7⟩:=o.boxes t;clear d u F D E I f R N K P H L l m;go_wp2_with fail;refine bodyPost_ret (v:=eX 0 0) (by simp [results,results234,go_sem,u5,u6]) rfl ?_;exact a1k t o y G (⟨rfl,rfl,rfl⟩)
 ·have f:=R1.f;have aa:=R1.lo.1;have u:=uU (show GOk B (dZ j A (a*3) Wd0) g (regTo x a Wd0)/\Ext v (dZ j A (a*3) Wd0) from⟨R1.set j a Wd0 (Ext.refl _) ha,(a0d j A (a*3) Wd0).ext C (λq hq e=>by omega)⟩);obtain⟨z,d⟩:∃W,W=dZ j A (a*3) Wd0:=⟨_,rfl⟩;rw[<-d] at u;unfold dZ Wd0 at d;go_wp2_with fail
  go_region
  go_wp2_with fail;rw[<-d];refine(cC 0 _).mono ?_;rintro e S ⟨rfl,l⟩;have m:=Ext.trans (Ext.refl z).drew l;have o:=uU (u.1.ext m);have y:=uU (u.2.trans m);clear d u F D E I f R N M O K P H L l m;obtain⟨u0,u1,u2,u3,u4,u5,u6,u7⟩:=o.boxes t;go_wp2_with fail;refine bodyPost_ret (v:=eX 0 0) (by simp [results,results234,go_sem,u5,u6]) rfl ?_;exact a1k t o y G (⟨rfl,rfl,rfl⟩)
 ·have hb:=hB (by simp);have j0:(0:Int)<=(b:Int):=by omega
  have j1:(b:Int)<16:=by omega
  obtain⟨Y,T,V⟩:=R1.r b hb;have f:=R1.f;have aa:=R1.lo.1;have u:=uU (show GOk B (dZ j A (a*3) (x.r b)) g (regTo x a (x.r b))/\Ext v (dZ j A (a*3) (x.r b)) from⟨R1.set j a (x.r b) (Ext.refl _) ha,(a0d j A (a*3) (x.r b)).ext C (λq hq e=>by omega)⟩);obtain⟨z,d⟩:∃W,W=dZ j A (a*3) (x.r b):=⟨_,rfl⟩;rw[<-d] at u;unfold dZ at d;go_wp2_with fail
  go_region
  go_wp2_with fail;rw[<-d];refine(cC 0 _).mono ?_;rintro e S ⟨rfl,l⟩;have m:=Ext.trans (Ext.refl z).drew l;have o:=uU (u.1.ext m);have y:=uU (u.2.trans m);clear d u F D E I f R N M O K P H L l m Y T V;obtain⟨u0,u1,u2,u3,u4,u5,u6,u7⟩:=o.boxes t;go_wp2_with fail;refine bodyPost_ret (v:=eX 0 0) (by simp [results,results234,go_sem,u5,u6]) rfl ?_;exact a1k t o y G (⟨rfl,rfl,rfl⟩)
 ·have hb:=hB (by simp);have j0:(0:Int)<=(b:Int):=by omega
  have j1:(b:Int)<16:=by omega
  cases q:wdB (x.r a) (x.r b)
  ·have we:=λW=>wd_eq (x.r a) (x.r b) W
   rw[q] at we;have Q:=uU q;clear q;obtain⟨Y,T,V⟩:=R1.r b hb;go_wp2_with fail;go_quiet (fail);obtain⟨z,d⟩:∃W,W=j.drewN nq:=⟨_,rfl⟩;rw[<-d];have i:Ext j z:=by rw[d];exact Ext.drewN (Ext.refl j) nq
   clear d;go_wp2_with fail;refine(cC 0 _).mono ?_;rintro e S ⟨rfl,l⟩;have o:=uU (Z.ext (i.trans l));have y:=uU (C.trans (i.trans l));clear F D E I Y T V R N M O K P H L l i we;obtain⟨u0,u1,u2,u3,u4,u5,u6,u7⟩:=o.boxes t;go_wp2_with fail;refine bodyPost_ret (v:=eX 0 0) (by simp [results,results234,go_sem,u5,u6]) rfl ?_;exact a1k t o y G (⟨rfl,rfl,by rw[uH Q];rfl⟩)
  ·have we:=λW=>wd_eq (x.r a) (x.r b) W
   rw[q] at we;have Q:=uU q;clear q;obtain⟨Y,T,V⟩:=R1.r b hb;go_wp2_with fail;go_quiet (fail);obtain⟨z,d⟩:∃W,W=j.drewN nq:=⟨_,rfl⟩;rw[<-d];have i:Ext j z:=by rw[d];exact Ext.drewN (Ext.refl j) nq
   clear d;go_wp2_with fail;refine(cC 1 _).mono ?_;rintro e S ⟨rfl,l⟩;have o:=uU (Z.ext (i.trans l));have y:=uU (C.trans (i.trans l));clear F D E I Y T V R N M O K P H L l i we;obtain⟨u0,u1,u2,u3,u4,u5,u6,u7⟩:=o.boxes t;go_wp2_with fail;refine bodyPost_ret (v:=eX 0 1) (by simp [results,results234,go_sem,u5,u6]) rfl ?_;exact a1k t o y G (⟨rfl,rfl,by rw[uH Q];rfl⟩)
 ·go_wp2_with fail;go_region_with (go_at_call 161;refine(cC (x.r a).k _).mono ?_;rintro e S ⟨rfl,l⟩;have J:=Ext.trans (Ext.refl j).drew l;have o:=uU (Z.ext J);have y:=uU (C.trans J);obtain⟨u0,u1,u2,u3,u4,u5,u6,u7⟩:=o.boxes t;clear l J)
  all_goals
   go_wp2_with fail;refine bodyPost_ret (v:=eX 0 (x.r a).k) (by simp [results,results234,go_sem,u5,u6]) rfl ?_;exact a1k t o y G (⟨rfl,rfl,rfl⟩)
 ·cases q:((x.r a).k == 1)
  ·have q2:((x.r a).k != 1)=true:=by simpa using q
   have QD:=uU (show(x.r a).k≠1 by simpa using q);clear q;go_wp2_with fail;go_quiet (fail);obtain⟨z,d⟩:∃W,W=j.drewN nq:=⟨_,rfl⟩;rw[<-d];have i:Ext j z:=by rw[d];exact Ext.drewN (Ext.refl j) nq
   clear d;go_wp2_with fail;refine(a0m 2 _).mono ?_;rintro e S ⟨rfl,l⟩;have o:=uU (Z.ext (i.trans l));have y:=uU (C.trans (i.trans l));clear F D E I R N M O K P H L l;obtain⟨u0,u1,u2,u3,u4,u5,u6,u7⟩:=o.boxes t;go_wp2_with fail;refine bodyPost_ret (v:=eX 2 0) (by simp [results,results234,go_sem,u5,u6]) rfl ?_;exact a1k t o y G (⟨rfl,.inl ⟨QD,rfl,rfl⟩⟩)
  ·have q2:((x.r a).k != 1)=false:=by simpa using q
   have QD:=uU (show(x.r a).k=1 by simpa using q);clear q;go_wp2_with fail;go_quiet (fail);obtain⟨z,d⟩:∃W,W=j.drewN nq:=⟨_,rfl⟩;rw[<-d];have i:Ext j z:=by rw[d];exact Ext.drewN (Ext.refl j) nq
   have G2:=uU (Z.ext i);have X2:=uU (C.trans i);have e3:=i.keep F;have e0:=i.keep D;have e1:=i.keep E;obtain⟨u0,u1,u2,u3,u4,u5,u6,u7⟩:=G2.boxes t;clear d i F D E I R N M O K P H L;go_wp2_with fail
   go_region
   all_goals
    go_wp2_with fail;refine bodyPost_ret (v:=eX 0 (x.r a).n) (by simp [results,results234,go_sem,u5,u6]) rfl ?_;exact⟨x,0,(x.r a).n,rfl,⟨rfl,.inr ⟨QD,rfl,rfl⟩⟩,GOk.doneD t G2 0 (x.r a).n,(dH X2 G 0 (x.r a).n).drew⟩
theorem a6k[p:Inhabited uQ](B g:Nat)(x:Hp)(k:Nat)(op:Int)(a b c:Nat)(n:Int)(w:World)(hk:(k=18/\op=18)\/(k=19/\op=19)\/(k=20/\op=20)\/(k=21/\op=21)\/(k=22/\op=22)\/(k=23/\op=23)\/(k=24/\op=24))(h:GOk B w g x)(s:Snd x)(ok:qL op a b c n=true)(v:World)(hv:v.heap.size<=B)(hx:Ext v w)(ha:a<16)(hC:k=22->c<=100000):
  Calls prog 234 #[pP g,yQ op a b c n] w λe w'=>zN B g x a b c n k v e w':=by
 obtain⟨p1,o1,g1⟩:=GOk.enter h (w0:=doW w op a b c n) (((Ext.refl w).alloc _).alloc _);have S:=uU s;have HG:=uU g1;have j:=uU o1;have QA:=uU (λW=>a1n op a b c n W);rw[ok] at QA;have Q:=uU (show v.heap.size<=w.heap.size+1 by have:=hx.size;omega);have XD:=uU (show Ext v (doW w op a b c n) from(hx.alloc _).alloc _);have BX:=uU (tL.new w op a b c n);clear h s o1 g1;rcases hk with⟨rfl,rfl⟩ | ⟨rfl,rfl⟩ | ⟨rfl,rfl⟩ | ⟨rfl,rfl⟩ | ⟨rfl,rfl⟩ | ⟨rfl,rfl⟩ | ⟨rfl,rfl⟩
 all_goals
  go_enter func234,ntmps234;go_wp2_with fail;refine(QA _).mono ?_;rintro e t ⟨rfl,x1⟩;have D:=uU (XD.trans x1);have Y:=uU (BX.ext x1);obtain⟨N,G,M,J,K,P,O,F⟩:=uH Y;have m:=uU (HG.ext x1);clear x1 QA Y BX XD HG
 ·have QS:=uU (show Calls prog 90 #[pP g] t λe w'=>∃H:Nat->Bool,e=.returned (.tuple #[iv (a1o x H x.A.length),iv (a9u x H x.A.length)])/\Hid (∀i,H i=true↔dE x i)/\GOk B w' g (a4t x H)/\Ext v w' from by
   obtain⟨V,R,T,X,vg,br,bc,pb,pa,pk,o,h⟩:=m;exact b9o ⟨pb,pa,pk,o,h⟩ S v hv D)
  go_wp2_with fail;refine QS.mono ?_;rintro e w2 ⟨H,rfl,hh,q,u⟩;have A:=uU q;clear q;go_wp2_with fail;refine(cC (a9u x H x.A.length:Nat) _).mono ?_;rintro e U ⟨rfl,d⟩;have f:=uU (A.ext d);have l:=uU (u.trans d);clear d N G M J K P O F;obtain⟨u0,u1,u2,u3,u4,u5,u6,u7⟩:=f.boxes j;go_wp2_with fail;refine bodyPost_ret (v:=eX 0 (a9u x H x.A.length:Nat)) (by simp [results,results234,go_sem,u5,u6]) rfl ?_;exact a1k j f l Q (⟨rfl,H,hh,rfl,rfl⟩)
 ·have QP:=uU (λ(W:World) (xW:Ext t W)=>c7z B g x a W (m.ext xW) S ha v hv (D.trans xW));go_wp2_with fail;refine(QP _ (Ext.refl _)).mono ?_;rintro e U ⟨y,nm,rfl,aa,g3,d⟩;obtain⟨cd,E⟩:∃cd:Int,cd=0:=⟨_,rfl⟩;have dr:=uU (show DoR x a b c n y cd nm 19 from⟨E,aa⟩);have f:=uU g3;have l:=uU d;rw[<-E];clear g3 d QP E aa;obtain⟨u0,u1,u2,u3,u4,u5,u6,u7⟩:=f.boxes j;clear N G M J K P O F;go_wp2_with fail;refine bodyPost_ret (v:=eX cd nm) (by simp [results,results234,go_sem,u5,u6]) rfl ?_;exact a1k j f l Q dr
 ·obtain⟨Z,V,R,T,X,kg,HT⟩:∃Z V R T X kg,Hid (HAt t g x V R T X Z kg):=by
   obtain⟨V,R,T,X,vg,br,bc,pb,pa,pk,o,h⟩:=m;obtain⟨Z,kg,I⟩:=h.hat S;exact⟨Z,V,R,T,X,kg,I⟩
  go_wp2_with fail;refine(a7u x g t HT S.r2 S.r4 S.ok.n8).mono ?_;rintro e w2 ⟨vv,L,rfl,sn,hL,C⟩;have SN:=uU sn;have H2:=uU (HT.ext C);have A:=uU (m.ext C);have u:=D.trans C;clear sn C;go_wp2_with fail;refine(b2b x g t.heap.size (λi=>decide ((i:Int)∈L)) w2 H2 SN.s S.ok.n8 S.ok.p200).mono ?_;rintro e ae ⟨rfl,rfl⟩;go_wp2_with fail;refine(cC (eY x (λi=>decide ((i:Int)∈L)) x.A.length:Nat) _).mono ?_;rintro e U ⟨rfl,d⟩;have f:=uU (A.ext d);have l:=uU (u.trans d);clear d N G M J K P O F;obtain⟨u0,u1,u2,u3,u4,u5,u6,u7⟩:=f.boxes j;go_wp2_with fail;refine bodyPost_ret (v:=eX 0 (eY x (λi=>decide ((i:Int)∈L)) x.A.length:Nat)) (by simp [results,results234,go_sem,u5,u6]) rfl ?_;exact⟨_,0,(eY x (λi=>decide ((i:Int)∈L)) x.A.length:Nat),rfl,⟨rfl,rfl,λi=>decide ((i:Int)∈L),λi=>by rw[decide_eq_true_iff];exact hL i,rfl⟩,GOk.done j f 0 (eY x (λi=>decide ((i:Int)∈L)) x.A.length:Nat),dH l Q 0 (eY x (λi=>decide ((i:Int)∈L)) x.A.length:Nat)⟩
 ·have QL:=uU (show Calls prog 75 #[pP g] t λe w'=>∃r:Nat,Hid (e=.returned (iv (r:Int)))/\a1z x r/\Ext t w' from by
   obtain⟨V,R,T,X,vg,br,bc,pb,pa,pk,o,h⟩:=m;obtain⟨Z,kg,I⟩:=h.hat S;exact b5g x g t I S.ok)
  go_wp2_with fail;refine QL.mono ?_;rintro e w2 ⟨r,rfl,lv,C⟩
  have LV:=uU (show SumIs x (uZ x) r from by
   rcases lv with⟨_,pp,h1,q⟩ | ⟨h1,_⟩
   ·exact⟨pp,h1,by rw[q]⟩
   ·exact absurd S.ok h1)
  have A:=uU (m.ext C);have u:=D.trans C;clear lv C;go_wp2_with fail;refine(cC r _).mono ?_;rintro e U ⟨rfl,d⟩;have f:=uU (A.ext d);have l:=uU (u.trans d);clear d N G M J K P O F;obtain⟨u0,u1,u2,u3,u4,u5,u6,u7⟩:=f.boxes j;go_wp2_with fail;refine bodyPost_ret (v:=eX 0 r) (by simp [results,results234,go_sem,u5,u6]) rfl ?_;exact a1k j f l Q (⟨rfl,rfl,LV⟩)
 ·have hc:=hC (by simp);go_wp2_with fail;refine(a9s B g x c _ m S hc v hv D).mono ?_;rintro e w2 ⟨k,rfl,st,q,u⟩;have A:=uU q;clear q;go_wp2_with fail;refine(cC 0 _).mono ?_;rintro e U ⟨rfl,d⟩;have f:=uU (A.ext d);have l:=uU (u.trans d);clear d N G M J K P O F;obtain⟨u0,u1,u2,u3,u4,u5,u6,u7⟩:=f.boxes j;go_wp2_with fail;refine bodyPost_ret (v:=eX 0 0) (by simp [results,results234,go_sem,u5,u6]) rfl ?_;exact a1k j f l Q (⟨rfl,rfl,k,st,rfl⟩)
 ·obtain⟨c0,c1,c2,c5,c9,ab,ad⟩:=m.nums;have fz:=m.box.2.2.2.1;have lo:v.heap.size<=g:=Nat.le_trans hv m.box.2.2.2.2.1;have FN:=uU (show GOk B ((t.setCell (aA g 9) (iv b)).setCell (aA g 10) (iv c)) g (paceTo x b c)/\Ext v ((t.setCell (aA g 9) (iv b)).setCell (aA g 10) (iv c)) from⟨(m.set9 b).set10 c,(D.setCell (p:=(aA g 9)) lo _).setCell (p:=(aA g 10)) lo _⟩);clear c0 c1 c2 c5 ad;go_wp2_with fail;refine(cC 0 _).mono ?_;rintro e U ⟨rfl,d⟩;have f:=uU (FN.1.ext d);have l:=uU (FN.2.trans d);clear d N G M J K P O F c9 ab FN;obtain⟨u0,u1,u2,u3,u4,u5,u6,u7⟩:=f.boxes j;go_wp2_with fail;refine bodyPost_ret (v:=eX 0 0) (by simp [results,results234,go_sem,u5,u6]) rfl ?_;exact a1k j f l Q (⟨rfl,rfl,rfl⟩)
 ·go_wp2_with fail;refine(b3k B g x _ m S v hv D).mono ?_;rintro e w2 ⟨y,z,rfl,rr,q,u⟩;have A:=uU q;clear q;go_wp2_with fail;refine(cC 0 _).mono ?_;rintro e U ⟨rfl,d⟩;have f:=uU (A.ext d);have l:=uU (u.trans d);clear d N G M J K P O F;obtain⟨u0,u1,u2,u3,u4,u5,u6,u7⟩:=f.boxes j;go_wp2_with fail;refine bodyPost_ret (v:=eX 0 0) (by simp [results,results234,go_sem,u5,u6]) rfl ?_;exact a1k j f l Q (⟨rfl,rfl,y,rr.1,rr.2⟩)
end Go.Proofs.YtddkhnclmeikfaaGreat
