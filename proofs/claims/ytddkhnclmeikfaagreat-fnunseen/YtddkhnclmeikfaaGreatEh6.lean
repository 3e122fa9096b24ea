import Derived.Test.YtddkhnclmeikfaaGreatEe
set_option maxRecDepth 100000
set_option maxHeartbeats 1000000
namespace Go.Proofs.YtddkhnclmeikfaaGreat
open Go.RowKit Tryz
attribute [local go_sem ↓] Go.wp_at_zero Go.wp_at_succ
theorem d1i[p:Inhabited uQ](B g:Nat)(x:Hp)(a b c:Nat)(n:Int)(w:World)(h:GOk B w g x)(s:Snd x)(ha:a<16)(hb:b<16)(v:World)(hv:v.heap.size<=B)(hx:Ext v w):
  Calls prog 252 #[pP g,yQ 6 a b c n] w λe w'=>zN B g x a b c n 6 v e w':=by
 obtain⟨p1,o1,g1⟩:=GOk.enter h (w0:=doW w 6 a b c n) (((Ext.refl w).alloc _).alloc _);obtain⟨br,kr,u⟩:=g1.B s.r1.B;have L:=uU o1;have V:=uU g1;have R1:=uU u;have S:=uU s;have V0:=uU (show v.heap.size<=w.heap.size+1 by have:=hx.size;omega);have X1:=uU (show Ext v (doW w 6 a b c n) from(hx.alloc _).alloc _);obtain⟨C,Q,t2,H,X,t5,U,t7⟩:=tL.new w 6 a b c n;have G:=u.c3;obtain⟨N,O,I⟩:=u.r b hb;have j0:(0:Int)<=(b:Int):=by omega
 have j1:(b:Int)<16:=by omega
 clear h s u o1 g1;cases R:((x.r b).k == 2)
 ·have af:((x.r b).k != 2)=true:=by simpa using R
  have D:=uU (show(x.r b).k≠2 by simpa using R);clear R;go_enter func252,ntmps252;go_wp2_with fail;refine(a0m 2 _).mono ?_;rintro e w3 ⟨rfl,J⟩;have A:=uU (V.ext J);have Y:=uU (X1.trans J);clear J G N O I C Q t2 H X t5 U t7;obtain⟨u0,u1,u2,u3,u4,u5,u6,u7⟩:=A.boxes L;have aa:w.heap.size+1<w3.heap.size:=uL u5;go_wp2_with fail;refine bodyPost_ret (v:=eX 2 0) (by simp [results,results252,go_sem,u5,u6]) rfl ?_;exact⟨_,2,0,rfl,.inl ⟨D,rfl,rfl,rfl⟩,GOk.done L A 2 0,dH Y V0 2 0⟩
 ·have af:((x.r b).k != 2)=false:=by simpa using R
  have D:=uU (show(x.r b).k=2 by simpa using R);obtain⟨_,ea,hi,_,_⟩:=S.at b hb D;have Z:=S.ok.p200 _ hi;obtain⟨i,hI⟩:∃i,i=x.at b:=⟨_,rfl⟩;have HI:=uU hI;rw[<-hI] at ea hi Z;rw[ea] at I;clear R ea hI;have i0:(0:Int)<=(i:Int):=by omega
  have i1:(i:Int)<(x.A.length:Int):=by omega
  by_cases hc:c<(x.c i).F.length
  ·have ag:¬((c:Int)≥((x.c i).F.length:Int)):=by omega
   have au:(c:Int)<((x.c i).F.length:Int):=by omega
   have ak:(0:Int)<=(c:Int):=by omega
   obtain⟨bc,kc,bp,kp,hp⟩:=V.prw i hi c hc;have P1:=uU hp;have T:=hp.c4;have P:=hp.p7;obtain⟨e0,e1,e2,e3,e4,e5⟩:=hp.pr;clear hp;go_enter func252,ntmps252;go_wp2_with fail;go_quiet (fail);obtain⟨o,l⟩:∃W,W=(doW w 6 a b c n).drewN nq:=⟨_,rfl⟩;rw[<-l];have d:Ext (doW w 6 a b c n) o:=by rw[l];exact Ext.drewN (Ext.refl _) nq
   have G2:=uU (V.ext d);have X2:=uU (X1.trans d);have T:=d.keep T;have P:=d.keep P;have C:=d.keep C;have H:=d.keep H;have e0:=d.keep e0;have e1:=d.keep e1;have e2:=d.keep e2;have e3:=d.keep e3;have e4:=d.keep e4;have e5:=d.keep e5;have ad:g<o.heap.size:=uL T;have ae:bc<o.heap.size:=uL P;have ab:bp<o.heap.size:=uL e0;have ah:w.heap.size<o.heap.size:=uL C;clear l d;clear G N O I Q t2 X t5 U t7;go_wp2_with fail
   go_region
   obtain⟨y,z⟩:∃W,W=(o.alloc (.cells #[iv ((x.c i).p c).key.k,iv ((x.c i).p c).key.n,iv ((x.c i).p c).key.a,iv ((x.c i).p c).val.k,iv ((x.c i).p c).val.n,iv ((x.c i).p c).val.a] 154)).drew:=⟨_,rfl⟩;rw[<-z];have M:Ext o y:=by rw[z];exact((Ext.refl o).alloc _).drew
   have PB:qN y o.heap.size 0 ((x.c i).p c):=by rw[z];exact⟨by simp [go_sem],by simp [go_sem],by simp [go_sem],by simp [go_sem],by simp [go_sem],by simp [go_sem]⟩
   obtain⟨y0,y1,y2,y3,y4,y5⟩:=PB;have A:=uU (G2.ext M);have Y:=uU (X2.trans M);clear z M T P C H e0 e1 e2 e3 e4 e5 ad ae ab ah;obtain⟨C,Q,t2,H,X,t5,U,t7⟩:=A.boxes L;obtain⟨t,am,u⟩:=A.B S.r1.B;have R3:=uU u;have G:=u.c3;obtain⟨N,O,I⟩:=u.r a ha;have f:=u.f;have ao:g<y.heap.size:=uL G;have ai:t<y.heap.size:=uL N;have aq:=u.lo.1;have aa:w.heap.size<y.heap.size:=uL C;have al:o.heap.size<y.heap.size:=uL y0;have a0:(0:Int)<=(a:Int):=by omega
   have a1:(a:Int)<16:=by omega
   have FK:=uU (show uW ((x.c i).p c).key x.A.length/\uW ((x.c i).p c).val x.A.length from by
    have:=((S.r4.2 i hi).2 c hc).2 (by rw[uH HI];exact(S.at b hb D).2.2.2.2);exact⟨this.1.1,this.2.1⟩)
   obtain⟨E,F⟩:∃r,r=eZ x ((x.c i).p c).val:=⟨_,rfl⟩
   have QR:=uU (show ∀W,Ext y W->Calls prog 138 #[pP g,(((x.c i).p c).val).v] W λe w'=>e=.returned E.v/\Ext W w' from λW xW=>by
    rw[F];obtain⟨ar,kr,ac,kc,vg,br,bc,pb,pa,pk,aj,h⟩:=A.ext xW;exact a5m ((x.c i).p c).val W h FK.2)
   have HR:=uU F;have FN:=uU (show ∀W,Ext y W->GOk B (dZ W t (a*3) E) g (regTo x a E)/\Ext v (dZ W t (a*3) E) from λW xW=>⟨R3.set W a E xW ha,(a0d W t (a*3) E).ext (Y.trans xW) (λq hq e=>by omega)⟩);unfold dZ at FN;clear u F;go_wp2_with fail;go_cut [] (λwx=>Hid (GOk B wx g (regTo x a E))/\Hid (Ext v wx))
   case first=>
    go_region_with (go_at_call 138;refine(QR _ (Ext.refl y).drew).mono ?_;rintro e w5 ⟨rfl,x5⟩;have j:=Ext.trans (Ext.refl y).drew x5;have k3:=j.keep G;have k0:=j.keep N;have k1:=j.keep O;have k2:=j.keep I;have kf:=λm=>((uK j).2 t m ai).trans (f m);have ka:=j.keep Q;have F5:=uU (FN w5 j);clear x5 j)
    all_goals
     go_wp2_with fail;go_meet;exact⟨F5.1,F5.2⟩
   case rest=>
    obtain⟨G5,X5⟩:=hcut;clear G N O I f C Q t2 H X t5 U t7 y0 y1 y2 y3 y4 y5 FN QR;go_wp2_with fail;refine(cC 0 _).mono ?_;rintro e w6 ⟨rfl,x6⟩;have G6:=uU (G5.ext x6);have X6:=uU (X5.trans x6);obtain⟨u0,u1,u2,u3,u4,u5,u6,u7⟩:=G6.boxes L;have an:w.heap.size+1<w6.heap.size:=uL u5;clear x6;go_wp2_with fail;refine bodyPost_ret (v:=eX 0 0) (by simp [results,results252,go_sem,u5,u6]) rfl ?_;exact⟨_,0,0,rfl,.inr (.inr ⟨D,by rw[<-uH HI];exact hc,by rw[<-uH HI];show regTo x a E=regTo x a (eZ x ((x.c i).p c).val);rw[<-uH HR],rfl,rfl⟩),GOk.done L G6 0 0,dH X6 V0 0 0⟩
  ·have ag:(c:Int)≥((x.c i).F.length:Int):=by omega
   obtain⟨bc,kc,ap,kp,K⟩:=V.cel i hi;have T:=K.c4;have P:=K.p7;clear K;go_enter func252,ntmps252;go_wp2_with fail;go_quiet (fail);obtain⟨o,l⟩:∃W,W=(doW w 6 a b c n).drewN nq:=⟨_,rfl⟩;rw[<-l];have d:Ext (doW w 6 a b c n) o:=by rw[l];exact Ext.drewN (Ext.refl _) nq
   clear l;go_wp2_with fail;refine(a0m 3 _).mono ?_;rintro e w3 ⟨rfl,J⟩;have A:=uU (V.ext (d.trans J));have Y:=uU (X1.trans (d.trans J));clear J d G N O I C Q t2 H X t5 U t7 T P;obtain⟨u0,u1,u2,u3,u4,u5,u6,u7⟩:=A.boxes L;have aa:w.heap.size+1<w3.heap.size:=uL u5;go_wp2_with fail;refine bodyPost_ret (v:=eX 3 0) (by simp [results,results252,go_sem,u5,u6]) rfl ?_;exact⟨_,3,0,rfl,.inr (.inl ⟨D,by rw[<-uH HI];omega,rfl,rfl,rfl⟩),GOk.done L A 3 0,dH Y V0 3 0⟩
end Go.Proofs.YtddkhnclmeikfaaGreat
