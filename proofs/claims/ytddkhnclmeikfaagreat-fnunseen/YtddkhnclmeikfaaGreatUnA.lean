import Derived.Test.YtddkhnclmeikfaaGreatUv1
import Derived.Test.YtddkhnclmeikfaaGreatEl
set_option maxRecDepth 100000
set_option maxHeartbeats 6000000
namespace Go.Proofs.YtddkhnclmeikfaaGreat
open Go.RowKit Go.Proofs.Tryz
attribute [local go_sem ↓] Go.wp_at_zero Go.wp_at_succ
variable{w0 W:World}{cb qb m:Nat}{cl:Cl}
structure CBx(w0 W:World)(cb qb:Nat)(cl:Cl)(m:Nat):Prop where
 s:S7 W cb 0 cl
 p:W.cell? ⟨cb,7,none⟩=some (.slice (some ⟨qb,0,none⟩) m m)
 f:∀o,W.frozen? ⟨cb,o,none⟩=false
 lo:w0.heap.size<=cb
 ne:cb≠qb
 np:b1b w0 W qb m
 ex:Ext w0 W
theorem CBx.ext{W':World}(h:CBx w0 W cb qb cl m)(e:Ext W W'):CBx w0 W' cb qb cl m:=
 ⟨h.s.of λ_ _=>(uK e).1 cb _ (uL h.p),e.keep h.p,λo=>((uK e).2 cb o (uL h.p)).trans (h.f o),h.lo,h.ne,h.np.ext e,h.ex.trans e⟩
theorem CBx.black(h:CBx w0 W cb qb cl m):CBx w0 (W.setCell (aA cb 5) (iv 2)) cb qb { cl with J:=2 } m:=by
 obtain⟨b,i,j,g,c,a,d⟩:=h.s;refine⟨⟨?_,?_,?_,?_,?_,?_,?_⟩,?_,λo=>by rw[World.frozen?_setCell];exact h.f o,h.lo,h.ne,h.np.only (S:=λq=>q=cb) (uX.setCell (S:=λq=>q=cb) (uX.refl _ W) (p:=(aA cb 5)) rfl _) (λe=>h.ne e.symm),h.ex.setCell (p:=(aA cb 5)) h.lo _⟩
 ·rw[uC _ (.inr (by omega))];exact b
 ·rw[uC _ (.inr (by omega))];exact i
 ·rw[uC _ (.inr (by omega))];exact j
 ·rw[uC _ (.inr (by omega))];exact g
 ·rw[uC _ (.inr (by omega))];exact c
 ·exact dD a
 ·rw[uC _ (.inr (by omega))];exact d
 ·rw[uC _ (.inr (by omega))];exact h.p
theorem CBx.newA(a:World)(bo b:Int)(c:Nat):CBx a (((a.alloc (.cells (madeCells z6 (c*6)) 154)).alloc (.cells #[iv 1,iv b,iv 0,iv 0,iv bo,iv 0,iv 0,sS a.heap.size c c] 62))) (a.heap.size+1) a.heap.size (yH bo b c 0) c:=
 ⟨⟨by simp [go_sem,yH],by simp [go_sem,yH],by simp [go_sem,yH],by simp [go_sem,yH],by simp [go_sem,yH],by simp [go_sem,yH],by simp [go_sem,yH]⟩,by simp [go_sem],λ_=>by simp [go_sem],by omega,by omega,(b1b.made a a c 154 (Ext.refl _)).ext ((Ext.refl _).alloc _),((Ext.refl _).alloc _).alloc _⟩
theorem CBx.newB(a:World)(bo b:Int)(c:Nat):CBx a (((a.alloc (.cells #[iv 1,iv b,iv 0,iv 0,iv bo,iv 0,iv 0,sS (a.heap.size+1) c c] 62)).alloc (.cells (madeCells z6 (c*6)) 154))) a.heap.size (a.heap.size+1) (yH bo b c 0) c:=by
 have e:=b1b.made a (a.alloc (.cells #[iv 1,iv b,iv 0,iv 0,iv bo,iv 0,iv 0,sS (a.heap.size+1) c c] 62)) c 154 ((Ext.refl _).alloc _);rw[show(a.alloc (.cells #[iv 1,iv b,iv 0,iv 0,iv bo,iv 0,iv 0,sS (a.heap.size+1) c c] 62)).heap.size=a.heap.size+1 by simp] at e;exact⟨⟨by simp [go_sem,yH],by simp [go_sem,yH],by simp [go_sem,yH],by simp [go_sem,yH],by simp [go_sem,yH],by simp [go_sem,yH],by simp [go_sem,yH]⟩,by simp [go_sem],λ_=>by simp [go_sem],by omega,by omega,e,((Ext.refl _).alloc _).alloc _⟩
theorem c5i[p:Inhabited uQ](B g:Nat)(x:Hp)(a b c:Nat)(n:Int)(w:World)(h:GOk B w g x)(s:Snd x)(ha:a<16)(hb:b<=255)(hc:c<=200)(v:World)(hv:v.heap.size<=B)(hx:Ext v w):
  Calls prog 251 #[pP g,yQ 1 a b c n] w λe w'=>zN B g x a b c n 1 v e w':=by
 have c2:=h.nums.2.2.1;have i:g<w.heap.size:=uL c2;obtain⟨p1,o1,g1⟩:=GOk.enter h (w0:=doW w 1 a b c n) (((Ext.refl w).alloc _).alloc _);have x1:Ext v (doW w 1 a b c n):=(hx.alloc _).alloc _;have L:=uU o1;have G1:=uU g1;have V0:=uU (show v.heap.size<=w.heap.size+1 by have:=hx.size;omega);have X1:=uU x1;have S:=uU s
 have QR:=uU (show Calls prog 260 #[pP g,iv (1+(c:Int))] (doW w 1 a b c n) λe w'=>∃y,e=.returned (.bool (a2q y (1+c)))/\Hid (a4x x (1+c) y)/\Hid (GOk B w' g y)/\Ext v w' from by
  have:=b5y B g x (1+c) (doW w 1 a b c n) G1 S (by omega) v hv X1;rw[show((1+c:Nat):Int)=1+(c:Int) by omega] at this;exact this)
 clear s h o1 g1 x1;cases G:(x.born == 1000000000)
 ·have NB:=uU (show x.born≠1000000000 by simpa using G);go_enter func251,ntmps251;go_wp2_with fail;refine QR.mono ?_;rintro e w2 ⟨z,rfl,hz,g2,x2⟩;have G2:=uU g2;have X2:=uU x2;have HZ:=uU hz;clear g2 x2 hz QR c2 i;obtain⟨K,t1,t2,t3,t4,Y,t6,t7⟩:=G2.boxes L;have bp:w.heap.size<w2.heap.size:=uL K;have bb:w.heap.size+1<w2.heap.size:=uL Y;cases hf:a2q z (1+c)
  ·have HF:=uU hf;clear hf;go_wp2_with fail;refine(a0m 4 _).mono ?_;rintro e w3 ⟨rfl,x3⟩;have G3:=uU (G2.ext x3);have X3:=uU (X2.trans x3);clear K t1 t2 t3 t4 Y t6 t7;obtain⟨u0,u1,u2,u3,u4,u5,u6,u7⟩:=G3.boxes L;have ax:w.heap.size+1<w3.heap.size:=uL u5;clear x3;go_wp2_with fail;refine bodyPost_ret (v:=eX 4 0) (by simp [results,results251,go_sem,u5,u6]) rfl ?_;exact⟨_,4,0,rfl,⟨rfl,.inr ⟨NB,z,HZ,.inl ⟨HF,rfl,rfl⟩⟩⟩,GOk.done L G3 4 0,dH X3 V0 4 0⟩
  ·have HF:=uU hf;clear hf;have SZ:=uU (HZ.snd S);have c2:=G2.nums.2.2.1;have i:g<w2.heap.size:=uL c2;have f2:=G2.box.2.2.2.1 2;have bo:=SZ.r1.born;obtain⟨I,aa⟩:∃W,W=w2.setCell (aA g 2) (iv (z.born+1)):=⟨_,rfl⟩;obtain⟨d,ah⟩:∃y:Hp,y={ z with born:=z.born+1 }:=⟨_,rfl⟩;have G3:=uU (show GOk B I g d by rw[aa,ah];exact G2.set2 (z.born+1));have X3:=uU (show Ext v I by rw[aa];exact X2.setCell (p:=(aA g 2)) (Nat.le_trans hv G2.box.2.2.2.2.1) _);have k:=uU ah;have ay:=uU aa;clear ah aa;go_wp2_with fail;rw[<-uH ay];clear ay K t1 t2 t3 t4 Y t6 t7 c2 f2 i bp bb bo G2 X2;obtain⟨K,t1,t2,t3,t4,Y,t6,t7⟩:=G3.boxes L;have c2:I.cell? (aA g 2)=some (iv (z.born+1)):=by have:=G3.nums.2.2.1;rw[uH k] at this;exact this
   have i:g<I.heap.size:=uL c2;have ax:w.heap.size<I.heap.size:=uL K;have bd:w.heap.size+1<I.heap.size:=uL Y;have mk:=λW=>d1r c (by omega) W
   go_cut [6] (λs6 R=>∃cb G:Nat,s6=pP cb/\Hid (CBx I R cb G (yH (z.born+1) b c 0) c))
   case first=>
    go_region
    all_goals
     go_wp2_with fail;go_meet
     first | exact⟨_,_,rfl,CBx.newA I (z.born+1) b c⟩ | exact⟨_,_,rfl,(CBx.newA I (z.born+1) b c).ext (Ext.refl _).drew⟩ | exact⟨_,_,rfl,CBx.newB I (z.born+1) b c⟩ | exact⟨_,_,rfl,(CBx.newB I (z.born+1) b c).ext (Ext.refl _).drew⟩
   case rest=>
    obtain⟨cb,G,rfl,am⟩:=hcut;have CX:=uU am;obtain⟨ar,kr,ac,kc,vg,br,bc,pb,pa,pk,bv,aq⟩:=uH G3;have H:=uU aq;have N8:=uU (show d.A.length<=8000 by rw[uH k];exact SZ.ok.n8);obtain⟨t,ht⟩:∃t,t=uV d:=⟨_,rfl⟩;have HT:=uU ht;have QF:=uU (b5t (aq.ext am.ex) N8);rw[<-ht] at QF;clear am K t1 t2 t3 t4 Y t6 t7 c2 i ax bd mk aq ht;go_wp2_with fail;refine QF.mono ?_;rintro e w4 ⟨rfl,x4⟩;have C4:=uU (CX.ext x4);clear x4 CX QF;have g4:=H.ext C4.ex;have c5:=g4.bx.2.2.2.2.2.1;have c6:=g4.bx.2.2.2.2.2.2.1;have i:g<w4.heap.size:=uL c5;have a5:=C4.s.2.2.2.2.2.1;have ad:=C4.f 5;have J:cb<w4.heap.size:=uL a5;have QM:=uU (a9a d g w4 c5);clear g4
    go_upto_region 7 with(fail)
    go_cut [58] (λbi R=>Hid (bi=.bool (qU d t == 2))/\Hid (CBx I R cb G (yH (z.born+1) b c 0) c))
    case first=>
     cases qm:mkB d
     ·rw[qm] at QM;cases q3:(d.E == 3)
      ·have X:=uU (show qU d t=0 by
        have h1:d.E≠1/\d.E≠2:=by simpa [mkB] using qm
        have h3:d.E≠3:=by simpa using q3
        unfold qU;rw[if_neg (by omega)])
       clear qm;go_wp2_with fail;refine QM.mono ?_;rintro e w5 ⟨rfl,rfl⟩;go_wp2_with fail;go_meet;exact⟨by show _=_;rw[uH X];first | rfl | (simp;omega),C4⟩
      ·have h3:d.E=3:=by simpa using q3
       have h1:d.E≠1/\d.E≠2:=by simpa [mkB] using qm
       by_cases hh:d.I<=(t:Int)
       ·have X:=uU (show qU d t=2 by unfold qU;rw[if_pos (.inr (.inr ⟨h3,hh⟩))]);have bg:(t:Int)≥d.I:=hh;clear qm h3 h1 hh;go_wp2_with fail;refine QM.mono ?_;rintro e w5 ⟨rfl,rfl⟩;go_wp2_with fail;go_meet;exact⟨by show _=_;rw[uH X];first | rfl | (simp;omega),C4⟩
       ·have X:=uU (show qU d t=0 by unfold qU;rw[if_neg (by omega)]);have bg:¬((t:Int)≥d.I):=hh;clear qm h3 h1 hh;go_wp2_with fail;refine QM.mono ?_;rintro e w5 ⟨rfl,rfl⟩;go_wp2_with fail;go_meet;exact⟨by show _=_;rw[uH X];first | rfl | (simp;omega),C4⟩
     ·rw[qm] at QM
      have X:=uU (show qU d t=2 by
       have h1:d.E=1\/d.E=2:=by simpa [mkB] using qm
       unfold qU;rw[if_pos (by omega)])
      clear qm;go_wp2_with fail;refine QM.mono ?_;rintro e w5 ⟨rfl,rfl⟩;go_wp2_with fail;go_meet;exact⟨by show _=_;rw[uH X];first | rfl | (simp;omega),C4⟩
    case rest=>
     obtain⟨w5,bl⟩:∃W,W=wc:=⟨_,rfl⟩;subst bl;obtain⟨bj,az⟩:=hcut;have C5:=uU az;clear az C4 c5 c6 a5 ad i J QM;have a5:=C5.s.2.2.2.2.2.1;have ad:=C5.f 5;have J:cb<w5.heap.size:=uL a5
     go_upto_region 8 with(fail)
     go_cut [] (λR=>Hid (CBx I R cb G (yH (z.born+1) b c (qU d t)) c))
     case first=>
      have bs:=uH bj;subst bs;cases qc:(qU d t == 2)
      ·have X:=uU (show qU d t=0 by
        have h2:qU d t≠2:=by simpa using qc
        unfold qU at h2 ⊢
        split at h2
        ·exact absurd rfl h2
        ·rename_i u;rw[if_neg u])
       go_wp2_with fail;go_meet;rw[uH X];exact C5
      ·have X:=uU (show qU d t=2 by simpa using qc);go_wp2_with fail;go_meet;rw[uH X];exact C5.black
     case rest=>
     obtain⟨P,bk⟩:∃W,W=wc:=⟨_,rfl⟩;subst bk;have D:=uU hcut;clear hcut C5 a5 ad J;obtain⟨m,av⟩:∃m,m=yH (z.born+1) b c (qU d t):=⟨_,rfl⟩;have ai:=uU av;rw[<-av] at D;clear av;have g6:=H.ext D.ex;have c4:=g6.bx.2.2.2.2.1;have i:g<P.heap.size:=uL c4;have f4:=g6.nf.2 4;obtain⟨d0,d1,d2,d3,d4,d5,d6⟩:=D.s;simp only [Nat.zero_add] at d0 d1 d2 d3 d4 d5 d6;have d7:=D.p;have J:cb<P.heap.size:=uL d7;have TL:=uU (show t<=d.A.length by rw[uH HT];exact(a1b d).1);have R0:=uU (show 0<d.B.length by rw[uH k];show 0<z.B.length;rw[SZ.r1.B];omega);have MC:=uU (show m.F=List.replicate c Pr0 by rw[uH ai];rfl);have F:v.heap.size<=g:=Nat.le_trans hv H.lo;by_cases af:t=d.A.length
     ·have be:((t:Int) == (d.A.length:Int))=true:=by simp [af]
      have bq:=uU af;clear g6 af
      go_upto_region 10 with(fail)
      go_cut [] (λR=>Hid (GOk B R g (b2m d t m))/\Hid (Ext v R))
      case first=>
       go_region_law (refine c8e _ rfl _ _ rfl H R0 N8 m c MC G (by first | exact D.ex.alloc _ | exact(D.ex.alloc _).drew | exact D.ex.drew.alloc _) (by first | exact D.np.ext ((Ext.refl P).alloc _) | exact D.np.ext ((Ext.refl P).alloc _).drew | exact D.np.ext ((Ext.refl P).drew.alloc _)) _ 1 (by first | rfl | simp [Act.eval,Act.put]) (by first | rfl | simp [Act.eval,Act.put];rfl) (World.news_of_block (cs:=#[iv m.st,iv m.kind,iv m.T,iv m.U,iv m.born,iv m.J,iv m.to,sS G c c]) (by first | exact heap_alloc_new _ _ | simp)) v hv X3 ?_;intro b' k' w7 ag;have au:=ag.far.trans (D.ex.block g H.nf.1).symm;have bf:=(World.cell?_of_block (a:=(aA g 4)) au).trans c4;have bw:=(World.frozen?_of_block (a:=(aA g 4)) au).trans f4;have bz:g<w7.heap.size:=uL bf;have HP:=uU ag;clear ag au)
       all_goals
        go_wp2_with fail;go_meet;exact⟨by rw[uH bq];first | exact HP.gk _ (Ext.refl _) | exact HP.gk _ (Ext.refl _).drew | exact(HP.gk _ (Ext.refl _)).ext (Ext.refl _).drew,by first | exact HP.ex.setCell (p:=(aA g 4)) F _ | exact HP.ex.drew.setCell (p:=(aA g 4)) F _ | exact(HP.ex.setCell (p:=(aA g 4)) F _).drew⟩
      case rest=>
       obtain⟨w8,ab⟩:∃W,W=wc:=⟨_,rfl⟩;subst ab;obtain⟨Q,N⟩:=hcut;have G8:=uU Q;have X8:=uU N;clear Q N c4 f4 i J d0 d1 d2 d3 d4 d5 d6 d7 D;have c1:w8.cell? (aA g 1)=some (iv z.K):=by have:=G8.nums.2.1;rw[show(b2m d t m).K=d.K from rfl,uH k] at this;exact this
       obtain⟨_,_,_,fb,F,i⟩:=G8.box;have f1:=fb 1;have hu:0<=z.K/\z.K<=4000:=by have h3:=SZ.r3;have h1:=SZ.r1.M;unfold R3 at h3;omega
       obtain⟨A,C⟩:∃W,W=w8.setCell (aA g 1) (iv (z.K+(1+(c:Int)))):=⟨_,rfl⟩
       have G9:=uU (show GOk B A g (zC z b c) by
        rw[C];have:=G8.set1 (z.K+(1+(c:Int)));rw[uH k] at this;have e2:m=yH (z.born+1) b c (qU z (uV z)):=by rw[uH ai,uH HT,uH k];rfl
        have e3:t=uV z:=by rw[uH HT,uH k];rfl
        rw[e2,e3] at this;exact this)
       have X9:=uU (show Ext v A by rw[C];exact X8.setCell (p:=(aA g 1)) (Nat.le_trans hv F) _);have T:=uU C;clear C fb;go_wp2_with fail;rw[<-uH T];clear T c1 f1 i hu;have sm:=SZ.make b c (by omega) hc (by have eb:=HZ.bornE;have b1:=S.r1.born;have:=uH NB;omega) (by have e:=uH HF;unfold a2q at e;have:=of_decide_eq_true e;omega);have SM:=uU sm;have ET:=uU (show(t:Int)=(uV z:Nat) by rw[uH HT,uH k];rfl);obtain⟨o,bt,l⟩:=G9.B sm.1.r1.B;have HR:=uU l;have c3:=l.c3;obtain⟨r0,r1,r2⟩:=l.r a ha;have fr:=l.f;have i:g<A.heap.size:=uL c3;have ap:o<A.heap.size:=uL r0;have bn:=l.lo.1;obtain⟨K,t1,t2,t3,t4,Y,t6,t7⟩:=G9.boxes L;have bm:w.heap.size<A.heap.size:=uL K;have i0:(0:Int)<=(a:Int):=by omega
       have i1:(a:Int)<16:=by omega
       have FN:=uU (show GOk B (dZ A o (a*3) ⟨2,0,t⟩) g (regTo (zC z b c) a ⟨2,0,t⟩)/\Ext v (dZ A o (a*3) ⟨2,0,t⟩) from⟨HR.set A a ⟨2,0,t⟩ (Ext.refl _) ha,(a0d A o (a*3) ⟨2,0,t⟩).ext X9 (λq hq e=>by omega)⟩);obtain⟨an,j⟩:∃W,W=dZ A o (a*3) ⟨2,0,t⟩:=⟨_,rfl⟩;rw[<-j] at FN;unfold dZ at j
       have QP:=uU (λ(W:World) (xW:Ext an W)=>show Calls prog 261 #[pP g,iv (1+(c:Int))] W λe w'=>∃y,e=.returned (.tuple #[])/\Hid (a4y (regTo (zC z b c) a ⟨2,0,uV z⟩) (1+c) y)/\Hid (GOk B w' g y)/\Ext v w' from by
        have sr:=SM.1.regTo a ⟨2,0,uV z⟩ ⟨.inr (.inr ⟨rfl,rfl,by show(0:Int)<=(uV z:Nat);omega,by show((uV z:Nat):Int)<_;have:=SM.2.2.1;omega⟩),λ_=>.inr ⟨SM.2.1,SM.2.2.2⟩⟩;have gw:=FN.1.ext xW;rw[uH ET] at gw;have:=a9t B g (regTo (zC z b c) a ⟨2,0,uV z⟩) (1+c) W gw sr (by omega) v hv (FN.2.trans xW);rw[show((1+c:Nat):Int)=1+(c:Int) by omega] at this;exact this)
       clear sm l t2 t3 t4 Y t6 t7
       go_region
       go_wp2_with fail;rw[<-j];refine(QP _ (Ext.refl _).drew).mono ?_;rintro e bu ⟨y,rfl,U,V,M⟩;have ao:=uU V;have aw:=uU M;have PC:=uU U;clear V M U QP j FN c3 r0 r1 r2 fr K t1;go_wp2_with fail;refine(cC 0 _).mono ?_;rintro e ak ⟨rfl,E⟩;have O:=uU (ao.ext E);have aj:=uU (aw.trans E);obtain⟨u0,u1,u2,u3,u4,u5,u6,u7⟩:=O.boxes L;have ba:w.heap.size+1<ak.heap.size:=uL u5;clear E;go_wp2_with fail;refine bodyPost_ret (v:=eX 0 0) (by simp [results,results251,go_sem,u5,u6]) rfl ?_;exact⟨_,0,0,rfl,⟨rfl,.inr ⟨NB,z,HZ,.inr ⟨HF,rfl,PC⟩⟩⟩,GOk.done L O 0 0,dH aj V0 0 0⟩
     ·have be:((t:Int) == (d.A.length:Int))=false:=by simp;omega
      have ae:t<d.A.length:=by have:=uH TL;omega
      have hn:0<d.A.length:=by omega
      rw[g6.hc hn] at c4;obtain⟨y0,y1,y2,y3,y4,y5,y6⟩:=g6.rw.s t ae;have y7:=g6.rw.p7 t ae;have fc:=(g6.rw.nc hn).1.2;have bh:=(g6.rw.nc hn).2;have ap:bc<P.heap.size:=uL y7;have k0:(0:Int)<=(t:Int):=by omega
      have k1:(t:Int)<(d.A.length:Int):=by omega
      have al:=uU (show GOk B (qQ P bc (t*8) m (sS G c c)) g (b2m d t m)/\Ext v (qQ P bc (t*8) m (sS G c c)) from⟨c4x H R0 t ae m c MC P D.ex G D.np,(a0k P bc (t*8) m (sS G c c)).ext (X3.trans D.ex) (λq hq e=>by omega)⟩);obtain⟨W7,Z⟩:∃W,W=(qQ P bc (t*8) m (sS G c c)).drew:=⟨_,rfl⟩;have N7:=uU (show GOk B W7 g (b2m d t m)/\Ext v W7 by rw[Z];exact⟨al.1.ext (Ext.refl _).drew,al.2.trans (Ext.refl _).drew⟩);unfold qQ at Z;clear g6 al
      go_upto_region 11 with(fail)
      go_cut [] (λR=>Hid (GOk B R g (b2m d t m))/\Hid (Ext v R))
      case first=>
       go_region
       rw[<-Z];go_wp2_with fail;go_meet;exact⟨N7.1,N7.2⟩
      case rest=>
       clear y0 y1 y2 y3 y4 y5 y6 y7 fc bh ap k0 k1 N7 Z W7;obtain⟨w8,ab⟩:∃W,W=wc:=⟨_,rfl⟩;subst ab;obtain⟨Q,N⟩:=hcut;have G8:=uU Q;have X8:=uU N;clear Q N c4 f4 i J d0 d1 d2 d3 d4 d5 d6 d7 D;have c1:w8.cell? (aA g 1)=some (iv z.K):=by have:=G8.nums.2.1;rw[show(b2m d t m).K=d.K from rfl,uH k] at this;exact this
       obtain⟨_,_,_,fb,F,i⟩:=G8.box;have f1:=fb 1;have hu:0<=z.K/\z.K<=4000:=by have h3:=SZ.r3;have h1:=SZ.r1.M;unfold R3 at h3;omega
       obtain⟨A,C⟩:∃W,W=w8.setCell (aA g 1) (iv (z.K+(1+(c:Int)))):=⟨_,rfl⟩
       have G9:=uU (show GOk B A g (zC z b c) by
        rw[C];have:=G8.set1 (z.K+(1+(c:Int)));rw[uH k] at this;have e2:m=yH (z.born+1) b c (qU z (uV z)):=by rw[uH ai,uH HT,uH k];rfl
        have e3:t=uV z:=by rw[uH HT,uH k];rfl
        rw[e2,e3] at this;exact this)
       have X9:=uU (show Ext v A by rw[C];exact X8.setCell (p:=(aA g 1)) (Nat.le_trans hv F) _);have T:=uU C;clear C fb;go_wp2_with fail;rw[<-uH T];clear T c1 f1 i hu;have sm:=SZ.make b c (by omega) hc (by have eb:=HZ.bornE;have b1:=S.r1.born;have:=uH NB;omega) (by have e:=uH HF;unfold a2q at e;have:=of_decide_eq_true e;omega);have SM:=uU sm;have ET:=uU (show(t:Int)=(uV z:Nat) by rw[uH HT,uH k];rfl);obtain⟨o,bt,l⟩:=G9.B sm.1.r1.B;have HR:=uU l;have c3:=l.c3;obtain⟨r0,r1,r2⟩:=l.r a ha;have fr:=l.f;have i:g<A.heap.size:=uL c3;have ap:o<A.heap.size:=uL r0;have bn:=l.lo.1;obtain⟨K,t1,t2,t3,t4,Y,t6,t7⟩:=G9.boxes L;have bm:w.heap.size<A.heap.size:=uL K;have i0:(0:Int)<=(a:Int):=by omega
       have i1:(a:Int)<16:=by omega
       have FN:=uU (show GOk B (dZ A o (a*3) ⟨2,0,t⟩) g (regTo (zC z b c) a ⟨2,0,t⟩)/\Ext v (dZ A o (a*3) ⟨2,0,t⟩) from⟨HR.set A a ⟨2,0,t⟩ (Ext.refl _) ha,(a0d A o (a*3) ⟨2,0,t⟩).ext X9 (λq hq e=>by omega)⟩);obtain⟨an,j⟩:∃W,W=dZ A o (a*3) ⟨2,0,t⟩:=⟨_,rfl⟩;rw[<-j] at FN;unfold dZ at j
       have QP:=uU (λ(W:World) (xW:Ext an W)=>show Calls prog 261 #[pP g,iv (1+(c:Int))] W λe w'=>∃y,e=.returned (.tuple #[])/\Hid (a4y (regTo (zC z b c) a ⟨2,0,uV z⟩) (1+c) y)/\Hid (GOk B w' g y)/\Ext v w' from by
        have sr:=SM.1.regTo a ⟨2,0,uV z⟩ ⟨.inr (.inr ⟨rfl,rfl,by show(0:Int)<=(uV z:Nat);omega,by show((uV z:Nat):Int)<_;have:=SM.2.2.1;omega⟩),λ_=>.inr ⟨SM.2.1,SM.2.2.2⟩⟩;have gw:=FN.1.ext xW;rw[uH ET] at gw;have:=a9t B g (regTo (zC z b c) a ⟨2,0,uV z⟩) (1+c) W gw sr (by omega) v hv (FN.2.trans xW);rw[show((1+c:Nat):Int)=1+(c:Int) by omega] at this;exact this)
       clear sm l t2 t3 t4 Y t6 t7
       go_region
       go_wp2_with fail;rw[<-j];refine(QP _ (Ext.refl _).drew).mono ?_;rintro e bu ⟨y,rfl,U,V,M⟩;have ao:=uU V;have aw:=uU M;have PC:=uU U;clear V M U QP j FN c3 r0 r1 r2 fr K t1;go_wp2_with fail;refine(cC 0 _).mono ?_;rintro e ak ⟨rfl,E⟩;have O:=uU (ao.ext E);have aj:=uU (aw.trans E);obtain⟨u0,u1,u2,u3,u4,u5,u6,u7⟩:=O.boxes L;have ba:w.heap.size+1<ak.heap.size:=uL u5;clear E;go_wp2_with fail;refine bodyPost_ret (v:=eX 0 0) (by simp [results,results251,go_sem,u5,u6]) rfl ?_;exact⟨_,0,0,rfl,⟨rfl,.inr ⟨NB,z,HZ,.inr ⟨HF,rfl,PC⟩⟩⟩,GOk.done L O 0 0,dH aj V0 0 0⟩
 ·have NB:=uU (show x.born=1000000000 by simpa using G);go_enter func251,ntmps251;go_wp2_with fail;refine(a0m 4 _).mono ?_;rintro e w3 ⟨rfl,x3⟩;have G3:=uU (G1.ext x3);have X3:=uU (X1.trans x3);obtain⟨u0,u1,u2,u3,u4,u5,u6,u7⟩:=G3.boxes L;have ax:w.heap.size+1<w3.heap.size:=uL u5;clear x3;go_wp2_with fail;refine bodyPost_ret (v:=eX 4 0) (by simp [results,results251,go_sem,u5,u6]) rfl ?_;exact⟨_,4,0,rfl,⟨rfl,.inl ⟨NB,rfl,rfl⟩⟩,GOk.done L G3 4 0,dH X3 V0 4 0⟩
theorem l5do_1[p:Inhabited uQ](B g:Nat)(x:Hp)(a b c:Nat)(n:Int)(w:World)(h:GOk B w g x)(s:Snd x)(O:qL 1 a b c n=true)(P:a<16)(M:b<=255)(N:c<=200)(v:World)(Q:v.heap.size<=B)(q:Ext v w):
  Calls prog 234 #[pP g,yQ 1 a b c n] w λe w'=>zN B g x a b c n 1 v e w':=by
 obtain⟨Y,D,E⟩:=GOk.enter h (w0:=doW w 1 a b c n) (((Ext.refl w).alloc _).alloc _);have r:=uU E;have S:=uU s;have o:=uU D;have k:=uU (λW=>a1n 1 a b c n W);rw[O] at k;have L:=uU (show v.heap.size<=w.heap.size+1 by have:=q.size;omega);have H:=uU (show Ext v (doW w 1 a b c n) from(q.alloc _).alloc _);have I:=uU (tL.new w 1 a b c n);go_enter func234,ntmps234;go_wp2_with fail;refine(k _).mono ?_;rintro e m ⟨rfl,i⟩;have F:=uU (H.trans i);have j:=uU (I.ext i);obtain⟨V,X,t2,U,Z,T,R,t7⟩:=uH j;have u:=uU (r.ext i)
 have t:=uU (show Calls prog 251 #[pP g,yQ 1 a b c n] m λe w'=>zN B g x a b c n 1 v e w' from by
  exact c5i B g x a b c n m u S P M N v Q F)
 go_wp2_with fail;refine t.mono ?_;rintro e w3 ⟨y,f,d,z,C,K,G⟩;have J:=uH z;subst J;have l:=uU K;have A:=uU G;obtain⟨u0,u1,u2,u3,u4,u5,u6,u7⟩:=l.boxes o;go_wp2;refine bodyPost_ret (v:=eX f d) (by simp [results,results234,go_sem,u5,u6]) rfl ?_;exact⟨y,f,d,rfl,C,GOk.done o l f d,dH A L f d⟩
theorem b3q(R:List Wd)(L:List Nd)(r C s v:Option Addr)(B g x d:Nat)(w:World)(h1:SlW w (.slice r R.length B) R)(h2:SlW w (.slice C R.length g) R)(Z:SlN w (.slice s L.length x) L)(h4:SlN w (.slice v L.length d) L):
  Calls prog 20 #[.agg #[.slice r R.length B,.slice s L.length x],.agg #[.slice C R.length g,.slice v L.length d]] w λe w'=>e=.returned (.bool true)/\Ext w w':=by
 obtain⟨W,h⟩:∃W,W=(w.alloc (.cells #[.slice r R.length B,.slice s L.length x] 44)).alloc (.cells #[.slice C R.length g,.slice v L.length d] 44):=⟨_,rfl⟩;have m:Ext w W:=by rw[h];exact((Ext.refl w).alloc _).alloc _
 have t:W.cell? (aA w.heap.size 1)=some (.slice s L.length x):=by rw[h];simp [go_sem]
 have q:W.cell? (aA (w.heap.size+1) 1)=some (.slice v L.length d):=by rw[h];simp [go_sem]
 have G:=uU (c0q R _ _ W (SlW.ext m h1) (SlW.ext m h2));obtain⟨ad,aa,H,hl,Y⟩:=SlN.ext m Z;obtain⟨ae,O,p,_,l⟩:=SlN.ext m h4;simp only [Value.slice.injEq] at H p;obtain⟨rfl,_,rfl⟩:=H;obtain⟨rfl,_,rfl⟩:=p;have HX:=uU Y;have HY:=uU l;clear Y l h1 h2 Z h4;go_enter func20,ntmps20;go_wp2_with fail;rw[<-h];clear h;refine G.mono ?_;rintro e w1 ⟨rfl,u⟩;have t:=u.keep t;have q:=u.keep q;clear G;go_wp2_with fail;have z:=m.trans u;go_loopw [26] (λi wr=>∃k:Nat,k<=L.length/\i=iv k/\Ext w1 wr) (λi _=>L.length-(intOf i).toNat)
 case atStart=>exact⟨0,Nat.zero_le _,rfl,Ext.refl _⟩
 case round=>
  obtain⟨k,hk,rfl,c⟩:=hrel;by_cases j:k<L.length
  ·obtain⟨b,o,rfl,vp,V,F,I,P,S,A⟩:=uH HX k j;obtain⟨b',o',rfl,ah,J,X,N,E,U,f⟩:=uH HY k j;have a:=u.trans c;have t:=c.keep t;have q:=c.keep q;have e0:=a.keep V;have e1:=a.keep F;have e2:=a.keep I;have e3:=a.keep P;have e4:=a.keep S;have Q:=a.keep J;have f1:=a.keep X;have f2:=a.keep N;have f3:=a.keep E;have f4:=a.keep U;obtain⟨av,cv,rfl,_,_⟩:=id A;obtain⟨ac,af,rfl,_,_⟩:=id f;have T:=uU (SlP.ext a A);have n:=uU (SlP.ext a f);obtain⟨y,D⟩:∃y,y=L[k]:=⟨_,rfl⟩;rw[<-D] at e0 e1 e2 e3 e4 Q f1 f2 f3 f4 T n;have K:b'<wr.heap.size:=uL Q;have hw:w.heap.size+1<wr.heap.size:=uL q;have ag:(0:Int)<=(k:Int):=by omega
   have ab:(k:Int)<(L.length:Int):=by omega
   clear V F I P S J X N E U A f D;go_wp2_with fail;refine(c0r y.F _ _ _ (SlP.ext (((Ext.refl wr).alloc _).alloc _) T) (SlP.ext (((Ext.refl wr).alloc _).alloc _) n)).mono ?_;rintro e w3 ⟨rfl,M⟩;have y3:Ext wr w3:=(((Ext.refl wr).alloc _).alloc _).trans M;clear M;go_wp2_with fail;go_roundw
   case rel=>exact⟨k+1,by omega,by go_num,c.trans y3⟩
   case measure=>simp [intOf];omega
  ·go_wp2_with fail;go_ret;exact⟨rfl,z.trans c⟩
end Go.Proofs.YtddkhnclmeikfaaGreat
