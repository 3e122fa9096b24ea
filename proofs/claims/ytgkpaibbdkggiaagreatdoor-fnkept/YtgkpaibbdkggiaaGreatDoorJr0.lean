import Derived.Test.YtgkpaibbdkggiaaGreatDoorDn3
import Derived.Test.YtgkpaibbdkggiaaGreatDoorJd
set_option maxRecDepth 100000
set_option maxHeartbeats 6000000
namespace Go.Proofs.YtgkpaibbdkggiaaGreatDoor
open Go.RowKit Go.Proofs.Tryz
attribute [local go_sem ↓] Go.wp_at_zero Go.wp_at_succ
attribute [local go_sem] Oper.semAt_some
variable{x z:Hp}{B b cb qb m kr br bn kn hd C:Nat}{w w0 W:World}{cl:Cl}{ar:Option Addr}{v4 v8 vf vk:Value}{cB cO pb pk role:Nat->Nat}{pa:Nat->Option Addr}{F:List Int}{K:List Nat}
structure CBx(w0 W:World)(cb qb:Nat)(cl:Cl)(m:Nat):Prop where
 s:S7 W cb 0 cl
 p:W.cell? ⟨cb,7,none⟩=some (.slice (some ⟨qb,0,none⟩) m m)
 f:∀o,W.frozen? ⟨cb,o,none⟩=false
 lo:w0.heap.size<=cb
 ne:cb≠qb
 np:a6f w0 W qb m
 ex:Ext w0 W
theorem CBx.ext{W':World}(h:CBx w0 W cb qb cl m)(e:Ext W W'):CBx w0 W' cb qb cl m:=
 ⟨h.s.of λ_ _=>(cE e).1 cb _ (uQ h.p),e.keep h.p,λo=>((cE e).2 cb o (uQ h.p)).trans (h.f o),h.lo,h.ne,h.np.ext e,h.ex.trans e⟩
theorem CBx.black(h:CBx w0 W cb qb cl m):CBx w0 (W.setCell (aA cb 5) (iv 2)) cb qb { cl with J:=2 } m:=by
 obtain⟨b,i,j,g,c,a,d⟩:=h.s;refine⟨⟨?_,?_,?_,?_,?_,?_,?_⟩,?_,λo=>by rw[ki];exact h.f o,h.lo,h.ne,h.np.only (S:=λq=>q=cb) (tJ W cb 5 _) (λe=>h.ne e.symm),h.ex.sc cb 5 h.lo _⟩;rw[uC _ (.inr (by omega))];exact b;rw[uC _ (.inr (by omega))];exact i;rw[uC _ (.inr (by omega))];exact j;rw[uC _ (.inr (by omega))];exact g;rw[uC _ (.inr (by omega))];exact c;exact dJ a;rw[uC _ (.inr (by omega))];exact d;rw[uC _ (.inr (by omega))];exact h.p
theorem CBx.newA(a:World)(bo b:Int)(c:Nat):CBx a (((a.alloc (.cells (madeCells z6 (c*6)) 53)).alloc (.cells #[iv 1,iv b,iv 0,iv 0,iv bo,iv 0,iv 0,sS a.heap.size c c] 51))) (a.heap.size+1) a.heap.size (tE bo b c 0) c:=
 ⟨⟨by simp[go_sem,tE],by simp[go_sem,tE],by simp[go_sem,tE],by simp[go_sem,tE],by simp[go_sem,tE],by simp[go_sem,tE],by simp[go_sem,tE]⟩,by simp[go_sem],λ_=>by simp[go_sem],by omega,by omega,(a6f.made a a c 53 (hO _)).ext (eAl _ _),(eAl _ _).alloc _⟩
theorem CBx.newB(a:World)(bo b:Int)(c:Nat):CBx a (((a.alloc (.cells #[iv 1,iv b,iv 0,iv 0,iv bo,iv 0,iv 0,sS (a.heap.size+1) c c] 51)).alloc (.cells (madeCells z6 (c*6)) 53))) a.heap.size (a.heap.size+1) (tE bo b c 0) c:=by
 have e:=a6f.made a (a.alloc (.cells #[iv 1,iv b,iv 0,iv 0,iv bo,iv 0,iv 0,sS (a.heap.size+1) c c] 51)) c 53 (eAl _ _);rw[show(a.alloc (.cells #[iv 1,iv b,iv 0,iv 0,iv bo,iv 0,iv 0,sS (a.heap.size+1) c c] 51)).heap.size=a.heap.size+1 by simp]at e;exact⟨⟨by simp[go_sem,tE],by simp[go_sem,tE],by simp[go_sem,tE],by simp[go_sem,tE],by simp[go_sem,tE],by simp[go_sem,tE],by simp[go_sem,tE]⟩,by simp[go_sem],λ_=>by simp[go_sem],by omega,by omega,e,(eAl _ _).alloc _⟩
theorem c5f[p:qr](B g:Nat)(x:Hp)(a b c:Nat)(n:Int)(w:World)(h:GOk B w g x)(s:Snd x)(ha:a<16)(hb:b<=255)(hc:c<=200)(v:World)(hv:v.heap.size<=B)(hx:Ext v w):
  Calls prog 68 #[pP g,yU 1 a b c n] w λe w'=>a1a B g x a b c n 1 v e w':=by
 have V:=h.nums.2.2.1;have i:=cLt V;obtain⟨p1,o1,g1⟩:=GOk.enter h (w0:=doW w 1 a b c n) ((eAl w _).alloc _);have x1:Ext v (doW w 1 a b c n):=(hx.alloc _).alloc _;have R:=uU o1;have G1:=uU g1;have V0:=uU (show v.heap.size<=w.heap.size+1 by have:=hx.size;omega);have X1:=uU x1;have S:=uU s;have QR:=uU (show Calls prog 123 #[pP g,iv (1+(c:Int))] (doW w 1 a b c n) λe w'=>∃y,e=.returned (.bool (zV y (1+c)))/\Hid (tY x (1+c) y)/\Hid (GOk B w' g y)/\Ext v w' from by
  have:=b4y B g x (1+c) (doW w 1 a b c n) G1 S (by omega) v hv X1;rw[show((1+c:Nat):Int)=1+(c:Int) by omega]at this;exact this)
 clear s h o1 g1 x1;cases o:(x.born == 1000000000)
 ·have NB:=uU (show x.born≠1000000000 by simpa using o);go_in;go_wp21;refine QR.mono ?_;rintro e w2 ⟨z,rfl,hz,g2,x2⟩;have G2:=uU g2;have X2:=uU x2;have HZ:=uU hz;clear g2 x2 hz QR V i;obtain⟨N,t1,t2,t3,t4,Y,t6,t7⟩:=G2.boxes R;have bv:=cLt N;have aw:w.heap.size+1<w2.heap.size:=uQ Y;cases hf:zV z (1+c)
  ·have HF:=uU hf;clear hf;go_wp21;refine(a0r 4 _).mono ?_;rintro e w3 ⟨rfl,x3⟩;have L:=uU (G2.ext x3);have X3:=uU (X2.trans x3);clear N t1 t2 t3 t4 Y t6 t7;obtain⟨u0,u1,u2,u3,u4,u5,u6,u7⟩:=L.boxes R;have ab:w.heap.size+1<w3.heap.size:=uQ u5;clear x3;go_wp21;refine bodyPost_ret (v:=tD 4 0) (by simp[results,results68,go_sem,u5,u6]) rfl ?_;exact⟨_,4,0,rfl,⟨rfl,.inr ⟨NB,z,HZ,.inl ⟨HF,rfl,rfl⟩⟩⟩,GOk.done R L 4 0,eJ X3 V0 4 0⟩
  have HF:=uU hf;clear hf;have SZ:=uU (HZ.snd S);have V:=G2.nums.2.2.1;have i:=cLt V;have f2:=G2.box.2.2.2.1 2;have bo:=SZ.r1.born;obtain⟨D,M⟩:∃W,W=w2.setCell (aA g 2) (iv (z.born+1)):=⟨_,rfl⟩;obtain⟨d,aa⟩:∃y:Hp,y={ z with born:=z.born+1 }:=⟨_,rfl⟩;have L:=uU (show GOk B D g d by rw[M,aa];exact G2.set2 (z.born+1));have X3:=uU (show Ext v D by rw[M];exact X2.sc g 2 (kA hv G2.box.2.2.2.2.1) _);have k:=uU aa;have bb:=uU M;clear aa M;go_wp21;rw[<-uH bb];clear bb N t1 t2 t3 t4 Y t6 t7 V f2 i bv aw bo G2 X2;obtain⟨N,t1,t2,t3,t4,Y,t6,t7⟩:=L.boxes R;have V:D.cell? (aA g 2)=some (iv (z.born+1)):=by have:=L.nums.2.2.1;rw[uH k]at this;exact this
  have i:=cLt V;have ab:=cLt N;have au:w.heap.size+1<D.heap.size:=uQ Y;have mk:=λW=>c1o c (by omega) W
  go_cut [6] (λs6 G=>∃U o:Nat,s6=pP U/\Hid (CBx D G U o (tE (z.born+1) b c 0) c))
  case first=>
   go_region
   all_goals
    go_wp21;go_meet;first|exact⟨_,_,rfl,CBx.newA D (z.born+1) b c⟩|exact⟨_,_,rfl,(CBx.newA D (z.born+1) b c).ext (eDr _)⟩|exact⟨_,_,rfl,CBx.newB D (z.born+1) b c⟩|exact⟨_,_,rfl,(CBx.newB D (z.born+1) b c).ext (eDr _)⟩
  case rest=>
   obtain⟨U,o,rfl,ad⟩:=hcut;have CX:=uU ad;obtain⟨ar,kr,ac,kc,vg,br,bc,pb,pa,pk,bz,Z⟩:=uH L;have C:=uU Z;have N8:=uU (show d.A.length<=8000 by rw[uH k];exact SZ.ok.n8);obtain⟨t,ht⟩:=obE (uE d);have HT:=uU ht;have QF:=uU (b4u (Z.ext ad.ex) N8);rw[<-ht]at QF;clear ad N t1 t2 t3 t4 Y t6 t7 V i ab au mk Z ht;go_wp21;refine QF.mono ?_;rintro e w4 ⟨rfl,x4⟩;have X:=uU (CX.ext x4);clear x4 CX QF;have g4:=C.ext X.ex;have c5:=g4.bx.2.2.2.2.2.1;have c6:=g4.bx.2.2.2.2.2.2.1;have i:=cLt c5;have a5:=X.s.2.2.2.2.2.1;have al:=X.f 5;have F:=cLt a5;have QM:=uU (a8i d g w4 c5);clear g4;go_upto_region 7 with(fail);go_cut [58] (λbn G=>Hid (bn=.bool (qN d t == 2))/\Hid (CBx D G U o (tE (z.born+1) b c 0) c))
   case first=>
    cases P:mkB d
    ·rw[P]at QM;cases q3:(d.E == 3)
     ·have E:=uU (show qN d t=0 by
       have h1:d.E≠1/\d.E≠2:=by simpa[mkB]using P
       have h3:d.E≠3:=by simpa using q3
       unfold qN;rw[if_neg (by omega)])
      clear P;go_wp21;refine QM.mono ?_;rintro e w5 ⟨rfl,rfl⟩;go_wp21;go_meet;exact⟨by show _=_;rw[uH E];first|rfl|(simp;omega),X⟩
     have h3:d.E=3:=by simpa using q3
     have h1:d.E≠1/\d.E≠2:=by simpa[mkB]using P
     by_cases hh:d.I<=(t:Int);focus
      have E:=uU (show qN d t=2 by unfold qN;rw[if_pos (.inr (.inr ⟨h3,hh⟩))]);have bd:(t:Int)≥d.I:=hh
     rotate_left
     focus
      have E:=uU (show qN d t=0 by unfold qN;rw[if_neg (by omega)]);have bd:¬((t:Int)≥d.I):=hh
     all_goals
      clear P h3 h1 hh;go_wp21;refine QM.mono ?_;rintro e w5 ⟨rfl,rfl⟩;go_wp21;go_meet;exact⟨by show _=_;rw[uH E];first|rfl|(simp;omega),X⟩
    rw[P]at QM;have E:=uU (show qN d t=2 by
     have h1:d.E=1\/d.E=2:=by simpa[mkB]using P
     unfold qN;rw[if_pos (by omega)])
    clear P;go_wp21;refine QM.mono ?_;rintro e w5 ⟨rfl,rfl⟩;go_wp21;go_meet;exact⟨by show _=_;rw[uH E];first|rfl|(simp;omega),X⟩
   case rest=>
    obtain⟨w5,bs⟩:∃W,W=wc:=⟨_,rfl⟩;subst bs;obtain⟨bq,ba⟩:=hcut;have C5:=uU ba;clear ba X c5 c6 a5 al i F QM;have a5:=C5.s.2.2.2.2.2.1;have al:=C5.f 5;have F:=cLt a5;go_upto_region 8 with(fail);go_cut [] (λG=>Hid (CBx D G U o (tE (z.born+1) b c (qN d t)) c))
    case first=>
     have bg:=uH bq;subst bg;cases qc:(qN d t == 2);have E:=uU (show qN d t=0 by
      have h2:qN d t≠2:=by simpa using qc
      unfold qN at h2 ⊢;split at h2;exact absurd rfl h2;rename_i u;rw[if_neg u])
     go_wp21;go_meet;rw[uH E];exact C5;have E:=uU (show qN d t=2 by simpa using qc);go_wp21;go_meet;rw[uH E];exact C5.black
    case rest=>
    obtain⟨J,be⟩:∃W,W=wc:=⟨_,rfl⟩;subst be;have l:=uU hcut;clear hcut C5 a5 al F;obtain⟨j,ag⟩:=obE (tE (z.born+1) b c (qN d t));have av:=uU ag;rw[<-ag]at l;clear ag;have O:=C.ext l.ex;have c4:=O.bx.2.2.2.2.1;have i:=cLt c4;have f4:=O.nf.2 4;obtain⟨d0,d1,d2,d3,d4,d5,d6⟩:=l.s;simp only[Nat.zero_add]at d0 d1 d2 d3 d4 d5 d6;have d7:=l.p;have F:=cLt d7;have TL:=uU (show t<=d.A.length by rw[uH HT];exact(a0i d).1);have R0:=uU (show 0<d.B.length by rw[uH k];show 0<z.B.length;rw[SZ.r1.B];omega);have MC:=uU (show j.F=List.replicate c Pr0 by rw[uH av];rfl);have I:v.heap.size<=g:=kA hv C.lo;by_cases af:t=d.A.length;focus
     have bk:((t:Int) == (d.A.length:Int))=true:=by simp[af]
     have bm:=uU af;clear O af;go_upto_region 10 with(fail);go_cut [] (λG=>Hid (GOk B G g (a9d d t j))/\Hid (Ext v G))
     case first=>
      go_region_law (refine b7o _ rfl _ _ rfl C R0 N8 j c MC o _ (λ_=>rfl) (by first|exact l.ex.alloc _|exact(l.ex.alloc _).drew|exact l.ex.drew.alloc _) (by first|exact l.np.ext (eAl J _)|exact l.np.ext (eAl J _).drew|exact l.np.ext ((eDr J).alloc _)) _ 1 (by first|rfl|simp[Act.eval,Act.put]) (by first|rfl|simp[Act.eval,Act.put];rfl) (World.news_of_block (cs:=#[iv j.st,iv j.kind,iv j.T,iv j.U,iv j.born,iv j.J,iv j.to,sS o c c]) (by first|exact heap_alloc_new _ _|simp)) v hv X3 ?_;intro b' k' w7 ae;have ah:=ae.far.trans (l.ex.block g C.nf.1).symm;have bf:=(cOb g 4 ah).trans c4;have ce:=(fOb g 4 ah).trans f4;have cd:=cLt bf;have HP:=uU ae;clear ae ah)
      all_goals
       go_wp21;go_meet;exact⟨by rw[uH bm];first|exact HP.gk _ (hO _)|exact HP.gk _ (eDr _)|exact(HP.gk _ (hO _)).ext (eDr _),by first|exact HP.ex.sc g 4 I _|exact HP.ex.drew.sc g 4 I _|exact(HP.ex.sc g 4 I _).drew⟩
    rotate_left
    focus
     have bk:((t:Int) == (d.A.length:Int))=false:=by simp;omega
     have ak:t<d.A.length:=by have:=uH TL;omega
     have hn:0<d.A.length:=by omega
     rw[O.hc hn]at c4;obtain⟨y0,y1,y2,y3,y4,y5,y6⟩:=O.rw.s t ak;have y7:=O.rw.p7 t ak;have fc:=(O.rw.nc hn).1.2;have bh:=(O.rw.nc hn).2;have am:=cLt y7;have k0:=i0N t;have k1:(t:Int)<(d.A.length:Int):=by omega
     have ai:=uU (show GOk B (eK J bc (t*8) j (sS o c c)) g (a9d d t j)/\Ext v (eK J bc (t*8) j (sS o c c)) from⟨c4v C R0 t ak j c MC J l.ex o l.np,(a0a J bc (t*8) j (sS o c c)).ext (X3.trans l.ex) (λq hq e=>by omega)⟩);obtain⟨W7,T⟩:∃W,W=(eK J bc (t*8) j (sS o c c)).drew:=⟨_,rfl⟩;have N7:=uU (show GOk B W7 g (a9d d t j)/\Ext v W7 by rw[T];exact⟨ai.1.ext (eDr _),ai.2.trans (eDr _)⟩);unfold eK at T;clear O ai;go_upto_region 11 with(fail);go_cut [] (λG=>Hid (GOk B G g (a9d d t j))/\Hid (Ext v G))
     case first=>
      go_region
      rw[<-T];go_wp21;go_meet;exact⟨N7.1,N7.2⟩
     clear y0 y1 y2 y3 y4 y5 y6 y7 fc bh am k0 k1 N7 T W7
    all_goals
     obtain⟨w8,bl⟩:∃W,W=wc:=⟨_,rfl⟩;subst bl;obtain⟨ax,az⟩:=hcut;have G8:=uU ax;have X8:=uU az;clear ax az c4 f4 i F d0 d1 d2 d3 d4 d5 d6 d7 l;have c1:w8.cell? (aA g 1)=some (iv z.K):=by have:=G8.nums.2.1;rw[show(a9d d t j).K=d.K from rfl,uH k]at this;exact this
     obtain⟨_,_,_,fb,I,i⟩:=G8.box;have f1:=fb 1;have hu:0<=z.K/\z.K<=4000:=by have h3:=SZ.r3;have h1:=SZ.r1.M;unfold R3 at h3;omega
     obtain⟨K,Q⟩:∃W,W=w8.setCell (aA g 1) (iv (z.K+(1+(c:Int)))):=⟨_,rfl⟩;have G9:=uU (show GOk B K g (tW z b c) by
      rw[Q];have:=G8.set1 (z.K+(1+(c:Int)));rw[uH k]at this;have e2:j=tE (z.born+1) b c (qN z (uE z)):=by rw[uH av,uH HT,uH k];rfl
      have e3:t=uE z:=by rw[uH HT,uH k];rfl
      rw[e2,e3]at this;exact this)
     have X9:=uU (show Ext v K by rw[Q];exact X8.sc g 1 (kA hv I) _);have ap:=uU Q;clear Q fb;go_wp21;rw[<-uH ap];clear ap c1 f1 i hu;have sm:=SZ.make b c (by omega) hc (by have eb:=HZ.bornE;have b1:=S.r1.born;have:=uH NB;omega) (by have e:=uH HF;unfold zV at e;have:=of_decide_eq_true e;omega);have SM:=uU sm;have ET:=uU (show(t:Int)=(uE z:Nat) by rw[uH HT,uH k];rfl);obtain⟨H,cg,A⟩:=G9.B sm.1.r1.B;have HR:=uU A;have c3:=A.c3;obtain⟨r0,r1,r2⟩:=A.r a ha;have fr:=A.f;have i:=cLt c3;have am:=cLt r0;have cc:=A.lo.1;obtain⟨N,t1,t2,t3,t4,Y,t6,t7⟩:=G9.boxes R;have cf:=cLt N;have i0:=i0N a;have i1:(a:Int)<16:=by omega
     have FN:=uU (show GOk B (cX K H (a*3) ⟨2,0,t⟩) g (regTo (tW z b c) a ⟨2,0,t⟩)/\Ext v (cX K H (a*3) ⟨2,0,t⟩) from⟨HR.set K a ⟨2,0,t⟩ (hO _) ha,(cD K H (a*3) ⟨2,0,t⟩).ext X9 (λq hq e=>by omega)⟩);obtain⟨bi,m⟩:∃W,W=cX K H (a*3) ⟨2,0,t⟩:=⟨_,rfl⟩;rw[<-m]at FN;unfold cX at m;have QP:=uU (λW(xW:Ext bi W)=>show Calls prog 126 #[pP g,iv (1+(c:Int))] W λe w'=>∃y,e=.returned (.tuple #[])/\Hid (tL (regTo (tW z b c) a ⟨2,0,uE z⟩) (1+c) y)/\Hid (GOk B w' g y)/\Ext v w' from by
      have sr:=SM.1.regTo a ⟨2,0,uE z⟩ ⟨.inr (.inr ⟨rfl,rfl,by show(0:Int)<=(uE z:Nat);omega,by show((uE z:Nat):Int)<_;have:=SM.2.2.1;omega⟩),λ_=>.inr ⟨SM.2.1,SM.2.2.2⟩⟩;have gw:=FN.1.ext xW;rw[uH ET]at gw;have:=b4z B g (regTo (tW z b c) a ⟨2,0,uE z⟩) (1+c) W gw sr (by omega) v hv (FN.2.trans xW);rw[show((1+c:Nat):Int)=1+(c:Int) by omega]at this;exact this)
     clear sm A t2 t3 t4 Y t6 t7;go_region;go_wp21;rw[<-m];refine(QP _ (eDr _)).mono ?_;rintro e ca ⟨y,rfl,aq,ao,ay⟩;have bj:=uU ao;have bp:=uU ay;have PC:=uU aq;clear ao ay aq QP m FN c3 r0 r1 r2 fr N t1;go_wp21;refine(a0j 0 _).mono ?_;rintro e bu ⟨rfl,aj⟩;have an:=uU (bj.ext aj);have bt:=uU (bp.trans aj);obtain⟨u0,u1,u2,u3,u4,u5,u6,u7⟩:=an.boxes R;have bw:w.heap.size+1<bu.heap.size:=uQ u5;clear aj;go_wp21;refine bodyPost_ret (v:=tD 0 0) (by simp[results,results68,go_sem,u5,u6]) rfl ?_;exact⟨_,0,0,rfl,⟨rfl,.inr ⟨NB,z,HZ,.inr ⟨HF,rfl,PC⟩⟩⟩,GOk.done R an 0 0,eJ bt V0 0 0⟩
 have NB:=uU (show x.born=1000000000 by simpa using o);go_in;go_wp21;refine(a0r 4 _).mono ?_;rintro e w3 ⟨rfl,x3⟩;have L:=uU (G1.ext x3);have X3:=uU (X1.trans x3);obtain⟨u0,u1,u2,u3,u4,u5,u6,u7⟩:=L.boxes R;have ab:w.heap.size+1<w3.heap.size:=uQ u5;clear x3;go_wp21;refine bodyPost_ret (v:=tD 4 0) (by simp[results,results68,go_sem,u5,u6]) rfl ?_;exact⟨_,4,0,rfl,⟨rfl,.inl ⟨NB,rfl,rfl⟩⟩,GOk.done R L 4 0,eJ X3 V0 4 0⟩
theorem l5do_1[p:qr](B g:Nat)(x:Hp)(a b c:Nat)(n:Int)(w:World)(h:GOk B w g x)(s:Snd x)(O:zC 1 a b c n=true)(P:a<16)(M:b<=255)(N:c<=200)(v:World)(Q:v.heap.size<=B)(q:Ext v w):
  Calls prog 28 #[pP g,yU 1 a b c n] w λe w'=>a1a B g x a b c n 1 v e w':=by
 obtain⟨Y,D,E⟩:=GOk.enter h (w0:=doW w 1 a b c n) ((eAl w _).alloc _);have r:=uU E;have S:=uU s;have o:=uU D;have k:=uU (λW=>a1g 1 a b c n W);rw[O]at k;have L:=uU (show v.heap.size<=w.heap.size+1 by have:=q.size;omega);have H:=uU (show Ext v (doW w 1 a b c n) from(q.alloc _).alloc _);have I:=uU (yE.new w 1 a b c n);go_in;go_wp21;refine(k _).mono ?_;rintro e m ⟨rfl,i⟩;have F:=uU (H.trans i);have j:=uU (I.ext i);obtain⟨V,X,t2,U,Z,T,R,t7⟩:=uH j;have u:=uU (r.ext i);have t:=uU (show Calls prog 68 #[pP g,yU 1 a b c n] m λe w'=>a1a B g x a b c n 1 v e w' from by
  exact c5f B g x a b c n m u S P M N v Q F)
 go_wp21;refine t.mono ?_;rintro e w3 ⟨y,f,d,z,C,K,G⟩;have J:=uH z;subst J;have l:=uU K;have A:=uU G;obtain⟨u0,u1,u2,u3,u4,u5,u6,u7⟩:=l.boxes o;go_wp2;refine bodyPost_ret (v:=tD f d) (by simp[results,results28,go_sem,u5,u6]) rfl ?_;exact⟨y,f,d,rfl,C,GOk.done o l f d,eJ A L f d⟩
def goH(x:Hp)(H:Nat->Bool)(i:Nat)(z:Hp):Hp:={ z with A:=z.A.set i (a7c x H (x.c i)),K:=z.K-qC x H (x.c i) (x.c i).F,sub:=zW x H i z.sub }
structure ZIs(x z:Hp)(i:Nat):Prop where
 len:z.A.length=x.A.length
 st:∀q,(z.c q).st=(x.c q).st/\(z.c q).to=(x.c q).to
 ci:z.c i=x.c i
 hi:i<x.A.length
 sc:uV z=uV x
 hh:0<=z.I/\z.I<=z.A.length
 hg:∀g,g∈z.D->0<=g/\g<z.A.length
 sb:uV x=(i:Int)->0<=z.sub/\z.sub<=(x.c i).F.length
 us:-2000000<=z.K/\z.K<=2000000
 p2:(x.c i).F.length<=200
theorem c9t[qr](h:SAt B w b z ar kr v4 v8 br cB cO bn pb pa pk kn hd vf F vk K role)(r:Nat)(u:List Nat)(i:Nat)(hm:tV w r bn (u.map (λi=>i*2)))(ap:r<w.heap.size)(hr:r≠b/\(∀j,j<x.A.length->r≠cB j)/\r≠bn/\(0<(x.c i).F.length->r≠pb i))(Z:ZIs x z i)(r2:R2 x)(J:∀k,k<(x.c i).F.length->a0m x ((x.c i).p k).key/\a0m x ((x.c i).p k).val)(ao:(x.c i).F.length<=pk i)(a:World)(ha:a.heap.size<=B)(hx:Ext a w):
  Calls prog 81 #[pP b,ndp bn i,.map (some r)] w λe w'=>Hid (e=.returned (iv (qC x (λi=>decide (i∈u)) (x.c i) (x.c i).F)))/\Hid (SAt B w' b (goH x (λi=>decide (i∈u)) i z) ar kr v4 v8 br cB cO bn pb pa pk kn hd vf F vk K role)/\Hid (tV w' r bn (u.map (λi=>i*2))/\r<w'.heap.size)/\Ext a w':=by
 obtain⟨H,hH⟩:=obE (λi=>decide (i∈u):Nat->Bool);rw[<-hH];have HH:=uU hH;clear hH;have bm:b<w.heap.size:=h.sb.nb.1;have bj:cB i<w.heap.size:=(h.rw.nc i (by rw[Z.len];exact Z.hi)).1.1;have bo:bn<w.heap.size:=h.sb.lo.2.2.1;have ab:0<(x.c i).F.length->pb i<w.heap.size:=λq=>(h.rw.pl i (by rw[Z.len];exact Z.hi) (h.rw.pw (by rw[Z.len];exact Z.hi) (by rw[Z.ci];exact q))).2.1.1
 have X4:Ext w ((((w.alloc (.cells #[pP b] 72)).alloc (.cells #[ndp bn i] 97)).alloc (.cells #[.map (some r)] 129)).alloc (.cells #[.func (.func 143) #[] #[pP w.heap.size,pP (w.heap.size+1+1)]] 182)):=((((eAl w _).alloc _).alloc _).alloc _);have N:=uU (show Bxs ((((w.alloc (.cells #[pP b] 72)).alloc (.cells #[ndp bn i] 97)).alloc (.cells #[.map (some r)] 129)).alloc (.cells #[.func (.func 143) #[] #[pP w.heap.size,pP (w.heap.size+1+1)]] 182)) b r w.heap.size (w.heap.size+1+1) (w.heap.size+1) (w.heap.size+1+1+1) bn i u from
  ⟨by simp[go_sem],by simp[go_sem],by simp[go_sem],by simp[go_sem],hm.block (X4.block r ap),kF ap X4.size⟩)
 have S4:=uU (h.ext X4);have aa:=uU (hx.trans X4);have f:=uU Z;have ag:=uU r2;have HK:=uU J;have EN:=uU (λW=>d4e (bn:=bn) i (b6d Z.hh Z.hg) W);go_in;go_wp21;obtain⟨W4,ai⟩:∃W,W=((((w.alloc (.cells #[pP b] 72)).alloc (.cells #[ndp bn i] 97)).alloc (.cells #[.map (some r)] 129)).alloc (.cells #[.func (.func 143) #[] #[pP w.heap.size,pP (w.heap.size+1+1)]] 182)):=⟨_,rfl⟩;rw[<-ai]at N S4 aa X4 ⊢;clear ai h hm hx Z r2 J;have cs:=N.s;have T:=N.n;have ac:=cLt cs;have U:w.heap.size+1<W4.heap.size:=uQ T;go_cut [18] (λaq O=>aq=.bool (decide (uV x=(i:Int)))/\Hid (SAt B O b z ar kr v4 v8 br cB cO bn pb pa pk kn hd vf F vk K role)/\Hid (Bxs O b r w.heap.size (w.heap.size+1+1) (w.heap.size+1) (w.heap.size+1+1+1) bn i u)/\Hid (Ext a O))
 case first=>
  have en:=uH EN;go_region_with (go_at_call 148;refine(b0s (S4.ext (eDr W4)) f.hh f.hg).mono ?_;rintro e w5 ⟨rfl,q5⟩;have x5:=kI (eDr W4) q5;have dn:=x5.keep T;have cc:w.heap.size+1<w5.heap.size:=uQ dn;clear q5);all_goals
   go_wp21;go_meet;exact⟨by rw[f.sc],S4.ext x5,N.ext x5,aa.trans x5⟩
 case rest=>
  clear cs T ac U S4 N aa EN;obtain⟨rfl,S5,B5,X5⟩:=hcut;obtain⟨W5,az⟩:∃W,W=wc:=⟨_,rfl⟩;subst az;go_upto_if 18 with(fail);go_cut [] (λO=>Hid (SAt B O b { z with sub:=zW x H i z.sub } ar kr v4 v8 br cB cO bn pb pa pk kn hd vf F vk K role)/\Hid (Bxs O b r w.heap.size (w.heap.size+1+1) (w.heap.size+1) (w.heap.size+1+1+1) bn i u)/\Hid (Ext a O))
  case first=>
   by_cases I:uV x=(i:Int)
   ·rw[decide_eq_true I];have cs:=B5.s;have T:=B5.n;have ac:=cLt cs;have U:w.heap.size+1<W5.heap.size:=uQ T;have d:i<z.A.length:=by rw[f.len];exact f.hi
    have m1:=(S5.sb.nd i d).2;have p7:=S5.rw.p7 i d;rw[f.ci]at p7;have c7:=S5.sb.bx.2.2.2.2.2.2.2.1;have ax:=f.sb I;have an:=f.p2;obtain⟨n,hn⟩:∃n:Nat,z.sub=(n:Int):=⟨z.sub.toNat,by omega⟩;have ak:=uU hn;have bb:=uU (show zW x H i z.sub=z.sub-qC x H (x.c i) ((x.c i).F.take n) by unfold zW;rw[if_pos I,hn];simp);rw[hn]at c7;have cf:n<=(x.c i).F.length:=by omega
    have n0:=i0N n;have n1:(n:Int)<=(pk i:Int):=by omega
    have ae:=cLt m1;have al:cB i<W5.heap.size:=uQ p7;have bf:=cLt c7;clear hn I ax;go_wp21;go_quiet (fail);go_wp21;go_loopw [34] (λk wr=>∃j:Nat,j<=n/\k=iv j/\Hid (SAt B wr b { z with sub:=z.sub-qC x H (x.c i) ((x.c i).F.take j) } ar kr v4 v8 br cB cO bn pb pa pk kn hd vf F vk K role)/\Hid (Bxs wr b r w.heap.size (w.heap.size+1+1) (w.heap.size+1) (w.heap.size+1+1+1) bn i u)/\Hid (Ext a wr)) (λk _=>n-(intOf k).toNat)
    case atStart=>exact⟨0,kB _,rfl,by
     have e:({ z with sub:=z.sub-qC x H (x.c i) ((x.c i).F.take 0) }:Hp)=z:=by simp[qC]
     rw[e];exact S5.ext ((hO _).drewN _),B5.ext ((hO _).drewN _),X5.trans ((hO _).drewN _)⟩
    case round=>
     clear cs T ac U m1 p7 c7 ae al bf S5 B5 X5;obtain⟨j,hj,rfl,hS,hB,hX⟩:=hrel;by_cases bp:j<n
     ·have M:j<(x.c i).F.length:=by omega
      have aw:=(hS.rw.pl i d (hS.rw.pw d (by show 0<(z.c i).F.length;rw[f.ci];omega))).1;have pp:=hS.rw.p i d j (by show j<(z.c i).F.length;rw[f.ci];exact M);have A:({ z with sub:=z.sub-qC x H (x.c i) ((x.c i).F.take j) }:Hp).c i=x.c i:=f.ci;rw[A]at pp;obtain⟨y,hy⟩:=obE ((x.c i).p j);rw[<-hy]at pp;obtain⟨e0,e1,V,e3,e4,e5⟩:=pp;have bw:pb i<wr.heap.size:=uQ e0;have ce:=i0N j;have bt:(j:Int)<(n:Int):=by omega
      have xa:=(hO wr).alloc (oPr y);have GA:=uU ((hS.ext xa).goat (hB.ext xa) f.len f.st d (by show(z.c i).T=_;rw[f.ci]));have C:=uU (c2s x y b r _ _ _ _ bn kn i (acB cB cO) u _ GA ag (by rw[hy];exact(HK j M).1) (by rw[hy];exact(HK j M).2));rw[<-uH HH]at C;have GT:=uU (show qC x H (x.c i) ((x.c i).F.take (j+1))=qC x H (x.c i) ((x.c i).F.take j)+if goB x H (x.c i) y=true then 1 else 0 by
       rw[hy,<-Cl.p_eq _ _ M,kx M,c1f,a2r];split <;> simp[qC])
      have GL:=a5q x H (x.c i) ((x.c i).F.take j);have bh:((x.c i).F.take j).length<=200:=by rw[mw];omega
      clear hy A GA;rw[aw];go_wp21;refine C.mono ?_;rintro e w6 ⟨rfl,q6⟩;have x6:=xa.trans q6;have g:=uU (hS.ext x6);have X:=uU (hB.ext x6);have X6:=uU (hX.trans x6);cases t:goB x H (x.c i) y
      ·have G:=uU (show qC x H (x.c i) ((x.c i).F.take (j+1))=qC x H (x.c i) ((x.c i).F.take j) by rw[uH GT,t];simp);clear GT e0 e1 V e3 e4 e5;go_wp21;go_roundw
       case rel=>exact⟨j+1,by omega,by go_num,by rw[uH G];exact uH g,X,X6⟩
       simp[intOf];omega
      have G:=uU (show(qC x H (x.c i) ((x.c i).F.take (j+1)):Int)=(qC x H (x.c i) ((x.c i).F.take j):Int)+1 by rw[uH GT,t];simp);have d7:=g.sb.bx.2.2.2.2.2.2.2.1;have f7:=g.sb.nb.2 7;have ds:=X.s;have cb:=cLt d7;have cg:=cLt ds;have wd:=a4x (z.sub-qC x H (x.c i) ((x.c i).F.take j)-1) (by have:=uH ak;omega) (by have:=uH ak;omega);have R:=uU (show SAt B (w6.setCell (aA b 7) (iv (z.sub-qC x H (x.c i) ((x.c i).F.take j)-1))) b { z with sub:=z.sub-qC x H (x.c i) ((x.c i).F.take (j+1)) } ar kr v4 v8 br cB cO bn pb pa pk kn hd vf F vk K role/\Bxs (w6.setCell (aA b 7) (iv (z.sub-qC x H (x.c i) ((x.c i).F.take j)-1))) b r w.heap.size (w.heap.size+1+1) (w.heap.size+1) (w.heap.size+1+1+1) bn i u/\Ext a (w6.setCell (aA b 7) (iv (z.sub-qC x H (x.c i) ((x.c i).F.take j)-1))) from by
       refine⟨?_,X.blocks (by simp[World.setCell]) (λq hq au=>kP _ _ _ _ (by show q≠b;have:=hr.1;omega)),X6.sc b 7 (kA ha g.sb.lo.1) _⟩;have:=g.subs (z.sub-qC x H (x.c i) ((x.c i).F.take j)-1);have e:({ z with sub:=z.sub-qC x H (x.c i) ((x.c i).F.take (j+1)) }:Hp)={ z with sub:=z.sub-qC x H (x.c i) ((x.c i).F.take j)-1 }:=by rw[uH G];congr 1;omega
       rw[e];exact this)
      clear GT e0 e1 V e3 e4 e5;go_wp21;go_roundw
      case rel=>exact⟨j+1,by omega,by go_num,R.1,R.2.1,R.2.2⟩
      simp[intOf];omega
     have je:j=n:=by omega
     subst je;go_wp21;go_meet;exact⟨by rw[uH bb];exact uH hS,hB,hX⟩
   rw[decide_eq_false I];have E:=uU (show zW x H i z.sub=z.sub by unfold zW;rw[if_neg I]);go_wp21;go_meet;exact⟨by rw[uH E];exact uH S5,B5,X5⟩
  case rest=>
   clear S5 B5 X5;obtain⟨g,X,X6⟩:=hcut;obtain⟨v,bc⟩:∃W,W=wc:=⟨_,rfl⟩;subst bc;have T:=X.n;have d:i<z.A.length:=by rw[f.len];exact f.hi
   have m1:=(g.sb.nd i d).2;have p7:=g.rw.p7 i d;have A:({ z with sub:=zW x H i z.sub }:Hp).c i=x.c i:=f.ci;rw[A]at p7;have an:=f.p2;have U:w.heap.size+1<v.heap.size:=uQ T;have bi:=cLt m1;have bg:cB i<v.heap.size:=uQ p7;have Q:0<(x.c i).F.length->pb i≠b/\pb i≠bn/\∀j,j<x.A.length->pb i≠cB j:=λq=>by
    have q0:0<(({ z with sub:=zW x H i z.sub }:Hp).c i).F.length:=by rw[A];exact q
    have h1:=g.sp.p i d (g.rw.pw d q0);have h2:=g.sp.b;have h3:=g.sp.n;refine⟨λe=>?_,λe=>?_,λj hj=>(g.rw.pl i d (g.rw.pw d q0)).2.2.1.2 j (by rw[<-f.len]at hj;exact hj)⟩ <;> rw[e]at h1 <;> omega
   have ad:i<x.A.length:=f.hi;have P:0<(x.c i).F.length->pb i≠cB i:=λq=>(Q q).2.2 i ad
   have AN:=uU (show Ans2 (goB x H (x.c i)) (x.c i).F (w.heap.size+1) (w.heap.size+1+1+1) (pb i) (λW=>b6y W b r w.heap.size (w.heap.size+1+1) (w.heap.size+1) (w.heap.size+1+1+1) x (acB cB cO) bn kn u i) from
    ⟨λW hW k J=>by
     have:=c2s x (x.c i).F[k] b r _ _ _ _ bn kn i (acB cB cO) u W hW ag (by rw[Cl.p_eq _ _ J];exact(HK k J).1) (by rw[Cl.p_eq _ _ J];exact(HK k J).2);rw[<-uH HH]at this;exact this,λW W' hW e=>hW.ext e,λh0 W W' hW o=>hW.only ad o (λq hq e=>by
     have h1:=ab h0;have h2:=Q h0;have h3:=hr.2.2.2 h0;obtain h|h|h|h|h|h|h:=hq <;> omega) (λj hj e=>(Q h0).2.2 j hj e.symm)⟩)
   have GD:=uU (show b6y v.drew b r w.heap.size (w.heap.size+1+1) (w.heap.size+1) (w.heap.size+1+1+1) x (acB cB cO) bn kn u i from(g.ext (eDr v)).goat (X.ext (eDr v)) f.len f.st d (by show(z.c i).T=_;rw[f.ci]));have PR:=uU (show kN v.drew (pb i) (x.c i).F from λk J=>by
    have:=(g.ext (eDr v)).rw.p i d k (by rw[A];exact J);rw[A,<-Cl.p_eq _ _ J]at this;exact this)
   have PN:=uU (show 0<(x.c i).F.length->pa i=some (aA (pb i) 0)/\Nfp (pb i) (pk i) v.drew/\(x.c i).F.length<=pk i from λq=>by
    have:=(g.ext (eDr v)).rw.pl i d (g.rw.pw d (by rw[A];exact q));exact⟨this.1,this.2.1,ao⟩)
   have QD:=uU (c2u (goB x H (x.c i)) (x.c i).F (w.heap.size+1) (w.heap.size+1+1+1) (pb i) _ AN (pa i) (pk i) v.drew GD PR PN an);have D:=uU (g.ext (eDr v));have BD:=uU (X.ext (eDr v));have XD:=uU (X6.trans (eDr v));clear AN GD PR PN g X X6;go_upto_region 11 with(fail);go_cut [] (λO=>Hid (SAt B O b { z with A:=z.A.set i (a7c x H (x.c i)),sub:=zW x H i z.sub } ar kr v4 v8 br cB cO bn pb pa pk kn hd vf F vk K role)/\Hid (Bxs O b r w.heap.size (w.heap.size+1+1) (w.heap.size+1) (w.heap.size+1+1+1) bn i u)/\Hid (Ext a O))
   case first=>
    go_region_with (go_at_call 149;refine QD.mono ?_;rintro e Y ⟨rfl,af,l,aj⟩;have n7:=l.keep (b:=w.heap.size+1) (o:=0) (λe=>by have h1:=ab e.2;have h2:=e.1;omega) BD.n;have m7:=l.keep (b:=bn) (o:=i*2+1) (λe=>(Q e.2).2.1 e.1.symm) (D.sb.nd i d).2;have q7:=l.keep (b:=cB i) (o:=cO i+7) (λe=>P e.2 e.1.symm) (D.rw.p7 i d);have f7:=(l.frozen (b:=cB i) (o:=cO i+7) (D.rw.nc i d).1.1 (λe=>P e.2 e.1.symm)).trans ((D.rw.nc i d).1.2 _);have bl:w.heap.size+1<Y.heap.size:=uQ n7;have bq:=cLt m7;have av:cB i<Y.heap.size:=uQ q7)
    all_goals
     have R:=uU (show SAt B (Y.setCell (aA (cB i) (cO i+7)) (.slice (pa i) (yX (goB x H (x.c i)) (x.c i).F).length (pk i))) b { z with A:=z.A.set i (a7c x H (x.c i)),sub:=zW x H i z.sub } ar kr v4 v8 br cB cO bn pb pa pk kn hd vf F vk K role/\Bxs (Y.setCell (aA (cB i) (cO i+7)) (.slice (pa i) (yX (goB x H (x.c i)) (x.c i).F).length (pk i))) b r w.heap.size (w.heap.size+1+1) (w.heap.size+1) (w.heap.size+1+1+1) bn i u/\Ext a (Y.setCell (aA (cB i) (cO i+7)) (.slice (pa i) (yX (goB x H (x.c i)) (x.c i).F).length (pk i))) from by
      have ay:Nf1 (cB i) Y:=⟨av,λj=>(l.frozen (b:=cB i) (o:=j) (D.rw.nc i d).1.1 (λe=>P e.2 e.1.symm)).trans ((D.rw.nc i d).1.2 j)⟩;have kl:=keep_le (goB x H (x.c i)) (x.c i).F;have oo:uZ (λq=>q=cB i\/(q=pb i/\0<(({ z with sub:=zW x H i z.sub }:Hp).c i).F.length)) v.drew (Y.setCell (aA (cB i) (cO i+7)) (.slice (pa i) (yX (goB x H (x.c i)) (x.c i).F).length (pk i))):=uZ.setCell (l.mono (λq e=>.inr (by rw[A];exact e))) (p:=(aA (cB i) (cO i+7))) (.inl rfl) _;refine⟨?_,?_,?_⟩;have:=D.stayed i d (yX (goB x H (x.c i)) (x.c i).F) (by rw[A];exact kl) oo (ay.set _ _) (λq=>(aj (by rw[A]at q;exact q)).set _ _) (kM _ _ _ q7) (λj hj=>(uC _ (.inr (λe=>hj e.symm))).trans (by
       by_cases h0:0<(x.c i).F.length;exact l.A (cB i) (D.rw.nc i d).1.1 (λe=>P e.2 e.1.symm) j;exact l.A (cB i) (D.rw.nc i d).1.1 (λe=>h0 e.2) j)) (λk J=>by
       have be:0<(x.c i).F.length:=by omega
       exact(af k J).same λj _=>uC _ (.inl (λe=>P be e.symm)))
      rw[A]at this;exact this;refine BD.blocks (oo.size) (λq hq au=>oo.block q hq (λe=>?_));have h1:=hr.2.1 i ad;obtain e|⟨e,V⟩:=e
      ·omega
      rw[A]at V;have h2:=ab V;have h3:=hr.2.2.2 V;omega;refine oo.ext XD (λq hq e=>?_);have hB:=(D.rw.nc i d).2;obtain e|⟨e,V⟩:=e
      ·omega
      have:=(D.rw.pl i d (D.rw.pw d V)).2.2.2;omega)
     clear af l aj;go_wp21;go_meet;exact⟨R.1,R.2.1,R.2.2⟩
   case rest=>
    clear QD D BD XD T m1 p7;obtain⟨S8,B8,X8⟩:=hcut;obtain⟨S,bd⟩:∃W,W=wc:=⟨_,rfl⟩;subst bd;have am:({ z with A:=z.A.set i (a7c x H (x.c i)),sub:=zW x H i z.sub }:Hp).c i=a7c x H (x.c i):=by
     have:=Hp.c_set z i (a7c x H (x.c i)) d i;rw[if_pos rfl]at this;exact this
    have ah:i<({ z with A:=z.A.set i (a7c x H (x.c i)),sub:=zW x H i z.sub }:Hp).A.length:=by simpa using d
    have n8:=B8.n;have s8:=B8.s;have m8:=(S8.sb.nd i ah).2;have q8:=S8.rw.p7 i ah;rw[am]at q8;have c8:=S8.sb.bx.2.1;have f8:=S8.sb.nb.2 1;have bu:w.heap.size+1<S.heap.size:=uQ n8;have bk:=cLt s8;have bv:=cLt m8;have cd:cB i<S.heap.size:=uQ q8;have ca:=cLt c8;have sg:=a4w x H (x.c i) (x.c i).F;have us:=f.us;obtain⟨L,hL⟩:=obE ((a7c x H (x.c i)).F.length);have bz:L+qC x H (x.c i) (x.c i).F=(x.c i).F.length:=by rw[hL];exact sg
    rw[<-hL]at q8;have EQ:((x.c i).F.length:Int)-(L:Int)=(qC x H (x.c i) (x.c i).F:Int):=by omega
    have ba:=uU EQ;have bs:L<=(x.c i).F.length:=by omega
    clear EQ;have R:=uU (show SAt B (S.setCell (aA b 1) (iv (z.K-qC x H (x.c i) (x.c i).F))) b (goH x H i z) ar kr v4 v8 br cB cO bn pb pa pk kn hd vf F vk K role/\(tV (S.setCell (aA b 1) (iv (z.K-qC x H (x.c i) (x.c i).F))) r bn (u.map (λi=>i*2))/\r<(S.setCell (aA b 1) (iv (z.K-qC x H (x.c i) (x.c i).F))).heap.size)/\Ext a (S.setCell (aA b 1) (iv (z.K-qC x H (x.c i) (x.c i).F))) from
     ⟨S8.usedTo _,⟨B8.m.block (kP _ _ _ _ (by show r≠b;exact hr.1)),by have:=B8.rl;simpa[World.setCell]using this⟩,X8.sc b 1 (kA ha S8.sb.lo.1) _⟩)
    clear S8 B8 X8 hL sg A am;go_wp21;go_ret;rw[uH ba];exact⟨rfl,R.1,R.2.1,R.2.2⟩
theorem scan_of(r:a2i z x)(d:z.A.length=x.A.length):uV z=uV x:=by
 have⟨_,_,_,b,c,a,_⟩:=r;unfold uV;rw[b,c,a,d]
theorem zis_of(s:Snd x)(H:Nat->Bool)(j:∀i,H i=true↔qX x i)(k:Nat)(b:k<x.A.length)(l:H k=true):ZIs x (stTo x H k) k:=by
 have a:=a2j x H k;have c:=b5k x H k;have g:=a4z x H s.ok.p200 k (by omega);have t:=s.ok.n8;have⟨_,_,_,n,h,f,_⟩:=a3p x H k;have p:=s.r1.I;have m:0<=x.K/\x.K<=4000:=by have d:=s.r3;have o:=s.r1.M;unfold R3 at d;omega
 refine⟨a,λq=>c6r x H k (by omega) q,?_,b,scan_of (a3p x H k) a,?_,?_,λe=>?_,?_,s.ok.p200 k b⟩;rw[b1w x H k (by omega) k,if_neg (by omega)];rw[h,a];omega;rw[f,a];exact s.r5.2.2;rw[c.2,b1s x H k e k (hT _)];exact b0h s b (((j k).1 l).good s.r2 s.r4).2.1 e;rw[c.1,a9b];omega
theorem b6e[qr](h:SAt B w b x ar kr v4 v8 br cB cO bn pb pa pk kn hd vf F vk K role)(s:Snd x)(a:World)(ha:a.heap.size<=B)(hx:Ext a w):
  Calls prog 29 #[pP b] w λe w'=>∃H:Nat->Bool,Hid (e=.returned (.tuple #[iv (qJ x H x.A.length),iv (kE x H x.A.length)]))/\Hid (∀i,H i=true↔qX x i)/\Hid (SAt B w' b (a1u x H) ar kr v4 v8 br cB cO bn pb pa pk kn hd vf F vk K role)/\Ext a w':=by
 have n8:=s.ok.n8;have p2:=uU s.ok.p200;have QH:=uU (c2w x b w bn 0 (h.vn (by rw[s.r1.B];omega) s.ok.p200) s.r2 s.r4 n8 s.ok.p200 (λJ h1=>a5x x b J bn 0 h1 n8));have y:=uU s;have CP:=uU h.rw.kp;clear s;go_in;go_wp21;refine QH.mono ?_;rintro e J ⟨rfl,o,hm,Y,hh,x1⟩;have W:=h.ext x1;have l:=W.sb.n13;have Z:=cLt l;have⟨H,hH⟩:=obE (λi=>decide (i∈o):Nat->Bool);have HH:=uU hH;have X:=uU (show ∀i,H i=true↔qX x i from λi=>by rw[hH];show decide (i∈o)=true↔_;rw[decide_eq_true_iff];exact hh i);have M1:=uU (show tV J w.heap.size bn (o.map (λi=>i*2))/\w.heap.size<J.heap.size from by
  refine⟨?_,Y⟩;have:=hm;simp only[Nat.zero_add]at this;exact this)
 have X1:=uU (hx.trans x1);have M:=uU (show b<w.heap.size/\bn<w.heap.size/\(∀q,q<x.A.length->cB q<w.heap.size)/\∀q,q<x.A.length->0<(x.c q).F.length->pb q<w.heap.size from
  ⟨h.sb.nb.1,h.sb.lo.2.2.1,λq Q=>(h.rw.nc q Q).1.1,λq Q hl=>(h.rw.pl q Q (h.rw.pw Q hl)).2.1.1⟩)
 have N:=a4z x H p2;clear hm hh hH x1 h QH hx;go_wp21;go_loopw [2,3,17] (λg d i wr=>∃k:Nat,k<=x.A.length/\i=iv k/\g=iv (qJ x H k)/\d=iv (kE x H k)/\Hid (SAt B wr b (stTo x H k) ar kr v4 v8 br cB cO bn pb pa pk kn hd vf F vk K role)/\Hid (tV wr w.heap.size bn (o.map (λi=>i*2))/\w.heap.size<wr.heap.size)/\Hid (Ext a wr)) (λ_ _ i _=>x.A.length-(intOf i).toNat)
 case atStart=>exact⟨0,kB _,rfl,rfl,rfl,W,M1,X1⟩
 case round=>
  clear W M1 X1 l Z;obtain⟨k,hk,rfl,rfl,rfl,I,G,U⟩:=hrel;by_cases f:k<x.A.length
  ·have l:=I.sb.n13;rw[a2j]at l;have aa:=cLt l;have ai:=i0N k;have ad:(k:Int)<(x.A.length:Int):=by omega
   have af:=uH N k (by omega);have ab:=uH N (k+1) (by omega);have ag:=b9c x H k;have m:k<(stTo x H k).A.length:=by rw[a2j];exact f
   go_wp21;refine(a8c w.heap.size bn (k*2) _ _ G.1).mono ?_;rintro e n ⟨rfl,A⟩;rw[(show decide (k*2∈o.map (λi=>i*2))=H k by rw[uH HH,decide_eq_decide];exact c6x)];have r:=I.ext A;have v:tV n w.heap.size bn (o.map (λi=>i*2))/\w.heap.size<n.heap.size:=⟨G.1.block (A.block _ G.2),kF G.2 A.size⟩;have O:=U.trans A;clear I G U A l aa;cases t:H k
   ·have CK:=uU (show(stTo x H k).c k=x.c k by rw[b1w x H k (by omega) k,if_neg (by omega)]);have L:=uU (show qJ x H (k+1)=qJ x H k by show(if H k=true then _ else _)=_;rw[if_neg (by simp[t])]);have m1:=(r.sb.nd k m).2;have z:=r.rw.s k m;rw[uH CK]at z;have p3:=z.2.2.2.1;have ae:=cLt m1;have ah:cB k<n.heap.size:=uQ p3;cases T:((x.c k).U == 1)
    ·have E:=uU (show stTo x H (k+1)=stTo x H k by show a1b x H k _=_;unfold a1b;rw[if_neg (by simp[t]),if_neg (by simpa using T)]);have C:=uU (show kE x H (k+1)=kE x H k by show(if kW x H k=true then _ else _)=_;rw[if_neg (by simp[kW,T])]);clear z;go_wp21;go_roundw
     case rel=>exact⟨k+1,by omega,by go_num,by rw[uH L],by rw[uH C],uH E▸uH r,v,O⟩
     simp[intOf];omega
    have E:=uU (show stTo x H (k+1)={ stTo x H k with A:=(stTo x H k).A.set k (b5b (x.c k)) } by show a1b x H k _=_;unfold a1b;rw[if_neg (by simp[t]),if_pos (by simpa using T)]);have C:=uU (show kE x H (k+1)=kE x H k+1 by show(if kW x H k=true then _ else _)=_;rw[if_pos (by simp[kW,T,t])]);have nf:=(r.rw.nc k m).1;have f3:=nf.2 (cO k+3);have R:SAt B (n.setCell (aA (cB k) (cO k+3)) (iv 2)) b (stTo x H (k+1)) ar kr v4 v8 br cB cO bn pb pa pk kn hd vf F vk K role/\(tV (n.setCell (aA (cB k) (cO k+3)) (iv 2)) w.heap.size bn (o.map (λi=>i*2))/\w.heap.size<(n.setCell (aA (cB k) (cO k+3)) (iv 2)).heap.size)/\Ext a (n.setCell (aA (cB k) (cO k+3)) (iv 2)):=by
     refine⟨?_,⟨v.1.block (kP _ _ _ _ (by show w.heap.size≠cB k;have:=M.2.2.1 k f;omega)),by have:=v.2;simpa[World.setCell]using this⟩,O.setCell (p:=(aA (cB k) (cO k+3))) (kA ha (r.rw.nc k m).2) _⟩;rw[uH E];refine r.setc m (by rw[uH CK];rfl) (uZ.setCell (S:=λq=>q=cB k) (uZ.refl _ n) (p:=(aA (cB k) (cO k+3))) rfl _) ?_ (λj P=>uC _ (.inr (by omega))) (nf.set _ _);have⟨a0,a1,a2,a3,a4,a5,a6⟩:=z;refine⟨?_,?_,?_,kM _ _ _ a3,?_,?_,?_⟩;rw[uC _ (.inr (by omega))];exact a0;rw[uC _ (.inr (by omega))];exact a1;rw[uC _ (.inr (by omega))];exact a2;rw[uC _ (.inr (by omega))];exact a4;rw[uC _ (.inr (by omega))];exact a5;rw[uC _ (.inr (by omega))];exact a6
    clear z;go_wp21;go_roundw
    case rel=>exact⟨k+1,by omega,by go_num,by rw[uH L],by rw[uH C];go_num,R.1,R.2.1,R.2.2⟩
    simp[intOf];omega
   have L:=uU (show qJ x H (k+1)=qJ x H k+qC x H (x.c k) (x.c k).F by show(if H k=true then _ else _)=_;rw[if_pos t]);have QL:=uU (c9t r w.heap.size o k v.1 v.2 ⟨by have:=M.1;omega,λj P=>by have:=M.2.2.1 j P;omega,by have:=M.2.1;omega,λq=>by have:=M.2.2.2 k f q;omega⟩ (zis_of y H X k f t) y.r2 (λj P=>a4a y.r2 y.r4 k j (((X k).1 t).good y.r2 y.r4) P) (CP k f) a ha O);rw[<-uH HH]at QL;have ac:qJ x H k+qC x H (x.c k) (x.c k).F<=2000000:=by rw[<-uH L];omega
   go_wp21;refine QL.mono ?_;rintro e w3 ⟨rfl,S3,M3,X3⟩;clear r v O QL;go_wp21;go_roundw
   case rel=>exact⟨k+1,by omega,by go_num,by rw[uH L];go_num,by rw[(show kE x H (k+1)=kE x H k by show(if kW x H k=true then _ else _)=_;rw[if_neg (by simp[kW,t])])],by rw[(show stTo x H (k+1)=goH x H k (stTo x H k) by show a1b x H k _=_;unfold a1b;rw[if_pos t];rfl)];exact uH S3,M3,X3⟩
   simp[intOf];omega
  have ke:k=x.A.length:=by omega
  subst ke;rw[a4d]at I;go_wp21;go_ret2;exact⟨H,rfl,X,I,U⟩
theorem SOq.lastS[qr](h:SOq C B w b x)(i:Nat)(a:i<x.A.length):∃bn kn cb co ap kp,b6f C B w b x i bn kn cb co ap kp/\∀(W f:World)(u:Int),Ext w W->Ext (W.setCell (aA cb (co+3)) (iv u)) f->f.cell? (aA bn (i*2+1))=some (pQ cb co)/\f.cell? (aA bn (i*2))=some (iv i)/\S7 f cb co (qE (x.c i) u)/\SOq C B f b (hD x i (qE (x.c i) u))/\
  ∀(v:World),v.heap.size<=B->Ext v f->(eE (hD x i (qE (x.c i) u)) i=true->x.D.length<4000)->Calls prog 222 #[pP b,ndp bn i] f λe w'=>e=.returned (.tuple #[])/\Hid (SOq C B w' b (uK (hD x i (qE (x.c i) u)) i))/\Ext v w':=by
 have⟨ar,V,t,Q,R,a8,N,k8,P,g,r,bn,U,I,H,kn,Z,X,F,vk,K,o,h,v,k⟩:=h;have sm:∀c:Cl,c.st=(x.c i).st->dQ x (hD x i c):=λc hc=>dQ.set x i c hc rfl
 have m:∀(W:World)(u:Int),Ext w W->SAt B (W.setCell (aA (g i) (r i+3)) (iv u)) b (hD x i (qE (x.c i) u)) ar V (.slice t Q R) (.slice a8 N k8) P g r bn U I H kn Z X F vk K o:=λW u e=>by
  have l:=h.ext e;have⟨E,y,A,D,t,G,z⟩:=l.rw.s i a;refine l.setc a rfl (uZ.setCell (S:=λq=>q=g i) (uZ.refl _ W) (p:=(aA (g i) (r i+3))) rfl _) ⟨?_,?_,?_,kM _ _ _ D,?_,?_,?_⟩ (λj hj=>uC _ (.inr (by omega))) ((l.rw.nc i a).1.set _ _);all_goals
   rw[uC _ (.inr (by omega))];assumption
 have d:∀u,i<(hD x i (qE (x.c i) u)).A.length:=λu=>by simp[hD];exact a
 have L:∀u,(hD x i (qE (x.c i) u)).c i=qE (x.c i) u:=λu=>by
  show(({ x with A:=x.A.set i _ }:Hp).c i)=_;rw[Hp.c_set x i _ a i,if_pos rfl]
 refine⟨bn,kn,g i,r i,I i,H i,⟨h.sb.n13,(h.sb.nd i a).1,(h.sb.nd i a).2,h.rw.s i a,h.rw.p7 i a,(h.rw.nc i a).1.2,⟨(h.rw.nc i a).2,(h.rw.nc i a).1.1⟩,λW u e=>?_,λW u e=>⟨_,_,_,_,_,_,_,_,_,_,_,_,_,_,_,_,_,_,_,_,_,_,m W u e,v.alike (sm _ rfl) rfl rfl,k⟩⟩,λW f u e M=>?_⟩
 ·have l:=h.ext e;have⟨E,y,A,D,t,G,z⟩:=l.rw.s i a;refine⟨_,_,_,_,_,_,_,_,_,_,_,_,_,_,_,_,_,_,_,_,_,_,l.setc a rfl (uZ.setCell (S:=λq=>q=g i) (uZ.refl _ W) (p:=(aA (g i) (r i+2))) rfl _) ⟨?_,?_,kM _ _ _ A,?_,?_,?_,?_⟩ (λj hj=>uC _ (.inr (by omega))) ((l.rw.nc i a).1.set _ _),v.alike (sm _ rfl) rfl rfl,k⟩;all_goals
   rw[uC _ (.inr (by omega))];assumption
 have n:=(m W u e).ext M;have J:zQ C (hD x i (qE (x.c i) u)) F K:=v.alike (sm _ rfl) rfl rfl;refine⟨(n.sb.nd i (d u)).2,(n.sb.nd i (d u)).1,by have:=n.rw.s i (d u);rw[L u]at this;exact this,⟨_,_,_,_,_,_,_,_,_,_,_,_,_,_,_,_,_,_,_,_,_,_,n,J,k⟩,λvv O hx hg=>?_⟩;refine(b5o i f n (d u) hg vv O hx).mono ?_;rintro e w' ⟨T,Y,h3⟩;exact⟨T,⟨_,_,_,_,_,_,_,_,_,_,_,_,_,_,_,_,_,_,_,_,_,_,Y,J.alike (a5t _ i) (cC _ i).2.2.2.2.2.1 (cC _ i).2.2.2.2.2.2.1,by rw[(cC _ i).1];exact k⟩,h3⟩
theorem way_12[qr]{bd:Nat}{a p c:Nat}{n:Int}{rv:Value}(h:SOq C B w b x)(s:Snd x)(hd:(default:uL).z bd=some (yL b 12 a p c n rv))(ha:a<16)(hc1:c<=1)(v:World)(hv:v.heap.size<=B)(hx:Ext v w):
  Calls prog 183 #[.pointer (some ⟨bd,0,none⟩)] w λe w'=>zU C B b x a p c n 12 v e w':=by
 have D:=tQ.of (h.obj hd);have H:=uU h;have S:=uU s;have⟨br,kr,hr⟩:=h.B s;have R:=uU hr;have⟨d0,d1,d2,d3,d4,d5,d6⟩:=uH D;have X:=cLt d0;have G:=λW(xW:Ext w W)=>a1r (R.ext xW) (D.ext xW) ha;by_cases hk:(x.r a).k=2
 ·have⟨en,ea,hi,st,nd⟩:=s.at a ha hk;have⟨i,hI⟩:=obE (x.at a);have F:=uU hI;rw[<-hI]at ea hi st nd;have o:=uU hk;have⟨bn,kn,cb,co,ap,kp,hc,ls⟩:=h.lastS i hi;have U:=uU ls;have u:=λW(xW:Ext w W)=>a2b (R.ext xW) (hc.ext xW) (D.ext xW) ha hk ea hi;have y:=hd;clear h s hd hr hk ea en hI st nd ls;go_in;go_wp21;refine(G _ (hO w)).mono ?_;rintro e w5 ⟨rfl,x5⟩;go_wp21;refine(u _ x5).mono ?_;rintro e w6 ⟨rfl,x6⟩;have d:=x5.trans x6;have m:=hc.ext d;have j:=m.m1;have Q:=m.p7;have⟨q0,q1,q2,q3,q4,q5,q6⟩:=m.s;have Z:=m.f;have t:=cLt j;have E:=cLt q0;have L:=(D.ext d).d4;have q:=cLt L;clear x5 x6;obtain⟨W7,hW7⟩:∃W,W=(w6.setCell ⟨cb,co+3,none⟩ (iv c)).drew:=⟨_,rfl⟩;have l:=uU (U w6 W7 c d (hW7▸(eDr _)));have K:=uU (show Ext v W7 by rw[hW7];exact((hx.trans d).setCell (p:=⟨cb,co+3,none⟩) (kA hv m.lo.1) _).drew);go_wp21;go_region;rw[<-hW7];clear hW7 j Q q0 q1 q2 q3 q4 q5 q6 Z t E L q;have⟨j,_,s7,h7,qs⟩:=uH l;have P:=uU h7;have QS:=uU qs;have A:=uU s7;have o7:=(tQ.of (h7.obj y)).d0;have N:=cLt o7;have V:=cLt j;clear h7 qs s7 l;go_wp21;refine(b3a (qE (x.c i) c) bn i cb co _ j A).mono ?_;rintro e w8 ⟨rfl,rfl⟩;have⟨c1,hc1'⟩:=obE (kZ (qE (x.c i) c):Bool);rw[<-hc1'];have I:=uU (show c1=decide (c=1) by
   rw[hc1'];have:c=0\/c=1:=by omega
   obtain e|e:=this <;> subst e <;> rfl)
  clear hc1';cases c1
  ·go_wp21;go_ret2;exact⟨_,0,0,rfl,.inr ⟨o,by rw[<-uH F];exact⟨by rw[if_neg (show ¬c=1 by have:=uH I;simpa using this)],rfl,rfl⟩⟩,P.wide (by omega),K⟩
  go_wp21;refine(QS v hv K (λhq=>?_)).mono ?_
  ·have g:=(a2d S.ok).2 i hi;refine g ?_;unfold eE whB at hq ⊢;have M:(hD x i (qE (x.c i) c)).c i=qE (x.c i) c:=by
    show(({ x with A:=x.A.set i _ }:Hp).c i)=_;rw[Hp.c_set x i _ hi i,if_pos rfl]
   rw[M]at hq;exact hq
  rintro e w9 ⟨rfl,h9,x9⟩;have H9:=uU (h9.wide (show C<=C+64000 by omega));have Y:=uU x9;clear h9 x9;go_wp21;go_ret2;exact⟨_,0,0,rfl,.inr ⟨o,by rw[<-uH F];exact⟨by rw[if_pos (show c=1 by have:=uH I;simpa using this)],rfl,rfl⟩⟩,H9,Y⟩
 have o:=uU hk;have u:=uU (λW(xW:Ext w W)=>a5b (R.ext xW) (D.ext xW) ha hk);clear h s hd hr hk;go_in;go_wp21;refine(G _ (hO w)).mono ?_;rintro e w5 ⟨rfl,x5⟩;go_wp21;refine(u _ x5).mono ?_;rintro e w6 ⟨rfl,x6⟩;have d:=x5.trans x6;clear x5 x6;go_wp21;go_ret2;exact⟨x,2,0,rfl,.inl ⟨o,rfl,rfl,rfl⟩,(H.wide (show C<=C+64000 by omega)).ext d,hx.trans d⟩
end Go.Proofs.YtgkpaibbdkggiaaGreatDoor
namespace Go.Proofs.YtgkpaibbdkggiaaGreatDoor
open Go.RowKit Go.Shelf Go.Proofs.Tryz
attribute [local go_sem ↓] Go.wp_at_zero Go.wp_at_succ
attribute [local go_sem] Oper.semAt_some
variable{ar:Option Addr}{kr kn:Nat}{ac:Nat->Option Addr}
theorem due_in(n:Nat)(a:Option Addr)(w:World):
  CallsIn Fence.wide n prog 232 #[.pointer a] w λe w'=>e=.returned (.func (.func 243) #[] #[pP w.heap.size])/\w'=w.alloc (.cells #[.pointer a] 69):=by
 refine callsIn_of_wp func232 rfl trivial ?_ rfl;simp only[ntmps232,List.size_toArray,List.length_cons,List.length_nil,Nat.reduceAdd,Nat.reduceSub,Array.replicate_succ,Array.replicate_zero,List.push_toArray,List.append_toArray,List.nil_append,List.cons_append];gi_wp2;go_ret;exact⟨rfl,rfl⟩
theorem box_of{W:World}{B:Nat}{v:Value}{t:TypeId}(h:W.heap[B]?=some (.cells #[v] t (0,0))):W.cell? (aA B 0)=some v/\W.frozen? (aA B 0)=false:=by
 constructor <;> simp[World.cell?,World.frozen?,h]
theorem c7a(W:World)(v:Value)(t:TypeId):(W.alloc (.cells #[v] t)).cell? (aA W.heap.size 0)=some v/\(W.alloc (.cells #[v] t)).frozen? (aA W.heap.size 0)=false:=
 box_of (World.alloc_heap_new W _)
theorem c9x(n:Nat)(m:1<=n)(x:Hp)(b c:Nat)(w:World)(bn d:Nat)(k:w.cell? (aA c 0)=some (pP b))(h:VNt w b x ar kr ac (some (aA bn d)) kn)(a:x.A.length<=8000):
  SeqStopsK Fence.wide n prog 243 #[pP c] (λy:Nat=>#[ptr bn (d+y*2)]) a5c (λys=>∃L,IsS x L/\ys=yK x L) (λpre=>∃L,IsS x L/\pre <+: yK x L) 8001 w:=λl J g W e f _ i j=>
 due1_in n m l x b c W bn d J g f i (Ext.keep e k) (h.ext e) a j
theorem c2z(x:Hp)(b:Nat)(w:World)(bn m:Nat)(h:VNt w b x ar kr ac (some (aA bn m)) kn)(J:x.A.length<=8000):
  Calls prog 224 #[pP b] w λe w'=>∃v,e=.returned v/\((v=.pointer none/\qV x x.A.length (-1))\/∃y:Nat,v=ptr bn (m+y*2)/\qV x x.A.length y/\y<x.A.length)/\Ext w w':=by
 refine(callsIn_wide (n:=3)).1 ?_;refine callsIn_of_wp_marks func224 rfl trivial ?_ rfl;simp only[ntmps224,List.size_toArray,List.length_cons,List.length_nil,Nat.reduceAdd,Nat.reduceSub,Array.replicate_succ,Array.replicate_zero,List.push_toArray,List.append_toArray,List.nil_append,List.cons_append];gi_wp2_with (refine⟨trivial,?_⟩;gi_at_call 232;refine(due_in _ _ _).mono ?_;rintro e w' ⟨rfl,rfl⟩);have N:=c7a w (.pointer none) 97;have M:=c7a (w.alloc (.cells #[.pointer none] 97)) (pP b) 69;simp only[World.size_alloc]at M;have u:Below w.heap.size w ((w.alloc (.cells #[.pointer none] 97)).alloc (.cells #[pP b] 69)):=((Below.refl _ w).alloc (hT _) _).alloc (by simp) _;refine wpIn_rangeFunc_ownF rfl (by decide) (gf:=243) (lb:=#[pP (w.heap.size+1)]) rfl trivial (enters_of func243 (by kernel_rfl) rfl)
  (c9x 2 (by decide) x b (w.heap.size+1) _ bn m M.1 (h.ext u) J) a5c.trans (λW l o Q _ O P _=>a5c.put W l o Q O P) (Below.refl _ _) (λ_=>rfl)
  (λd W=>(d=[]/\W.cell? (aA w.heap.size 0)=some (.pointer none)/\W.frozen? (aA w.heap.size 0)=false)/\Below w.heap.size w W)
  (λc d W=>(c=.ret/\∃y:Nat,d=[y]/\W.cell? (aA w.heap.size 0)=some (ptr bn (m+y*2)))/\Below w.heap.size w W)
  (OwnFrom.and (Own.from (λs A B G i z E=>⟨i.1,cell_kept i.2.1 z E,(frozen_kept i.2.1 z E).trans i.2.2⟩) _) (ownFrom_below (hT _) (by simp;omega)))
  (λc=>OwnFrom.and (Own.from (λs A B G i z E=>⟨i.1,let ⟨y,e,q⟩:=i.2;⟨y,e,cell_kept q z E⟩⟩) _) (ownFrom_below (hT _) (by simp;omega)))
  ⟨⟨rfl,(eAl _ _).keep N.1,((cE ((hO (w.alloc (.cells #[.pointer none] 97))).alloc _)).2 _ 0 (by simp)).trans N.2⟩,u⟩
  (λy=>{ tmps:=#[pP b,undef,pP w.heap.size,ptr bn (m+y*2),pP b,.func (.func 243) #[] #[pP (w.heap.size+1)],ptr bn (m+y*2),undef],defers:=[] }) ?assign ?body ?done ?stop
 case assign=>
  intro l x W K k;gi_wp2;exact k
 case body=>
  rintro l d y W ⟨⟨rfl,a,H⟩,t⟩ _;gi_wp2;exact⟨KeepsOthers.setCell _ _ _,⟨rfl,y,rfl,World.cell?_setCell_same' _ _ _ (by rw[a];rfl)⟩,t.setCell (p:=(aA w.heap.size 0)) (hT _) _⟩
 case done=>
  rintro D R W F ⟨L,C,rfl⟩ ⟨⟨I,a,H⟩,t⟩ k;gi_wp2;have j:=(KeepsOthers.setCell W (aA w.heap.size 0) (.pointer none)).same D _ k rfl;refine⟨by simp,.inl ⟨_,_,rfl,run_takeDeferred j,?_⟩⟩;have g:=cell_kept (World.cell?_setCell_same' W (aA w.heap.size 0) (.pointer none) (by rw[a];rfl)) (grownBy_putObj' _ D (.deferred none)) (λr e=>by cases e;exact⟨_,j,rfl⟩);refine⟨.pointer none,?_,_,rfl,.inl ⟨rfl,d4k C I⟩,(t.setCell (p:=(aA w.heap.size 0)) (hT _) _).trans (belowK_b (w:=w) (hT _) _ D _ _ (by simp at F;omega) j rfl rfl)⟩;simp[results,Tryz.f224,go_sem,g]
 case stop=>
  rintro D c d W F ⟨L,C,f⟩ ⟨⟨rfl,y,rfl,a⟩,t⟩ k;gi_wp2;refine⟨by simp,.inl ⟨_,_,rfl,run_takeDeferred k,?_⟩⟩;refine⟨ptr bn (m+y*2),?_,_,rfl,.inr ⟨y,rfl,(b8c C f).1,(b8c C f).2⟩,t.trans (belowK_b (w:=w) (hT _) W D _ _ (by simp at F;omega) k rfl rfl)⟩;simp[results,Tryz.f224,go_sem,cell_kept a (grownBy_putObj' _ D (.deferred none)) (λr e=>by cases e;exact⟨_,k,rfl⟩)]
end Go.Proofs.YtgkpaibbdkggiaaGreatDoor
namespace Go.Proofs.YtgkpaibbdkggiaaGreatDoor
open Go.RowKit Go.Proofs.Tryz
attribute [local go_sem ↓] Go.wp_at_zero Go.wp_at_succ
attribute [local go_sem] Oper.semAt_some
variable{x:Hp}{B b C bd a p c kr br bn kn hd:Nat}{w:World}{F F':List Int}{K:List Nat}{n:Int}{rv v4 v8 vf vk:Value}{ar:Option Addr}{cB cO pb pk role:Nat->Nat}{pa:Nat->Option Addr}
theorem b6h[qr]{y:Hp}(h:SOq C B w b y)(s:Snd y)(g:B<=w.heap.size):
  Calls prog 23 #[pP b] w λe w'=>∃br kr bcN bgN pb pa pk,e=.returned (y.v (sS br y.B.length kr) (sS bcN y.A.length y.A.length) (sS bgN y.D.length y.D.length))/\Hid (b0u B w'.heap.size w' y br kr bcN y.A.length bgN y.D.length pb pa pk)/\Ext w w':=by
 have⟨z,kr,i,u,l,k,q,x,br,n,r,A,pb,pa,pk,t,m,p,F,o,K,a,h,_,_⟩:=h;have j:=s.r1.D;have c:=s.ok.n8;refine(c3e w h s.r5.2.2 s.ok.r16.1 ⟨s.ok.r16.2,c,by omega,s.ok.p200⟩ g).mono ?_;rintro e w' ⟨bcN,bgN,rfl,d,f⟩;exact⟨br,kr,bcN,bgN,pb,pa,pk,rfl,d,f⟩
theorem way_2[qr](h:SOq C B w b x)(s:Snd x)(hd:(default:uL).z bd=some (yL b 2 a p c n rv))(ha:a<16)(v:World)(hv:v.heap.size<=B)(hx:Ext v w):
  Calls prog 175 #[.pointer (some ⟨bd,0,none⟩)] w λe w'=>zU C B b x a p c n 2 v e w':=by
 have D:=uU (tQ.of (h.obj hd));obtain⟨br,kr,hr⟩:=h.B s;have R:=uU hr;obtain⟨d0,d1,d2,d3,d4,d5,d6⟩:=uH D;obtain⟨r0,r1,r2⟩:=hr.r a ha;have f:=hr.f;have hb1:=cLt r0;have hbB:=hr.lo.1;have QA:=uU (λW(xW:Ext w W)=>a1r (R.ext xW) (D.ext xW) ha);have FN:=uU (show ∀W,Ext w W->SOq (C+64000) B (cX W br (a*3) ⟨1,n,0⟩) b (regTo x a ⟨1,n,0⟩)/\Ext v (cX W br (a*3) ⟨1,n,0⟩) from λW xW=>⟨(hr.set W a ⟨1,n,0⟩ xW ha).wide (by omega),(cD W br (a*3) ⟨1,n,0⟩).ext (hx.trans xW) (λq hq e=>by omega)⟩);unfold cX at FN;go_in;go_wp21;go_region_with (go_at_call 217;refine(QA _ (eDr w)).mono ?_;rintro e w5 ⟨rfl,x5⟩;have xw5:=kI (eDr w) x5;have k0:=xw5.keep r0;have k1:=xw5.keep r1;have k2:=xw5.keep r2;have kf:=λm=>((cE xw5).2 br m hb1).trans (f m);have kd0:=xw5.keep d0;have kd5:=xw5.keep d5;have F5:=uU (FN w5 xw5));all_goals
  go_wp21;go_ret2;exact⟨_,0,0,rfl,⟨rfl,rfl,rfl⟩,F5.1,F5.2⟩
theorem way_3[qr](h:SOq C B w b x)(s:Snd x)(hd:(default:uL).z bd=some (yL b 3 a p c n rv))(ha:a<16)(v:World)(hv:v.heap.size<=B)(hx:Ext v w):
  Calls prog 176 #[.pointer (some ⟨bd,0,none⟩)] w λe w'=>zU C B b x a p c n 3 v e w':=by
 have D:=tQ.of (h.obj hd);have⟨br,kr,hr⟩:=h.B s;have⟨d0,d1,d2,d3,d4,d5,d6⟩:=uH D;have⟨r0,r1,r2⟩:=hr.r a ha;have f:=hr.f;have hbB:=hr.lo.1;have QA:=λW(xW:Ext w W)=>a1r (hr.ext xW) (D.ext xW) ha;have FN:∀W,Ext w W->SOq (C+64000) B (cX W br (a*3) Wd0) b (regTo x a Wd0)/\Ext v (cX W br (a*3) Wd0):=λW xW=>⟨(hr.set W a Wd0 xW ha).wide (by omega),(cD W br (a*3) Wd0).ext (hx.trans xW) (λq hq e=>by omega)⟩;unfold cX Wd0 at FN;go_in;go_wp21;refine(QA _ (hO w)).mono ?_;rintro e w5 ⟨rfl,x5⟩;have xw5:=x5;have k0:=xw5.keep r0;have k1:=xw5.keep r1;have k2:=xw5.keep r2;have kf:=λm=>((cE xw5).2 br m (cLt r0)).trans (f m)
 have kd0:=xw5.keep d0;have F5:=uH FN w5 xw5;go_wp21;go_ret2;exact⟨_,0,0,rfl,⟨rfl,rfl,rfl⟩,F5.1,F5.2⟩
theorem way_14[qr](h:SOq C B w b x)(s:Snd x)(hd:(default:uL).z bd=some (yL b 14 a p c n rv))(ha:a<16)(v:World)(hx:Ext v w):
  Calls prog 185 #[.pointer (some ⟨bd,0,none⟩)] w λe w'=>zU C B b x a p c n 14 v e w':=by
 have D:=tQ.of (h.obj hd);have⟨br,kr,hr⟩:=h.B s;have H:=uU (h.wide (show C<=C+64000 by omega));have⟨d0,d1,d2,d3,d4,d5,d6⟩:=uH D;have⟨r0,r1,r2⟩:=hr.r a ha;have QA:=λW(xW:Ext w W)=>a1r (hr.ext xW) (D.ext xW) ha;go_in;go_wp21;refine(QA _ (hO w)).mono ?_;rintro e w5 ⟨rfl,x5⟩;have k0:=x5.keep r0;go_wp21;go_ret2;exact⟨x,0,(x.r a).k,rfl,⟨rfl,rfl,rfl⟩,H.ext x5,hx.trans x5⟩
theorem way_15[qr](h:SOq C B w b x)(s:Snd x)(hd:(default:uL).z bd=some (yL b 15 a p c n rv))(ha:a<16)(v:World)(hx:Ext v w):
  Calls prog 186 #[.pointer (some ⟨bd,0,none⟩)] w λe w'=>zU C B b x a p c n 15 v e w':=by
 have D:=uU (tQ.of (h.obj hd));obtain⟨br,kr,hr⟩:=h.B s;have R:=uU hr;have H:=uU (h.wide (show C<=C+64000 by omega));obtain⟨d0,d1,d2,d3,d4,d5,d6⟩:=uH D;obtain⟨r0,r1,r2⟩:=hr.r a ha;have QA:=uU (λW(xW:Ext w W)=>a1r (R.ext xW) (D.ext xW) ha);cases q:((x.r a).k == 1);have q2:((x.r a).k != 1)=true:=by simpa using q
 have DD:=uU (show(x.r a).k≠1 by simpa using q);go_in;go_wp21;refine(QA _ (hO w)).mono ?_;rintro e w5 ⟨rfl,x5⟩;have k0:=x5.keep r0;go_wp21;go_ret2;exact⟨x,2,0,rfl,⟨rfl,.inl ⟨DD,rfl,rfl⟩⟩,H.ext x5,hx.trans x5⟩;have q2:((x.r a).k != 1)=false:=by simpa using q
 have DD:=uU (show(x.r a).k=1 by simpa using q);go_in;go_wp21;refine(QA _ (hO w)).mono ?_;rintro e w5 ⟨rfl,x5⟩;have k0:=x5.keep r0;go_wp21;refine(QA _ x5).mono ?_;rintro e w6 ⟨rfl,x6⟩;have x56:=x5.trans x6;have l0:=x56.keep r0;have l1:=x56.keep r1;go_wp21;go_ret2;exact⟨x,0,(x.r a).n,rfl,⟨rfl,.inr ⟨DD,rfl,rfl⟩⟩,H.ext x56,hx.trans x56⟩
def a8h(x:Hp)(i:Nat)(u:Int)(m:Nat):Hp:={ x with K:=u,A:=x.A.set i (zN (x.c i) m) }
theorem d0b(x:Hp)(i:Nat)(u:Int)(m:Nat):uV (a8h x i u m)=uV x:=by simp[uV,a8h]
theorem b8h(x:Hp)(i c m:Nat)(a:m=min c (x.c i).F.length):zN (x.c i) m=zN (x.c i) c:=by
 unfold zN;congr 1;obtain q|q:=Nat.le_total c (x.c i).F.length;rw[show m=c by omega];rw[nx (show(x.c i).F.length<=m by omega),nx q]
theorem cutZ_no(x:Hp)(i c m:Nat)(u:Int)(d:m=min c (x.c i).F.length)(a:u=x.K-(((x.c i).F.length:Int)-(m:Int)))(b:uV x≠(i:Int)):a8h x i u m=qH x i c:=by
 unfold a8h qH;rw[b8h x i c m d,if_neg (λq=>b q.1),a,show((x.c i).F.length:Int)-(m:Int)=(((x.c i).F.length-c:Nat):Int) by omega]
theorem d4s(x:Hp)(i c m:Nat)(u:Int)(d:m=min c (x.c i).F.length)(a:u=x.K-(((x.c i).F.length:Int)-(m:Int)))(b:uV x=(i:Int))(f:x.sub<=(x.c i).F.length):{ a8h x i u m with sub:=min x.sub (m:Int) }=qH x i c:=by
 have e:min x.sub (m:Int)=if uV x=(i:Int)/\(c:Int)<x.sub then (c:Int) else x.sub:=by
  by_cases q:(c:Int)<x.sub;rw[if_pos ⟨b,q⟩];omega;rw[if_neg (λz=>q z.2)];omega
 unfold a8h qH;rw[b8h x i c m d,<-e,a,show((x.c i).F.length:Int)-(m:Int)=(((x.c i).F.length-c:Nat):Int) by omega]
structure CutP[qr](C B:Nat)(W2:World)(b:Nat)(x:Hp)(i:Nat)(u:Int)(m bn:Nat):Prop where
 so:SOq C B W2 b (a8h x i u m)
 un:Calls prog 148 #[.pointer (some ⟨b,0,none⟩)] W2 λe w'=>Hid (e=.returned (a6g bn x))/\Ext W2 w'
 su:∀(W3:World)(t:Int),Ext W2 W3->SOq C B (W3.setCell ⟨b,7,none⟩ (iv t)) b { a8h x i u m with sub:=t }
 c7:W2.cell? ⟨b,7,none⟩=some (iv x.sub)
 f7:W2.frozen? ⟨b,7,none⟩=false
theorem SOq.cutc[qr](h:SOq C B w b x)(s:Snd x)(i:Nat)(a:i<x.A.length):∃bn kn cb co ap kp,b6f C B w b x i bn kn cb co ap kp/\(x.c i).F.length<=kp/\(B<=b/\cb≠b)/\w.cell? (aA b 1)=some (iv x.K)/\w.frozen? (aA b 1)=false/\
  (∀(u:Int)(W E:World),Ext w W->Ext (W.setCell (aA b 1) (iv u)) E->E.cell? (aA bn (i*2+1))=some (pQ cb co)/\E.cell? (aA cb (co+7))=some (.slice ap (x.c i).F.length kp)/\E.frozen? (aA cb (co+7))=false)/\
  ∀(u:Int)(m:Nat),m<=(x.c i).F.length->∀W W2:World,Ext w W->Ext ((W.setCell (aA b 1) (iv u)).setCell (aA cb (co+7)) (.slice ap m kp)) W2->CutP C B W2 b x i u m bn:=by
 have h0:=h;have⟨ar,kr,a4,X,k4,a8,U,k8,V,f,l,bn,R,D,n,kn,hd,vf,F,vk,K,r,h,v,k⟩:=h;have⟨d,J,cb,co,ap,kp,H⟩:=h0.cel i a;have L:d=bn:=by
  have:=H.n13.symm.trans h.sb.n13;simp at this;exact this.1
 subst L;have I:cb=f i/\co=l i:=by
  have:=H.m1.symm.trans (h.sb.nd i a).2;simp at this;exact this
 obtain⟨rfl,rfl⟩:=I;have M:ap=D i/\kp=n i:=by
  have:=H.p7.symm.trans (h.rw.p7 i a);simp at this;exact this
 obtain⟨rfl,rfl⟩:=M;have P:f i≠b:=λe=>by have h1:=h.sp.c i a;have h2:=h.sp.b;rw[e]at h1;omega
 refine⟨d,J,f i,l i,D i,n i,H,h.rw.kp i a,⟨h.sb.lo.1,P⟩,h.sb.bx.2.1,h.sb.nb.2 1,λu W E e e8=>?_,λu m Y W W2 e T=>?_⟩;have N:=((h.ext e).usedTo u).ext e8;exact⟨(N.sb.nd i a).2,N.rw.p7 i a,(N.rw.nc i a).1.2 _⟩;have g:=(h.ext e).usedTo u;have hc:({ x with K:=u }:Hp).c i=x.c i:=rfl;have o:uZ (λq=>q=f i\/(q=R i/\0<(({ x with K:=u }:Hp).c i).F.length)) (W.setCell (aA b 1) (iv u)) ((W.setCell (aA b 1) (iv u)).setCell (aA (f i) (l i+7)) (.slice (D i) m (n i))):=uZ.setCell (uZ.refl _ _) (p:=(aA (f i) (l i+7))) (.inl rfl) _;have S:((x.c i).F.take m).length=m:=by simp;omega
 have Z:SAt B ((W.setCell (aA b 1) (iv u)).setCell (aA (f i) (l i+7)) (.slice (D i) m (n i))) b (a8h x i u m) ar kr (.slice a4 X k4) (.slice a8 U k8) V f l d R D n kn hd vf F vk K r:=by
  refine g.stayed i a ((x.c i).F.take m) (by rw[S];exact Y) o ((g.rw.nc i a).1.set _ _) (λq=>(g.rw.pl i a (g.rw.pw a q)).2.1.set _ _) (by rw[S];exact kM _ _ _ (g.rw.p7 i a)) (λj hj=>uC _ (.inr (λe=>hj e.symm))) (λq hq=>?_);have A:q<(x.c i).F.length:=by simp at hq;omega
  have:=g.rw.p i a q A;have G:0<(x.c i).F.length:=by omega
  rw[hc,<-Cl.p_eq _ _ A]at this;rw[List.getElem_take];exact this.of λj _=>uC _ (.inl (λe=>((g.rw.pl i a (g.rw.pw a G)).2.2.1.2 i a) e.symm))
 have y:=Z.ext T;have sm:dQ x (a8h x i u m):=dQ.set x i (zN (x.c i) m) rfl rfl;refine⟨⟨_,_,_,_,_,_,_,_,_,_,_,_,_,_,_,_,_,_,_,_,_,_,y,v.alike sm rfl rfl,k⟩,?_,λW3 t e3=>⟨_,_,_,_,_,_,_,_,_,_,_,_,_,_,_,_,_,_,_,_,_,_,(y.ext e3).subs t,v.alike (z:={ a8h x i u m with sub:=t }) sm rfl rfl,k⟩,y.sb.bx.2.2.2.2.2.2.2.1,y.sb.nb.2 7⟩;have G:(a8h x i u m).A.length=x.A.length:=by simp[a8h]
 have Q:=b0s y (G▸s.r1.I) (G▸s.r5.2.2);have eu:a6g d (a8h x i u m)=a6g d x:=by unfold a6g;rw[d0b]
 rw[eu]at Q;exact Q
theorem snoc_c(x:Hp)(c:Cl)(q:Nat):({ x with A:=x.A++[c] }:Hp).c q=if q=x.A.length then c else x.c q:=by
 unfold Hp.c;by_cases e:q=x.A.length;subst e;simp;rw[if_neg e];simp only[List.getD_eq_getElem?_getD];obtain l|l:=ky q x.A.length
 ·rw[ms l]
 rw[nZ l,na (by simp;omega),na l]
theorem SAt.pushn[qr]{W w':World}(h:SAt B w b x ar kr v4 v8 br cB cO bn pb pa pk kn hd vf F vk K role)(r0:0<x.B.length)(hzn:(default:uL).z bn=none)(e:Ext w W)(qc:Nat)(hq0:w.heap.size<=qc)(s0:S7 w' qc 0 Cl0)(s7:w'.cell? ⟨qc,7,none⟩=some (.slice none 0 0))(nq:Nf1 qc w')
  (o:uZ (λq=>q=bn\/q=b) W w') (n13:w'.cell? ⟨b,13,none⟩=some (.slice (some ⟨bn,0,none⟩) (x.A.length+1) kn)) (cb:∀j,j≠13->w'.cell? ⟨b,j,none⟩=W.cell? ⟨b,j,none⟩) (m0:w'.cell? ⟨bn,x.A.length*2,none⟩=some (iv x.A.length)) (m1:w'.cell? ⟨bn,x.A.length*2+1,none⟩=some (.pointer (some ⟨qc,0,none⟩))) (mo:∀j,j<x.A.length*2->w'.cell? ⟨bn,j,none⟩=W.cell? ⟨bn,j,none⟩) (nb:Nf1 b w') (nd:NdB w' bn kn) :
  SAt B w' b { x with A:=x.A++[Cl0] } ar kr v4 v8 br (λq=>if q=x.A.length then qc else cB q) (λq=>if q=x.A.length then 0 else cO q) bn pb (λq=>if q=x.A.length then none else pa q) (λq=>if q=x.A.length then 0 else pk q) kn hd vf F vk K (λd=>if w.heap.size<=d then 3 else role d):=by
 have g:=h.ext e;have old:∀q,q<w.heap.size->(if w.heap.size<=q then 3 else role q)=role q:=λq hq=>if_neg (by omega)
 have far:∀q,q<w.heap.size->role q≠0->q≠bn->w'.heap[q]?=W.heap[q]?:=λq hq h0 hn=>o.block q (kF hq e.size) (λu=>by
  obtain u|u:=u;exact hn u;exact h0 (u▸h.sp.b))
 have far1:∀q,q<w.heap.size->role q≠0->role q≠1->w'.heap[q]?=W.heap[q]?:=λq hq h0 h1=>far q hq h0 (λu=>h1 (u▸h.sp.n))
 have hc:=snoc_c x Cl0;have hl:({ x with A:=x.A++[Cl0] }:Hp).A.length=x.A.length+1:=by simp
 have lt:∀q,q<({ x with A:=x.A++[Cl0] }:Hp).A.length->q=x.A.length\/(q<x.A.length/\q≠x.A.length):=λq hq=>by rw[hl]at hq;omega
 have fr:w'.heap[br]?=W.heap[br]?:=far1 br (h.rw.nr r0).1.1 (by rw[h.sp.r r0];omega) (by rw[h.sp.r r0];omega);have fc:∀q,q<x.A.length->w'.heap[cB q]?=W.heap[cB q]?:=λq hq=>far1 (cB q) (h.rw.nc q hq).1.1 (by rw[h.sp.c q hq];omega) (by rw[h.sp.c q hq];omega)
 have fp:∀q,q<x.A.length->0<pk q->w'.heap[pb q]?=W.heap[pb q]?:=λq hq hp=>far1 (pb q) (h.rw.pl q hq hp).2.1.1 (by rw[h.sp.p q hq hp];omega) (by rw[h.sp.p q hq hp];omega)
 refine⟨⟨g.sb.bx.of λj hj=>cb j (by omega),g.sb.ha,hl▸n13,λi hi=>?_,⟨(cb 14 (by omega)).trans g.sb.fr.hd,nb.2 14,uN g.sb.fr.own (λq hq=>far1 q (h.sb.fr.own.lt q hq).2 (by rw[h.sp.f q hq];omega) (by rw[h.sp.f q hq];omega)),g.sb.fr.apart⟩,g.sb.rg.of λj h1 _=>cb j (by omega),(cb 4017 (by omega)).trans g.sb.k0,uN g.sb.kp (λq hq=>far1 q (h.sb.kp.lt q hq).2 (by rw[h.sp.k q hq];omega) (by rw[h.sp.k q hq];omega)),nb,⟨g.sb.lo.1,g.sb.lo.2.1,nd⟩⟩,⟨λj hj=>?_,λq hq=>?_,λq hq=>?_,λq hq j hj=>?_,λq hq hlq=>?_,λhr=>⟨uY (g.rw.nr hr).1 fr o.size,(g.rw.nr hr).2⟩,λq hq=>?_,λq hq=>?_,λq q' hq hq' hqq h1 h2=>?_,λq q' hq hq' hqq=>?_,λq hq=>?_⟩,⟨by rw[old b h.sb.nb.1];exact h.sp.b,by rw[old bn h.sb.lo.2.2.1];exact h.sp.n,λhr=>by rw[old br (h.rw.nr hr).1.1];exact h.sp.r hr,λq hq=>?_,λq hq=>by rw[old q (h.sb.fr.own.lt q hq).2];exact h.sp.f q hq,λq hq=>by rw[old q (h.sb.kp.lt q hq).2];exact h.sp.k q hq,λq hq hlq=>?_⟩,?_⟩;obtain u|⟨u1,u2⟩:=lt i hi
 ·simp only[if_pos u];rw[u];exact⟨m0,m1⟩
 simp only[if_neg u2];rw[mo _ (by omega),mo _ (by omega)];exact g.sb.nd i u1;exact(g.rw.r j hj).of λm _=>kT (a:=⟨br,_,none⟩) fr
 rw[hc q];obtain u|⟨u1,u2⟩:=lt q hq
 ·simp only[if_pos u];exact s0
 simp only[if_neg u2];exact(g.rw.s q u1).of λm _=>kT (a:=⟨cB q,_,none⟩) (fc q u1)
 rw[hc q];obtain u|⟨u1,u2⟩:=lt q hq
 ·simp only[if_pos u,Nat.zero_add];exact s7
 simp only[if_neg u2];rw[kT (a:=⟨cB q,_,none⟩) (fc q u1)];exact g.rw.p7 q u1;rw[hc q]at hj ⊢;obtain u|⟨u1,u2⟩:=lt q hq
 ·rw[if_pos u]at hj;simp[Cl0]at hj
 rw[if_neg u2]at hj ⊢;exact(g.rw.p q u1 j hj).of λm _=>kT (a:=⟨pb q,_,none⟩) (fp q u1 (g.rw.pw u1 (by omega)))
 obtain u|⟨u1,u2⟩:=lt q hq
 ·simp only[if_pos u]at hlq;omega
 simp only[if_neg u2]at hlq ⊢;have⟨a1,a2,a3,a4⟩:=g.rw.pl q u1 hlq;refine⟨a1,eN a2 (fp q u1 hlq) o.size,⟨a3.1,λj hj=>?_⟩,a4⟩;obtain z|⟨z1,z2⟩:=lt j hj
 ·simp only[if_pos z];intro u;have:=(h.rw.pl q u1 hlq).2.1.1;omega
 simp only[if_neg z2];exact a3.2 j z1;obtain u|⟨u1,u2⟩:=lt q hq
 ·simp only[if_pos u];exact⟨nq,kA h.sb.lo.1 (by have:=h.sb.nb.1;omega)⟩
 simp only[if_neg u2];exact⟨uY (g.rw.nc q u1).1 (fc q u1) o.size,(g.rw.nc q u1).2⟩;obtain u|⟨u1,u2⟩:=lt q hq
 ·simp only[if_pos u];intro z;have:=(h.rw.nr r0).1.1;omega
 simp only[if_neg u2];exact g.rw.d q u1;obtain u|⟨u1,u2⟩:=lt q hq
 ·simp only[if_pos u]at h1;omega
 obtain z|⟨z1,z2⟩:=lt q' hq'
 ·simp only[if_pos z]at h2;omega
 simp only[if_neg u2]at h1;simp only[if_neg z2]at h2;exact g.rw.dp q q' u1 z1 hqq h1 h2;obtain u|⟨u1,u2⟩:=lt q hq
 ·obtain z|⟨z1,z2⟩:=lt q' hq'
  ·exact absurd (u.trans z.symm) hqq
  simp only[if_pos u,if_neg z2];exact .inl (λt=>by have:=(h.rw.nc q' z1).1.1;omega)
 obtain z|⟨z1,z2⟩:=lt q' hq'
 ·simp only[if_pos z,if_neg u2];exact .inl (λt=>by have:=(h.rw.nc q u1).1.1;omega)
 simp only[if_neg u2,if_neg z2];exact g.rw.dc q q' u1 z1 hqq;rw[hc q];obtain u|⟨u1,u2⟩:=lt q hq
 ·simp only[if_pos u];simp[Cl0]
 simp only[if_neg u2];exact g.rw.kp q u1;obtain u|⟨u1,u2⟩:=lt q hq
 ·simp only[if_pos u];rw[if_pos hq0]
 simp only[if_neg u2];rw[old (cB q) (h.rw.nc q u1).1.1];exact h.sp.c q u1;obtain u|⟨u1,u2⟩:=lt q hq
 ·simp only[if_pos u]at hlq;omega
 simp only[if_neg u2]at hlq;rw[old (pb q) (h.rw.pl q u1 hlq).2.1.1];exact h.sp.p q u1 hlq;intro q ob hz;have⟨r1,r2⟩:=h.pr q ob hz;have hlq:q<w.heap.size:=by
  obtain l|l:=ky q w.heap.size;exact l;rw[mp l]at r2;cases r2
 refine⟨by(try dsimp only);rw[old q hlq];exact r1,?_⟩;exact(far q hlq (by rw[r1];omega) (λu=>by rw[u,hzn]at hz;cases hz)).trans ((e.block q hlq).trans r2)
abbrev zcO:Obj:=.cells #[iv 0,iv 0,iv 0,iv 0,iv 0,iv 0,iv 0,.slice none 0 0] 51
abbrev nodeO(n qc:Nat):Obj:=.cells #[iv n,.pointer (some ⟨qc,0,none⟩)] 107
theorem d4u(e:World)(q:TypeId)(bn n f o k c:Nat)(p:NdB e bn f)(s:n+1<=f)(t:e.cell? (aA k 0)=some (iv n))(r:e.cell? (aA k 1)=some (pP o)):
  (Builtin.append_ #[92,92] q #[sS bn n f,sS k 1 c]).run prog e=.ok (sS bn (n+1) f) (e.setCells bn (n*2) [iv n,pP o]):=by
 have⟨m,l,b⟩:∃i,prog.info? 107=some i/\i.size=2:=by
  have:=b7x;cases h:prog.info? 107 with
  | none=>rw[h]at this;simp at this
  | some i=>rw[h]at this;simp at this;exact⟨i,rfl,this.2.1⟩
 have d:=run_append_room_cells (P:=prog) e 92 q 107 m underlying92 l bn 0 n f (aA k 0) 1 c [iv n,pP o] (by rw[b];rfl) (λj u a=>by
  rw[b3v];match j,a with
  | 0,a=>simp at a;rw[<-a];exact t
  | 1,a=>simp at a;rw[<-a];exact r) (λu g=>by
  simp at g;obtain rfl|rfl:=g <;> rfl) s (λj a=>by
  have a:j<2:=a;have⟨⟨u,g⟩,_⟩:=p.2 (0+n*m.size+j) (by rw[b];omega);rw[g];rfl) (λj a=>by
  have a:j<2:=a;exact(p.2 (0+n*m.size+j) (by rw[b];omega)).2)
 rw[b,kO]at d;exact d
theorem b6j(b:Nat):∀(vs:List Value)(o:Nat)(w:World)(j:Nat),(w.setCells b o vs).frozen? (aA b j)=w.frozen? (aA b j)
 | [],_,_,_=>rfl
 | v::r,o,w,j=>(b6j b r (o+1) (w.setCell (aA b o) v) j).trans (ki _ _ _ _)
theorem SAt.newn[qr](h:SAt B w b x ar kr v4 v8 br cB cO bn pb pa pk kn hd vf F vk K role)(r0:0<x.B.length)(hzn:(default:uL).z bn=none)(hkn:x.A.length+1<=kn)(W1:World)(e:Ext w W1)(qc:Nat)(hq:w.heap.size<=qc)(ob:W1.heap[qc]?=some zcO):
  SAt B ((W1.setCells bn (x.A.length*2) [iv x.A.length,.pointer (some ⟨qc,0,none⟩)]).setCell ⟨b,13,none⟩ (.slice (some ⟨bn,0,none⟩) (x.A.length+1) kn)) b { x with A:=x.A++[Cl0] } ar kr v4 v8 br (λq=>if q=x.A.length then qc else cB q) (λq=>if q=x.A.length then 0 else cO q) bn pb (λq=>if q=x.A.length then none else pa q) (λq=>if q=x.A.length then 0 else pk q) kn hd vf F vk K (λd=>if w.heap.size<=d then 3 else role d):=by
 have g:=h.ext e;have nnb:bn≠b:=λu=>by have h1:=h.sp.n;have h2:=h.sp.b;rw[u]at h1;omega
 have hbn:=h.sb.lo.2.2.1;have hbb:=h.sb.nb.1;have o1:uZ (λq=>q=bn\/q=b) W1 (W1.setCells bn (x.A.length*2) [iv x.A.length,.pointer (some ⟨qc,0,none⟩)]):=a1d (S:=λq=>q=bn\/q=b) (.inl rfl) (uZ.refl _ W1);have o2:=uZ.setCell o1 (p:=⟨b,13,none⟩) (.inr rfl) (.slice (some ⟨bn,0,none⟩) (x.A.length+1) kn);have fb:(W1.setCells bn (x.A.length*2) [iv x.A.length,.pointer (some ⟨qc,0,none⟩)]).heap[b]?=W1.heap[b]?:=(a1d (S:=λq=>q=bn) rfl (uZ.refl _ W1)).block b g.sb.nb.1 (λu=>nnb u.symm);have cq:∀j,((W1.setCells bn (x.A.length*2) [iv x.A.length,.pointer (some ⟨qc,0,none⟩)]).setCell ⟨b,13,none⟩ (.slice (some ⟨bn,0,none⟩) (x.A.length+1) kn)).cell? ⟨qc,j,none⟩=(#[iv 0,iv 0,iv 0,iv 0,iv 0,iv 0,iv 0,.slice none 0 0]:Array Value)[j]?:=λj=>by
  have hl:qc<W1.heap.size:=a1p ob;rw[kT (a:=⟨qc,j,none⟩) (o2.block qc hl (λu=>by obtain u|u:=u <;> omega)),cell_of_row W1 qc j _ _ (0,0) ob]
 have cn:∀j,((W1.setCells bn (x.A.length*2) [iv x.A.length,.pointer (some ⟨qc,0,none⟩)]).setCell ⟨b,13,none⟩ (.slice (some ⟨bn,0,none⟩) (x.A.length+1) kn)).cell? ⟨bn,j,none⟩=(W1.setCells bn (x.A.length*2) [iv x.A.length,.pointer (some ⟨qc,0,none⟩)]).cell? ⟨bn,j,none⟩:=λj=>uC _ (.inl (λu=>nnb u.symm))
 have ex:∀m,m<2->∃u,W1.cell? ⟨bn,x.A.length*2+m,none⟩=some u:=λm hm=>(g.sb.lo.2.2.2 _ (by omega)).1
 refine h.pushn r0 hzn e qc hq ⟨cq 0,cq 1,cq 2,cq 3,cq 4,cq 5,cq 6⟩ (cq 7) ⟨by have:=a1p ob;have:=o2.size;omega,λj=>?_⟩ o2 (kM _ _ _ ((kT (a:=⟨b,13,none⟩) fb).trans g.sb.n13)) (λj hj=>(uC _ (.inr (λu=>hj u.symm))).trans (kT (a:=⟨b,j,none⟩) fb)) ?_ ?_ (λj hj=>(cn j).trans (a1v bn _ _ _ W1 (.inl hj))) ((uY g.sb.nb fb o1.size).set _ _) ⟨by have:=o2.size;have:=g.sb.lo.2.2.1;omega,λj hj=>?_⟩;have hl:qc<W1.heap.size:=a1p ob;rw[mR (a:=⟨qc,j,none⟩) (o2.block qc hl (λu=>by obtain u|u:=u <;> omega))];simp[World.frozen?,ob];rw[cn];have:=a4p bn [iv x.A.length,.pointer (some ⟨qc,0,none⟩)] (x.A.length*2) 0 W1 ex (by simp);rw[kw]at this;exact this;rw[cn];exact a4p bn [iv x.A.length,.pointer (some ⟨qc,0,none⟩)] (x.A.length*2) 1 W1 ex (by simp);refine⟨?_,?_⟩
 ·rw[cn];by_cases u:j<x.A.length*2\/x.A.length*2+2<=j
  ·rw[a1v bn _ _ _ W1 u];exact(g.sb.lo.2.2.2 j hj).1
  have:=a4p bn [iv x.A.length,.pointer (some ⟨qc,0,none⟩)] (x.A.length*2) (j-x.A.length*2) W1 ex (by simp;omega);rw[show x.A.length*2+(j-x.A.length*2)=j by omega]at this;rw[this];exact⟨_,ma (by simp;omega)⟩
 rw[ki];exact(b6j bn _ _ W1 j).trans (g.sb.lo.2.2.2 j hj).2
def b6k(x:Hp)(t:Nat)(x1:Hp):Prop:=(t<x.A.length/\x1=x)\/(t=x.A.length/\x1={ x with A:=x.A++[Cl0] })
structure PlaceR[qr](B:Nat)(w':World)(b:Nat)(x:Hp)(ar:Option Addr)(kr:Nat)(v4 v8:Value)(br bn:Nat)(pb:Nat->Nat)(kn hd:Nat)(F:List Int)(vk:Value)(K:List Nat)(t:Nat):Prop where
 ft:t=uE x
 at_:∃x1 cB' cO' pa' pk' vf' F' role',b6k x t x1/\a9e x F F'/\SAt B w' b x1 ar kr v4 v8 br cB' cO' bn pb pa' pk' kn hd vf' F' vk K role'
theorem d4v(h:zQ C x F K)(g:a9e x F F'){j:Nat}(t:c1t x F' (some j)):j=uE x:=by
 obtain⟨f1,f2,f3⟩:=a0i x;have l:=b7u h g t;obtain q|q:=ky (uE x) x.A.length;have h1:=l _ q (f3 q);obtain u|u:=ky j (uE x)
 ·exact absurd t.2.1 (f2 j u)
 omega;have:=t.1;exact absurd t.2.1 (f2 j (by omega))
theorem d4w(h:zQ C x F K)(g:a9e x F F')(t:c1t x F' none):x.A.length=uE x/\∀i,i<x.A.length->(x.c i).st≠0:=by
 obtain⟨f1,f2,f3⟩:=a0i x;have no:∀i,i<x.A.length->(x.c i).st≠0:=λi hi h0=>by
  have:=g.2.2.2 i hi h0 (h.al i hi h0);have e:F'=[]:=t;rw[e]at this;cases this
 refine⟨?_,no⟩;obtain q|q:=ky (uE x) x.A.length;exact absurd (f3 q) (no _ q);omega
structure NewN[qr](B:Nat)(b:Nat)(x:Hp)(ar:Option Addr)(kr:Nat)(v4 v8:Value)(br bn:Nat)(pb:Nat->Nat)(kn hd:Nat)(vf:Value)(F:List Int)(vk:Value)(K:List Nat)(a w5:World):Prop where
 c13:w5.cell? ⟨b,13,none⟩=some (.slice (some ⟨bn,0,none⟩) x.A.length kn)
 f13:w5.frozen? ⟨b,13,none⟩=false
 so:∃cB' cO' pa' pk' role',SAt B (w5.setCell ⟨b,13,none⟩ (.slice (some ⟨bn,0,none⟩) (x.A.length+1) kn)) b { x with A:=x.A++[Cl0] } ar kr v4 v8 br cB' cO' bn pb pa' pk' kn hd vf F vk K role'
 ex:Ext a w5
theorem d0d[qr](h:SAt B w b x ar kr v4 v8 br cB cO bn pb pa pk kn hd vf F vk K role)(r0:0<x.B.length)(hzn:(default:uL).z bn=none)(hkn:x.A.length+1<=kn)(a:World)(ha:a.heap.size<=B)(hx:Ext a w)(W1:World)(e:Ext w W1)(qc ad:Nat)(hq:w.heap.size<=qc)(ob:W1.heap[qc]?=some zcO)(on:W1.heap[ad]?=some (nodeO x.A.length qc))(ty:TypeId):
  ∃v' w5,(Builtin.append_ #[92,92] ty #[.slice (some ⟨bn,0,none⟩) x.A.length kn,.slice (some ⟨ad,0,none⟩) 1 1]).run prog W1=.ok v' w5/\v'=.slice (some ⟨bn,0,none⟩) (x.A.length+1) kn/\NewN B b x ar kr v4 v8 br bn pb kn hd vf F vk K a w5:=by
 have g:=h.ext e;have nnb:bn≠b:=λu=>by have h1:=h.sp.n;have h2:=h.sp.b;rw[u]at h1;omega
 have o1:uZ (λq=>q=bn) W1 (W1.setCells bn (x.A.length*2) [iv x.A.length,.pointer (some ⟨qc,0,none⟩)]):=a1d (S:=λq=>q=bn) rfl (uZ.refl _ W1);have fb:=o1.block b g.sb.nb.1 (λu=>nnb u.symm);exact⟨_,_,d4u W1 ty bn x.A.length kn qc ad 1 g.sb.lo.2.2 hkn (cell_of_row W1 ad 0 _ _ (0,0) on) (cell_of_row W1 ad 1 _ _ (0,0) on),rfl,(kT (a:=⟨b,13,none⟩) fb).trans g.sb.n13,(mR (a:=⟨b,13,none⟩) fb).trans (g.sb.nb.2 13),⟨_,_,_,_,_,h.newn r0 hzn hkn W1 e qc hq ob⟩,o1.ext (hx.trans e) (λq hq u=>by have:=h.sb.lo.2.1;omega)⟩
theorem c3m(w:World)(o1 o2:Obj):((w.alloc o1).alloc o2).drew.heap[w.heap.size]?=some o1:=(((hO (w.alloc o1)).alloc o2).drew.block w.heap.size (by simp)).trans (heap_alloc_new w o1)
theorem c3n(w:World)(o1 o2:Obj):((w.alloc o1).alloc o2).drew.heap[w.heap.size+1]?=some o2:=by
 have:=heap_alloc_new (w.alloc o1) o2;rw[show(w.alloc o1).heap.size=w.heap.size+1 by simp]at this;exact this
theorem c5u{ops:Array Oper}{o:Oper}{a:Act}{K:Act->World->Prop}{Q:Exit->Act->World->Prop}{E:Prop}(W1:World)(hgd:o.guard=none)(s y:Operand)(t tn:TypeId)
  (ho:o.op=.call { callee:=.builtin .append,args:=#[s,y],argTypes:=#[t,tn] }) (v1 v2 u:Value) (P:World->Prop) (hs:a.eval s=v1) (hy:a.eval y=v2) (hr:∀ty,∃v' w',(Builtin.append_ #[t,tn] ty #[v1,v2]).run prog W1=.ok v' w'/\v'=u/\P w') (hK:∀w',P w'->K (a.put o.dst u) w') :
  if Region.wanted o (yielded ops a.tmps)=true then Oper.wp prog o a W1 K Q else E:=by
 obtain⟨v',w',h1,h2,h3⟩:=hr o.type;have hw:Region.wanted o (yielded ops a.tmps)=true:=by simp[Region.wanted,hgd]
 rw[if_pos hw];unfold Oper.wp execOp;simp only[ho,resolve,invoke,builtin,Sem.run_bind,Sem.run_pure,Result.andThen_ok,List.map_toArray,List.map_cons,List.map_nil,hs,hy,h1];rw[h2];exact hK w' h3
theorem d0e[qr](h:SAt B w b x ar kr v4 v8 br cB cO bn pb pa pk kn hd vf F vk K role)(i:zQ C x F K)(hC:C<=1000000000)(r0:0<x.B.length)(n8:x.A.length<=8000)(hzn:(default:uL).z bn=none)(hkn:(∀i,i<x.A.length->(x.c i).st≠0)->x.A.length+1<=kn)(a:World)(ha:a.heap.size<=B)(hx:Ext a w):
  Calls prog 214 #[.pointer (some ⟨b,0,none⟩)] w λe w'=>∃t:Nat,e=.returned (ndp bn t)/\Hid (PlaceR B w' b x ar kr v4 v8 br bn pb kn hd F vk K t)/\Ext a w':=by
 have GP:=uU (c6s h i.ho (by have:=i.le;omega) i.nn);have H:=uU h;have I:=uU i;have lo:=h.sb.lo.1;have hbw:b<w.heap.size:=h.sb.nb.1;have HKN:=uU hkn;clear h i hkn;go_in;go_wp21;refine GP.mono ?_;rintro e w1 ⟨t,vf',F',rfl,lq,gl⟩;have q1:=lq.2;have NF:Nf1 b w1:=⟨kF H.sb.nb.1 q1.size,λj=>(q1.hfr j).trans (H.sb.nb.2 j)⟩;obtain⟨role1,h1⟩:=H.freed lq.1 q1 NF;have H1:=uU h1;have X1:=uU (q1.ext hx (show a.heap.size<=b by omega) (λk hk=>by have:=(H.sb.fr.own.lt k hk).1;omega));have GL:=uU gl;have c13:=h1.sb.n13;have f13:=h1.sb.nb.2 13;have hb1:=cLt c13;clear h1 q1 lq NF gl GP;obtain _|j:=t
 ·rw[show gapV none bn=.pointer none from rfl];obtain⟨FT,NO⟩:=d4w I GL.1 GL.2;have HFT:=uU FT;have hk:=uH HKN NO;clear FT NO;have hsB:a.heap.size<=w1.heap.size:=X1.size;have PR:=uU (λW1(e:Ext w1 W1) (ob:W1.heap[w1.heap.size]?=some zcO) (on:W1.heap[w1.heap.size+1]?=some (nodeO x.A.length w1.heap.size))=>d0d H1 r0 hzn hk a ha X1 W1 e w1.heap.size (w1.heap.size+1) (hT _) ob on);have lb:a.heap.size<=b:=by omega
  have wn:wrap64 ((x.A.length:Int)+1-1)=(x.A.length:Int):=by rw[show(x.A.length:Int)+1-1=(x.A.length:Int) by omega];exact a1e _ (by omega) (by omega)
  have WN:=uU wn;clear wn;go_wp21;go_cut [] (λwx=>Hid (∃cB' cO' pa' pk' role',SAt B wx b { x with A:=x.A++[Cl0] } ar kr v4 v8 br cB' cO' bn pb pa' pk' kn hd vf' F' vk K role')/\Hid (Ext a wx))
  case first=>
   go_region_law (refine c5u _ rfl _ _ 92 92 rfl (.slice (some ⟨bn,0,none⟩) x.A.length kn) (.slice (some ⟨w1.heap.size+1,0,none⟩) 1 1) (.slice (some ⟨bn,0,none⟩) (x.A.length+1) kn) _ (by first|rfl|simp[Act.eval,Act.put]) (by first|rfl|simp[Act.eval,Act.put];rfl) (PR _ (by first|exact(eAl w1 _).alloc _|exact((eAl w1 _).alloc _).drew|exact((eDr w1).alloc _).alloc _) (by first|exact c3m w1 _ _|exact c3m w1.drew _ _) (by first|exact c3n w1 _ _|exact c3n w1.drew _ _)) ?_;intro w5 hap;have c13':=hap.c13;have f13':=hap.f13;have hb5:=cLt c13';have HP:=uU hap;clear hap)
   all_goals
    go_wp21;go_meet;first|exact⟨HP.so,HP.ex.setCell (p:=⟨b,13,none⟩) lb _⟩|exact⟨let ⟨c1,c2,c3,c4,c5,hh⟩:=HP.so;⟨c1,c2,c3,c4,c5,hh.ext (eDr _)⟩,(HP.ex.setCell (p:=⟨b,13,none⟩) lb _).drew⟩
  case rest=>
   obtain⟨w6,hw6⟩:∃W,W=wc:=⟨_,rfl⟩;subst hw6;obtain⟨h6,x6⟩:=hcut;obtain⟨cB6,cO6,pa6,pk6,role6,g6⟩:=uH h6;have G6:=uU g6;have X6:=uU x6;have c136:w6.cell? ⟨b,13,none⟩=some (.slice (some ⟨bn,0,none⟩) (x.A.length+1) kn):=by have:=g6.sb.n13;simpa using this
   have hb6:=cLt c136;have j0:(0:Int)<=(x.A.length:Int):=by omega
   have j1:(x.A.length:Int)<(x.A.length:Int)+1:=by omega
   clear h6 x6 g6 c13 f13 hb1;go_wp21;go_quiet (fail);go_wp21;go_ret;refine⟨x.A.length,?_,⟨HFT,_,_,_,_,_,_,_,_,.inr ⟨rfl,rfl⟩,GL.1,G6.ext ((hO _).drewN _)⟩,X6.trans ((hO _).drewN _)⟩;first|rfl|simp
 rw[show gapV (some j) bn=ndp bn j from rfl];have HFT:=uU (d4v I GL.1 GL.2);have tj:=GL.2.1;go_wp21;go_ret;exact⟨j,rfl,⟨HFT,x,_,_,_,_,_,_,_,.inl ⟨tj,rfl⟩,GL.1,H1⟩,X1⟩
def ansW(w:World)(k:Int)(a q c n:Int):World:=(w.alloc (.cells #[iv k,iv a,iv q,iv c,iv n] 29)).alloc (.cells #[.int .i64 0,.int .i64 0] 33)
theorem d4y(w:World)(k a q c n:Int):(ansW w k a q c n).heap[w.heap.size+1]?=some (.cells #[iv 0,iv 0] 33):=by
 show(((w.heap.push _).push _)[w.heap.size+1]?)=_;rw[<-nK,ns]
theorem b8i(w:World)(k a q c n:Int):(ansW w k a q c n).heap.size=w.heap.size+2:=by
 show((w.heap.push _).push _).size=_;rw[nK,nK]
