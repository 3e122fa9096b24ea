import Derived.Test.YtolmnenlnpbcfaaGreatDoorDn3
import Derived.Test.YtolmnenlnpbcfaaGreatDoorQe
import Derived.RangeFuncFrom
set_option maxRecDepth 100000
set_option maxHeartbeats 6000000
namespace Go.Proofs.YtolmnenlnpbcfaaGreatDoor
open Go.RowKit Go.Proofs.Tryz
attribute [local go_sem ↓] Go.wp_at_zero Go.wp_at_succ
attribute [local go_sem] Oper.semAt_some
variable{x:Hp}{F F':List Int}{K:List Nat}{B b kr br bn kn hd C cb qb m:Nat}{w W w0:World}{ar:Option Addr}{v4 v8 vf vk:Value}{cB cO pb pk role:Nat->Nat}{pa:Nat->Option Addr}{cl:Cl}
structure CBx(w0 W:World)(cb qb:Nat)(cl:Cl)(m:Nat):Prop where
 s:S7 W cb 0 cl
 p:W.cell? ⟨cb,7,none⟩=some (.slice (some ⟨qb,0,none⟩) m m)
 f:∀o,W.frozen? ⟨cb,o,none⟩=false
 lo:w0.heap.size<=cb
 ne:cb≠qb
 np:a6i w0 W qb m
 ex:Ext w0 W
theorem CBx.ext{W':World}(h:CBx w0 W cb qb cl m)(e:Ext W W'):CBx w0 W' cb qb cl m:=
 ⟨h.s.of λ_ _=>(cX e).1 cb _ (uZ h.p),e.keep h.p,λo=>((cX e).2 cb o (uZ h.p)).trans (h.f o),h.lo,h.ne,h.np.ext e,h.ex.trans e⟩
theorem CBx.black(h:CBx w0 W cb qb cl m):CBx w0 (W.setCell (aA cb 5) (iv 2)) cb qb { cl with J:=2 } m:=by
 obtain⟨b,i,j,g,c,a,d⟩:=h.s;refine⟨⟨?_,?_,?_,?_,?_,?_,?_⟩,?_,λo=>by rw[kS];exact h.f o,h.lo,h.ne,h.np.only (S:=λq=>q=cb) (tE W cb 5 _) (λe=>h.ne e.symm),h.ex.sc cb 5 h.lo _⟩;rw[uC _ (.inr (by omega))];exact b;rw[uC _ (.inr (by omega))];exact i;rw[uC _ (.inr (by omega))];exact j;rw[uC _ (.inr (by omega))];exact g;rw[uC _ (.inr (by omega))];exact c;exact dE a;rw[uC _ (.inr (by omega))];exact d;rw[uC _ (.inr (by omega))];exact h.p
theorem CBx.newA(a:World)(bo b:Int)(c:Nat):CBx a (((a.alloc (.cells (madeCells z6 (c*6)) 90)).alloc (.cells #[iv 1,iv b,iv 0,iv 0,iv bo,iv 0,iv 0,sS a.heap.size c c] 70))) (a.heap.size+1) a.heap.size (tZ bo b c 0) c:=
 ⟨⟨by simp[go_sem,tZ],by simp[go_sem,tZ],by simp[go_sem,tZ],by simp[go_sem,tZ],by simp[go_sem,tZ],by simp[go_sem,tZ],by simp[go_sem,tZ]⟩,by simp[go_sem],λ_=>by simp[go_sem],by omega,by omega,(a6i.made a a c 90 (hO _)).ext (eAl _ _),(eAl _ _).alloc _⟩
theorem CBx.newB(a:World)(bo b:Int)(c:Nat):CBx a (((a.alloc (.cells #[iv 1,iv b,iv 0,iv 0,iv bo,iv 0,iv 0,sS (a.heap.size+1) c c] 70)).alloc (.cells (madeCells z6 (c*6)) 90))) a.heap.size (a.heap.size+1) (tZ bo b c 0) c:=by
 have e:=a6i.made a (a.alloc (.cells #[iv 1,iv b,iv 0,iv 0,iv bo,iv 0,iv 0,sS (a.heap.size+1) c c] 70)) c 90 (eAl _ _);rw[show(a.alloc (.cells #[iv 1,iv b,iv 0,iv 0,iv bo,iv 0,iv 0,sS (a.heap.size+1) c c] 70)).heap.size=a.heap.size+1 by simp]at e;exact⟨⟨by simp[go_sem,tZ],by simp[go_sem,tZ],by simp[go_sem,tZ],by simp[go_sem,tZ],by simp[go_sem,tZ],by simp[go_sem,tZ],by simp[go_sem,tZ]⟩,by simp[go_sem],λ_=>by simp[go_sem],by omega,by omega,e,(eAl _ _).alloc _⟩
theorem c6i[p:qd](B g:Nat)(x:Hp)(a b c:Nat)(n:Int)(w:World)(h:GOk B w g x)(s:Snd x)(ha:a<16)(hb:b<=255)(hc:c<=200)(v:World)(hv:v.heap.size<=B)(hx:Ext v w):
  Calls prog 92 #[pP g,yU 1 a b c n] w λe w'=>a1b B g x a b c n 1 v e w':=by
 have V:=h.nums.2.2.1;have i:=cLt V;obtain⟨p1,o1,g1⟩:=GOk.enter h (w0:=doW w 1 a b c n) ((eAl w _).alloc _);have x1:Ext v (doW w 1 a b c n):=(hx.alloc _).alloc _;have R:=uU o1;have G1:=uU g1;have V0:=uU (show v.heap.size<=w.heap.size+1 by have:=hx.size;omega);have X1:=uU x1;have S:=uU s;have QR:=uU (show Calls prog 149 #[pP g,iv (1+(c:Int))] (doW w 1 a b c n) λe w'=>∃y,e=.returned (.bool (zY y (1+c)))/\Hid (tN x (1+c) y)/\Hid (GOk B w' g y)/\Ext v w' from by
  have:=b5f B g x (1+c) (doW w 1 a b c n) G1 S (by omega) v hv X1;rw[show((1+c:Nat):Int)=1+(c:Int) by omega]at this;exact this)
 clear s h o1 g1 x1;cases o:(x.born == 1000000000)
 ·have NB:=uU (show x.born≠1000000000 by simpa using o);go_in;go_wp21;refine QR.mono ?_;rintro e w2 ⟨z,rfl,hz,g2,x2⟩;have G2:=uU g2;have X2:=uU x2;have HZ:=uU hz;clear g2 x2 hz QR V i;obtain⟨N,t1,t2,t3,t4,Y,t6,t7⟩:=G2.boxes R;have bv:=cLt N;have aw:w.heap.size+1<w2.heap.size:=uZ Y;cases hf:zY z (1+c)
  ·have HF:=uU hf;clear hf;go_wp21;refine(a0s 4 _).mono ?_;rintro e w3 ⟨rfl,x3⟩;have L:=uU (G2.ext x3);have X3:=uU (X2.trans x3);clear N t1 t2 t3 t4 Y t6 t7;obtain⟨u0,u1,u2,u3,u4,u5,u6,u7⟩:=L.boxes R;have ab:w.heap.size+1<w3.heap.size:=uZ u5;clear x3;go_wp21;refine bodyPost_ret (v:=tQ 4 0) (by simp[results,results92,go_sem,u5,u6]) rfl ?_;exact⟨_,4,0,rfl,⟨rfl,.inr ⟨NB,z,HZ,.inl ⟨HF,rfl,rfl⟩⟩⟩,GOk.done R L 4 0,eY X3 V0 4 0⟩
  have HF:=uU hf;clear hf;have SZ:=uU (HZ.snd S);have V:=G2.nums.2.2.1;have i:=cLt V;have f2:=G2.box.2.2.2.1 2;have bo:=SZ.r1.born;obtain⟨D,M⟩:∃W,W=w2.setCell (aA g 2) (iv (z.born+1)):=⟨_,rfl⟩;obtain⟨d,aa⟩:∃y:Hp,y={ z with born:=z.born+1 }:=⟨_,rfl⟩;have L:=uU (show GOk B D g d by rw[M,aa];exact G2.set2 (z.born+1));have X3:=uU (show Ext v D by rw[M];exact X2.sc g 2 (kA hv G2.box.2.2.2.2.1) _);have k:=uU aa;have bb:=uU M;clear aa M;go_wp21;rw[<-uH bb];clear bb N t1 t2 t3 t4 Y t6 t7 V f2 i bv aw bo G2 X2;obtain⟨N,t1,t2,t3,t4,Y,t6,t7⟩:=L.boxes R;have V:D.cell? (aA g 2)=some (iv (z.born+1)):=by have:=L.nums.2.2.1;rw[uH k]at this;exact this
  have i:=cLt V;have ab:=cLt N;have au:w.heap.size+1<D.heap.size:=uZ Y;have mk:=λW=>c2a c (by omega) W
  go_cut [6] (λs6 G=>∃U o:Nat,s6=pP U/\Hid (CBx D G U o (tZ (z.born+1) b c 0) c))
  case first=>
   go_region
   all_goals
    go_wp21;go_meet;first|exact⟨_,_,rfl,CBx.newA D (z.born+1) b c⟩|exact⟨_,_,rfl,(CBx.newA D (z.born+1) b c).ext (eDr _)⟩|exact⟨_,_,rfl,CBx.newB D (z.born+1) b c⟩|exact⟨_,_,rfl,(CBx.newB D (z.born+1) b c).ext (eDr _)⟩
  case rest=>
   obtain⟨U,o,rfl,ad⟩:=hcut;have CX:=uU ad;obtain⟨ar,kr,ac,kc,vg,br,bc,pb,pa,pk,bz,Z⟩:=uH L;have C:=uU Z;have N8:=uU (show d.A.length<=8000 by rw[uH k];exact SZ.ok.n8);obtain⟨t,ht⟩:=obE (uE d);have HT:=uU ht;have QF:=uU (b5b (Z.ext ad.ex) N8);rw[<-ht]at QF;clear ad N t1 t2 t3 t4 Y t6 t7 V i ab au mk Z ht;go_wp21;refine QF.mono ?_;rintro e w4 ⟨rfl,x4⟩;have X:=uU (CX.ext x4);clear x4 CX QF;have g4:=C.ext X.ex;have c5:=g4.bx.2.2.2.2.2.1;have c6:=g4.bx.2.2.2.2.2.2.1;have i:=cLt c5;have a5:=X.s.2.2.2.2.2.1;have al:=X.f 5;have F:=cLt a5;have QM:=uU (a8p d g w4 c5);clear g4;go_upto_region 7 with(fail);go_cut [58] (λbn G=>Hid (bn=.bool (eV d t == 2))/\Hid (CBx D G U o (tZ (z.born+1) b c 0) c))
   case first=>
    cases P:mkB d
    ·rw[P]at QM;cases q3:(d.E == 3)
     ·have E:=uU (show eV d t=0 by
       have h1:d.E≠1/\d.E≠2:=by simpa[mkB]using P
       have h3:d.E≠3:=by simpa using q3
       unfold eV;rw[if_neg (by omega)])
      clear P;go_wp21;refine QM.mono ?_;rintro e w5 ⟨rfl,rfl⟩;go_wp21;go_meet;exact⟨by show _=_;rw[uH E];first|rfl|(simp;omega),X⟩
     have h3:d.E=3:=by simpa using q3
     have h1:d.E≠1/\d.E≠2:=by simpa[mkB]using P
     by_cases hh:d.I<=(t:Int);focus
      have E:=uU (show eV d t=2 by unfold eV;rw[if_pos (.inr (.inr ⟨h3,hh⟩))]);have bd:(t:Int)≥d.I:=hh
     rotate_left
     focus
      have E:=uU (show eV d t=0 by unfold eV;rw[if_neg (by omega)]);have bd:¬((t:Int)≥d.I):=hh
     all_goals
      clear P h3 h1 hh;go_wp21;refine QM.mono ?_;rintro e w5 ⟨rfl,rfl⟩;go_wp21;go_meet;exact⟨by show _=_;rw[uH E];first|rfl|(simp;omega),X⟩
    rw[P]at QM;have E:=uU (show eV d t=2 by
     have h1:d.E=1\/d.E=2:=by simpa[mkB]using P
     unfold eV;rw[if_pos (by omega)])
    clear P;go_wp21;refine QM.mono ?_;rintro e w5 ⟨rfl,rfl⟩;go_wp21;go_meet;exact⟨by show _=_;rw[uH E];first|rfl|(simp;omega),X⟩
   case rest=>
    obtain⟨w5,bs⟩:∃W,W=wc:=⟨_,rfl⟩;subst bs;obtain⟨bq,ba⟩:=hcut;have C5:=uU ba;clear ba X c5 c6 a5 al i F QM;have a5:=C5.s.2.2.2.2.2.1;have al:=C5.f 5;have F:=cLt a5;go_upto_region 8 with(fail);go_cut [] (λG=>Hid (CBx D G U o (tZ (z.born+1) b c (eV d t)) c))
    case first=>
     have bg:=uH bq;subst bg;cases qc:(eV d t == 2);have E:=uU (show eV d t=0 by
      have h2:eV d t≠2:=by simpa using qc
      unfold eV at h2 ⊢;split at h2;exact absurd rfl h2;rename_i u;rw[if_neg u])
     go_wp21;go_meet;rw[uH E];exact C5;have E:=uU (show eV d t=2 by simpa using qc);go_wp21;go_meet;rw[uH E];exact C5.black
    case rest=>
    obtain⟨J,be⟩:∃W,W=wc:=⟨_,rfl⟩;subst be;have l:=uU hcut;clear hcut C5 a5 al F;obtain⟨j,ag⟩:=obE (tZ (z.born+1) b c (eV d t));have av:=uU ag;rw[<-ag]at l;clear ag;have O:=C.ext l.ex;have c4:=O.bx.2.2.2.2.1;have i:=cLt c4;have f4:=O.nf.2 4;obtain⟨d0,d1,d2,d3,d4,d5,d6⟩:=l.s;simp only[Nat.zero_add]at d0 d1 d2 d3 d4 d5 d6;have d7:=l.p;have F:=cLt d7;have TL:=uU (show t<=d.A.length by rw[uH HT];exact(a0i d).1);have R0:=uU (show 0<d.B.length by rw[uH k];show 0<z.B.length;rw[SZ.r1.B];omega);have MC:=uU (show j.F=List.replicate c Pr0 by rw[uH av];rfl);have I:v.heap.size<=g:=kA hv C.lo;by_cases af:t=d.A.length;focus
     have bk:((t:Int) == (d.A.length:Int))=true:=by simp[af]
     have bm:=uU af;clear O af;go_upto_region 10 with(fail);go_cut [] (λG=>Hid (GOk B G g (b3p d t j))/\Hid (Ext v G))
     case first=>
      go_region_law (refine b7x _ rfl _ _ rfl C R0 N8 j c MC o _ (λ_=>rfl) (by first|exact l.ex.alloc _|exact(l.ex.alloc _).drew|exact l.ex.drew.alloc _) (by first|exact l.np.ext (eAl J _)|exact l.np.ext (eAl J _).drew|exact l.np.ext ((eDr J).alloc _)) _ 1 (by first|rfl|simp[Act.eval,Act.put]) (by first|rfl|simp[Act.eval,Act.put];rfl) (World.news_of_block (cs:=#[iv j.st,iv j.kind,iv j.T,iv j.U,iv j.born,iv j.J,iv j.to,sS o c c]) (by first|exact heap_alloc_new _ _|simp)) v hv X3 ?_;intro b' k' w7 ae;have ah:=ae.far.trans (l.ex.block g C.nf.1).symm;have bf:=(cOb g 4 ah).trans c4;have ce:=(fOb g 4 ah).trans f4;have cd:=cLt bf;have HP:=uU ae;clear ae ah)
      all_goals
       go_wp21;go_meet;exact⟨by rw[uH bm];first|exact HP.gk _ (hO _)|exact HP.gk _ (eDr _)|exact(HP.gk _ (hO _)).ext (eDr _),by first|exact HP.ex.sc g 4 I _|exact HP.ex.drew.sc g 4 I _|exact(HP.ex.sc g 4 I _).drew⟩
    rotate_left
    focus
     have bk:((t:Int) == (d.A.length:Int))=false:=by simp;omega
     have ak:t<d.A.length:=by have:=uH TL;omega
     have hn:0<d.A.length:=by omega
     rw[O.hc hn]at c4;obtain⟨y0,y1,y2,y3,y4,y5,y6⟩:=O.rw.s t ak;have y7:=O.rw.p7 t ak;have fc:=(O.rw.nc hn).1.2;have bh:=(O.rw.nc hn).2;have am:=cLt y7;have k0:=i0N t;have k1:(t:Int)<(d.A.length:Int):=by omega
     have ai:=uU (show GOk B (eZ J bc (t*8) j (sS o c c)) g (b3p d t j)/\Ext v (eZ J bc (t*8) j (sS o c c)) from⟨c5o C R0 t ak j c MC J l.ex o l.np,(a0a J bc (t*8) j (sS o c c)).ext (X3.trans l.ex) (λq hq e=>by omega)⟩);obtain⟨W7,T⟩:∃W,W=(eZ J bc (t*8) j (sS o c c)).drew:=⟨_,rfl⟩;have N7:=uU (show GOk B W7 g (b3p d t j)/\Ext v W7 by rw[T];exact⟨ai.1.ext (eDr _),ai.2.trans (eDr _)⟩);unfold eZ at T;clear O ai;go_upto_region 11 with(fail);go_cut [] (λG=>Hid (GOk B G g (b3p d t j))/\Hid (Ext v G))
     case first=>
      go_region
      rw[<-T];go_wp21;go_meet;exact⟨N7.1,N7.2⟩
     clear y0 y1 y2 y3 y4 y5 y6 y7 fc bh am k0 k1 N7 T W7
    all_goals
     obtain⟨w8,bl⟩:∃W,W=wc:=⟨_,rfl⟩;subst bl;obtain⟨ax,az⟩:=hcut;have G8:=uU ax;have X8:=uU az;clear ax az c4 f4 i F d0 d1 d2 d3 d4 d5 d6 d7 l;have c1:w8.cell? (aA g 1)=some (iv z.K):=by have:=G8.nums.2.1;rw[show(b3p d t j).K=d.K from rfl,uH k]at this;exact this
     obtain⟨_,_,_,fb,I,i⟩:=G8.box;have f1:=fb 1;have hu:0<=z.K/\z.K<=4000:=by have h3:=SZ.r3;have h1:=SZ.r1.M;unfold R3 at h3;omega
     obtain⟨K,Q⟩:∃W,W=w8.setCell (aA g 1) (iv (z.K+(1+(c:Int)))):=⟨_,rfl⟩;have G9:=uU (show GOk B K g (tX z b c) by
      rw[Q];have:=G8.set1 (z.K+(1+(c:Int)));rw[uH k]at this;have e2:j=tZ (z.born+1) b c (eV z (uE z)):=by rw[uH av,uH HT,uH k];rfl
      have e3:t=uE z:=by rw[uH HT,uH k];rfl
      rw[e2,e3]at this;exact this)
     have X9:=uU (show Ext v K by rw[Q];exact X8.sc g 1 (kA hv I) _);have ap:=uU Q;clear Q fb;go_wp21;rw[<-uH ap];clear ap c1 f1 i hu;have sm:=SZ.make b c (by omega) hc (by have eb:=HZ.bornE;have b1:=S.r1.born;have:=uH NB;omega) (by have e:=uH HF;unfold zY at e;have:=of_decide_eq_true e;omega);have SM:=uU sm;have ET:=uU (show(t:Int)=(uE z:Nat) by rw[uH HT,uH k];rfl);obtain⟨H,cg,A⟩:=G9.B sm.1.r1.B;have HR:=uU A;have c3:=A.c3;obtain⟨r0,r1,r2⟩:=A.r a ha;have fr:=A.f;have i:=cLt c3;have am:=cLt r0;have cc:=A.lo.1;obtain⟨N,t1,t2,t3,t4,Y,t6,t7⟩:=G9.boxes R;have cf:=cLt N;have i0:=i0N a;have i1:(a:Int)<16:=by omega
     have FN:=uU (show GOk B (cQ K H (a*3) ⟨2,0,t⟩) g (regTo (tX z b c) a ⟨2,0,t⟩)/\Ext v (cQ K H (a*3) ⟨2,0,t⟩) from⟨HR.set K a ⟨2,0,t⟩ (hO _) ha,(cE K H (a*3) ⟨2,0,t⟩).ext X9 (λq hq e=>by omega)⟩);obtain⟨bi,m⟩:∃W,W=cQ K H (a*3) ⟨2,0,t⟩:=⟨_,rfl⟩;rw[<-m]at FN;unfold cQ at m;have QP:=uU (λW(xW:Ext bi W)=>show Calls prog 152 #[pP g,iv (1+(c:Int))] W λe w'=>∃y,e=.returned (.tuple #[])/\Hid (zV (regTo (tX z b c) a ⟨2,0,uE z⟩) (1+c) y)/\Hid (GOk B w' g y)/\Ext v w' from by
      have sr:=SM.1.regTo a ⟨2,0,uE z⟩ ⟨.inr (.inr ⟨rfl,rfl,by show(0:Int)<=(uE z:Nat);omega,by show((uE z:Nat):Int)<_;have:=SM.2.2.1;omega⟩),λ_=>.inr ⟨SM.2.1,SM.2.2.2⟩⟩;have gw:=FN.1.ext xW;rw[uH ET]at gw;have:=b5g B g (regTo (tX z b c) a ⟨2,0,uE z⟩) (1+c) W gw sr (by omega) v hv (FN.2.trans xW);rw[show((1+c:Nat):Int)=1+(c:Int) by omega]at this;exact this)
     clear sm A t2 t3 t4 Y t6 t7;go_region;go_wp21;rw[<-m];refine(QP _ (eDr _)).mono ?_;rintro e ca ⟨y,rfl,aq,ao,ay⟩;have bj:=uU ao;have bp:=uU ay;have PC:=uU aq;clear ao ay aq QP m FN c3 r0 r1 r2 fr N t1;go_wp21;refine(a0j 0 _).mono ?_;rintro e bu ⟨rfl,aj⟩;have an:=uU (bj.ext aj);have bt:=uU (bp.trans aj);obtain⟨u0,u1,u2,u3,u4,u5,u6,u7⟩:=an.boxes R;have bw:w.heap.size+1<bu.heap.size:=uZ u5;clear aj;go_wp21;refine bodyPost_ret (v:=tQ 0 0) (by simp[results,results92,go_sem,u5,u6]) rfl ?_;exact⟨_,0,0,rfl,⟨rfl,.inr ⟨NB,z,HZ,.inr ⟨HF,rfl,PC⟩⟩⟩,GOk.done R an 0 0,eY bt V0 0 0⟩
 have NB:=uU (show x.born=1000000000 by simpa using o);go_in;go_wp21;refine(a0s 4 _).mono ?_;rintro e w3 ⟨rfl,x3⟩;have L:=uU (G1.ext x3);have X3:=uU (X1.trans x3);obtain⟨u0,u1,u2,u3,u4,u5,u6,u7⟩:=L.boxes R;have ab:w.heap.size+1<w3.heap.size:=uZ u5;clear x3;go_wp21;refine bodyPost_ret (v:=tQ 4 0) (by simp[results,results92,go_sem,u5,u6]) rfl ?_;exact⟨_,4,0,rfl,⟨rfl,.inl ⟨NB,rfl,rfl⟩⟩,GOk.done R L 4 0,eY X3 V0 4 0⟩
theorem l5do_1[p:qd](B g:Nat)(x:Hp)(a b c:Nat)(n:Int)(w:World)(h:GOk B w g x)(s:Snd x)(O:qV 1 a b c n=true)(P:a<16)(M:b<=255)(N:c<=200)(v:World)(Q:v.heap.size<=B)(q:Ext v w):
  Calls prog 42 #[pP g,yU 1 a b c n] w λe w'=>a1b B g x a b c n 1 v e w':=by
 obtain⟨Y,D,E⟩:=GOk.enter h (w0:=doW w 1 a b c n) ((eAl w _).alloc _);have r:=uU E;have S:=uU s;have o:=uU D;have k:=uU (λW=>a1i 1 a b c n W);rw[O]at k;have L:=uU (show v.heap.size<=w.heap.size+1 by have:=q.size;omega);have H:=uU (show Ext v (doW w 1 a b c n) from(q.alloc _).alloc _);have I:=uU (yZ.new w 1 a b c n);go_in;go_wp21;refine(k _).mono ?_;rintro e m ⟨rfl,i⟩;have F:=uU (H.trans i);have j:=uU (I.ext i);obtain⟨V,X,t2,U,Z,T,R,t7⟩:=uH j;have u:=uU (r.ext i);have t:=uU (show Calls prog 92 #[pP g,yU 1 a b c n] m λe w'=>a1b B g x a b c n 1 v e w' from by
  exact c6i B g x a b c n m u S P M N v Q F)
 go_wp21;refine t.mono ?_;rintro e w3 ⟨y,f,d,z,C,K,G⟩;have J:=uH z;subst J;have l:=uU K;have A:=uU G;obtain⟨u0,u1,u2,u3,u4,u5,u6,u7⟩:=l.boxes o;go_wp2;refine bodyPost_ret (v:=tQ f d) (by simp[results,results42,go_sem,u5,u6]) rfl ?_;exact⟨y,f,d,rfl,C,GOk.done o l f d,eY A L f d⟩
theorem snoc_c(x:Hp)(c:Cl)(q:Nat):({ x with A:=x.A++[c] }:Hp).c q=if q=x.A.length then c else x.c q:=by
 unfold Hp.c;by_cases e:q=x.A.length;subst e;simp;rw[if_neg e];simp only[List.getD_eq_getElem?_getD];obtain l|l:=km q x.A.length
 ·rw[mh l]
 rw[nS l,nT (by simp;omega),nT l]
theorem SAt.pushn[qd]{w':World}(h:SAt B w b x ar kr v4 v8 br cB cO bn pb pa pk kn hd vf F vk K role)(r0:0<x.B.length)(hzn:(default:uL).z bn=none)(e:Ext w W)(qc:Nat)(hq0:w.heap.size<=qc)(s0:S7 w' qc 0 Cl0)(s7:w'.cell? ⟨qc,7,none⟩=some (.slice none 0 0))(nq:Nf1 qc w')
  (o:uQ (λq=>q=bn\/q=b) W w') (n13:w'.cell? ⟨b,13,none⟩=some (.slice (some ⟨bn,0,none⟩) (x.A.length+1) kn)) (cb:∀j,j≠13->w'.cell? ⟨b,j,none⟩=W.cell? ⟨b,j,none⟩) (m0:w'.cell? ⟨bn,x.A.length*2,none⟩=some (iv x.A.length)) (m1:w'.cell? ⟨bn,x.A.length*2+1,none⟩=some (.pointer (some ⟨qc,0,none⟩))) (mo:∀j,j<x.A.length*2->w'.cell? ⟨bn,j,none⟩=W.cell? ⟨bn,j,none⟩) (nb:Nf1 b w') (nd:NdB w' bn kn) :
  SAt B w' b { x with A:=x.A++[Cl0] } ar kr v4 v8 br (λq=>if q=x.A.length then qc else cB q) (λq=>if q=x.A.length then 0 else cO q) bn pb (λq=>if q=x.A.length then none else pa q) (λq=>if q=x.A.length then 0 else pk q) kn hd vf F vk K (λd=>if w.heap.size<=d then 3 else role d):=by
 have g:=h.ext e;have old:∀q,q<w.heap.size->(if w.heap.size<=q then 3 else role q)=role q:=λq hq=>if_neg (by omega)
 have far:∀q,q<w.heap.size->role q≠0->q≠bn->w'.heap[q]?=W.heap[q]?:=λq hq h0 hn=>o.block q (kF hq e.size) (λu=>by
  obtain u|u:=u;exact hn u;exact h0 (u▸h.sp.b))
 have far1:∀q,q<w.heap.size->role q≠0->role q≠1->w'.heap[q]?=W.heap[q]?:=λq hq h0 h1=>far q hq h0 (λu=>h1 (u▸h.sp.n))
 have hc:=snoc_c x Cl0;have hl:({ x with A:=x.A++[Cl0] }:Hp).A.length=x.A.length+1:=by simp
 have lt:∀q,q<({ x with A:=x.A++[Cl0] }:Hp).A.length->q=x.A.length\/(q<x.A.length/\q≠x.A.length):=λq hq=>by rw[hl]at hq;omega
 have fr:w'.heap[br]?=W.heap[br]?:=far1 br (h.rw.nr r0).1.1 (by rw[h.sp.r r0];omega) (by rw[h.sp.r r0];omega);have fc:∀q,q<x.A.length->w'.heap[cB q]?=W.heap[cB q]?:=λq hq=>far1 (cB q) (h.rw.nc q hq).1.1 (by rw[h.sp.c q hq];omega) (by rw[h.sp.c q hq];omega)
 have fp:∀q,q<x.A.length->0<pk q->w'.heap[pb q]?=W.heap[pb q]?:=λq hq hp=>far1 (pb q) (h.rw.pl q hq hp).2.1.1 (by rw[h.sp.p q hq hp];omega) (by rw[h.sp.p q hq hp];omega)
 refine⟨⟨g.sb.bx.of λj hj=>cb j (by omega),g.sb.ha,hl▸n13,λi hi=>?_,⟨(cb 14 (by omega)).trans g.sb.fr.hd,nb.2 14,uN g.sb.fr.own (λq hq=>far1 q (h.sb.fr.own.lt q hq).2 (by rw[h.sp.f q hq];omega) (by rw[h.sp.f q hq];omega)),g.sb.fr.apart⟩,g.sb.rg.of λj h1 _=>cb j (by omega),(cb 4017 (by omega)).trans g.sb.k0,uN g.sb.kp (λq hq=>far1 q (h.sb.kp.lt q hq).2 (by rw[h.sp.k q hq];omega) (by rw[h.sp.k q hq];omega)),nb,⟨g.sb.lo.1,g.sb.lo.2.1,nd⟩⟩,⟨λj hj=>?_,λq hq=>?_,λq hq=>?_,λq hq j hj=>?_,λq hq hlq=>?_,λhr=>⟨uY (g.rw.nr hr).1 fr o.size,(g.rw.nr hr).2⟩,λq hq=>?_,λq hq=>?_,λq q' hq hq' hqq h1 h2=>?_,λq q' hq hq' hqq=>?_,λq hq=>?_⟩,⟨by rw[old b h.sb.nb.1];exact h.sp.b,by rw[old bn h.sb.lo.2.2.1];exact h.sp.n,λhr=>by rw[old br (h.rw.nr hr).1.1];exact h.sp.r hr,λq hq=>?_,λq hq=>by rw[old q (h.sb.fr.own.lt q hq).2];exact h.sp.f q hq,λq hq=>by rw[old q (h.sb.kp.lt q hq).2];exact h.sp.k q hq,λq hq hlq=>?_⟩,?_⟩;obtain u|⟨u1,u2⟩:=lt i hi
 ·simp only[if_pos u];rw[u];exact⟨m0,m1⟩
 simp only[if_neg u2];rw[mo _ (by omega),mo _ (by omega)];exact g.sb.nd i u1;exact(g.rw.r j hj).of λm _=>kR (a:=⟨br,_,none⟩) fr
 rw[hc q];obtain u|⟨u1,u2⟩:=lt q hq
 ·simp only[if_pos u];exact s0
 simp only[if_neg u2];exact(g.rw.s q u1).of λm _=>kR (a:=⟨cB q,_,none⟩) (fc q u1)
 rw[hc q];obtain u|⟨u1,u2⟩:=lt q hq
 ·simp only[if_pos u,Nat.zero_add];exact s7
 simp only[if_neg u2];rw[kR (a:=⟨cB q,_,none⟩) (fc q u1)];exact g.rw.p7 q u1;rw[hc q]at hj ⊢;obtain u|⟨u1,u2⟩:=lt q hq
 ·rw[if_pos u]at hj;simp[Cl0]at hj
 rw[if_neg u2]at hj ⊢;exact(g.rw.p q u1 j hj).of λm _=>kR (a:=⟨pb q,_,none⟩) (fp q u1 (g.rw.pw u1 (by omega)))
 obtain u|⟨u1,u2⟩:=lt q hq
 ·simp only[if_pos u]at hlq;omega
 simp only[if_neg u2]at hlq ⊢;have⟨a1,a2,a3,a4⟩:=g.rw.pl q u1 hlq;refine⟨a1,dV a2 (fp q u1 hlq) o.size,⟨a3.1,λj hj=>?_⟩,a4⟩;obtain z|⟨z1,z2⟩:=lt j hj
 ·simp only[if_pos z];intro u;have:=(h.rw.pl q u1 hlq).2.1.1;omega
 simp only[if_neg z2];exact a3.2 j z1;obtain u|⟨u1,u2⟩:=lt q hq
 ·simp only[if_pos u];exact⟨nq,kA h.sb.lo.1 (by have:=h.sb.nb.1;omega)⟩
 simp only[if_neg u2];exact⟨uY (g.rw.nc q u1).1 (fc q u1) o.size,(g.rw.nc q u1).2⟩;obtain u|⟨u1,u2⟩:=lt q hq
 ·simp only[if_pos u];intro z;have:=(h.rw.nr r0).1.1;omega
 simp only[if_neg u2];exact g.rw.d q u1;obtain u|⟨u1,u2⟩:=lt q hq
 ·simp only[if_pos u]at h1;omega
 obtain z|⟨z1,z2⟩:=lt q' hq'
 ·simp only[if_pos z]at h2;omega
 simp only[if_neg u2]at h1;simp only[if_neg z2]at h2;exact g.rw.dp q q' u1 z1 hqq h1 h2;obtain u|⟨u1,u2⟩:=lt q hq
 ·obtain z|⟨z1,z2⟩:=lt q' hq'
  ·exact absurd (u.trans z.symm) hqq
  simp only[if_pos u,if_neg z2];exact .inl (λt=>by have:=(h.rw.nc q' z1).1.1;omega)
 obtain z|⟨z1,z2⟩:=lt q' hq'
 ·simp only[if_pos z,if_neg u2];exact .inl (λt=>by have:=(h.rw.nc q u1).1.1;omega)
 simp only[if_neg u2,if_neg z2];exact g.rw.dc q q' u1 z1 hqq;rw[hc q];obtain u|⟨u1,u2⟩:=lt q hq
 ·simp only[if_pos u];simp[Cl0]
 simp only[if_neg u2];exact g.rw.kp q u1;obtain u|⟨u1,u2⟩:=lt q hq
 ·simp only[if_pos u];rw[if_pos hq0]
 simp only[if_neg u2];rw[old (cB q) (h.rw.nc q u1).1.1];exact h.sp.c q u1;obtain u|⟨u1,u2⟩:=lt q hq
 ·simp only[if_pos u]at hlq;omega
 simp only[if_neg u2]at hlq;rw[old (pb q) (h.rw.pl q u1 hlq).2.1.1];exact h.sp.p q u1 hlq;intro q ob hz;have⟨r1,r2⟩:=h.pr q ob hz;have hlq:q<w.heap.size:=by
  obtain l|l:=km q w.heap.size;exact l;rw[me l]at r2;cases r2
 refine⟨by(try dsimp only);rw[old q hlq];exact r1,?_⟩;exact(far q hlq (by rw[r1];omega) (λu=>by rw[u,hzn]at hz;cases hz)).trans ((e.block q hlq).trans r2)
abbrev zcO:Obj:=.cells #[iv 0,iv 0,iv 0,iv 0,iv 0,iv 0,iv 0,.slice none 0 0] 70
abbrev nodeO(n qc:Nat):Obj:=.cells #[iv n,.pointer (some ⟨qc,0,none⟩)] 108
theorem d5j(e:World)(q:TypeId)(bn n f o k c:Nat)(p:NdB e bn f)(s:n+1<=f)(t:e.cell? (aA k 0)=some (iv n))(r:e.cell? (aA k 1)=some (pP o)):
  (Builtin.append_ #[100,100] q #[sS bn n f,sS k 1 c]).run prog e=.ok (sS bn (n+1) f) (e.setCells bn (n*2) [iv n,pP o]):=by
 have⟨m,l,b⟩:∃i,prog.info? 108=some i/\i.size=2:=by
  have:=b8d;cases h:prog.info? 108 with
  | none=>rw[h]at this;simp at this
  | some i=>rw[h]at this;simp at this;exact⟨i,rfl,this.2.1⟩
 have d:=run_append_room_cells (P:=prog) e 100 q 108 m underlying100 l bn 0 n f (aA k 0) 1 c [iv n,pP o] (by rw[b];rfl) (λj u a=>by
  rw[b4c];match j,a with
  | 0,a=>simp at a;rw[<-a];exact t
  | 1,a=>simp at a;rw[<-a];exact r) (λu g=>by
  simp at g;obtain rfl|rfl:=g <;> rfl) s (λj a=>by
  have a:j<2:=a;have⟨⟨u,g⟩,_⟩:=p.2 (0+n*m.size+j) (by rw[b];omega);rw[g];rfl) (λj a=>by
  have a:j<2:=a;exact(p.2 (0+n*m.size+j) (by rw[b];omega)).2)
 rw[b,kO]at d;exact d
theorem b6q(b:Nat):∀(vs:List Value)(o:Nat)(w:World)(j:Nat),(w.setCells b o vs).frozen? (aA b j)=w.frozen? (aA b j)
 | [],_,_,_=>rfl
 | v::r,o,w,j=>(b6q b r (o+1) (w.setCell (aA b o) v) j).trans (kS _ _ _ _)
theorem SAt.newn[qd](h:SAt B w b x ar kr v4 v8 br cB cO bn pb pa pk kn hd vf F vk K role)(r0:0<x.B.length)(hzn:(default:uL).z bn=none)(hkn:x.A.length+1<=kn)(W1:World)(e:Ext w W1)(qc:Nat)(hq:w.heap.size<=qc)(ob:W1.heap[qc]?=some zcO):
  SAt B ((W1.setCells bn (x.A.length*2) [iv x.A.length,.pointer (some ⟨qc,0,none⟩)]).setCell ⟨b,13,none⟩ (.slice (some ⟨bn,0,none⟩) (x.A.length+1) kn)) b { x with A:=x.A++[Cl0] } ar kr v4 v8 br (λq=>if q=x.A.length then qc else cB q) (λq=>if q=x.A.length then 0 else cO q) bn pb (λq=>if q=x.A.length then none else pa q) (λq=>if q=x.A.length then 0 else pk q) kn hd vf F vk K (λd=>if w.heap.size<=d then 3 else role d):=by
 have g:=h.ext e;have nnb:bn≠b:=λu=>by have h1:=h.sp.n;have h2:=h.sp.b;rw[u]at h1;omega
 have hbn:=h.sb.lo.2.2.1;have hbb:=h.sb.nb.1;have o1:uQ (λq=>q=bn\/q=b) W1 (W1.setCells bn (x.A.length*2) [iv x.A.length,.pointer (some ⟨qc,0,none⟩)]):=a1f (S:=λq=>q=bn\/q=b) (.inl rfl) (uQ.refl _ W1);have o2:=uQ.setCell o1 (p:=⟨b,13,none⟩) (.inr rfl) (.slice (some ⟨bn,0,none⟩) (x.A.length+1) kn);have fb:(W1.setCells bn (x.A.length*2) [iv x.A.length,.pointer (some ⟨qc,0,none⟩)]).heap[b]?=W1.heap[b]?:=(a1f (S:=λq=>q=bn) rfl (uQ.refl _ W1)).block b g.sb.nb.1 (λu=>nnb u.symm);have cq:∀j,((W1.setCells bn (x.A.length*2) [iv x.A.length,.pointer (some ⟨qc,0,none⟩)]).setCell ⟨b,13,none⟩ (.slice (some ⟨bn,0,none⟩) (x.A.length+1) kn)).cell? ⟨qc,j,none⟩=(#[iv 0,iv 0,iv 0,iv 0,iv 0,iv 0,iv 0,.slice none 0 0]:Array Value)[j]?:=λj=>by
  have hl:qc<W1.heap.size:=a1t ob;rw[kR (a:=⟨qc,j,none⟩) (o2.block qc hl (λu=>by obtain u|u:=u <;> omega)),cell_of_row W1 qc j _ _ (0,0) ob]
 have cn:∀j,((W1.setCells bn (x.A.length*2) [iv x.A.length,.pointer (some ⟨qc,0,none⟩)]).setCell ⟨b,13,none⟩ (.slice (some ⟨bn,0,none⟩) (x.A.length+1) kn)).cell? ⟨bn,j,none⟩=(W1.setCells bn (x.A.length*2) [iv x.A.length,.pointer (some ⟨qc,0,none⟩)]).cell? ⟨bn,j,none⟩:=λj=>uC _ (.inl (λu=>nnb u.symm))
 have ex:∀m,m<2->∃u,W1.cell? ⟨bn,x.A.length*2+m,none⟩=some u:=λm hm=>(g.sb.lo.2.2.2 _ (by omega)).1
 refine h.pushn r0 hzn e qc hq ⟨cq 0,cq 1,cq 2,cq 3,cq 4,cq 5,cq 6⟩ (cq 7) ⟨by have:=a1t ob;have:=o2.size;omega,λj=>?_⟩ o2 (kM _ _ _ ((kR (a:=⟨b,13,none⟩) fb).trans g.sb.n13)) (λj hj=>(uC _ (.inr (λu=>hj u.symm))).trans (kR (a:=⟨b,j,none⟩) fb)) ?_ ?_ (λj hj=>(cn j).trans (a1z bn _ _ _ W1 (.inl hj))) ((uY g.sb.nb fb o1.size).set _ _) ⟨by have:=o2.size;have:=g.sb.lo.2.2.1;omega,λj hj=>?_⟩;have hl:qc<W1.heap.size:=a1t ob;rw[mL (a:=⟨qc,j,none⟩) (o2.block qc hl (λu=>by obtain u|u:=u <;> omega))];simp[World.frozen?,ob];rw[cn];have:=a4s bn [iv x.A.length,.pointer (some ⟨qc,0,none⟩)] (x.A.length*2) 0 W1 ex (by simp);rw[kt]at this;exact this;rw[cn];exact a4s bn [iv x.A.length,.pointer (some ⟨qc,0,none⟩)] (x.A.length*2) 1 W1 ex (by simp);refine⟨?_,?_⟩
 ·rw[cn];by_cases u:j<x.A.length*2\/x.A.length*2+2<=j
  ·rw[a1z bn _ _ _ W1 u];exact(g.sb.lo.2.2.2 j hj).1
  have:=a4s bn [iv x.A.length,.pointer (some ⟨qc,0,none⟩)] (x.A.length*2) (j-x.A.length*2) W1 ex (by simp;omega);rw[show x.A.length*2+(j-x.A.length*2)=j by omega]at this;rw[this];exact⟨_,mV (by simp;omega)⟩
 rw[kS];exact(b6q bn _ _ W1 j).trans (g.sb.lo.2.2.2 j hj).2
def b6r(x:Hp)(t:Nat)(x1:Hp):Prop:=(t<x.A.length/\x1=x)\/(t=x.A.length/\x1={ x with A:=x.A++[Cl0] })
structure PlaceR[qd](B:Nat)(w':World)(b:Nat)(x:Hp)(ar:Option Addr)(kr:Nat)(v4 v8:Value)(br bn:Nat)(pb:Nat->Nat)(kn hd:Nat)(F:List Int)(vk:Value)(K:List Nat)(t:Nat):Prop where
 ft:t=uE x
 at_:∃x1 cB' cO' pa' pk' vf' F' role',b6r x t x1/\a9i x F F'/\SAt B w' b x1 ar kr v4 v8 br cB' cO' bn pb pa' pk' kn hd vf' F' vk K role'
theorem d5k(h:zH C x F K)(g:a9i x F F'){j:Nat}(t:c2f x F' (some j)):j=uE x:=by
 obtain⟨f1,f2,f3⟩:=a0i x;have l:=b8c h g t;obtain q|q:=km (uE x) x.A.length;have h1:=l _ q (f3 q);obtain u|u:=km j (uE x)
 ·exact absurd t.2.1 (f2 j u)
 omega;have:=t.1;exact absurd t.2.1 (f2 j (by omega))
theorem d5m(h:zH C x F K)(g:a9i x F F')(t:c2f x F' none):x.A.length=uE x/\∀i,i<x.A.length->(x.c i).st≠0:=by
 obtain⟨f1,f2,f3⟩:=a0i x;have no:∀i,i<x.A.length->(x.c i).st≠0:=λi hi h0=>by
  have:=g.2.2.2 i hi h0 (h.al i hi h0);have e:F'=[]:=t;rw[e]at this;cases this
 refine⟨?_,no⟩;obtain q|q:=km (uE x) x.A.length;exact absurd (f3 q) (no _ q);omega
structure NewN[qd](B:Nat)(b:Nat)(x:Hp)(ar:Option Addr)(kr:Nat)(v4 v8:Value)(br bn:Nat)(pb:Nat->Nat)(kn hd:Nat)(vf:Value)(F:List Int)(vk:Value)(K:List Nat)(a w5:World):Prop where
 c13:w5.cell? ⟨b,13,none⟩=some (.slice (some ⟨bn,0,none⟩) x.A.length kn)
 f13:w5.frozen? ⟨b,13,none⟩=false
 so:∃cB' cO' pa' pk' role',SAt B (w5.setCell ⟨b,13,none⟩ (.slice (some ⟨bn,0,none⟩) (x.A.length+1) kn)) b { x with A:=x.A++[Cl0] } ar kr v4 v8 br cB' cO' bn pb pa' pk' kn hd vf F vk K role'
 ex:Ext a w5
theorem d1d[qd](h:SAt B w b x ar kr v4 v8 br cB cO bn pb pa pk kn hd vf F vk K role)(r0:0<x.B.length)(hzn:(default:uL).z bn=none)(hkn:x.A.length+1<=kn)(a:World)(ha:a.heap.size<=B)(hx:Ext a w)(W1:World)(e:Ext w W1)(qc ad:Nat)(hq:w.heap.size<=qc)(ob:W1.heap[qc]?=some zcO)(on:W1.heap[ad]?=some (nodeO x.A.length qc))(ty:TypeId):
  ∃v' w5,(Builtin.append_ #[100,100] ty #[.slice (some ⟨bn,0,none⟩) x.A.length kn,.slice (some ⟨ad,0,none⟩) 1 1]).run prog W1=.ok v' w5/\v'=.slice (some ⟨bn,0,none⟩) (x.A.length+1) kn/\NewN B b x ar kr v4 v8 br bn pb kn hd vf F vk K a w5:=by
 have g:=h.ext e;have nnb:bn≠b:=λu=>by have h1:=h.sp.n;have h2:=h.sp.b;rw[u]at h1;omega
 have o1:uQ (λq=>q=bn) W1 (W1.setCells bn (x.A.length*2) [iv x.A.length,.pointer (some ⟨qc,0,none⟩)]):=a1f (S:=λq=>q=bn) rfl (uQ.refl _ W1);have fb:=o1.block b g.sb.nb.1 (λu=>nnb u.symm);exact⟨_,_,d5j W1 ty bn x.A.length kn qc ad 1 g.sb.lo.2.2 hkn (cell_of_row W1 ad 0 _ _ (0,0) on) (cell_of_row W1 ad 1 _ _ (0,0) on),rfl,(kR (a:=⟨b,13,none⟩) fb).trans g.sb.n13,(mL (a:=⟨b,13,none⟩) fb).trans (g.sb.nb.2 13),⟨_,_,_,_,_,h.newn r0 hzn hkn W1 e qc hq ob⟩,o1.ext (hx.trans e) (λq hq u=>by have:=h.sb.lo.2.1;omega)⟩
theorem c4e(w:World)(o1 o2:Obj):((w.alloc o1).alloc o2).drew.heap[w.heap.size]?=some o1:=(((hO (w.alloc o1)).alloc o2).drew.block w.heap.size (by simp)).trans (heap_alloc_new w o1)
theorem c4f(w:World)(o1 o2:Obj):((w.alloc o1).alloc o2).drew.heap[w.heap.size+1]?=some o2:=by
 have:=heap_alloc_new (w.alloc o1) o2;rw[show(w.alloc o1).heap.size=w.heap.size+1 by simp]at this;exact this
theorem c6r{ops:Array Oper}{o:Oper}{a:Act}{K:Act->World->Prop}{Q:Exit->Act->World->Prop}{E:Prop}(W1:World)(hgd:o.guard=none)(s y:Operand)(t tn:TypeId)
  (ho:o.op=.call { callee:=.builtin .append,args:=#[s,y],argTypes:=#[t,tn] }) (v1 v2 u:Value) (P:World->Prop) (hs:a.eval s=v1) (hy:a.eval y=v2) (hr:∀ty,∃v' w',(Builtin.append_ #[t,tn] ty #[v1,v2]).run prog W1=.ok v' w'/\v'=u/\P w') (hK:∀w',P w'->K (a.put o.dst u) w') :
  if Region.wanted o (yielded ops a.tmps)=true then Oper.wp prog o a W1 K Q else E:=by
 obtain⟨v',w',h1,h2,h3⟩:=hr o.type;have hw:Region.wanted o (yielded ops a.tmps)=true:=by simp[Region.wanted,hgd]
 rw[if_pos hw];unfold Oper.wp execOp;simp only[ho,resolve,invoke,builtin,Sem.run_bind,Sem.run_pure,Result.andThen_ok,List.map_toArray,List.map_cons,List.map_nil,hs,hy,h1];rw[h2];exact hK w' h3
theorem d1e[qd](h:SAt B w b x ar kr v4 v8 br cB cO bn pb pa pk kn hd vf F vk K role)(i:zH C x F K)(hC:C<=1000000000)(r0:0<x.B.length)(n8:x.A.length<=8000)(hzn:(default:uL).z bn=none)(hkn:(∀i,i<x.A.length->(x.c i).st≠0)->x.A.length+1<=kn)(a:World)(ha:a.heap.size<=B)(hx:Ext a w):
  Calls prog 219 #[.pointer (some ⟨b,0,none⟩)] w λe w'=>∃t:Nat,e=.returned (ndp bn t)/\Hid (PlaceR B w' b x ar kr v4 v8 br bn pb kn hd F vk K t)/\Ext a w':=by
 have GP:=uU (c7j h i.ho (by have:=i.le;omega) i.nn);have H:=uU h;have I:=uU i;have lo:=h.sb.lo.1;have hbw:b<w.heap.size:=h.sb.nb.1;have HKN:=uU hkn;clear h i hkn;go_in;go_wp21;refine GP.mono ?_;rintro e w1 ⟨t,vf',F',rfl,lq,gl⟩;have q1:=lq.2;have NF:Nf1 b w1:=⟨kF H.sb.nb.1 q1.size,λj=>(q1.hfr j).trans (H.sb.nb.2 j)⟩;obtain⟨role1,h1⟩:=H.freed lq.1 q1 NF;have H1:=uU h1;have X1:=uU (q1.ext hx (show a.heap.size<=b by omega) (λk hk=>by have:=(H.sb.fr.own.lt k hk).1;omega));have GL:=uU gl;have c13:=h1.sb.n13;have f13:=h1.sb.nb.2 13;have hb1:=cLt c13;clear h1 q1 lq NF gl GP;obtain _|j:=t
 ·rw[show gapV none bn=.pointer none from rfl];obtain⟨FT,NO⟩:=d5m I GL.1 GL.2;have HFT:=uU FT;have hk:=uH HKN NO;clear FT NO;have hsB:a.heap.size<=w1.heap.size:=X1.size;have PR:=uU (λW1(e:Ext w1 W1) (ob:W1.heap[w1.heap.size]?=some zcO) (on:W1.heap[w1.heap.size+1]?=some (nodeO x.A.length w1.heap.size))=>d1d H1 r0 hzn hk a ha X1 W1 e w1.heap.size (w1.heap.size+1) (hT _) ob on);have lb:a.heap.size<=b:=by omega
  have wn:wrap64 ((x.A.length:Int)+1-1)=(x.A.length:Int):=by rw[show(x.A.length:Int)+1-1=(x.A.length:Int) by omega];exact a1g _ (by omega) (by omega)
  have WN:=uU wn;clear wn;go_wp21;go_cut [] (λwx=>Hid (∃cB' cO' pa' pk' role',SAt B wx b { x with A:=x.A++[Cl0] } ar kr v4 v8 br cB' cO' bn pb pa' pk' kn hd vf' F' vk K role')/\Hid (Ext a wx))
  case first=>
   go_region_law (refine c6r _ rfl _ _ 100 100 rfl (.slice (some ⟨bn,0,none⟩) x.A.length kn) (.slice (some ⟨w1.heap.size+1,0,none⟩) 1 1) (.slice (some ⟨bn,0,none⟩) (x.A.length+1) kn) _ (by first|rfl|simp[Act.eval,Act.put]) (by first|rfl|simp[Act.eval,Act.put];rfl) (PR _ (by first|exact(eAl w1 _).alloc _|exact((eAl w1 _).alloc _).drew|exact((eDr w1).alloc _).alloc _) (by first|exact c4e w1 _ _|exact c4e w1.drew _ _) (by first|exact c4f w1 _ _|exact c4f w1.drew _ _)) ?_;intro w5 hap;have c13':=hap.c13;have f13':=hap.f13;have hb5:=cLt c13';have HP:=uU hap;clear hap)
   all_goals
    go_wp21;go_meet;first|exact⟨HP.so,HP.ex.setCell (p:=⟨b,13,none⟩) lb _⟩|exact⟨let ⟨c1,c2,c3,c4,c5,hh⟩:=HP.so;⟨c1,c2,c3,c4,c5,hh.ext (eDr _)⟩,(HP.ex.setCell (p:=⟨b,13,none⟩) lb _).drew⟩
  case rest=>
   obtain⟨w6,hw6⟩:∃W,W=wc:=⟨_,rfl⟩;subst hw6;obtain⟨h6,x6⟩:=hcut;obtain⟨cB6,cO6,pa6,pk6,role6,g6⟩:=uH h6;have G6:=uU g6;have X6:=uU x6;have c136:w6.cell? ⟨b,13,none⟩=some (.slice (some ⟨bn,0,none⟩) (x.A.length+1) kn):=by have:=g6.sb.n13;simpa using this
   have hb6:=cLt c136;have j0:(0:Int)<=(x.A.length:Int):=by omega
   have j1:(x.A.length:Int)<(x.A.length:Int)+1:=by omega
   clear h6 x6 g6 c13 f13 hb1;go_wp21;go_quiet (fail);go_wp21;go_ret;refine⟨x.A.length,?_,⟨HFT,_,_,_,_,_,_,_,_,.inr ⟨rfl,rfl⟩,GL.1,G6.ext ((hO _).drewN _)⟩,X6.trans ((hO _).drewN _)⟩;first|rfl|simp
 rw[show gapV (some j) bn=ndp bn j from rfl];have HFT:=uU (d5k I GL.1 GL.2);have tj:=GL.2.1;go_wp21;go_ret;exact⟨j,rfl,⟨HFT,x,_,_,_,_,_,_,_,.inl ⟨tj,rfl⟩,GL.1,H1⟩,X1⟩
end Go.Proofs.YtolmnenlnpbcfaaGreatDoor
namespace Go.Proofs.YtolmnenlnpbcfaaGreatDoor
open Go.RowKit Go.Shelf Go.Proofs.Tryz
attribute [local go_sem ↓] Go.wp_at_zero Go.wp_at_succ
attribute [local go_sem] Oper.semAt_some
variable{ar:Option Addr}{kr kn:Nat}{ac:Nat->Option Addr}
theorem due_in(n:Nat)(a:Option Addr)(w:World):
  CallsIn Fence.wide n prog 236 #[.pointer a] w λe w'=>e=.returned (.func (.func 247) #[] #[pP w.heap.size])/\w'=w.alloc (.cells #[.pointer a] 64):=by
 refine callsIn_of_wp func236 rfl trivial ?_ rfl;simp only[ntmps236,List.size_toArray,List.length_cons,List.length_nil,Nat.reduceAdd,Nat.reduceSub,Array.replicate_succ,Array.replicate_zero,List.push_toArray,List.append_toArray,List.nil_append,List.cons_append];gi_wp2;go_ret;exact⟨rfl,rfl⟩
theorem box_of{W:World}{B:Nat}{v:Value}{t:TypeId}(h:W.heap[B]?=some (.cells #[v] t (0,0))):W.cell? (aA B 0)=some v/\W.frozen? (aA B 0)=false:=by
 constructor <;> simp[World.cell?,World.frozen?,h]
theorem c7t(W:World)(v:Value)(t:TypeId):(W.alloc (.cells #[v] t)).cell? (aA W.heap.size 0)=some v/\(W.alloc (.cells #[v] t)).frozen? (aA W.heap.size 0)=false:=
 box_of (World.alloc_heap_new W _)
theorem d0n(n:Nat)(m:1<=n)(x:Hp)(b c:Nat)(w:World)(bn d:Nat)(k:w.cell? (aA c 0)=some (pP b))(h:VNt w b x ar kr ac (some (aA bn d)) kn)(a:x.A.length<=8000):
  SeqStopsK Fence.wide n prog 247 #[pP c] (λy:Nat=>#[ptr bn (d+y*2)]) a5f (λys=>∃L,IsS x L/\ys=yY x L) (λpre=>∃L,IsS x L/\pre <+: yY x L) 8001 w:=λl J g W e f _ i j=>
 due1_in n m l x b c W bn d J g f i (Ext.keep e k) (h.ext e) a j
theorem c3m(x:Hp)(b:Nat)(w:World)(bn m:Nat)(h:VNt w b x ar kr ac (some (aA bn m)) kn)(J:x.A.length<=8000):
  Calls prog 229 #[pP b] w λe w'=>∃v,e=.returned v/\((v=.pointer none/\qD x x.A.length (-1))\/∃y:Nat,v=ptr bn (m+y*2)/\qD x x.A.length y/\y<x.A.length)/\Ext w w':=by
 refine(callsIn_wide (n:=3)).1 ?_;refine callsIn_of_wp_marks func229 rfl trivial ?_ rfl;simp only[ntmps229,List.size_toArray,List.length_cons,List.length_nil,Nat.reduceAdd,Nat.reduceSub,Array.replicate_succ,Array.replicate_zero,List.push_toArray,List.append_toArray,List.nil_append,List.cons_append];gi_wp2_with (refine⟨trivial,?_⟩;gi_at_call 236;refine(due_in _ _ _).mono ?_;rintro e w' ⟨rfl,rfl⟩);have N:=c7t w (.pointer none) 111;have M:=c7t (w.alloc (.cells #[.pointer none] 111)) (pP b) 64;simp only[World.size_alloc]at M;have u:Below w.heap.size w ((w.alloc (.cells #[.pointer none] 111)).alloc (.cells #[pP b] 64)):=((Below.refl _ w).alloc (hT _) _).alloc (by simp) _;refine wpIn_rangeFunc_ownF rfl (by decide) (gf:=247) (lb:=#[pP (w.heap.size+1)]) rfl trivial (enters_of func247 (by kernel_rfl) rfl)
  (d0n 2 (by decide) x b (w.heap.size+1) _ bn m M.1 (h.ext u) J) a5f.trans (λW l o Q _ O P _=>a5f.put W l o Q O P) (Below.refl _ _) (λ_=>rfl)
  (λd W=>(d=[]/\W.cell? (aA w.heap.size 0)=some (.pointer none)/\W.frozen? (aA w.heap.size 0)=false)/\Below w.heap.size w W)
  (λc d W=>(c=.ret/\∃y:Nat,d=[y]/\W.cell? (aA w.heap.size 0)=some (ptr bn (m+y*2)))/\Below w.heap.size w W)
  (OwnFrom.and (Own.from (λs A B G i z E=>⟨i.1,cell_kept i.2.1 z E,(frozen_kept i.2.1 z E).trans i.2.2⟩) _) (ownFrom_below (hT _) (by simp;omega)))
  (λc=>OwnFrom.and (Own.from (λs A B G i z E=>⟨i.1,let ⟨y,e,q⟩:=i.2;⟨y,e,cell_kept q z E⟩⟩) _) (ownFrom_below (hT _) (by simp;omega)))
  ⟨⟨rfl,(eAl _ _).keep N.1,((cX ((hO (w.alloc (.cells #[.pointer none] 111))).alloc _)).2 _ 0 (by simp)).trans N.2⟩,u⟩
  (λy=>{ tmps:=#[pP b,undef,pP w.heap.size,ptr bn (m+y*2),pP b,.func (.func 247) #[] #[pP (w.heap.size+1)],ptr bn (m+y*2),undef],defers:=[] }) ?assign ?body ?done ?stop
 case assign=>
  intro l x W K k;gi_wp2;exact k
 case body=>
  rintro l d y W ⟨⟨rfl,a,H⟩,t⟩ _;gi_wp2;exact⟨KeepsOthers.setCell _ _ _,⟨rfl,y,rfl,World.cell?_setCell_same' _ _ _ (by rw[a];rfl)⟩,t.setCell (p:=(aA w.heap.size 0)) (hT _) _⟩
 case done=>
  rintro D R W F ⟨L,C,rfl⟩ ⟨⟨I,a,H⟩,t⟩ k;gi_wp2;have j:=(KeepsOthers.setCell W (aA w.heap.size 0) (.pointer none)).same D _ k rfl;refine⟨by simp,.inl ⟨_,_,rfl,run_takeDeferred j,?_⟩⟩;have g:=cell_kept (World.cell?_setCell_same' W (aA w.heap.size 0) (.pointer none) (by rw[a];rfl)) (grownBy_putObj' _ D (.deferred none)) (λr e=>by cases e;exact⟨_,j,rfl⟩);refine⟨.pointer none,?_,_,rfl,.inl ⟨rfl,d4r C I⟩,(t.setCell (p:=(aA w.heap.size 0)) (hT _) _).trans (belowK_b (w:=w) (hT _) _ D _ _ (by simp at F;omega) j rfl rfl)⟩;simp[results,Tryz.f229,go_sem,g]
 case stop=>
  rintro D c d W F ⟨L,C,f⟩ ⟨⟨rfl,y,rfl,a⟩,t⟩ k;gi_wp2;refine⟨by simp,.inl ⟨_,_,rfl,run_takeDeferred k,?_⟩⟩;refine⟨ptr bn (m+y*2),?_,_,rfl,.inr ⟨y,rfl,(b8j C f).1,(b8j C f).2⟩,t.trans (belowK_b (w:=w) (hT _) W D _ _ (by simp at F;omega) k rfl rfl)⟩;simp[results,Tryz.f229,go_sem,cell_kept a (grownBy_putObj' _ D (.deferred none)) (λr e=>by cases e;exact⟨_,k,rfl⟩)]
end Go.Proofs.YtolmnenlnpbcfaaGreatDoor
namespace Go.Proofs.YtolmnenlnpbcfaaGreatDoor
open Go.RowKit Go.Proofs.Tryz
attribute [local go_sem ↓] Go.wp_at_zero Go.wp_at_succ
attribute [local go_sem] Oper.semAt_some
def ansW(w:World)(k:Int)(a q c n:Int):World:=(w.alloc (.cells #[iv k,iv a,iv q,iv c,iv n] 29)).alloc (.cells #[.int .i64 0,.int .i64 0] 35)
theorem d5o(w:World)(k a q c n:Int):(ansW w k a q c n).heap[w.heap.size+1]?=some (.cells #[iv 0,iv 0] 35):=by
 show(((w.heap.push _).push _)[w.heap.size+1]?)=_;rw[<-nD,nW]
theorem b8x(w:World)(k a q c n:Int):(ansW w k a q c n).heap.size=w.heap.size+2:=by
 show((w.heap.push _).push _).size=_;rw[nD,nD]
theorem b6o[qd]{C B:Nat}{w:World}{b:Nat}{y:Hp}(h:SOq C B w b y)(s:Snd y)(g:B<=w.heap.size):
  Calls prog 41 #[pP b] w λe w'=>∃br kr bcN bgN pb pa pk,e=.returned (y.v (sS br y.B.length kr) (sS bcN y.A.length y.A.length) (sS bgN y.D.length y.D.length))/\Hid (b3u B w'.heap.size w' y br kr bcN y.A.length bgN y.D.length pb pa pk)/\Ext w w':=by
 have⟨z,kr,i,u,l,k,q,x,br,n,r,A,pb,pa,pk,t,m,p,F,o,K,a,h,_,_⟩:=h;have j:=s.r1.D;have c:=s.ok.n8;refine(c3x w h s.r5.2.2 s.ok.r16.1 ⟨s.ok.r16.2,c,by omega,s.ok.p200⟩ g).mono ?_;rintro e w' ⟨bcN,bgN,rfl,d,f⟩;exact⟨br,kr,bcN,bgN,pb,pa,pk,rfl,d,f⟩
end Go.Proofs.YtolmnenlnpbcfaaGreatDoor
