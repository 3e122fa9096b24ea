import Derived.Test.YtddkhnclmeikfaaGreatBc
import Derived.Test.YtddkhnclmeikfaaGreatPr
set_option maxRecDepth 100000
set_option maxHeartbeats 6000000
namespace Go.Proofs.YtddkhnclmeikfaaGreat
open Go.RowKit
attribute [local go_sem ↓] Go.wp_at_zero Go.wp_at_succ
variable{w0 W:World}{cb qb m:Nat}{cl:Cl}
structure CBx(w0 W:World)(cb qb:Nat)(cl:Cl)(m:Nat):Prop where
 s:S7 W cb 0 cl
 p:W.cell? ⟨cb,7,none⟩=some (.slice (some ⟨qb,0,none⟩) m m)
 f:∀o,W.frozen? ⟨cb,o,none⟩=false
 lo:w0.heap.size<=cb
 ne:cb≠qb
 np:a9v w0 W qb m
 ex:Ext w0 W
theorem CBx.ext{W':World}(h:CBx w0 W cb qb cl m)(e:Ext W W'):CBx w0 W' cb qb cl m:=
 ⟨h.s.of λ_ _=>(cD e).1 cb _ (uL h.p),e.keep h.p,λo=>((cD e).2 cb o (uL h.p)).trans (h.f o),h.lo,h.ne,h.np.ext e,h.ex.trans e⟩
theorem CBx.black(h:CBx w0 W cb qb cl m):CBx w0 (W.setCell ⟨cb,5,none⟩ (iv 2)) cb qb { cl with J:=2 } m:=by
 obtain⟨a0,a1,a2,a3,a4,a5,a6⟩:=h.s;refine⟨⟨?_,?_,?_,?_,?_,?_,?_⟩,?_,λo=>by rw[World.frozen?_setCell];exact h.f o,h.lo,h.ne,h.np.only (S:=λq=>q=cb) (uZ.setCell (S:=λq=>q=cb) (uZ.refl _ W) (p:=⟨cb,5,none⟩) rfl _) (λe=>h.ne e.symm),h.ex.setCell (p:=⟨cb,5,none⟩) h.lo _⟩
 ·rw[uC _ (.inr (by omega))];exact a0
 ·rw[uC _ (.inr (by omega))];exact a1
 ·rw[uC _ (.inr (by omega))];exact a2
 ·rw[uC _ (.inr (by omega))];exact a3
 ·rw[uC _ (.inr (by omega))];exact a4
 ·exact dX a5
 ·rw[uC _ (.inr (by omega))];exact a6
 ·rw[uC _ (.inr (by omega))];exact h.p
theorem CBx.newA(W3:World)(bo b:Int)(c:Nat):CBx W3 (((W3.alloc (.cells (madeCells z6 (c*6)) 154)).alloc (.cells #[iv 1,iv b,iv 0,iv 0,iv bo,iv 0,iv 0,.slice (some ⟨W3.heap.size,0,none⟩) c c] 62))) (W3.heap.size+1) W3.heap.size (tV bo b c 0) c:=
 ⟨⟨by simp [go_sem,tV],by simp [go_sem,tV],by simp [go_sem,tV],by simp [go_sem,tV],by simp [go_sem,tV],by simp [go_sem,tV],by simp [go_sem,tV]⟩,by simp [go_sem],λ_=>by simp [go_sem],by omega,by omega,(a9v.made W3 W3 c 154 (Ext.refl _)).ext ((Ext.refl _).alloc _),((Ext.refl _).alloc _).alloc _⟩
theorem CBx.newB(W3:World)(bo b:Int)(c:Nat):CBx W3 (((W3.alloc (.cells #[iv 1,iv b,iv 0,iv 0,iv bo,iv 0,iv 0,.slice (some ⟨W3.heap.size+1,0,none⟩) c c] 62)).alloc (.cells (madeCells z6 (c*6)) 154))) W3.heap.size (W3.heap.size+1) (tV bo b c 0) c:=by
 have e:=a9v.made W3 (W3.alloc (.cells #[iv 1,iv b,iv 0,iv 0,iv bo,iv 0,iv 0,.slice (some ⟨W3.heap.size+1,0,none⟩) c c] 62)) c 154 ((Ext.refl _).alloc _);rw[show(W3.alloc (.cells #[iv 1,iv b,iv 0,iv 0,iv bo,iv 0,iv 0,.slice (some ⟨W3.heap.size+1,0,none⟩) c c] 62)).heap.size=W3.heap.size+1 by simp] at e;exact⟨⟨by simp [go_sem,tV],by simp [go_sem,tV],by simp [go_sem,tV],by simp [go_sem,tV],by simp [go_sem,tV],by simp [go_sem,tV],by simp [go_sem,tV]⟩,by simp [go_sem],λ_=>by simp [go_sem],by omega,by omega,e,((Ext.refl _).alloc _).alloc _⟩
theorem c2g[p:Inhabited uQ](B g:Nat)(x:Hp)(a b c:Nat)(n:Int)(w:World)(h:GOk B w g x)(s:Snd x)(ha:a<16)(hb:b<=255)(hc:c<=200)(v:World)(hv:v.heap.size<=B)(hx:Ext v w):
  Calls Tryz.prog 251 #[.pointer (some ⟨g,0,none⟩),yL 1 a b c n] w λe w'=>zQ B g x a b c n 1 v e w':=by
 have c2:=h.nums.2.2.1;have hgw:g<w.heap.size:=uL c2;obtain⟨p1,o1,g1⟩:=GOk.enter h (w0:=doW w 1 a b c n) (((Ext.refl w).alloc _).alloc _);have x1:Ext v (doW w 1 a b c n):=(hx.alloc _).alloc _;have O1:=uU o1;have G1:=uU g1;have V0:=uU (show v.heap.size<=w.heap.size+1 by have:=hx.size;omega);have X1:=uU x1;have S:=uU s
 have QR:=uU (show Calls Tryz.prog 260 #[.pointer (some ⟨g,0,none⟩),.int .i64 (1+(c:Int))] (doW w 1 a b c n) λe w'=>∃y,e=.returned (.bool (a2j y (1+c)))/\Hid (a2t x (1+c) y)/\Hid (GOk B w' g y)/\Ext v w' from by
  have:=b3a B g x (1+c) (doW w 1 a b c n) G1 S (by omega) v hv X1;rw[show((1+c:Nat):Int)=1+(c:Int) by omega] at this;exact this)
 clear s h o1 g1 x1;cases qb:(x.born == 1000000000)
 ·have NB:=uU (show x.born≠1000000000 by simpa using qb);go_enter Tryz.func251,Tryz.ntmps251;go_wp2_with fail;refine QR.mono ?_;rintro e w2 ⟨z,rfl,hz,g2,x2⟩;have G2:=uU g2;have X2:=uU x2;have HZ:=uU hz;clear g2 x2 hz QR c2 hgw;obtain⟨t0,t1,t2,t3,t4,t5,t6,t7⟩:=G2.boxes O1;have hw2:w.heap.size<w2.heap.size:=uL t0;have hw2':w.heap.size+1<w2.heap.size:=uL t5;cases hf:a2j z (1+c)
  ·have HF:=uU hf;clear hf;go_wp2_with fail;refine(a0i 4 _).mono ?_;rintro e w3 ⟨rfl,x3⟩;have G3:=uU (G2.ext x3);have X3:=uU (X2.trans x3);clear t0 t1 t2 t3 t4 t5 t6 t7;obtain⟨u0,u1,u2,u3,u4,u5,u6,u7⟩:=G3.boxes O1;have hw3:w.heap.size+1<w3.heap.size:=uL u5;clear x3;go_wp2_with fail;refine bodyPost_ret (v:=qU 4 0) (by simp [results,Tryz.results251,go_sem,u5,u6]) rfl ?_;exact⟨_,4,0,rfl,⟨rfl,.inr ⟨NB,z,HZ,.inl ⟨HF,rfl,rfl⟩⟩⟩,GOk.done O1 G3 4 0,dZ X3 V0 4 0⟩
  ·have HF:=uU hf;clear hf;have SZ:=uU (HZ.snd S);have c2:=G2.nums.2.2.1;have hgw:g<w2.heap.size:=uL c2;have f2:=G2.box.2.2.2.1 2;have bo:=SZ.r1.born;obtain⟨W3,hW3⟩:∃W,W=w2.setCell ⟨g,2,none⟩ (.int .i64 (z.born+1)):=⟨_,rfl⟩;obtain⟨z1,hz1⟩:∃y:Hp,y={ z with born:=z.born+1 }:=⟨_,rfl⟩;have G3:=uU (show GOk B W3 g z1 by rw[hW3,hz1];exact G2.set2 (z.born+1));have X3:=uU (show Ext v W3 by rw[hW3];exact X2.setCell (p:=⟨g,2,none⟩) (Nat.le_trans hv G2.box.2.2.2.2.1) _);have HZ1:=uU hz1;have HW3:=uU hW3;clear hz1 hW3;go_wp2_with fail;rw[<-uH HW3];clear HW3 t0 t1 t2 t3 t4 t5 t6 t7 c2 f2 hgw hw2 hw2' bo G2 X2;obtain⟨t0,t1,t2,t3,t4,t5,t6,t7⟩:=G3.boxes O1;have c2:W3.cell? ⟨g,2,none⟩=some (iv (z.born+1)):=by have:=G3.nums.2.2.1;rw[uH HZ1] at this;exact this
   have hgw:g<W3.heap.size:=uL c2;have hw3:w.heap.size<W3.heap.size:=uL t0;have hw3':w.heap.size+1<W3.heap.size:=uL t5;have mk:=λW=>c8t c (by omega) W
   go_cut [6] (λs6 wx=>∃cb qb:Nat,s6=.pointer (some ⟨cb,0,none⟩)/\Hid (CBx W3 wx cb qb (tV (z.born+1) b c 0) c))
   case first=>
    go_region
    all_goals
     go_wp2_with fail;go_meet
     first | exact⟨_,_,rfl,CBx.newA W3 (z.born+1) b c⟩ | exact⟨_,_,rfl,(CBx.newA W3 (z.born+1) b c).ext (Ext.refl _).drew⟩ | exact⟨_,_,rfl,CBx.newB W3 (z.born+1) b c⟩ | exact⟨_,_,rfl,(CBx.newB W3 (z.born+1) b c).ext (Ext.refl _).drew⟩
   case rest=>
    obtain⟨cb,qb,rfl,hcb⟩:=hcut;have CX:=uU hcb;obtain⟨ar,kr,ac,kc,vg,br,bc,pb,pa,pk,role,hg3⟩:=uH G3;have HG3:=uU hg3;have N8:=uU (show z1.A.length<=8000 by rw[uH HZ1];exact SZ.ok.n8);obtain⟨t,ht⟩:∃t,t=cH z1:=⟨_,rfl⟩;have HT:=uU ht;have QF:=uU (b2u (hg3.ext hcb.ex) N8);rw[<-ht] at QF;clear hcb t0 t1 t2 t3 t4 t5 t6 t7 c2 hgw hw3 hw3' mk hg3 ht;go_wp2_with fail;refine QF.mono ?_;rintro e w4 ⟨rfl,x4⟩;have C4:=uU (CX.ext x4);clear x4 CX QF;have g4:=HG3.ext C4.ex;have c5:=g4.bx.2.2.2.2.2.1;have c6:=g4.bx.2.2.2.2.2.2.1;have hgw:g<w4.heap.size:=uL c5;have a5:=C4.s.2.2.2.2.2.1;have fb5:=C4.f 5;have hcw:cb<w4.heap.size:=uL a5;have QM:=uU (a7x z1 g w4 c5);clear g4
    go_upto_region 7 with(fail)
    go_cut [58] (λs58 wx=>Hid (s58=.bool (qZ z1 t == 2))/\Hid (CBx W3 wx cb qb (tV (z.born+1) b c 0) c))
    case first=>
     cases qm:mkB z1
     ·rw[qm] at QM;cases q3:(z1.E == 3)
      ·have NC:=uU (show qZ z1 t=0 by
        have h1:z1.E≠1/\z1.E≠2:=by simpa [mkB] using qm
        have h3:z1.E≠3:=by simpa using q3
        unfold qZ;rw[if_neg (by omega)])
       clear qm;go_wp2_with fail;refine QM.mono ?_;rintro e w5 ⟨rfl,rfl⟩;go_wp2_with fail;go_meet;exact⟨by show _=_;rw[uH NC];first | rfl | (simp;omega),C4⟩
      ·have h3:z1.E=3:=by simpa using q3
       have h1:z1.E≠1/\z1.E≠2:=by simpa [mkB] using qm
       by_cases hh:z1.I<=(t:Int)
       ·have NC:=uU (show qZ z1 t=2 by unfold qZ;rw[if_pos (.inr (.inr ⟨h3,hh⟩))]);have hg2:(t:Int)≥z1.I:=hh;clear qm h3 h1 hh;go_wp2_with fail;refine QM.mono ?_;rintro e w5 ⟨rfl,rfl⟩;go_wp2_with fail;go_meet;exact⟨by show _=_;rw[uH NC];first | rfl | (simp;omega),C4⟩
       ·have NC:=uU (show qZ z1 t=0 by unfold qZ;rw[if_neg (by omega)]);have hg2:¬((t:Int)≥z1.I):=hh;clear qm h3 h1 hh;go_wp2_with fail;refine QM.mono ?_;rintro e w5 ⟨rfl,rfl⟩;go_wp2_with fail;go_meet;exact⟨by show _=_;rw[uH NC];first | rfl | (simp;omega),C4⟩
     ·rw[qm] at QM
      have NC:=uU (show qZ z1 t=2 by
       have h1:z1.E=1\/z1.E=2:=by simpa [mkB] using qm
       unfold qZ;rw[if_pos (by omega)])
      clear qm;go_wp2_with fail;refine QM.mono ?_;rintro e w5 ⟨rfl,rfl⟩;go_wp2_with fail;go_meet;exact⟨by show _=_;rw[uH NC];first | rfl | (simp;omega),C4⟩
    case rest=>
     obtain⟨w5,hw5⟩:∃W,W=wc:=⟨_,rfl⟩;subst hw5;obtain⟨h58,hc5⟩:=hcut;have C5:=uU hc5;clear hc5 C4 c5 c6 a5 fb5 hgw hcw QM;have a5:=C5.s.2.2.2.2.2.1;have fb5:=C5.f 5;have hcw:cb<w5.heap.size:=uL a5
     go_upto_region 8 with(fail)
     go_cut [] (λwx=>Hid (CBx W3 wx cb qb (tV (z.born+1) b c (qZ z1 t)) c))
     case first=>
      have e58:=uH h58;subst e58;cases qc:(qZ z1 t == 2)
      ·have NC:=uU (show qZ z1 t=0 by
        have h2:qZ z1 t≠2:=by simpa using qc
        unfold qZ at h2 ⊢
        split at h2
        ·exact absurd rfl h2
        ·rename_i u;rw[if_neg u])
       go_wp2_with fail;go_meet;rw[uH NC];exact C5
      ·have NC:=uU (show qZ z1 t=2 by simpa using qc);go_wp2_with fail;go_meet;rw[uH NC];exact C5.black
     case rest=>
     obtain⟨w6,hw6⟩:∃W,W=wc:=⟨_,rfl⟩;subst hw6;have C6:=uU hcut;clear hcut C5 a5 fb5 hcw;obtain⟨cl,hcl⟩:∃cl,cl=tV (z.born+1) b c (qZ z1 t):=⟨_,rfl⟩;have HCL:=uU hcl;rw[<-hcl] at C6;clear hcl;have g6:=HG3.ext C6.ex;have c4:=g6.bx.2.2.2.2.1;have hgw:g<w6.heap.size:=uL c4;have f4:=g6.nf.2 4;obtain⟨d0,d1,d2,d3,d4,d5,d6⟩:=C6.s;simp only [Nat.zero_add] at d0 d1 d2 d3 d4 d5 d6;have d7:=C6.p;have hcw:cb<w6.heap.size:=uL d7;have TL:=uU (show t<=z1.A.length by rw[uH HT];exact(a0o z1).1);have R0:=uU (show 0<z1.B.length by rw[uH HZ1];show 0<z.B.length;rw[SZ.r1.B];omega);have MC:=uU (show cl.F=List.replicate c Pr0 by rw[uH HCL];rfl);have hBg:v.heap.size<=g:=Nat.le_trans hv HG3.lo;by_cases hte:t=z1.A.length
     ·have hb1:((t:Int) == (z1.A.length:Int))=true:=by simp [hte]
      have HTE:=uU hte;clear g6 hte
      go_upto_region 10 with(fail)
      go_cut [] (λwx=>Hid (GOk B wx g (b0q z1 t cl))/\Hid (Ext v wx))
      case first=>
       go_region_law (refine c5c _ rfl _ _ rfl HG3 R0 N8 cl c MC qb (by first | exact C6.ex.alloc _ | exact(C6.ex.alloc _).drew | exact C6.ex.drew.alloc _) (by first | exact C6.np.ext ((Ext.refl w6).alloc _) | exact C6.np.ext ((Ext.refl w6).alloc _).drew | exact C6.np.ext ((Ext.refl w6).drew.alloc _)) _ 1 (by first | rfl | simp [Act.eval,Act.put]) (by first | rfl | simp [Act.eval,Act.put];rfl) (World.news_of_block (cs:=#[iv cl.st,iv cl.kind,iv cl.T,iv cl.U,iv cl.born,iv cl.J,iv cl.to,.slice (some ⟨qb,0,none⟩) c c]) (by first | exact heap_alloc_new _ _ | simp)) v hv X3 ?_;intro b' k' w7 hap;have fg3:=hap.far.trans (C6.ex.block g HG3.nf.1).symm;have c4':=(World.cell?_of_block (a:=⟨g,4,none⟩) fg3).trans c4;have f4':=(World.frozen?_of_block (a:=⟨g,4,none⟩) fg3).trans f4;have hg7:g<w7.heap.size:=uL c4';have HP:=uU hap;clear hap fg3)
       all_goals
        go_wp2_with fail;go_meet;exact⟨by rw[uH HTE];first | exact HP.gk _ (Ext.refl _) | exact HP.gk _ (Ext.refl _).drew | exact(HP.gk _ (Ext.refl _)).ext (Ext.refl _).drew,by first | exact HP.ex.setCell (p:=⟨g,4,none⟩) hBg _ | exact HP.ex.drew.setCell (p:=⟨g,4,none⟩) hBg _ | exact(HP.ex.setCell (p:=⟨g,4,none⟩) hBg _).drew⟩
      case rest=>
       obtain⟨w8,hw8⟩:∃W,W=wc:=⟨_,rfl⟩;subst hw8;obtain⟨hg8,hx8⟩:=hcut;have G8:=uU hg8;have X8:=uU hx8;clear hg8 hx8 c4 f4 hgw hcw d0 d1 d2 d3 d4 d5 d6 d7 C6;have c1:w8.cell? ⟨g,1,none⟩=some (iv z.K):=by have:=G8.nums.2.1;rw[show(b0q z1 t cl).K=z1.K from rfl,uH HZ1] at this;exact this
       obtain⟨_,_,_,fb,hBg,hgw⟩:=G8.box;have f1:=fb 1;have hu:0<=z.K/\z.K<=4000:=by have h3:=SZ.r3;have h1:=SZ.r1.M;unfold R3 at h3;omega
       obtain⟨W9,hW9⟩:∃W,W=w8.setCell ⟨g,1,none⟩ (.int .i64 (z.K+(1+(c:Int)))):=⟨_,rfl⟩
       have G9:=uU (show GOk B W9 g (a4f z b c) by
        rw[hW9];have:=G8.set1 (z.K+(1+(c:Int)));rw[uH HZ1] at this;have e2:cl=tV (z.born+1) b c (qZ z (cH z)):=by rw[uH HCL,uH HT,uH HZ1];rfl
        have e3:t=cH z:=by rw[uH HT,uH HZ1];rfl
        rw[e2,e3] at this;exact this)
       have X9:=uU (show Ext v W9 by rw[hW9];exact X8.setCell (p:=⟨g,1,none⟩) (Nat.le_trans hv hBg) _);have HW9:=uU hW9;clear hW9 fb;go_wp2_with fail;rw[<-uH HW9];clear HW9 c1 f1 hgw hu;have sm:=SZ.make b c (by omega) hc (by have eb:=HZ.bornE;have b1:=S.r1.born;have:=uH NB;omega) (by have e:=uH HF;unfold a2j at e;have:=of_decide_eq_true e;omega);have SM:=uU sm;have ET:=uU (show(t:Int)=(cH z:Nat) by rw[uH HT,uH HZ1];rfl);obtain⟨br9,kr9,hr9⟩:=G9.B sm.1.r1.B;have HR:=uU hr9;have c3:=hr9.c3;obtain⟨r0,r1,r2⟩:=hr9.r a ha;have fr:=hr9.f;have hgw:g<W9.heap.size:=uL c3;have hbw:br9<W9.heap.size:=uL r0;have hbB:=hr9.lo.1;obtain⟨t0,t1,t2,t3,t4,t5,t6,t7⟩:=G9.boxes O1;have hw9:w.heap.size<W9.heap.size:=uL t0;have i0:(0:Int)<=(a:Int):=by omega
       have i1:(a:Int)<16:=by omega
       have FN:=uU (show GOk B (dV W9 br9 (a*3) ⟨2,0,t⟩) g (regTo (a4f z b c) a ⟨2,0,t⟩)/\Ext v (dV W9 br9 (a*3) ⟨2,0,t⟩) from⟨HR.set W9 a ⟨2,0,t⟩ (Ext.refl _) ha,(a0e W9 br9 (a*3) ⟨2,0,t⟩).ext X9 (λq hq e=>by omega)⟩);obtain⟨W10,hW10⟩:∃W,W=dV W9 br9 (a*3) ⟨2,0,t⟩:=⟨_,rfl⟩;rw[<-hW10] at FN;unfold dV at hW10
       have QP:=uU (λ(W:World) (xW:Ext W10 W)=>show Calls Tryz.prog 261 #[.pointer (some ⟨g,0,none⟩),.int .i64 (1+(c:Int))] W λe w'=>∃y,e=.returned (.tuple #[])/\Hid (a3e (regTo (a4f z b c) a ⟨2,0,cH z⟩) (1+c) y)/\Hid (GOk B w' g y)/\Ext v w' from by
        have sr:=SM.1.regTo a ⟨2,0,cH z⟩ ⟨.inr (.inr ⟨rfl,rfl,by show(0:Int)<=(cH z:Nat);omega,by show((cH z:Nat):Int)<_;have:=SM.2.2.1;omega⟩),λ_=>.inr ⟨SM.2.1,SM.2.2.2⟩⟩;have gw:=FN.1.ext xW;rw[uH ET] at gw;have:=a8j B g (regTo (a4f z b c) a ⟨2,0,cH z⟩) (1+c) W gw sr (by omega) v hv (FN.2.trans xW);rw[show((1+c:Nat):Int)=1+(c:Int) by omega] at this;exact this)
       clear sm hr9 t2 t3 t4 t5 t6 t7
       go_region
       go_wp2_with fail;rw[<-hW10];refine(QP _ (Ext.refl _).drew).mono ?_;rintro e w11 ⟨y,rfl,hpc,g11,x11⟩;have G11:=uU g11;have X11:=uU x11;have PC:=uU hpc;clear g11 x11 hpc QP hW10 FN c3 r0 r1 r2 fr t0 t1;go_wp2_with fail;refine(cY 0 _).mono ?_;rintro e w12 ⟨rfl,x12⟩;have G12:=uU (G11.ext x12);have X12:=uU (X11.trans x12);obtain⟨u0,u1,u2,u3,u4,u5,u6,u7⟩:=G12.boxes O1;have hw12:w.heap.size+1<w12.heap.size:=uL u5;clear x12;go_wp2_with fail;refine bodyPost_ret (v:=qU 0 0) (by simp [results,Tryz.results251,go_sem,u5,u6]) rfl ?_;exact⟨_,0,0,rfl,⟨rfl,.inr ⟨NB,z,HZ,.inr ⟨HF,rfl,PC⟩⟩⟩,GOk.done O1 G12 0 0,dZ X12 V0 0 0⟩
     ·have hb1:((t:Int) == (z1.A.length:Int))=false:=by simp;omega
      have htl:t<z1.A.length:=by have:=uH TL;omega
      have hn:0<z1.A.length:=by omega
      rw[g6.hc hn] at c4;obtain⟨y0,y1,y2,y3,y4,y5,y6⟩:=g6.rw.s t htl;have y7:=g6.rw.p7 t htl;have fc:=(g6.rw.nc hn).1.2;have hBc:=(g6.rw.nc hn).2;have hbw:bc<w6.heap.size:=uL y7;have k0:(0:Int)<=(t:Int):=by omega
      have k1:(t:Int)<(z1.A.length:Int):=by omega
      have NPL:=uU (show GOk B (qE w6 bc (t*8) cl (.slice (some ⟨qb,0,none⟩) c c)) g (b0q z1 t cl)/\Ext v (qE w6 bc (t*8) cl (.slice (some ⟨qb,0,none⟩) c c)) from⟨c1v HG3 R0 t htl cl c MC w6 C6.ex qb C6.np,(a0h w6 bc (t*8) cl (.slice (some ⟨qb,0,none⟩) c c)).ext (X3.trans C6.ex) (λq hq e=>by omega)⟩);obtain⟨W7,hW7⟩:∃W,W=(qE w6 bc (t*8) cl (.slice (some ⟨qb,0,none⟩) c c)).drew:=⟨_,rfl⟩;have N7:=uU (show GOk B W7 g (b0q z1 t cl)/\Ext v W7 by rw[hW7];exact⟨NPL.1.ext (Ext.refl _).drew,NPL.2.trans (Ext.refl _).drew⟩);unfold qE at hW7;clear g6 NPL
      go_upto_region 11 with(fail)
      go_cut [] (λwx=>Hid (GOk B wx g (b0q z1 t cl))/\Hid (Ext v wx))
      case first=>
       go_region
       rw[<-hW7];go_wp2_with fail;go_meet;exact⟨N7.1,N7.2⟩
      case rest=>
       clear y0 y1 y2 y3 y4 y5 y6 y7 fc hBc hbw k0 k1 N7 hW7 W7;obtain⟨w8,hw8⟩:∃W,W=wc:=⟨_,rfl⟩;subst hw8;obtain⟨hg8,hx8⟩:=hcut;have G8:=uU hg8;have X8:=uU hx8;clear hg8 hx8 c4 f4 hgw hcw d0 d1 d2 d3 d4 d5 d6 d7 C6;have c1:w8.cell? ⟨g,1,none⟩=some (iv z.K):=by have:=G8.nums.2.1;rw[show(b0q z1 t cl).K=z1.K from rfl,uH HZ1] at this;exact this
       obtain⟨_,_,_,fb,hBg,hgw⟩:=G8.box;have f1:=fb 1;have hu:0<=z.K/\z.K<=4000:=by have h3:=SZ.r3;have h1:=SZ.r1.M;unfold R3 at h3;omega
       obtain⟨W9,hW9⟩:∃W,W=w8.setCell ⟨g,1,none⟩ (.int .i64 (z.K+(1+(c:Int)))):=⟨_,rfl⟩
       have G9:=uU (show GOk B W9 g (a4f z b c) by
        rw[hW9];have:=G8.set1 (z.K+(1+(c:Int)));rw[uH HZ1] at this;have e2:cl=tV (z.born+1) b c (qZ z (cH z)):=by rw[uH HCL,uH HT,uH HZ1];rfl
        have e3:t=cH z:=by rw[uH HT,uH HZ1];rfl
        rw[e2,e3] at this;exact this)
       have X9:=uU (show Ext v W9 by rw[hW9];exact X8.setCell (p:=⟨g,1,none⟩) (Nat.le_trans hv hBg) _);have HW9:=uU hW9;clear hW9 fb;go_wp2_with fail;rw[<-uH HW9];clear HW9 c1 f1 hgw hu;have sm:=SZ.make b c (by omega) hc (by have eb:=HZ.bornE;have b1:=S.r1.born;have:=uH NB;omega) (by have e:=uH HF;unfold a2j at e;have:=of_decide_eq_true e;omega);have SM:=uU sm;have ET:=uU (show(t:Int)=(cH z:Nat) by rw[uH HT,uH HZ1];rfl);obtain⟨br9,kr9,hr9⟩:=G9.B sm.1.r1.B;have HR:=uU hr9;have c3:=hr9.c3;obtain⟨r0,r1,r2⟩:=hr9.r a ha;have fr:=hr9.f;have hgw:g<W9.heap.size:=uL c3;have hbw:br9<W9.heap.size:=uL r0;have hbB:=hr9.lo.1;obtain⟨t0,t1,t2,t3,t4,t5,t6,t7⟩:=G9.boxes O1;have hw9:w.heap.size<W9.heap.size:=uL t0;have i0:(0:Int)<=(a:Int):=by omega
       have i1:(a:Int)<16:=by omega
       have FN:=uU (show GOk B (dV W9 br9 (a*3) ⟨2,0,t⟩) g (regTo (a4f z b c) a ⟨2,0,t⟩)/\Ext v (dV W9 br9 (a*3) ⟨2,0,t⟩) from⟨HR.set W9 a ⟨2,0,t⟩ (Ext.refl _) ha,(a0e W9 br9 (a*3) ⟨2,0,t⟩).ext X9 (λq hq e=>by omega)⟩);obtain⟨W10,hW10⟩:∃W,W=dV W9 br9 (a*3) ⟨2,0,t⟩:=⟨_,rfl⟩;rw[<-hW10] at FN;unfold dV at hW10
       have QP:=uU (λ(W:World) (xW:Ext W10 W)=>show Calls Tryz.prog 261 #[.pointer (some ⟨g,0,none⟩),.int .i64 (1+(c:Int))] W λe w'=>∃y,e=.returned (.tuple #[])/\Hid (a3e (regTo (a4f z b c) a ⟨2,0,cH z⟩) (1+c) y)/\Hid (GOk B w' g y)/\Ext v w' from by
        have sr:=SM.1.regTo a ⟨2,0,cH z⟩ ⟨.inr (.inr ⟨rfl,rfl,by show(0:Int)<=(cH z:Nat);omega,by show((cH z:Nat):Int)<_;have:=SM.2.2.1;omega⟩),λ_=>.inr ⟨SM.2.1,SM.2.2.2⟩⟩;have gw:=FN.1.ext xW;rw[uH ET] at gw;have:=a8j B g (regTo (a4f z b c) a ⟨2,0,cH z⟩) (1+c) W gw sr (by omega) v hv (FN.2.trans xW);rw[show((1+c:Nat):Int)=1+(c:Int) by omega] at this;exact this)
       clear sm hr9 t2 t3 t4 t5 t6 t7
       go_region
       go_wp2_with fail;rw[<-hW10];refine(QP _ (Ext.refl _).drew).mono ?_;rintro e w11 ⟨y,rfl,hpc,g11,x11⟩;have G11:=uU g11;have X11:=uU x11;have PC:=uU hpc;clear g11 x11 hpc QP hW10 FN c3 r0 r1 r2 fr t0 t1;go_wp2_with fail;refine(cY 0 _).mono ?_;rintro e w12 ⟨rfl,x12⟩;have G12:=uU (G11.ext x12);have X12:=uU (X11.trans x12);obtain⟨u0,u1,u2,u3,u4,u5,u6,u7⟩:=G12.boxes O1;have hw12:w.heap.size+1<w12.heap.size:=uL u5;clear x12;go_wp2_with fail;refine bodyPost_ret (v:=qU 0 0) (by simp [results,Tryz.results251,go_sem,u5,u6]) rfl ?_;exact⟨_,0,0,rfl,⟨rfl,.inr ⟨NB,z,HZ,.inr ⟨HF,rfl,PC⟩⟩⟩,GOk.done O1 G12 0 0,dZ X12 V0 0 0⟩
 ·have NB:=uU (show x.born=1000000000 by simpa using qb);go_enter Tryz.func251,Tryz.ntmps251;go_wp2_with fail;refine(a0i 4 _).mono ?_;rintro e w3 ⟨rfl,x3⟩;have G3:=uU (G1.ext x3);have X3:=uU (X1.trans x3);obtain⟨u0,u1,u2,u3,u4,u5,u6,u7⟩:=G3.boxes O1;have hw3:w.heap.size+1<w3.heap.size:=uL u5;clear x3;go_wp2_with fail;refine bodyPost_ret (v:=qU 4 0) (by simp [results,Tryz.results251,go_sem,u5,u6]) rfl ?_;exact⟨_,4,0,rfl,⟨rfl,.inl ⟨NB,rfl,rfl⟩⟩,GOk.done O1 G3 4 0,dZ X3 V0 4 0⟩
theorem l5do_1[p:Inhabited uQ](B g:Nat)(x:Hp)(a b c:Nat)(n:Int)(w:World)(h:GOk B w g x)(s:Snd x)(ok:qY 1 a b c n=true)(ha:a<16)(hb:b<=255)(hc:c<=200)(v:World)(hv:v.heap.size<=B)(hx:Ext v w):
  Calls Tryz.prog 234 #[.pointer (some ⟨g,0,none⟩),yL 1 a b c n] w λe w'=>zQ B g x a b c n 1 v e w':=by
 obtain⟨p1,o1,g1⟩:=GOk.enter h (w0:=doW w 1 a b c n) (((Ext.refl w).alloc _).alloc _);have HG:=uU g1;have S:=uU s;have O1:=uU o1;have QA:=uU (λW=>a1g 1 a b c n W);rw[ok] at QA;have V0:=uU (show v.heap.size<=w.heap.size+1 by have:=hx.size;omega);have XD:=uU (show Ext v (doW w 1 a b c n) from(hx.alloc _).alloc _);have BX:=uU (tL.new w 1 a b c n);clear h s o1 g1;go_enter Tryz.func234,Tryz.ntmps234;go_wp2_with fail;refine(QA _).mono ?_;rintro e w1 ⟨rfl,x1⟩;have X1:=uU (XD.trans x1);have BX1:=uU (BX.ext x1);obtain⟨t0,t1,t2,t3,t4,t5,t6,t7⟩:=uH BX1;have hw1:w.heap.size+1<w1.heap.size:=uL t5;have hw0:w.heap.size<w1.heap.size:=uL t0;have G1:=uU (HG.ext x1)
 have QP:=uU (show Calls Tryz.prog 251 #[.pointer (some ⟨g,0,none⟩),yL 1 a b c n] w1 λe w'=>zQ B g x a b c n 1 v e w' from by
  exact c2g B g x a b c n w1 G1 S ha hb hc v hv X1)
 clear x1 QA BX1 BX XD HG;go_wp2_with fail;refine QP.mono ?_;rintro e w3 ⟨y,cd,nm,he,dr,g3,x3⟩;have e2:=uH he;subst e2;have G3:=uU g3;have X3:=uU x3;clear he g3 x3 QP;obtain⟨u0,u1,u2,u3,u4,u5,u6,u7⟩:=G3.boxes O1;have hw3:w.heap.size+1<w3.heap.size:=uL u5;clear t0 t1 t2 t3 t4 t5 t6 t7;go_wp2_with fail;refine bodyPost_ret (v:=qU cd nm) (by simp [results,Tryz.results234,go_sem,u5,u6]) rfl ?_;exact⟨y,cd,nm,rfl,dr,GOk.done O1 G3 cd nm,dZ X3 V0 cd nm⟩
end Go.Proofs.YtddkhnclmeikfaaGreat
