import Derived.Test.YtddkhnclmeikfaaGreatBk
set_option maxRecDepth 100000
set_option maxHeartbeats 1000000
namespace Go.Proofs.YtddkhnclmeikfaaGreat
open Go.RowKit
attribute [local go_sem ↓] Go.wp_at_zero Go.wp_at_succ
def a4i(z:Hp)(i m:Nat):Hp:={ z with A:=z.A.set i (a2f (z.c i) m) }
theorem c3h(z:Hp)(i m:Nat)(hi:i<z.A.length)(q:Nat):(a4i z i m).c q=if q=i then a2f (z.c i) m else z.c q:=Hp.c_set z i (a2f (z.c i) m) hi q
theorem moreH_0(z:Hp)(i:Nat)(hi:i<z.A.length):a4i z i 0=z:=by
 have e:a2f (z.c i) 0=z.A[i]:=by rw[Hp.c_eq];simp [a2f]
 unfold a4i;rw[e,List.set_getElem_self]
theorem moreH_s(z:Hp)(i m:Nat)(hi:i<z.A.length):moreP (a4i z i m) i=a4i z i (m+1):=by
 have e:=c3h z i m hi i;rw[if_pos rfl] at e;unfold moreP;rw[e];simp [a4i,a2f,List.replicate_succ']
theorem c5b(z:Hp)(i m:Nat):(a4i z i m).A.length=z.A.length:=by simp [a4i]
theorem c8r(z:Hp)(i m:Nat)(hi:i<z.A.length):((a4i z i m).c i).F.length=(z.c i).F.length+m:=by
 rw[c3h z i m hi i,if_pos rfl];simp [a2f]
abbrev GrwPo[Inhabited uQ](B g:Nat)(x:Hp)(a c:Nat)(v:World)(e:Ending)(w':World):Prop:=∃(y:Hp) (cd nm:Int),Hid (e=.returned (qU cd nm))/\Hid (b3m x a c (x.at a) y cd nm)/\Hid (GOk B w' g y)/\Ext v w'
theorem c1u[p:Inhabited uQ](B g:Nat)(x:Hp)(a b c:Nat)(n:Int)(w:World)(h:GOk B w g x)(s:Snd x)(ha:a<16)(hc:c<=200)(hk:(x.r a).k=2)(v:World)(hv:v.heap.size<=B)(hx:Ext v w):
  Calls Tryz.prog 262 #[.pointer (some ⟨g,0,none⟩),yL 9 a b c n] w λe w'=>GrwPo B g x a c v e w':=by
 obtain⟨p1,o1,g1⟩:=GOk.enter h (w0:=doW w 9 a b c n) (((Ext.refl w).alloc _).alloc _);obtain⟨W1,hW1⟩:∃W,W=doW w 9 a b c n:=⟨_,rfl⟩;have bx:=tL.new w 9 a b c n;have x1:Ext v (doW w 9 a b c n):=(hx.alloc _).alloc _;rw[<-hW1] at g1 bx x1;obtain⟨br,kr,hr⟩:=g1.B s.r1.B;have c3:=hr.c3;obtain⟨r0,r1,r2⟩:=hr.r a ha;have hgw:g<W1.heap.size:=uL c3;have hbw:br<W1.heap.size:=uL r0;have O1:=uU o1;have G1:=uU g1;have V0:=uU (show v.heap.size<=w.heap.size+1 by have:=hx.size;omega);have X1:=uU x1;obtain⟨t0,t1,t2,t3,t4,t5,t6,t7⟩:=bx;have hw1:w.heap.size<W1.heap.size:=uL t0;have j0:(0:Int)<=(a:Int):=by omega
 have j1:(a:Int)<16:=by omega
 have D:=uU hk;obtain⟨en,ea,hi,st,nd⟩:=s.at a ha hk;obtain⟨i,hI⟩:∃i,i=x.at a:=⟨_,rfl⟩;have HI:=uU hI;rw[<-hI] at ea hi st nd;rw[ea] at r2;have S:=uU s;have p200:=s.ok.p200 i hi;have i0:(0:Int)<=(i:Int):=by omega
 have i1:(i:Int)<(x.A.length:Int):=by omega
 obtain⟨bc,kc,ap,kp,hce⟩:=g1.cel i hi;have c4:=hce.c4;have p7:=hce.p7;have hbcw:bc<W1.heap.size:=uL p7;obtain⟨l,hll⟩:∃l,l=(x.c i).F.length:=⟨_,rfl⟩;rw[<-hll] at p7 p200;have LL:=uU hll;clear hll;clear hk ea hI s en nd hce;clear h hr o1 g1 x1;go_enter Tryz.func262,Tryz.ntmps262;go_wp2_with fail;unfold doW at hW1;rw[<-hW1];clear hW1;by_cases hl:l+c<=200
 ·have q1:¬((l:Int)+(c:Int) > 200):=by omega
  have QR:=uU (λ(W:World) (xW:Ext W1 W)=>b3a B g x c W (G1.ext xW) S (by omega) v hv (X1.trans xW));go_quiet (fail);go_wp2_with fail;refine(QR _ ((Ext.refl W1).drewN nq)).mono ?_;rintro e w2 ⟨z,rfl,hz,g2,x2⟩;have G2:=uU g2;have X2:=uU x2;have HZ:=uU hz;clear g2 x2 hz QR c3 r0 r1 r2 c4 p7 t0 t1 t2 t3 t4 t5 t6 t7 hgw hbw hw1 hbcw q1 i0 i1 G1 X1;obtain⟨t0,t1,t2,t3,t4,t5,t6,t7⟩:=G2.boxes O1;have hw2:w.heap.size<w2.heap.size:=uL t0;have hw2':w.heap.size+1<w2.heap.size:=uL t5;cases hf:a2j z c
  ·have HF:=uU hf;clear hf;go_wp2_with fail;refine(a0i 4 _).mono ?_;rintro e w3 ⟨rfl,x3⟩;have G3:=uU (G2.ext x3);have X3:=uU (X2.trans x3);clear t0 t1 t2 t3 t4 t5 t6 t7;obtain⟨u0,u1,u2,u3,u4,u5,u6,u7⟩:=G3.boxes O1;have hw3:w.heap.size+1<w3.heap.size:=uL u5;clear x3;go_wp2_with fail;refine bodyPost_ret (v:=qU 4 0) (by simp [results,Tryz.results262,go_sem,u5,u6]) rfl ?_;exact⟨_,4,0,rfl,⟨rfl,.inr ⟨by rw[<-uH HI,<-uH LL];exact hl,z,HZ,.inl ⟨HF,rfl,rfl⟩⟩⟩,GOk.done O1 G3 4 0,dZ X3 V0 4 0⟩
  ·have HF:=uU hf;clear hf;have sz:=HZ.snd S;obtain⟨k1,k2⟩:=KpN.M S ha D HZ;obtain⟨_,ea,hi2,st2,_⟩:=sz.at a ha k1;rw[<-uH HI,<-uH LL] at k2;obtain⟨m,hM⟩:∃m,m=z.at a:=⟨_,rfl⟩;have HM:=uU hM;rw[<-hM] at ea hi2 st2 k2;have SZ:=uU sz;have FIT:=uU (show z.K+c<=z.M by have e:=uH HF;unfold a2j at e;exact of_decide_eq_true e);have KL:=uU k2;have ST2:=uU st2;obtain⟨br2,kr2,hr2⟩:=G2.B sz.r1.B;have c3:=hr2.c3;obtain⟨r0,r1,r2⟩:=hr2.r a ha;rw[ea] at r2;have hgw:g<w2.heap.size:=uL c3;have hbw:br2<w2.heap.size:=uL r2;clear hM k1 ea sz k2 hr2 st2 r0 r1;go_wp2_with fail;go_quiet (fail);obtain⟨W3,hW3⟩:∃W,W=w2.drewN nq:=⟨_,rfl⟩;have x23:Ext w2 W3:=by rw[hW3];exact(Ext.refl _).drewN _
   have G3:=uU (G2.ext x23);have X3:=uU (X2.trans x23);rw[<-hW3];clear hW3 x23 c3 r2 hgw hbw t0 t1 t2 t3 t4 t5 t6 t7 hw2 hw2' G2 X2;obtain⟨t0,t1,t2,t3,t4,t5,t6,t7⟩:=G3.boxes O1;have hw3:w.heap.size<W3.heap.size:=uL t0;clear t0 t1 t2 t4 t5 t6 t7;go_wp2_with fail;obtain⟨ar,kr3,ac,kc3,vg,br3,bc3,pb,pa,pk,role,hg⟩:=uH G3;have GK0:=uU (show GK B W3 g z ar kr3 ac kc3 vg br3 bc3 from⟨pb,pa,pk,role,hg⟩);have ZR:=uU (show 0<z.B.length by rw[SZ.r1.B];omega);have HM2:=uU hi2;clear hg G3;go_loopw [7] (λsi wr=>∃k:Nat,k<=c/\si=.int .i64 k/\Hid (GK B wr g (a4i z m k) ar kr3 ac kc3 vg br3 bc3)/\Hid (Ext v wr)) (λsi _=>c-(intOf si).toNat)
   case atStart=>exact⟨0,Nat.zero_le _,rfl,by rw[moreH_0 z m (uH HM2)];exact uH GK0,X3⟩
   case round=>
    clear GK0 X3 t3 hw3;obtain⟨k,hk,rfl,hG,hX⟩:=hrel;obtain⟨t0,t1,t2,t3,t4,t5,t6,t7⟩:=hG.ok.boxes O1;have hw3:w.heap.size<wr.heap.size:=uL t0;clear t0 t1 t2 t4 t5 t6 t7;by_cases hlt:k<c
    ·have hl1:(k:Int)<(c:Int):=by omega
     have NX:=uU (moreH_s z m k HM2);have PL:=uU (show((a4i z m k).c m).F.length<200 by rw[c8r z m k (uH HM2),uH KL];omega);have hmz:m<(a4i z m k).A.length:=by rw[c5b];exact HM2
     have ZR2:=uU (show 0<(a4i z m k).B.length from uH ZR);obtain⟨q,hq⟩:∃q,q=a4i z m k:=⟨_,rfl⟩;rw[<-hq] at hG NX PL ZR2 hmz;clear hq;obtain⟨pb,pa,pk,role,hg⟩:=uH hG;have HA:=uU hg;have hn:0<q.A.length:=by omega
     have c4:=hg.bx.2.2.2.2.1;rw[hg.hc hn] at c4;have p7:=hg.rw.p7 m hmz;have f7:=(hg.rw.nc hn).1.2 (m*8+7);have hB3:v.heap.size<=bc3:=Nat.le_trans hv (hg.rw.nc hn).2;have hgw:g<wr.heap.size:=uL c4;have hbw:bc3<wr.heap.size:=uL p7;have m0:(0:Int)<=(m:Int):=by omega
     have m1:(m:Int)<(q.A.length:Int):=by omega
     have wk:wrap64 ((k:Int)+1)=(k:Int)+1:=a2e _ (by omega) (by omega);have WK:=uU wk;clear hg wk;go_wp2_with fail;go_region_law (refine c5a _ rfl _ _ rfl HA m hmz ZR2 PL (by first | exact(Ext.refl wr).alloc _ | exact((Ext.refl wr).alloc _).drew | exact(Ext.refl wr).drew.alloc _) _ 1 (by first | rfl | simp [Act.eval,Act.put]) (by first | rfl | simp [Act.eval,Act.put];rfl) (World.news_of_block (cs:=#[iv 0,iv 0,iv 0,iv 0,iv 0,iv 0]) (by first | exact heap_alloc_new _ _ | simp)) v hv hX ?_;intro a' k' w3 hap;have c4':=(World.cell?_of_block (a:=⟨g,4,none⟩) (hap.far g (.inl rfl))).trans c4;have p7':=(World.cell?_of_block (a:=⟨bc3,m*8+7,none⟩) (hap.far bc3 (.inr rfl))).trans p7;have f7':=(World.frozen?_of_block (a:=⟨bc3,m*8+7,none⟩) (hap.far bc3 (.inr rfl))).trans f7;have hg3:g<w3.heap.size:=uL c4';have hb3:bc3<w3.heap.size:=uL p7';have HP:=uU hap;clear hap)
     all_goals
      go_wp2_with fail;go_roundw
      case rel=>exact⟨k+1,by omega,by go_num,by rw[<-uH NX];first | exact HP.gk _ (Ext.refl _) | exact HP.gk _ (Ext.refl _).drew | exact(HP.gk _ (Ext.refl _)).ext (Ext.refl _).drew,by first | exact HP.ex.setCell (p:=⟨bc3,m*8+7,none⟩) hB3 _ | exact HP.ex.drew.setCell (p:=⟨bc3,m*8+7,none⟩) hB3 _ | exact(HP.ex.setCell (p:=⟨bc3,m*8+7,none⟩) hB3 _).drew⟩
      case measure=>simp [intOf];omega
    ·have hkc:k=c:=by omega
     have hl1:¬((k:Int)<(c:Int)):=by omega
     have c1:wr.cell? ⟨g,1,none⟩=some (iv z.K):=hG.ok.nums.2.1;obtain⟨_,_,_,fb,hBg,hgw⟩:=hG.ok.box;have f1:=fb 1;have us:=SZ.ok;have hu:0<=z.K/\z.K<=4000:=by have h3:=SZ.r3;have h1:=SZ.r1.M;unfold R3 at h3;omega
     have WU:=uU (show wrap64 (z.K+(c:Int))=z.K+(c:Int) from a2e _ (by omega) (by omega));have sg:=SZ.grow m c HM2 ST2 (by rw[uH KL];exact hl) FIT;have GF:=uU (show GOk B (wr.setCell ⟨g,1,none⟩ (iv (z.K+(c:Int)))) g (zD z m c) from by have:=hG.ok.set1 (z.K+(c:Int));rw[hkc] at this;exact this);have XF:=uU (show Ext v (wr.setCell ⟨g,1,none⟩ (iv (z.K+(c:Int)))) from hX.setCell (p:=⟨g,1,none⟩) (Nat.le_trans hv hBg) _);have QP:=uU (λ(W:World) (xW:Ext (wr.setCell ⟨g,1,none⟩ (iv (z.K+(c:Int)))) W)=>a8j B g (zD z m c) c W (GF.ext xW) sg (by omega) v hv (XF.trans xW));clear sg us fb hG hX GF XF hkc;go_wp2_with fail
     go_region
     go_wp2_with fail;refine(QP _ (Ext.refl _).drew).mono ?_;rintro e w5 ⟨y,rfl,hpc,g5,x5⟩;have G5:=uU g5;have X5:=uU x5;have PC:=uU hpc;clear g5 x5 hpc QP t3 hw3 c1 f1;go_wp2_with fail;refine(cY 0 _).mono ?_;rintro e w6 ⟨rfl,x6⟩;have G6:=uU (G5.ext x6);have X6:=uU (X5.trans x6);obtain⟨u0,u1,u2,u3,u4,u5,u6,u7⟩:=G6.boxes O1;have hw6:w.heap.size+1<w6.heap.size:=uL u5;clear x6;go_wp2_with fail;refine bodyPost_ret (v:=qU 0 0) (by simp [results,Tryz.results262,go_sem,u5,u6]) rfl ?_;exact⟨_,0,0,rfl,⟨rfl,.inr ⟨by rw[<-uH HI,<-uH LL];exact hl,z,HZ,.inr ⟨HF,rfl,by rw[<-uH HM];exact uH PC⟩⟩⟩,GOk.done O1 G6 0 0,dZ X6 V0 0 0⟩
 ·have q1:(l:Int)+(c:Int) > 200:=by omega
  go_quiet (fail);go_wp2_with fail;refine(a0i 5 _).mono ?_;rintro e w3 ⟨rfl,x3⟩;have x13:=((Ext.refl W1).drewN nq).trans x3;have G3:=uU (G1.ext x13);have X3:=uU (X1.trans x13);obtain⟨u0,u1,u2,u3,u4,u5,u6,u7⟩:=G3.boxes O1;have hw3:w.heap.size+1<w3.heap.size:=uL u5;clear x3 x13;go_wp2_with fail;refine bodyPost_ret (v:=qU 5 0) (by simp [results,Tryz.results262,go_sem,u5,u6]) rfl ?_;exact⟨_,5,0,rfl,⟨rfl,.inl ⟨by rw[<-uH HI,<-uH LL];omega,rfl,rfl⟩⟩,GOk.done O1 G3 5 0,dZ X3 V0 5 0⟩
end Go.Proofs.YtddkhnclmeikfaaGreat
