import Derived.Test.YtddkhnclmeikfaaGreatSpecL
import Derived.Test.YtddkhnclmeikfaaGreatPu
import Derived.Test.YtddkhnclmeikfaaGreatLz
set_option maxRecDepth 100000
set_option maxHeartbeats 4000000
namespace Go.Proofs.YtddkhnclmeikfaaGreat
open Go.RowKit
attribute [local go_sem ↓] Go.wp_at_zero Go.wp_at_succ
variable{x:Hp}{w w' c w0:World}{B g k i j n lo hi kr kc q:Nat}{L0 T L T':List Int}{y:Wd}{r:Int}{ar ac:Option Addr}
def b2z(x y:Hp):Prop:=(eQ x 0/\∃z,a9h x z/\a9h (dN z 1 0) y)\/(¬eQ x 0/\y=Hp0)
theorem b2z.uniq{y z:Hp}(h:b2z x y)(g:b2z x z):y=z:=by
 rcases h with⟨h1,u,h2,h3⟩ | ⟨h1,h2⟩ <;> rcases g with⟨k1,v,k2,k3⟩ | ⟨k1,k2⟩
 ·have e:=h2.uniq k2;rw[e] at h3;exact h3.uniq k3
 ·exact(k1 h1).elim
 ·exact(h1 k1).elim
 ·rw[h2,k2]
def LeIs(x:Hp)(n:Nat):Prop:=(eQ x 0/\a9g x n)\/(¬eQ x 0/\n=0)
theorem LeIs.uniq(h:LeIs x j)(g:LeIs x k):j=k:=by
 rcases h with⟨h1,h2⟩ | ⟨h1,h2⟩ <;> rcases g with⟨k1,k2⟩ | ⟨k1,k2⟩
 ·exact h2.uniq k2
 ·exact(k1 h1).elim
 ·exact(h1 k1).elim
 ·omega
theorem b4e(x:Hp)(w:World){ag:Option Addr}{kg:Nat}(hR:SlW w (.slice ar x.B.length kr) x.B)(hC:SlC w (.slice ac x.A.length kc) x.A)(hG:SlI w (.slice ag x.D.length kg) x.D):
  Calls Tryz.prog 38 #[x.v (.slice ar x.B.length kr) (.slice ac x.A.length kc) (.slice ag x.D.length kg)] w λe w'=>∃y ar kr ac kc ag kg,Hid (e=.returned (y.v (.slice ar y.B.length kr) (.slice ac y.A.length kc) (.slice ag y.D.length kg)))/\Hid (b2z x y)/\Hid (HRd w' y ar kr ac kc ag kg)/\Ext w w':=by
 obtain⟨pin,HZ⟩:∃i:Inhabited uQ,Hid (∀q,(@default uQ i).z q=none):=⟨⟨⟨λ_=>none⟩⟩,λ_=>rfl⟩;have x1:Ext w ((w.alloc (.cells #[iv x.M,iv x.K,iv x.born,.slice ar x.B.length kr,.slice ac x.A.length kc,iv x.E,iv x.I,iv x.sub,.slice ag x.D.length kg,iv x.per,iv x.V,iv x.Q,iv x.S] 34)).alloc (.cells #[iv 0,iv 0,iv 0,.slice none 0 0,.slice none 0 0,iv 0,iv 0,iv 0,.slice none 0 0,iv 0,iv 0,iv 0,iv 0] 34)):=((Ext.refl w).alloc _).alloc _;have S1:=uU (SlW.ext x1 hR);have S2:=uU (SlC.ext x1 hC);have S3:=uU (SlI.ext x1 hG);have HB:=uU ((dE.new w x (.slice ar x.B.length kr) (.slice ac x.A.length kc) (.slice ag x.D.length kg) 34).ext ((Ext.refl _).alloc (.cells #[iv 0,iv 0,iv 0,.slice none 0 0,.slice none 0 0,iv 0,iv 0,iv 0,.slice none 0 0,iv 0,iv 0,iv 0,iv 0] 34)));have hs2:((w.alloc (.cells #[iv x.M,iv x.K,iv x.born,.slice ar x.B.length kr,.slice ac x.A.length kc,iv x.E,iv x.I,iv x.sub,.slice ag x.D.length kg,iv x.per,iv x.V,iv x.Q,iv x.S] 34)).alloc (.cells #[iv 0,iv 0,iv 0,.slice none 0 0,.slice none 0 0,iv 0,iv 0,iv 0,.slice none 0 0,iv 0,iv 0,iv 0,iv 0] 34)).heap.size=w.heap.size+2:=by simp
 clear hR hC hG;go_enter Tryz.func38,Tryz.ntmps38;go_wp2_with fail;refine(a6b x _ S1 S2 S3).mono ?_;rintro e w2 ⟨n,rfl,hok2,hq⟩;have x2:=x1.trans hq;have OK2:=uU hok2;have B2:=uU (HB.ext hq);have RC:=uU (show ∀o v,((w.alloc (.cells #[iv x.M,iv x.K,iv x.born,.slice ar x.B.length kr,.slice ac x.A.length kc,iv x.E,iv x.I,iv x.sub,.slice ag x.D.length kg,iv x.per,iv x.V,iv x.Q,iv x.S] 34)).alloc (.cells #[iv 0,iv 0,iv 0,.slice none 0 0,.slice none 0 0,iv 0,iv 0,iv 0,.slice none 0 0,iv 0,iv 0,iv 0,iv 0] 34)).cell? ⟨w.heap.size+1,o,none⟩=some v->w2.cell? ⟨w.heap.size+1,o,none⟩=some v from λo v h=>hq.keep h);have RCF:=uU (show ∀o,w2.frozen? ⟨w.heap.size+1,o,none⟩=false from λo=>((cD hq).2 (w.heap.size+1) o (by rw[hs2];omega)).trans (by simp [go_sem]));have hz2:w.heap.size+2<=w2.heap.size:=by have:=hq.size;omega
 have Q1:=uU (show SlW w2 (.slice ar x.B.length kr) x.B/\SlC w2 (.slice ac x.A.length kc) x.A/\SlI w2 (.slice ag x.D.length kg) x.D from⟨SlW.ext hq S1,SlC.ext hq S2,SlI.ext hq S3⟩);have rc:=uH RC;have rcF:=uH RCF;have r0:=rc 0 (iv 0) (by simp [go_sem]);have r1:=rc 1 (iv 0) (by simp [go_sem]);have r2:=rc 2 (iv 0) (by simp [go_sem]);have r3:=rc 3 (.slice none 0 0) (by simp [go_sem]);have r4:=rc 4 (.slice none 0 0) (by simp [go_sem]);have r5:=rc 5 (iv 0) (by simp [go_sem]);have r6:=rc 6 (iv 0) (by simp [go_sem]);have r7:=rc 7 (iv 0) (by simp [go_sem]);have r8:=rc 8 (.slice none 0 0) (by simp [go_sem]);have r9:=rc 9 (iv 0) (by simp [go_sem]);have r10:=rc 10 (iv 0) (by simp [go_sem]);have r11:=rc 11 (iv 0) (by simp [go_sem]);have r12:=rc 12 (iv 0) (by simp [go_sem]);have f0:=rcF 0;have f1:=rcF 1;have f2:=rcF 2;have f3:=rcF 3;have f4:=rcF 4;have f5:=rcF 5;have f6:=rcF 6;have f7:=rcF 7;have f8:=rcF 8;have f9:=rcF 9;have f10:=rcF 10;have f11:=rcF 11;have f12:=rcF 12;have hr0:w.heap.size+1<w2.heap.size:=uL r0;clear hok2 hq rc rcF;cases t:(n == 0)
 ·have t2:(n != 0)=true:=by simpa using t
  have N:=uU (show b2z x Hp0 from .inr ⟨λh=>by have:=eQ.uniq h OK2;simp at t;omega,rfl⟩);go_wp2_with fail;refine bodyPost_ret (v:=Hp0.v (.slice none 0 0) (.slice none 0 0) (.slice none 0 0)) (by simp [results,Tryz.results38,go_sem,Hp0,r0,r1,r2,r3,r4,r5,r6,r7,r8,r9,r10,r11,r12]) rfl ⟨Hp0,none,0,none,0,none,0,rfl,N,HRd.zero _,?_⟩;refine(λ(F:uZ (λq=>q=w.heap.size+1) w2 _)=>F.ext x2 (λq hq e=>by omega)) ?_
  repeat (first | refine uZ.setCell ?_ (by simp) _ | exact uZ.refl _ _)
 ·have t2:(n != 0)=false:=by simpa using t
  have Y:=uU (show eQ x 0 by have:=uH OK2;simp at t;rw[t] at this;exact this);have b4:=B2.2.2.2.2.1;have hb0:w.heap.size<w2.heap.size:=uL b4;obtain⟨b0,b1,b2,b3,b4',b5,b6,b7,b8,b9,b10,b11,b12⟩:=uH B2;obtain⟨R1x,R2x,_,_⟩:=Y.all;have hg4:=(a4n Y).1;have n8:=Y.n8;have hrg:0<x.B.length/\x.B.length<=100:=by rw[R1x.B];omega
  have P2:=uU Y.p200;clear b4' R1x R2x;go_wp2_with fail;refine(c1d HZ x _ Q1.1 Q1.2.1 Q1.2.2 hrg.1 hrg.2 n8 P2 (by omega)).mono ?_;rintro e w3 ⟨g,rfl,hg,q3⟩;obtain⟨ar3,kr3,ac3,kc3,vg3,br,bc,pb,pa,pk,role,hG3⟩:=uH hg;obtain⟨ag3,kg3,hvg⟩:∃a k,vg3=.slice a x.D.length k:=hG3.gr.form;subst hvg;have G3:=uU hG3;clear hg hG3 b0 b1 b2 b3 b5 b6 b7 b8 b9 b10 b11 b12 b4;go_wp2_with fail;refine(a6i w2.heap.size g x _ ⟨_,_,_,_,_,_,_,_,_,_,_,G3⟩ (eQ.snd Y) w2 (Nat.le_refl _) q3).mono ?_;rintro e w4 ⟨z,y,rfl,en4,h4,x4⟩;have IS:=uU (show b2z x y from .inl ⟨Y,z,en4.1,en4.2⟩);have SY:=uU (show Snd y from(en4.2.snd ((en4.1.snd (eQ.snd Y)).1.begin (en4.1.snd (eQ.snd Y)).2)).1);obtain⟨ar3,kr3,ac3,kc3,vg4,br,bc,pb,pa,pk,role4,hG4⟩:=h4;obtain⟨ag4,kg4,hvg⟩:∃a k,vg4=.slice a y.D.length k:=hG4.gr.form;subst hvg;have RD:=uU (show ∀W,uZ (λq=>q=w.heap.size+1) w4 W->HRd W y ar3 kr3 ac3 kc3 ag4 kg4 from λW o=>(GAt.low HZ hG4 o (λq e=>by omega)).rd (by rw[SY.r1.B];omega) (by have:=SY.ok.n8;omega) (λq hq=>SY.ok.p200 q hq) (by have:=SY.r1.D;have:=SY.ok.n8;omega));obtain⟨d0,d1,d2,d3,d4,d5,d6,d7,d8,d9,d10,d11,d12⟩:=hG4.bx;have X4:=x2.trans x4;have hgw:w2.heap.size<=g:=hG4.lo;have hg4s:g<w4.heap.size:=uL d0;have ng:¬g=w.heap.size+1:=by omega
  have ng2:¬w.heap.size+1=g:=by omega
  have e0:=x4.keep r0;have e1:=x4.keep r1;have e2:=x4.keep r2;have e3:=x4.keep r3;have e4:=x4.keep r4;have e5:=x4.keep r5;have e6:=x4.keep r6;have e7:=x4.keep r7;have e8:=x4.keep r8;have e9:=x4.keep r9;have e10:=x4.keep r10;have e11:=x4.keep r11;have e12:=x4.keep r12;have g0:=((cD x4).2 (w.heap.size+1) 0 hr0).trans f0;have g1:=((cD x4).2 (w.heap.size+1) 1 hr0).trans f1;have g2:=((cD x4).2 (w.heap.size+1) 2 hr0).trans f2;have g3:=((cD x4).2 (w.heap.size+1) 3 hr0).trans f3;have g4:=((cD x4).2 (w.heap.size+1) 4 hr0).trans f4;have g5:=((cD x4).2 (w.heap.size+1) 5 hr0).trans f5;have g6:=((cD x4).2 (w.heap.size+1) 6 hr0).trans f6;have g7:=((cD x4).2 (w.heap.size+1) 7 hr0).trans f7;have g8:=((cD x4).2 (w.heap.size+1) 8 hr0).trans f8;have g9:=((cD x4).2 (w.heap.size+1) 9 hr0).trans f9;have g10:=((cD x4).2 (w.heap.size+1) 10 hr0).trans f10;have g11:=((cD x4).2 (w.heap.size+1) 11 hr0).trans f11;have g12:=((cD x4).2 (w.heap.size+1) 12 hr0).trans f12;have hr4:w.heap.size+1<w4.heap.size:=uL e0;clear hG4 en4 r0 r1 r2 r3 r4 r5 r6 r7 r8 r9 r10 r11 r12 f0 f1 f2 f3 f4 f5 f6 f7 f8 f9 f10 f11 f12;go_wp2_with fail;refine bodyPost_ret (v:=y.v (.slice ar3 y.B.length kr3) (.slice ac3 y.A.length kc3) (.slice ag4 y.D.length kg4)) (by simp [results,Tryz.results38,go_sem,e0,e1,e2,e3,e4,e5,e6,e7,e8,e9,e10,e11,e12]) rfl ⟨y,ar3,kr3,ac3,kc3,ag4,kg4,rfl,IS,?_⟩;refine(λ(F:uZ (λq=>q=w.heap.size+1) w4 _)=>⟨uH RD _ F,F.ext X4 (λq hq e=>by omega)⟩) ?_
  repeat (first | refine uZ.setCell ?_ (by simp) _ | exact uZ.refl _ _)
structure Rnd(x:Hp):Prop where
 s:Snd x
 c:uD x->Col x
 k:¬uD x->Kept x
 m4:x.E=4->∀i j,i<x.A.length->(x.c i).st=2->(x.c j).st=1->j<i
 m5:(x.E=5\/x.E=6)->∀i j,i<x.A.length->(x.c i).st≠1->(x.c j).st=1->j<i
 m6:x.E=6->∀i:Nat,x.I<=(i:Int)->i<x.A.length->(x.c i).st=1
 m0:x.E=0->∀i,i<x.A.length->(x.c i).st=1
theorem Hp.c_out(h:x.A.length<=i):x.c i=Cl0:=by simp [Hp.c,List.getD_eq_getElem?_getD,h]
theorem st_in(h:(x.c i).st=1):i<x.A.length:=by
 rcases Nat.lt_or_ge i x.A.length with l | l
 ·exact l
 ·rw[Hp.c_out l] at h;simp [Cl0] at h
theorem Rnd.V(s:Snd x)(hp:x.E=0):Rnd (dN x 1 0):=by
 refine⟨s.begin hp,λ_ i hi hc=>?_,λh=>(h (.inl rfl)).elim,λe=>?_,λe=>?_,λe=>?_,λe=>?_⟩
 ·exfalso;have hi':i<x.A.length:=hi;have hc':(x.c i).J≠0:=hc;have h:=s.cols ⟨by omega,by omega,by omega⟩ i hi';rcases s.r2.1 i hi' with⟨_,b,_⟩ | ⟨_,b⟩ | ⟨_,u⟩
  ·exact hc' b.2.2.2.2.1
  ·exact hc' b.1.2.2.2.2.1
  ·have:=u.2.2.2.2.1;omega
 ·have e':(1:Int)=4:=e;omega
 ·have e':(1:Int)=5\/(1:Int)=6:=e;omega
 ·have e':(1:Int)=6:=e;omega
 ·have e':(1:Int)=0:=e;omega
theorem Rnd.u1(r:Rnd x)(hp:x.E=1):Rnd (eZ x):=by
 obtain⟨o,c,p⟩:=r.s.o1 hp;have s:=r.s.u1 hp;exact⟨s,λ_=>c (r.c (.inl hp)),λh=>(h p).elim,λe=>by omega,λe=>by omega,λe=>by omega,λe=>by omega⟩
theorem Rnd.u2(r:Rnd x)(hp:x.E=2):Rnd (dY x):=by
 obtain⟨o,c,k,p⟩:=r.s.o2 hp;have s:=r.s.u2 hp;have cx:=r.c (.inr hp);exact⟨s,λh=>c cx (by rcases h with h | h <;> omega),λh=>k cx (by rcases p with p | p;exact(h (.inr p)).elim;exact p),λe=>by omega,λe=>by omega,λe=>by omega,λe=>by omega⟩
theorem Rnd.u3(r:Rnd x)(hp:x.E=3):Rnd (dQ x):=by
 obtain⟨o,p⟩:=r.s.o3 hp;have s:=r.s.u3 hp;have kx:=r.k (λh=>by rcases h with h | h <;> omega);refine⟨s,λh=>by rcases h with h | h <;> omega,λ_=>o.kept r.s kx,λe i j hi h2=>?_,λe=>by omega,λe=>by omega,λe=>by omega⟩;unfold dQ at e hi h2
 split at e
 ·rename_i he;rw[if_pos he] at hi h2;exact(r.s.nomoved (by omega) i hi h2).elim
 ·split at e
  ·have e':x.E=4:=e;omega
  ·have e':x.E=4:=e;omega
theorem Snd.live4(s:Snd x)(hp:x.E=4)(l:zL x n):zL (unit4 x) n:=by
 have sy:=s.u4 hp;obtain⟨f1,f2,f3⟩:=a0o x;unfold unit4 at sy ⊢
 split
 ·rename_i hle;rw[if_pos hle] at sy;exact(a2z (x:=x) (by omega) 5 0 0 x.Q).live s sy l
 ·rename_i hlt;rcases a0w x x.A.length with⟨e,_⟩ | ⟨f,e,hf,hs,_⟩
  ·omega
  ·have e2:(a1k x x.A.length).toNat=f:=by omega
   rw[e2];rw[e] at hlt;exact s.live4m hp (cH x) f (by omega) hf (f3 (by omega)) f2 hs l
theorem Rnd.u4(r:Rnd x)(hp:x.E=4):Rnd (unit4 x):=by
 have s:=r.s.u4 hp;have kx:=r.k (λh=>by rcases h with h | h <;> omega);obtain⟨f1,f2,f3⟩:=a0o x;unfold unit4 at s ⊢
 split
 ·rename_i hle;rw[if_pos hle] at s;have o:=a2z (x:=x) (by omega) 5 0 0 x.Q;refine⟨s,λh=>?_,λ_=>o.kept r.s kx,λe=>?_,λ_ i j hi h2 h1=>?_,λe=>?_,λe=>?_⟩
  ·rcases h with h | h
   ·have h':(5:Int)=1:=h;omega
   ·have h':(5:Int)=2:=h;omega
  ·have e':(5:Int)=4:=e;omega
  ·have h1':(x.c j).st=1:=h1;have h2':(x.c i).st≠1:=h2;have hi':i<x.A.length:=hi;have hj:=st_in h1';rcases a0w x x.A.length with⟨_,n⟩ | ⟨f,e,hf,hs,nf⟩
   ·exact(n j hj h1').elim
   ·rw[e] at hle
    have jf:j<=f:=by
     rcases Nat.lt_or_ge f j with q | q
     ·exact(nf j q hj h1').elim
     ·exact q
    rcases r.s.r2.1 i hi' with⟨z,_⟩ | ⟨z,_⟩ | ⟨z,_⟩
    ·have:cH x<=i:=by
      rcases Nat.lt_or_ge i (cH x) with q | q
      ·exact(f2 i q z).elim
      ·exact q
     have:i≠j:=λq=>by rw[q] at z;omega
     omega
    ·exact r.m4 hp i j hi' z h1'
    ·exact(h2' z).elim
  ·have e':(5:Int)=6:=e;omega
  ·have e':(5:Int)=0:=e;omega
 ·rename_i hlt;rw[if_neg hlt] at s;rcases a0w x x.A.length with⟨e,_⟩ | ⟨f,e,hf,hs,nf⟩
  ·omega
  ·have e2:(a1k x x.A.length).toNat=f:=by omega
   rw[e2] at s ⊢;rw[e] at hlt;have htf:cH x<f:=by omega
   have h0:=f3 (by omega);have o:=r.s.o4m hp (cH x) f htf hf h0 hs;have hc:=c0y (x:=x) (cH x) f htf hf;refine⟨s,λh=>?_,λ_=>o.kept r.s kx,λ_ i j hi h2 h1=>?_,λe=>?_,λe=>?_,λe=>?_⟩
   ·have h':x.E=1\/x.E=2:=h;omega
   ·rw[hc] at h1 h2;by_cases a:j=f
    ·rw[if_pos a] at h1;simp [mvC] at h1
    ·rw[if_neg a] at h1
     have jf:j<f:=by
      by_cases b:j=cH x
      ·omega
      ·rw[if_neg b] at h1;have hj:=st_in h1;rcases Nat.lt_or_ge f j with q | q
       ·exact(nf j q hj h1).elim
       ·omega
     by_cases a':i=f
     ·omega
     ·rw[if_neg a'] at h2;by_cases b':i=cH x
      ·rw[if_pos b',hs] at h2;omega
      ·rw[if_neg b'] at h2;have hi':i<x.A.length:=by simpa [eU] using hi
       have:=r.m4 hp i f hi' h2 hs;omega
   ·have e':x.E=5\/x.E=6:=e;omega
   ·have e':x.E=6:=e;omega
   ·have e':x.E=0:=e;omega
theorem Rnd.u5(r:Rnd x)(hp:x.E=5):Rnd (eH x):=by
 obtain⟨o,p,st,hl,hd⟩:=r.s.o5 hp;have s:=r.s.u5 hp;have kx:=r.k (λh=>by rcases h with h | h <;> omega);refine⟨s,λh=>by rcases h with h | h <;> omega,λ_=>o.kept r.s kx,λe=>by omega,λ_ i j hi h2 h1=>?_,λe i h1 h2=>?_,λe=>by omega⟩
 ·rw[hl] at hi;rw[st] at h1 h2;exact r.m5 (.inl hp) i j hi h2 h1
 ·have:=hd e;omega
theorem Snd.f6(s:Snd x)(hp:x.E=6)(i:Nat)(hi:x.I=(i:Int)+1):(cN x).B=x.B/\(cN x).E=6/\(cN x).I=i/\((cN x).A.length=x.A.length\/((cN x).A.length=i/\i+1=x.A.length/\(x.c i).st≠1))/\
  (∀q,q<(cN x).A.length->q≠i->(cN x).c q=x.c q)/\(i<(cN x).A.length->(x.c i).st=1->(cN x).c i=x.c i)/\(i<(cN x).A.length->(x.c i).st≠1->((cN x).c i).st≠1/\i+1<x.A.length):=by
 have hh:=s.r1.I;have h0:¬x.I=0:=by omega
 have ei:(x.I-1).toNat=i:=by omega
 have hil:i<x.A.length:=by omega
 unfold cN;rw[if_neg h0,ei]
 have sc:∀q,(dH x i).c q=if (x.c i).st=2/\q=i then Cl0 else x.c q:=λq=>by
  unfold dH;by_cases e:(x.c i).st=2
  ·rw[if_pos e];show(x.A.set i Cl0).getD q Cl0=_;rw[a8e];by_cases b:q=i
   ·rw[if_pos ⟨b,hil⟩,if_pos ⟨e,b⟩]
   ·rw[if_neg (λh=>b h.1),if_neg (λh=>b h.2)];rfl
  ·rw[if_neg e,if_neg (λh=>e h.1)];rfl
 have sl:(dH x i).A.length=x.A.length:=by unfold dH;split <;> simp
 have ci:((dH x i).c i).st=if (x.c i).st=1 then 1 else 0:=by
  rw[sc];rcases s.r2.1 i hil with⟨z,_⟩ | ⟨z,_⟩ | ⟨z,_⟩
  ·rw[z];simp [z]
  ·rw[z];simp [Cl0]
  ·rw[z];simp [z]
 by_cases d:i+1=(dH x i).A.length/\((dH x i).c i).st=0
 ·unfold zU;rw[if_pos d];have nu:(x.c i).st≠1:=λe=>by have:=d.2;rw[ci,if_pos e] at this;omega
  have yl:({ dH x i with A:=(dH x i).A.take i }:Hp).A.length=i:=by
   show((dH x i).A.take i).length=i;rw[List.length_take];omega
  refine⟨rfl,hp,rfl,.inr ⟨yl,by omega,nu⟩,λq hq hne=>?_,λh=>absurd (Nat.lt_of_lt_of_eq h yl) (Nat.lt_irrefl _),λh=>absurd (Nat.lt_of_lt_of_eq h yl) (Nat.lt_irrefl _)⟩;have hq':q<i:=Nat.lt_of_lt_of_eq hq yl
  have e:((dH x i).A.take i).getD q Cl0=(dH x i).c q:=by
   simp only [Hp.c,List.getD_eq_getElem?_getD,List.getElem?_take,if_pos hq']
  show((dH x i).A.take i).getD q Cl0=_;rw[e,sc,if_neg (λh=>by omega)]
 ·unfold zU;rw[if_neg d];refine⟨rfl,hp,rfl,.inl sl,λq _ hne=>by rw[sc,if_neg (λh=>hne h.2)],λ_ e=>by rw[sc,if_neg (λh=>by omega)],λ_ e=>?_⟩;have z:((dH x i).c i).st=0:=by rw[ci,if_neg e]
  refine⟨by omega,?_⟩;rcases Nat.lt_or_ge (i+1) x.A.length with q | q
  ·exact q
  ·exact(d ⟨by omega,z⟩).elim
theorem Snd.o6u(s:Snd x)(hp:x.E=6):Ovr x (cN x) (λi=>i):=by
 have hh:=s.r1.I;by_cases h0:x.I=0
 ·unfold cN;rw[if_pos h0];exact a2z (x:=x) (by omega) 0 0 0 (if x.Q<1000000000 then x.Q+1 else x.Q)
 ·obtain⟨i,hi⟩:∃i:Nat,x.I=(i:Int)+1:=⟨(x.I-1).toNat,by omega⟩;obtain⟨f1,f2,f3,f4,f5,f6,f7⟩:=s.f6 hp i hi;refine s.o6 hp i f1 (λq hq hs=>?_) f5 f6 (λa b=>(f7 a b).1) (by omega);rcases f4 with e | ⟨e1,e2,e3⟩
  ·omega
  ·have:q≠i:=λe=>e3 (e ▸ hs)
   omega
theorem Rnd.u6(r:Rnd x)(hp:x.E=6):Rnd (cN x):=by
 have s:=r.s.u6 hp;have kx:=r.k (λh=>by rcases h with h | h <;> omega);have hh:=r.s.r1.I;have o:=r.s.o6u hp;by_cases h0:x.I=0
 ·have e:(cN x).E=0/\(cN x).A=x.A:=by unfold cN;rw[if_pos h0];exact⟨rfl,rfl⟩
  refine⟨s,λh=>by rcases h with h | h <;> omega,λ_=>o.kept r.s kx,λh=>by omega,λh=>by omega,λh=>by omega,λ_ i hi=>?_⟩;rw[e.2] at hi;have:(cN x).c i=x.c i:=by unfold Hp.c;rw[e.2]
  rw[this];exact r.m6 hp i (by omega) hi
 ·obtain⟨i,hi⟩:∃i:Nat,x.I=(i:Int)+1:=⟨(x.I-1).toNat,by omega⟩;obtain⟨f1,f2,f3,f4,f5,f6,f7⟩:=r.s.f6 hp i hi
  have up:∀q,q<(cN x).A.length->(((cN x).c q).st=1↔(x.c q).st=1):=λq hq=>by
   by_cases e:q=i
   ·subst e;by_cases u:(x.c q).st=1
    ·rw[f6 hq u]
    ·exact⟨λh=>((f7 hq u).1 h).elim,λh=>(u h).elim⟩
   ·rw[f5 q hq e]
  refine⟨s,λh=>by rcases h with h | h <;> omega,λ_=>o.kept r.s kx,λh=>by omega,λ_ a j ha h2 h1=>?_,λ_ a h1 h2=>?_,λh=>by omega⟩
  ·have hj:=st_in h1;exact r.m5 (.inr hp) a j (by omega) (λe=>h2 ((up a ha).2 e)) ((up j hj).1 h1)
  ·rw[f3] at h1;rw[up a h2];by_cases e:a=i
   ·subst e;by_cases u:(x.c a).st=1
    ·exact u
    ·have n1:=(f7 h2 u).2;have:=r.m5 (.inr hp) a (a+1) (by omega) u (r.m6 hp (a+1) (by omega) n1);omega
   ·exact r.m6 hp a (by omega) (by omega)
theorem Rnd.unit(r:Rnd x):Rnd (dD x):=by
 unfold dD
 split
 ·rename_i e;exact r.u1 e
 split
 ·rename_i e;exact r.u2 e
 split
 ·rename_i e;exact r.u3 e
 split
 ·rename_i e;exact r.u4 e
 split
 ·rename_i e;exact r.u5 e
 split
 ·rename_i e;exact r.u6 e
 ·exact r
theorem Rnd.run{x:Hp}(r:Rnd x):∀k,Rnd (itU k x)
 | 0=>r
 | k+1=>(Rnd.run r k).unit
theorem Snd.liveU(s:Snd x)(l:zL x n):zL (dD x) n:=by
 have sy:=s.unit;unfold dD at sy ⊢
 split
 ·rename_i e;exact(s.o1 e).1.live s (s.u1 e) l
 split
 ·rename_i e;exact(s.o2 e).1.live s (s.u2 e) l
 split
 ·rename_i e;exact(s.o3 e).1.live s (s.u3 e) l
 split
 ·rename_i e;exact s.live4 e l
 split
 ·rename_i e;exact(s.o5 e).1.live s (s.u5 e) l
 split
 ·rename_i e;exact(s.o6u e).live s (s.u6 e) l
 ·exact l
theorem Snd.liveN{x:Hp}(s:Snd x){n:Nat}(l:zL x n):∀k,zL (Go.Proofs.YtddkhnclmeikfaaGreat.itU k x) n
 | 0=>l
 | k+1=>(s.itU k).liveU (Snd.liveN s l k)
theorem b5a{x:Hp}:∀(cs:List Cl),(∀c,c∈cs->c.st=1)->dL cs=(cs.map (λc=>1+c.F.length)).sum
 | [],_=>rfl
 | c::cs,h=>by
  have ih:=b5a (x:=x) cs (λd hd=>h d (by simp [hd]));unfold dL at ih ⊢;simp only [List.map_cons,List.sum_cons,ih];unfold hE;rw[if_pos (h c (by simp))]
theorem c3b(x:Hp){p:Nat->Bool}(h:∀i,i<x.A.length->p i=true):∀k,k<=x.A.length->zY x p k=((x.A.take k).map (λc=>1+c.F.length)).sum
 | 0,_=>by simp [zY]
 | k+1,hk=>by
  have e:x.A.take (k+1)=x.A.take k++[x.c k]:=by
   rw[List.take_succ_eq_append_getElem (by omega),Hp.c_eq x k (by omega)]
  unfold zY;rw[e,c3b x h k (by omega),if_pos (h k (by omega))];simp
theorem b8r{y:Hp}(s:Snd x)(h:b2z x y)(l:zL x n):Snd y/\y.E=0/\y.K=n/\∀i,i<y.A.length->(y.c i).st=1/\uY y i:=by
 obtain⟨_,z,⟨k,e1,rfl⟩,⟨m,e2,rfl⟩⟩ | ⟨no,_⟩:=h
 ·have sz:=s.itU k;have lz:=s.liveN l k;have sb:=sz.begin e1.1;have lb:zL (dN (itU k x) 1 0) n:=(a2z (x:=itU k x) (by have:=e1.1;omega) 1 0 0 (itU k x).Q).live sz sb lz;have ly:=sb.liveN lb m;have r:=(Rnd.V sz e1.1).run m;have st:=r.m0 e2.1;have kk:=r.k (λh=>by have:=e2.1;rcases h with h | h <;> omega);have re:∀i,i<(itU m (dN (itU k x) 1 0)).A.length->uY (itU m (dN (itU k x) 1 0)) i:=λi hi=>kk i ⟨hi,st i hi,λd=>by have:=d.1;have:=e2.1;omega⟩
  refine⟨r.s,e2.1,?_,λi hi=>⟨st i hi,re i hi⟩⟩;obtain⟨_,p,hp,rfl⟩ | ⟨no,_⟩:=ly
  ·rw[r.s.r3.1,c3b _ (λi hi=>(hp i).2 (re i hi)) _ (Nat.le_refl _),List.take_length,b5a (x:=x) _ (λc hc=>by
    obtain⟨i,hi,e⟩:=List.getElem_of_mem hc;rw[<-e,Hp.c_eq _ i hi];exact st i hi)]
  ·exact absurd r.s.ok no
 ·exact absurd s.ok no
theorem live_ex(x:Hp)(s:Snd x):∃n,zL x n:=by
 classical
 exact⟨_,.inl ⟨s.ok,λi=>decide (uY x i),λi=>by simp,rfl⟩⟩
theorem b0f{o:Obj}(h:w.heap[q]?=some o):q<w.heap.size:=by
 rcases Nat.lt_or_ge q w.heap.size with l | l
 ·exact l
 ·rw[Array.getElem?_eq_none l] at h;cases h
theorem GAt.far{z z2:Nat->Option Obj}{vg:Value}{br bc:Nat}{pb:Nat->Nat}{pa:Nat->Option Addr}{pk:Nat->Nat}{role role':Nat->Nat}(h:@GAt ⟨⟨z⟩⟩ B w g x ar kr ac kc vg br bc pb pa pk role)(hs:w.heap.size<=w'.heap.size)(far:∀q,q<w.heap.size->role q≠1->w'.heap[q]?=w.heap[q]?)(hr:∀q,q<w.heap.size->role q≠1->role' q=role q)(hp:∀q o,z2 q=some o->role' q=1/\w'.heap[q]?=some o):@GAt ⟨⟨z2⟩⟩ B w' g x ar kr ac kc vg br bc pb pa pk role':=by
 obtain⟨bx,nf,lo,ha,hc,rs,gr,sp,kl,_,cc⟩:=h;have fg:=far g nf.1 (by rw[sp.g];omega)
 letI:Inhabited uQ:=⟨⟨z2⟩⟩
 refine⟨bx.block fg,uV nf fg hs,lo,ha,hc,rs.same hs (λhl=>far br (rs.nr hl).1.1 (by rw[sp.r hl];omega)) (λhl=>far bc (rs.nc hl).1.1 (by rw[sp.c hl];omega)) (λq hq hl=>far (pb q) (rs.pl q hq hl).2.1.1 (by rw[sp.p q hq hl];omega)),gr.block (λq hq=>far q (gr.lt q hq).2 (by rw[sp.y q hq];omega)),⟨?_,λhl=>?_,λhl=>?_,λq hq=>?_,λq hq hl=>?_⟩,kl,hp,λhk=>(cc hk).block (hr bc (cc hk).nf.1 (by rw[(cc hk).ro];omega)) (far bc (cc hk).nf.1 (by rw[(cc hk).ro];omega)) hs⟩
 ·rw[hr g nf.1 (by rw[sp.g];omega)];exact sp.g
 ·rw[hr br (rs.nr hl).1.1 (by rw[sp.r hl];omega)];exact sp.r hl
 ·rw[hr bc (rs.nc hl).1.1 (by rw[sp.c hl];omega)];exact sp.c hl
 ·rw[hr q (gr.lt q hq).2 (by rw[sp.y q hq];omega)];exact sp.y q hq
 ·rw[hr (pb q) (rs.pl q hq hl).2.1.1 (by rw[sp.p q hq hl];omega)];exact sp.p q hq hl
theorem GOk.guard{z z2:Nat->Option Obj}(h:@GOk ⟨⟨z⟩⟩ B w0 g x)(e:Ext w0 w)(hz:∀q o,z2 q=some o->z q=some o\/(w0.heap.size<=q/\w.heap[q]?=some o)):@GOk ⟨⟨z2⟩⟩ B w g x:=by
 obtain⟨ar,kr,ac,kc,vg,br,bc,pb,pa,pk,role,h⟩:=h;have h0:=h;obtain⟨_,_,_,_,_,_,_,_,_,pr,_⟩:=h0;refine⟨ar,kr,ac,kc,vg,br,bc,pb,pa,pk,λq=>if w0.heap.size<=q then 1 else role q,GAt.far h e.size (λq hq _=>e.block q hq) (λq hq _=>if_neg (by omega)) (λq o hq=>?_)⟩;rcases hz q o hq with a | ⟨a,b⟩
 ·obtain⟨h1,h2⟩:=pr q o a;have hl:=b0f h2;exact⟨by show(if w0.heap.size<=q then 1 else role q)=1;rw[if_neg (by omega)];exact h1,(e.block q hl).trans h2⟩
 ·exact⟨if_pos a,b⟩
structure Own(p:Inhabited uQ)(lo hi:Nat)(c:World)(p1:Inhabited uQ):Prop where
 z:∀q,(@default uQ p1).z q=if lo<=q/\q<hi then c.heap[q]? else (@default uQ p).z q
 l:∀q o,(@default uQ p).z q=some o->q<lo
 h:hi<=c.heap.size
theorem Own.make(p:Inhabited uQ)(lo hi:Nat)(c:World)(l:∀q o,(@default uQ p).z q=some o->q<lo)(h:hi<=c.heap.size):∃p1,Own p lo hi c p1:=⟨⟨⟨λq=>if lo<=q/\q<hi then c.heap[q]? else (@default uQ p).z q⟩⟩,λ_=>rfl,l,h⟩
theorem a4s(h:q<w.heap.size):∃o,w.heap[q]?=some o:=⟨_,Array.getElem?_eq_getElem h⟩
theorem GOk.enter{p:Inhabited uQ}(h:@GOk p B w g x)(e:Ext w w0):∃p1,Own p w.heap.size w0.heap.size w0 p1/\@GOk p1 B w0 g x:=by
 have h0:=h;obtain⟨ar,kr,ac,kc,vg,br,bc,pb,pa,pk,role,h0⟩:=h0;obtain⟨_,_,_,_,_,_,_,_,_,pr,_⟩:=h0;obtain⟨p1,hp⟩:=Own.make p w.heap.size w0.heap.size w0 (λq o hq=>b0f (pr q o hq).2) (Nat.le_refl _);refine⟨p1,hp,GOk.guard (z:=(@default uQ p).z) (z2:=(@default uQ p1).z) h e (λq o hq=>?_)⟩;rw[hp.z] at hq
 split at hq
 ·rename_i c;exact .inr ⟨c.1,hq⟩
 ·exact .inl hq
theorem GOk.own{p p1:Inhabited uQ}(o:Own p lo hi c p1)(h:@GOk p1 B w g x):∀q,lo<=q->q<hi->w.heap[q]?=c.heap[q]?:=λq h1 h2=>by
 obtain⟨ar,kr,ac,kc,vg,br,bc,pb,pa,pk,role,h⟩:=h;obtain⟨_,_,_,_,_,_,_,_,_,pr,_⟩:=h;obtain⟨ob,hb⟩:=a4s (w:=c) (q:=q) (by have:=o.h;omega);have:=(pr q ob (by rw[o.z q,if_pos ⟨h1,h2⟩];exact hb)).2;rw[this,hb]
theorem GOk.owns{p p1 p2:Inhabited uQ}(o:Own p lo hi c p1)(h:@GOk p1 B w g x)(on:uZ (λq=>lo<=q/\q<hi) w w')(hz:∀q ob,(@default uQ p2).z q=some ob->(lo<=q/\q<hi/\w'.heap[q]?=some ob)\/(¬(lo<=q/\q<hi)/\(@default uQ p).z q=some ob)):@GOk p2 B w' g x:=by
 obtain⟨ar,kr,ac,kc,vg,br,bc,pb,pa,pk,role,h⟩:=h;have h0:=h;obtain⟨_,_,_,_,_,_,_,_,_,pr,_⟩:=h0
 have r1:∀q,lo<=q->q<hi->role q=1:=λq h1 h2=>by
  obtain⟨ob,hb⟩:=a4s (w:=c) (q:=q) (by have:=o.h;omega);exact(pr q ob (by rw[o.z q,if_pos ⟨h1,h2⟩];exact hb)).1
 refine⟨ar,kr,ac,kc,vg,br,bc,pb,pa,pk,role,GAt.far (z:=(@default uQ p1).z) (z2:=(@default uQ p2).z) h on.size (λq hq hn=>on.block q hq (λe=>hn (r1 q e.1 e.2))) (λ_ _ _=>rfl) (λq o2 hq=>?_)⟩;rcases hz q o2 hq with⟨a,b,d⟩ | ⟨a,d⟩
 ·exact⟨r1 q a b,d⟩
 ·obtain⟨h1,h2⟩:=pr q o2 (by rw[o.z q,if_neg a];exact d);exact⟨h1,(on.block q (b0f h2) a).trans h2⟩
theorem GOk.leave{p p1:Inhabited uQ}(o:Own p lo hi c p1)(h:@GOk p1 B w g x)(on:uZ (λq=>lo<=q/\q<hi) w w'):@GOk p B w' g x:=
 GOk.owns o h on (λq ob hq=>.inr ⟨λhc=>by have:=o.l q ob hq;omega,hq⟩)
structure Ak where
 op:Int
 a:Int
 b:Int
 c:Int
 n:Int
abbrev Ak.v(x:Ak):Value:=.agg #[iv x.op,iv x.a,iv x.b,iv x.c,iv x.n]
def fA(y:Ak):List Value:=[iv y.op,iv y.a,iv y.b,iv y.c,iv y.n]
theorem b8s[Inhabited uQ](B g:Nat)(x:Hp)(n:Nat)(w:World)(h:GOk B w g x)(s:Snd x)(n0:n≠0)(n1:n<=100000)(hp:x.E≠0)(a:World)(ha:a.heap.size<=B)(hx:Ext a w):
  Calls Tryz.prog 84 #[.pointer (some ⟨g,0,none⟩),.int .i64 n] w λe w'=>∃k:Nat,e=.returned (.int .i64 k)/\Hid (a5i x n k)/\GOk B w' g (itU k x)/\Ext a w':=by
 have HS:=uU h;obtain⟨_,_,c5,_,lo,hgw⟩:=h.box;have S:=uU s;have nb:((n:Int) == 0)=false:=by simpa using n0
 have pb:(x.E == 0)=false:=by simpa using hp
 have XS:=hx;clear h s hp n0;go_enter Tryz.func84,Tryz.ntmps84;go_wp2_with fail;go_loopw [5] (λd wr=>∃k:Nat,k<=n/\d=.int .i64 k/\Hid (yZ x k)/\Hid (GOk B wr g (itU k x))/\Ext a wr) (λd _=>n-(intOf d).toNat)
 case atStart=>exact⟨0,Nat.zero_le _,rfl,yZ.zero _,HS,XS⟩
 case round=>
  clear HS XS c5 hgw;obtain⟨k,hk,rfl,hr,hG,hxr⟩:=hrel;obtain⟨_,_,c5,_,_,hgw⟩:=hG.box;cases q:((itU k x).E == 0)
  ·have qb:((itU k x).E != 0)=true:=by simpa using q
   have QP:=uU (show(itU k x).E≠0 by simpa using q);by_cases hlt:k<n
   ·have h1:(k:Int)<(n:Int):=by omega
    go_wp2_with fail;refine(a5k B g _ _ hG (S.itU k) QP a ha hxr).mono ?_;rintro e w3 ⟨rfl,h3,x3⟩;have H3:=uU h3;have R3:=uU (hr.succ QP);clear h3 c5 hgw;go_wp2_with fail;go_roundw
    case rel=>exact⟨k+1,by omega,by go_num,R3,H3,x3⟩
    case measure=>simp [intOf];omega
   ·have h1:¬(k:Int)<(n:Int):=by omega
    have hkn:=uU (show k=n by omega);go_wp2_with fail;go_ret;exact⟨k,rfl,⟨hr,hk,.inl hkn⟩,hG,hxr⟩
  ·have qb:((itU k x).E != 0)=false:=by simpa using q
   have QP:=uU (show(itU k x).E=0 by simpa using q);by_cases hlt:k<n
   ·have h1:(k:Int)<(n:Int):=by omega
    go_wp2_with fail;go_ret;exact⟨k,rfl,⟨hr,hk,.inr QP⟩,hG,hxr⟩
   ·have h1:¬(k:Int)<(n:Int):=by omega
    have hkn:=uU (show k=n by omega);go_wp2_with fail;go_ret;exact⟨k,rfl,⟨hr,hk,.inl hkn⟩,hG,hxr⟩
theorem b6m[Inhabited uQ](B g:Nat)(x:Hp)(n:Nat)(w:World)(h:GOk B w g x)(s:Snd x)(n0:n≠0)(n1:n<=100000)(hp:x.E=0)(a:World)(ha:a.heap.size<=B)(hx:Ext a w):
  Calls Tryz.prog 84 #[.pointer (some ⟨g,0,none⟩),.int .i64 n] w λe w'=>∃k:Nat,e=.returned (.int .i64 k)/\Hid (a5i (dN x 1 0) n k)/\GOk B w' g (itU k (dN x 1 0))/\Ext a w':=by
 have HO:=uU h;obtain⟨_,_,c5,_,lo,hgw⟩:=h.box;have S:=uU (s.begin hp);have nb:((n:Int) == 0)=false:=by simpa using n0
 rw[hp] at c5;obtain⟨y,hy⟩:∃y,y=dN x 1 0:=⟨_,rfl⟩;have QB:=uU (a4e B g x w h a ha hx);rw[<-hy] at S QB ⊢;clear h s hp n0 hy;go_enter Tryz.func84,Tryz.ntmps84;go_wp2_with fail;refine QB.mono ?_;rintro e w1 ⟨rfl,h1,XS⟩;have HS:=uU h1;obtain⟨_,_,c5,_,_,hgw⟩:=h1.box;clear h1;go_wp2_with fail;go_loopw [5] (λd wr=>∃k:Nat,k<=n/\d=.int .i64 k/\Hid (yZ y k)/\Hid (GOk B wr g (itU k y))/\Ext a wr) (λd _=>n-(intOf d).toNat)
 case atStart=>exact⟨0,Nat.zero_le _,rfl,yZ.zero _,HS,XS⟩
 case round=>
  clear HS XS c5 hgw;obtain⟨k,hk,rfl,hr,hG,hxr⟩:=hrel;obtain⟨_,_,c5,_,_,hgw⟩:=hG.box;cases q:((itU k y).E == 0)
  ·have qb:((itU k y).E != 0)=true:=by simpa using q
   have QP:=uU (show(itU k y).E≠0 by simpa using q);by_cases hlt:k<n
   ·have h1:(k:Int)<(n:Int):=by omega
    go_wp2_with fail;refine(a5k B g _ _ hG (S.itU k) QP a ha hxr).mono ?_;rintro e w3 ⟨rfl,h3,x3⟩;have H3:=uU h3;have R3:=uU (hr.succ QP);clear h3 c5 hgw;go_wp2_with fail;go_roundw
    case rel=>exact⟨k+1,by omega,by go_num,R3,H3,x3⟩
    case measure=>simp [intOf];omega
   ·have h1:¬(k:Int)<(n:Int):=by omega
    have hkn:=uU (show k=n by omega);go_wp2_with fail;go_ret;exact⟨k,rfl,⟨hr,hk,.inl hkn⟩,hG,hxr⟩
  ·have qb:((itU k y).E != 0)=false:=by simpa using q
   have QP:=uU (show(itU k y).E=0 by simpa using q);by_cases hlt:k<n
   ·have h1:(k:Int)<(n:Int):=by omega
    go_wp2_with fail;go_ret;exact⟨k,rfl,⟨hr,hk,.inr QP⟩,hG,hxr⟩
   ·have h1:¬(k:Int)<(n:Int):=by omega
    have hkn:=uU (show k=n by omega);go_wp2_with fail;go_ret;exact⟨k,rfl,⟨hr,hk,.inl hkn⟩,hG,hxr⟩
theorem b8t(g:Nat)(w:World):Calls Tryz.prog 84 #[.pointer (some ⟨g,0,none⟩),.int .i64 0] w λe w'=>e=.returned (.int .i64 0)/\w'=w:=by
 go_enter Tryz.func84,Tryz.ntmps84;go_wp2_with fail;go_ret;exact⟨rfl,rfl⟩
theorem a8i[Inhabited uQ](B g:Nat)(x:Hp)(n:Nat)(w:World)(h:GOk B w g x)(s:Snd x)(n1:n<=100000)(a:World)(ha:a.heap.size<=B)(hx:Ext a w):
  Calls Tryz.prog 84 #[.pointer (some ⟨g,0,none⟩),.int .i64 n] w λe w'=>∃k:Nat,e=.returned (.int .i64 k)/\Hid (a5i (stepH x n) n k)/\GOk B w' g (itU k (stepH x n))/\Ext a w':=by
 by_cases n0:n=0
 ·subst n0;have e:stepH x 0=x:=by unfold stepH;rw[if_neg (λh=>h.2 rfl)]
  rw[e];refine(b8t g w).mono ?_;rintro e w' ⟨rfl,rfl⟩;exact⟨0,rfl,⟨yZ.zero _,Nat.le_refl _,.inl rfl⟩,h,hx⟩
 ·by_cases hp:x.E=0
  ·have e:stepH x n=dN x 1 0:=by unfold stepH;rw[if_pos ⟨hp,n0⟩]
   rw[e];exact b6m B g x n w h s n0 n1 hp a ha hx
  ·have e:stepH x n=x:=by unfold stepH;rw[if_neg (λh=>hp h.1)]
   rw[e];exact b8s B g x n w h s n0 n1 hp a ha hx
theorem cY(n:Int)(w:World):Calls Tryz.prog 161 #[.int .i64 n] w λe w'=>e=.returned (qU 0 n)/\Ext w w':=by
 go_enter Tryz.func161,Tryz.ntmps161;go_wp2_with fail
 first
  | (go_ret;exact⟨rfl,by repeat (first | exact Ext.refl _ | refine Ext.alloc ?_ _)⟩)
  | exact bodyPost_ret (v:=qU 0 n) (by simp [results,Tryz.results161,go_sem]) rfl ⟨rfl,by repeat (first | exact Ext.refl _ | refine Ext.alloc ?_ _)⟩
theorem a0i(n:Int)(w:World):Calls Tryz.prog 159 #[.int .i64 n] w λe w'=>e=.returned (qU n 0)/\Ext w w':=by
 go_enter Tryz.func159,Tryz.ntmps159;go_wp2_with fail
 first
  | (go_ret;exact⟨rfl,by repeat (first | exact Ext.refl _ | refine Ext.alloc ?_ _)⟩)
  | exact bodyPost_ret (v:=qU n 0) (by simp [results,Tryz.results159,go_sem]) rfl ⟨rfl,by repeat (first | exact Ext.refl _ | refine Ext.alloc ?_ _)⟩
theorem GOk.set12[Inhabited uQ](h:GOk B w g x)(v:Int):GOk B (w.setCell ⟨g,12,none⟩ (iv v)) g { x with S:=v }:=by
 obtain⟨ar,kr,ac,kc,vg,br,bc,pb,pa,pk,role,h⟩:=h;exact⟨_,_,_,_,_,_,_,_,_,_,_,h.boxed (x':={ x with S:=v }) (uZ.setCell (S:=λq=>q=g) (uZ.refl _ w) (p:=⟨g,12,none⟩) rfl _) (h.nf.set _ _) rfl rfl rfl (h.bx.set12 v)⟩
theorem GOk.set2[Inhabited uQ](h:GOk B w g x)(v:Int):GOk B (w.setCell ⟨g,2,none⟩ (iv v)) g { x with born:=v }:=by
 obtain⟨ar,kr,ac,kc,vg,br,bc,pb,pa,pk,role,h⟩:=h;exact⟨_,_,_,_,_,_,_,_,_,_,_,h.boxed (x':={ x with born:=v }) (uZ.setCell (S:=λq=>q=g) (uZ.refl _ w) (p:=⟨g,2,none⟩) rfl _) (h.nf.set _ _) rfl rfl rfl (h.bx.set2 v)⟩
theorem GOk.nums[Inhabited uQ](h:GOk B w g x):w.cell? ⟨g,0,none⟩=some (iv x.M)/\w.cell? ⟨g,1,none⟩=some (iv x.K)/\w.cell? ⟨g,2,none⟩=some (iv x.born)/\w.cell? ⟨g,5,none⟩=some (iv x.E)/\w.cell? ⟨g,9,none⟩=some (iv x.per)/\w.cell? ⟨g,10,none⟩=some (iv x.V)/\w.cell? ⟨g,12,none⟩=some (iv x.S):=by
 obtain⟨ar,kr,ac,kc,vg,br,bc,pb,pa,pk,role,h⟩:=h;obtain⟨c0,c1,c2,c3,c4,c5,c6,c7,c8,c9,c10,c11,c12⟩:=h.bx;exact⟨c0,c1,c2,c5,c9,c10,c12⟩
theorem b3a[Inhabited uQ](B g:Nat)(x:Hp)(u:Nat)(w:World)(h:GOk B w g x)(s:Snd x)(hu:u<=201)(a:World)(ha:a.heap.size<=B)(hx:Ext a w):
  Calls Tryz.prog 260 #[.pointer (some ⟨g,0,none⟩),.int .i64 u] w λe w'=>∃y,e=.returned (.bool (a2j y u))/\Hid (a2t x u y)/\Hid (GOk B w' g y)/\Ext a w':=by
 have HO:=uU h;obtain⟨c0,c1,c2,c5,c9,c10,c12⟩:=h.nums;have hgw:g<w.heap.size:=h.box.2.2.2.2.2;have f12:=h.box.2.2.2.1 12;have lo:a.heap.size<=g:=Nat.le_trans ha h.box.2.2.2.2.1;have us:0<=x.K/\x.K<=4000:=by have h3:=s.r3;have h1:=s.r1.M;unfold R3 at h3;omega
 have fo:=s.r1.S;have S:=uU s;have wu:wrap64 (x.K+(u:Int))=x.K+(u:Int):=a2e _ (by omega) (by omega);clear h s;cases q:a2j x u
 ·have q1:¬(x.K+(u:Int)<=x.M):=by simpa [a2j] using q
  have Q:=uU q;clear q
  have END:=uU (show ∀(w2:World) (y:Hp),Snd y->GOk B w2 g y->(w2.cell? ⟨g,0,none⟩=some (iv y.M)/\w2.cell? ⟨g,1,none⟩=some (iv y.K)/\wrap64 (y.K+(u:Int))=y.K+(u:Int)/\g<w2.heap.size) from λw2 y sy h2=>by
   have us2:0<=y.K/\y.K<=4000:=by have h3:=sy.r3;have h1:=sy.r1.M;unfold R3 at h3;omega
   exact⟨h2.nums.1,h2.nums.2.1,a2e _ (by omega) (by omega),uL h2.nums.1⟩)
  have TAIL:=uU (show ∀(w1:World),GOk B w1 g (forceTo x)->Ext a w1->Calls Tryz.prog 88 #[.pointer (some ⟨g,0,none⟩)] w1 λe w'=>∃y,e=.returned (.tuple #[])/\Hid (a2t x u y)/\Hid (Snd y)/\Hid (GOk B w' g y)/\Ext a w' from λw1 h1 x1=>(a6i B g _ w1 h1 S.forceTo a ha x1).mono λe w2 ⟨y,z,he,hr,h2,x2⟩=>⟨z,he,.inr ⟨Q,⟨y,hr.1,hr.2⟩⟩,b4d.snd S.forceTo ⟨y,hr.1,hr.2⟩,h2,x2⟩);go_enter Tryz.func260,Tryz.ntmps260;go_wp2_with fail;go_quiet (fail);obtain⟨W,hW⟩:∃W,W=w.drewN nq:=⟨_,rfl⟩;rw[<-hW];have xW:Ext w W:=by rw[hW];exact Ext.drewN (Ext.refl w) nq
  have HW:=uU (HO.ext xW);have XW:=uU (hx.trans xW);have d12:=xW.keep c12;have g12:=((cD xW).2 g 12 hgw).trans f12;have hgw1:g<W.heap.size:=uL d12;clear hW c0 c1 c2 c5 c9 c10 c12 f12 xW;by_cases hf:x.S<1000000000
  ·have H1:=uU (show GOk B (W.setCell ⟨g,12,none⟩ (iv (x.S+1))) g (forceTo x) by
    have:=HW.set12 (x.S+1);unfold forceTo;rw[if_pos hf];exact this)
   have X1:=uU (XW.setCell (p:=⟨g,12,none⟩) lo (iv (x.S+1)));have wf:wrap64 (x.S+1)=x.S+1:=by unfold wrap64;omega
   go_wp2_with fail;refine(TAIL _ H1 X1).mono ?_;rintro e w2 ⟨y,rfl,hr,sy,h2,x2⟩;obtain⟨d0,d1,wu2,hgw2⟩:=uH END w2 y sy h2;go_wp2_with fail;go_quiet (fail);go_wp2_with fail;go_ret;exact⟨y,rfl,hr,h2.ext (Ext.drewN (Ext.refl _) _),Ext.drewN x2 _⟩
  ·have H1:=uU (show GOk B W g (forceTo x) by
    unfold forceTo;rw[if_neg hf];exact HW)
   go_wp2_with fail;refine(TAIL _ H1 XW).mono ?_;rintro e w2 ⟨y,rfl,hr,sy,h2,x2⟩;obtain⟨d0,d1,wu2,hgw2⟩:=uH END w2 y sy h2;go_wp2_with fail;go_quiet (fail);go_wp2_with fail;go_ret;exact⟨y,rfl,hr,h2.ext (Ext.drewN (Ext.refl _) _),Ext.drewN x2 _⟩
 ·have q1:x.K+(u:Int)<=x.M:=by simpa [a2j] using q
  have E:=uU q;clear q;go_enter Tryz.func260,Tryz.ntmps260;go_wp2_with fail;go_quiet (fail);go_wp2_with fail;go_ret;exact⟨x,by rw[uH E];rfl,.inl ⟨E,rfl⟩,HO.ext (Ext.drewN (Ext.refl _) _),Ext.drewN hx _⟩
theorem a8j[Inhabited uQ](B g:Nat)(x:Hp)(u:Nat)(w:World)(h:GOk B w g x)(s:Snd x)(hu:u<=201)(a:World)(ha:a.heap.size<=B)(hx:Ext a w):
  Calls Tryz.prog 261 #[.pointer (some ⟨g,0,none⟩),.int .i64 u] w λe w'=>∃y,e=.returned (.tuple #[])/\Hid (a3e x u y)/\Hid (GOk B w' g y)/\Ext a w':=by
 have HO:=uU h;obtain⟨c0,c1,c2,c5,c9,c10,c12⟩:=h.nums;have hgw:g<w.heap.size:=h.box.2.2.2.2.2;have pr:=s.r1.per;have S:=uU s;obtain⟨p,hp⟩:∃p:Nat,x.per=(p:Int):=⟨x.per.toNat,by omega⟩;have PE:=uU hp;rw[hp] at c9;have hp64:p<=64:=by omega
 have hm1:p*u<=64*201:=Nat.mul_le_mul hp64 hu;have hm2:((p:Int)*(u:Int))=((p*u:Nat):Int):=by simp
 obtain⟨m,hm⟩:∃m,m=p*u:=⟨_,rfl⟩;rw[<-hm] at hm1 hm2;have wm:wrap64 ((p:Int)*(u:Int))=(m:Int):=by rw[hm2];exact a2e _ (by omega) (by omega)
 have EM:=uU (show x.per.toNat*u=m by rw[hp,hm];simp);have PB:=uU (show a9i x u=(x.per == 0 || (u == 0 || (x.E == 0 && decide (x.K<=x.V)))) from rfl);clear h s hp hm hm2;cases q9:((p:Int) == 0)
 ·have q9p:p≠0:=by simpa using q9
  cases qu:((u:Int) == 0)
  ·have qup:u≠0:=by simpa using qu
   have M0:=uU (show m≠0 by
    have:=uH EM;rw[uH PE,Int.toNat_natCast] at this;rw[<-this];exact Nat.mul_ne_zero q9p qup)
   have PB1:=uU (show a9i x u=(x.E == 0 && decide (x.K<=x.V)) by
    rw[uH PB,uH PE,show((p:Int) == 0)=false from q9,show(u == 0)=false by simpa using qup];rfl)
   clear PB;cases q5:(x.E == 0)
   ·have F:=uU (show a9i x u=false by rw[uH PB1,q5];rfl);go_enter Tryz.func261,Tryz.ntmps261;go_wp2_with fail;refine(a8i B g x m _ HO S (by omega) a ha hx).mono ?_;rintro e w2 ⟨k,rfl,st,h2,x2⟩;have H2:=uU h2;have R:=uU (show a3e x u (itU k (stepH x m)) from .inr ⟨F,k,by rw[uH EM];exact⟨st,rfl⟩⟩);clear h2 st;go_wp2_with fail
    go_end0
    exact⟨_,rfl,R,H2,x2⟩
   ·have P0:=uU (show x.E=0 by simpa using q5);have q5':=uH P0;by_cases q1:x.K<=x.V
    ·have T:=uU (show a9i x u=true by rw[uH PB1,q5,decide_eq_true q1];rfl);rw[q5'] at c5;clear q5';go_enter Tryz.func261,Tryz.ntmps261;go_wp2_with fail;go_quiet (fail);go_wp2_with fail;refine bodyPost_ret (results_none rfl _ _ _) rfl ?_;exact⟨x,rfl,.inl ⟨T,rfl⟩,HO.ext (Ext.drewN (Ext.refl _) _),Ext.drewN hx _⟩
    ·have F:=uU (show a9i x u=false by rw[uH PB1,q5,decide_eq_false q1];rfl);have EX:=uU (show stepH x m=dN x 1 0 by unfold stepH;rw[if_pos ⟨q5',uH M0⟩]);have EX2:=uU (show stepH (dN x 1 0) m=dN x 1 0 by unfold stepH;rw[if_neg (λh=>by have:=h.1;simp [dN] at this)]);have S1:=uU (S.begin q5');rw[q5'] at c5;clear q5';go_enter Tryz.func261,Tryz.ntmps261;go_wp2_with fail;go_quiet (fail);obtain⟨W,hW⟩:∃W,W=w.drewN nq:=⟨_,rfl⟩;rw[<-hW];have xW:Ext w W:=by rw[hW];exact Ext.drewN (Ext.refl w) nq
     have HW:=uU (HO.ext xW);have XW:=uU (hx.trans xW);clear hW c0 c1 c2 c5 c9 c10 c12 hgw xW;go_wp2_with fail;refine(a4e B g x _ HW a ha XW).mono ?_;rintro e w1 ⟨rfl,h1,x1⟩;have H1:=uU h1;have d9:=h1.nums.2.2.2.2.1;rw[show(dN x 1 0).per=(p:Int) from uH PE] at d9;have hgw1:g<w1.heap.size:=uL d9;clear h1;go_wp2_with fail;refine(a8i B g (dN x 1 0) m _ H1 S1 (by omega) a ha x1).mono ?_;rintro e w2 ⟨k,rfl,st,h2,x2⟩;have H2:=uU h2;have R:=uU (show a3e x u (itU k (stepH (dN x 1 0) m)) from .inr ⟨F,k,by rw[uH EM,uH EX];have:=uH st;rw[uH EX2] at this ⊢;exact⟨this,rfl⟩⟩);clear h2 st;go_wp2_with fail
     go_end0
     exact⟨_,rfl,R,H2,x2⟩
  ·have T:=uU (show a9i x u=true by rw[uH PB,show(u == 0)=true by simpa using qu];simp);go_enter Tryz.func261,Tryz.ntmps261;go_wp2_with fail;refine bodyPost_ret (results_none rfl _ _ _) rfl ?_;exact⟨x,rfl,.inl ⟨T,rfl⟩,HO,hx⟩
 ·have T:=uU (show a9i x u=true by rw[uH PB,uH PE,show((p:Int) == 0)=true from q9];rfl);go_enter Tryz.func261,Tryz.ntmps261;go_wp2_with fail;refine bodyPost_ret (results_none rfl _ _ _) rfl ?_;exact⟨x,rfl,.inl ⟨T,rfl⟩,HO,hx⟩
def SK(c:Cl):Prop:=c.T≠1/\c.T≠3
def SV(c:Cl):Prop:=c.T≠2/\c.T≠3
def tU(x:Hp)(i:Nat):Prop:=∀P:Nat->Prop,(∀k (h:k<x.B.length),x.B[k].k=2->P (tgt x x.B[k]))->(∀i,i<x.A.length->(x.c i).U=2->P i)->
 (∀j p,P j->p<(x.c j).F.length->SK (x.c j)->((x.c j).p p).key.k=2->P (tgt x ((x.c j).p p).key))->
 (∀j p,P j->p<(x.c j).F.length->SV (x.c j)->(((x.c j).p p).key.k=2->P (tgt x ((x.c j).p p).key))->((x.c j).p p).val.k=2->P (tgt x ((x.c j).p p).val))->P i
theorem tU.reg(k:Nat)(h:k<x.B.length)(hk:x.B[k].k=2):tU x (tgt x x.B[k]):=λ_ a _ _ _=>a k h hk
theorem tU.due(i:Nat)(hi:i<x.A.length)(h:(x.c i).U=2):tU x i:=λ_ _ b _ _=>b i hi h
theorem tU.key(j p:Nat)(h:tU x j)(hp:p<(x.c j).F.length)(hs:SK (x.c j))(hk:((x.c j).p p).key.k=2):tU x (tgt x ((x.c j).p p).key):=λP a b c d=>c j p (h P a b c d) hp hs hk
theorem tU.val(j p:Nat)(h:tU x j)(hp:p<(x.c j).F.length)(hs:SV (x.c j))(hh:((x.c j).p p).key.k=2->tU x (tgt x ((x.c j).p p).key))(hk:((x.c j).p p).val.k=2):tU x (tgt x ((x.c j).p p).val):=λP a b c d=>d j p (h P a b c d) hp hs (λe=>hh e P a b c d) hk
theorem tU.reached(r2:R2 x)(h:tU x i):uY x i:=
 h (uY x) (λk h hk=>uY.reg k h hk) (λi hi hl=>uY.U i hi (a1b r2 i hi (.inr hl)) (.inr hl)) (λj p ih hp _ hk=>uY.key j p ih hp hk) (λj p ih hp _ _ hk=>uY.val j p ih hp hk)
theorem tU.good(r2:R2 x)(r4:R4 x)(h:tU x i):tK x i:=(h.reached r2).good r2 r4
def a9r(x:Hp)(L:List Int):Prop:=∀z,z∈L->∃i:Nat,z=(i:Int)/\tU x i
theorem a9r.add{L':List Int}(h:a9r x L)(a:Add x y L L')(hy:y.k=2->tU x (tgt x y)):a9r x L':=λz hz=>by
 rcases a.new hz with q | ⟨k,e⟩
 ·exact h z q
 ·exact⟨_,e,hy k⟩
def b8v(x:Hp)(k:Nat)(L:List Int):Prop:=∀i,i<k->i<x.A.length->(x.c i).U=2->(i:Int)∈L
def qK(x:Hp)(L0:List Int)(j k:Nat)(T:List Int):Prop:=∀p,p<k->(SK (x.c j)->((x.c j).p p).key.k=2->(tgt x ((x.c j).p p).key:Int)∈T)/\(SV (x.c j)->(((x.c j).p p).key.k=2->(tgt x ((x.c j).p p).key:Int)∈L0)->((x.c j).p p).val.k=2->(tgt x ((x.c j).p p).val:Int)∈T)
theorem qK.mono(h:qK x L0 j k T)(s:∀z,z∈T->z∈T'):qK x L0 j k T':=λp hp=>⟨λa e=>s _ ((h p hp).1 a e),λa b e=>s _ ((h p hp).2 a b e)⟩
def ClH(x:Hp)(L0:List Int)(c:Nat)(T:List Int):Prop:=∀q,q<c->qK x L0 (it T q).toNat (x.c (it T q).toNat).F.length T
theorem ClH.add{c:Nat}(h:ClH x L0 c T)(a:Add x y T T')(hc:c<=T.length):ClH x L0 c T':=λq hq=>by
 obtain⟨R,e⟩:=a.pre;have e2:it T' q=it T q:=by rw[e];exact a9z (by omega)
 rw[e2];exact(h q hq).mono (λz hz=>a.sub hz)
structure yH(x:Hp)(L0:List Int)(c:Nat)(T:List Int):Prop where
 o:a9r x T
 r:a3t x x.B.length T
 d:b8v x x.A.length T
 e:∃R,T=L0++R
 c:ClH x L0 c T
theorem yH.add{c:Nat}(h:yH x L0 c T)(a:Add x y T T')(hc:c<=T.length)(hy:y.k=2->tU x (tgt x y)):yH x L0 c T':=
 ⟨h.o.add a hy,λj hj hk e=>a.sub (h.r j hj hk e),λi hi hn e=>a.sub (h.d i hi hn e),by
  obtain⟨R,e⟩:=h.e;obtain⟨R',e'⟩:=a.pre;exact⟨R++R',by rw[e',e,List.append_assoc]⟩,h.c.add a hc⟩
theorem yH.step{c:Nat}(h:yH x L0 c T)(e:it T c=(j:Int))(k:qK x L0 j (x.c j).F.length T):yH x L0 (c+1) T:=
 ⟨h.o,h.r,h.d,h.e,λq hq=>by
  by_cases f:q=c
  ·subst f;rw[e];simpa using k
  ·exact h.c q (by omega)⟩
structure b8w(x:Hp)(n:Int)(L:List Int):Prop where
 o:a9r x L
 r:a3t x x.B.length L
 d:b8v x x.A.length L
 b:-1<=n/\n<=L.length
 c:n=L.length->ClH x L L.length L
theorem b8w.begin{n:Int}(h:b8w x n L):yH x L 0 L:=⟨h.o,h.r,h.d,⟨[],by simp⟩,λq hq=>by omega⟩
theorem yH.rest(h:yH x L0 T.length T):b8w x L0.length T:=by
 obtain⟨R,e⟩:=h.e;refine⟨h.o,h.r,h.d,⟨by omega,by rw[e];simp;omega⟩,λf=>?_⟩
 have:R=[]:=by
  have:(T.length:Int)=L0.length+R.length:=by rw[e];simp
  exact List.length_eq_zero_iff.1 (by omega)
 have e2:T=L0:=by rw[e,this];simp
 have:=h.c;rw[<-e2] at this;exact this
theorem b8w.done(h:b8w x L.length L)(i:Nat):(i:Int)∈L↔tU x i:=by
 constructor
 ·intro q;obtain⟨j,e,hj⟩:=h.o _ q;have:i=j:=by omega
  rw[this];exact hj
 ·intro q
  have cl:∀j:Nat,(j:Int)∈L->qK x L j (x.c j).F.length L:=λj hj=>by
   obtain⟨q,hq,e⟩:=List.getElem_of_mem hj;have:=h.c rfl q hq;rw[<-a8x L q hq,e] at this
   simpa using this
  exact q (λi=>(i:Int)∈L) (λk hk e=>h.r k hk hk e) (λi hi e=>h.d i hi hi e) (λj p ih hp hs hk=>(cl j ih p hp).1 hs hk) (λj p ih hp hs hh hk=>(cl j ih p hp).2 hs hh hk)
def tD(x:Hp)(H:Nat->Bool)(y:Wd):Bool:=(qX x y).k == 2 && !H (qX x y).a.toNat
def wkB(c:Cl):Bool:=c.T == 1 || c.T == 3
def wvB(c:Cl):Bool:=c.T == 2 || c.T == 3
def goB(x:Hp)(H:Nat->Bool)(c:Cl)(p:Pr):Bool:=(wkB c && tD x H p.key) || (wvB c && tD x H p.val)
def yV(x:Hp)(H:Nat->Bool)(c:Cl)(l:List Pr):List Pr:=l.filter (λp=>!goB x H c p)
def tW(x:Hp)(H:Nat->Bool)(c:Cl)(l:List Pr):Nat:=(l.filter (λp=>goB x H c p)).length
theorem a7m(x:Hp)(H:Nat->Bool)(c:Cl)(l:List Pr):(yV x H c l).length+tW x H c l=l.length:=by
 unfold yV tW
 induction l with
 | nil=>rfl
 | cons p l ih=>
  cases h:goB x H c p <;> simp [h] <;> omega
def dC(x:Hp):Int:=if x.E=2/\0<x.D.length then x.D.getD 0 0 else if x.E=5/\x.I<x.A.length then x.I else -1
def b4j(x:Hp)(H:Nat->Bool)(c:Cl):Cl:={ c with F:=yV x H c c.F }
def a2h(x:Hp)(H:Nat->Bool)(i:Nat)(s:Int):Int:=if dC x=(i:Int) then s-tW x H (x.c i) ((x.c i).F.take s.toNat) else s
def cE(x:Hp)(H:Nat->Bool):Nat->Hp
 | 0=>x
 | k+1=>if H k=true then { cE x H k with A:=(cE x H k).A.set k (b4j x H (x.c k)),K:=(cE x H k).K-tW x H (x.c k) (x.c k).F,sub:=a2h x H k (cE x H k).sub } else cE x H k
def a1p(x:Hp)(H:Nat->Bool):Nat->Nat
 | 0=>0
 | k+1=>if H k=true then a1p x H k+tW x H (x.c k) (x.c k).F else a1p x H k
def a7r(x:Hp)(H:Nat->Bool)(i:Nat):Bool:=!H i && (x.c i).U == 1
def b6r(c:Cl):Cl:={ c with U:=2 }
def zC(x z:Hp)(H:Nat->Bool):Nat->Hp
 | 0=>z
 | k+1=>if a7r x H k=true then { zC x z H k with A:=(zC x z H k).A.set k (b6r (x.c k)) } else zC x z H k
def a8o(x:Hp)(H:Nat->Bool):Nat->Nat
 | 0=>0
 | k+1=>if a7r x H k=true then a8o x H k+1 else a8o x H k
def a4h(x:Hp)(H:Nat->Bool):Hp:=zC x (cE x H x.A.length) H x.A.length
def stlC(x:Hp)(H:Nat->Bool)(i:Nat):Cl:=if H i=true then b4j x H (x.c i) else if (x.c i).U=1 then b6r (x.c i) else x.c i
theorem a2d(x:Hp)(H:Nat->Bool):∀k,(cE x H k).A.length=x.A.length
 | 0=>rfl
 | k+1=>by
  unfold cE
  split
  ·simp [a2d x H k]
  ·exact a2d x H k
theorem a9s(x:Hp)(H:Nat->Bool):∀k,k<=x.A.length->∀q,(cE x H k).c q=if q<k/\H q=true then b4j x H (x.c q) else x.c q
 | 0,_,q=>by rw[if_neg (by omega)];rfl
 | k+1,hk,q=>by
  have ih:=a9s x H k (by omega) q;unfold cE;by_cases h:H k=true
  ·rw[if_pos h];have:=Hp.c_set (cE x H k) k (b4j x H (x.c k)) (by rw[a2d];omega) q;have e:({ cE x H k with A:=(cE x H k).A.set k (b4j x H (x.c k)),K:=(cE x H k).K-tW x H (x.c k) (x.c k).F,sub:=a2h x H k (cE x H k).sub }:Hp).c q=({ cE x H k with A:=(cE x H k).A.set k (b4j x H (x.c k)) }:Hp).c q:=rfl;rw[e,this];by_cases eq:q=k
   ·rw[if_pos eq,eq,if_pos ⟨by omega,h⟩]
   ·rw[if_neg eq,ih];by_cases h2:q<k/\H q=true
    ·rw[if_pos h2,if_pos ⟨by omega,h2.2⟩]
    ·rw[if_neg h2,if_neg (λh3=>h2 ⟨by omega,h3.2⟩)]
  ·rw[if_neg h,ih];by_cases h2:q<k/\H q=true
   ·rw[if_pos h2,if_pos ⟨by omega,h2.2⟩]
   ·rw[if_neg h2,if_neg (λh3=>by
     by_cases eq:q=k
     ·rw[eq] at h3;exact h h3.2
     ·exact h2 ⟨by omega,h3.2⟩)]
def zJ(x:Hp)(k:Nat)(r:Int):Prop:=(r = -1/\∀i,i<k->(x.c i).U≠2)\/∃i:Nat,r=(i:Int)/\i<k/\(x.c i).U=2/\∀j,j<k->(x.c j).U=2->(x.c i).born<=(x.c j).born
def DueIs(x:Hp)(r:Int):Prop:=(eQ x 0/\zJ x x.A.length r)\/(¬eQ x 0/\r = -1)
theorem born_eq(r2:R2 x){a b:Nat}(ha:a<x.A.length)(hb:b<x.A.length)(da:(x.c a).U=2)(db:(x.c b).U=2)(e:(x.c a).born=(x.c b).born):a=b:=by
 have sa:=a1b r2 a ha (.inr da);have sb:=a1b r2 b hb (.inr db);have ta:(x.c a).to=0:=by rcases r2.1 a ha with z | z | z;omega;omega;exact z.2.2.2.2.2.2.1
 have tb:(x.c b).to=0:=by rcases r2.1 b hb with z | z | z;omega;omega;exact z.2.2.2.2.2.2.1
 rcases Nat.lt_trichotomy a b with q | q | q
 ·exact(r2.2 b hb (by omega) a q ⟨by omega,by omega,by omega⟩).elim
 ·exact q
 ·exact(r2.2 a ha (by omega) b q ⟨by omega,by omega,by omega⟩).elim
theorem DueIs.uniq{s:Int}(h:DueIs x r)(k:DueIs x s):r=s:=by
 rcases h with⟨h,p⟩ | ⟨h,e⟩ <;> rcases k with⟨k,q⟩ | ⟨k,f⟩
 ·rcases p with⟨p,n⟩ | ⟨i,p,hi,di,mi⟩ <;> rcases q with⟨q,m⟩ | ⟨j,q,hj,dj,mj⟩
  ·omega
  ·exact(n j hj dj).elim
  ·exact(m i hi di).elim
  ·have:=mi j hj dj;have:=mj i hi di;have:=born_eq h.all.2.1 hi hj di dj (by omega);omega
 ·exact(k h).elim
 ·exact(h k).elim
 ·omega
theorem zJ.no(h:zJ x k r)(hk:(x.c k).U≠2):zJ x (k+1) r:=by
 rcases h with⟨h,n⟩ | ⟨i,h,hi,di,mi⟩
 ·exact .inl ⟨h,λj hj=>by rcases (by omega:j<k\/j=k) with q | q;exact n j q;subst q;exact hk⟩
 ·exact .inr ⟨i,h,by omega,di,λj hj dj=>by rcases (by omega:j<k\/j=k) with q | q;exact mi j q dj;subst q;exact(hk dj).elim⟩
theorem zJ.first(h:zJ x k (-1))(hk:(x.c k).U=2):zJ x (k+1) k:=by
 rcases h with⟨h,n⟩ | ⟨i,h,hi,di,mi⟩
 ·exact .inr ⟨k,rfl,by omega,hk,λj hj dj=>by rcases (by omega:j<k\/j=k) with q | q;exact(n j q dj).elim;subst q;omega⟩
 ·omega
theorem zJ.less(h:zJ x k i)(hk:(x.c k).U=2)(hl:(x.c k).born<(x.c i).born):zJ x (k+1) k:=by
 rcases h with⟨h,n⟩ | ⟨i',h,hi,di,mi⟩
 ·omega
 ·obtain rfl:i'=i:=by omega
  exact .inr ⟨k,rfl,by omega,hk,λj hj dj=>by rcases (by omega:j<k\/j=k) with q | q;have:=mi j q dj;omega;subst q;omega⟩
theorem zJ.more(h:zJ x k i)(hl:(x.c i).born<=(x.c k).born):zJ x (k+1) i:=by
 rcases h with⟨h,n⟩ | ⟨i',h,hi,di,mi⟩
 ·omega
 ·obtain rfl:i'=i:=by omega
  exact .inr ⟨i',rfl,by omega,di,λj hj dj=>by rcases (by omega:j<k\/j=k) with q | q;exact mi j q dj;subst q;exact hl⟩
theorem zJ.form(h:zJ x k r):r = -1\/∃i:Nat,r=(i:Int)/\i<k:=by
 rcases h with⟨h,_⟩ | ⟨i,h,hi,_⟩
 ·exact .inl h
 ·exact .inr ⟨i,h,hi⟩
end Go.Proofs.YtddkhnclmeikfaaGreat
