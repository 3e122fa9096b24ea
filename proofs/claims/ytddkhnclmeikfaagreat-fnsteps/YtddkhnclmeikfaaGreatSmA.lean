import Derived.Test.YtddkhnclmeikfaaGreatLys
import Derived.Deep.LoopGhost
set_option maxRecDepth 100000
set_option maxHeartbeats 4000000
namespace Go.Proofs.YtddkhnclmeikfaaGreat
open Go.RowKit
attribute [local go_sem ↓] Go.wp_at_zero Go.wp_at_succ
variable{x y z:Hp}{k n j:Nat}
abbrev b3f(x:Hp)(k:Nat)(vr vc vg:Value):Value:=.agg #[iv x.room,iv x.used,iv x.born,vr,vc,iv x.phase,iv x.hand,iv x.sub,vg,iv x.per,iv x.start,iv x.rounds,iv x.forced,iv k]
def StOk(x:Hp)(n:Int):Prop:=eJ x 0/\0<=n/\n<=100000
def tK(x:Hp)(n:Int)(y:Hp)(k:Nat):Prop:=(StOk x n/\a2n (stepH x n.toNat) n.toNat k/\y=itU k (stepH x n.toNat))\/(¬StOk x n/\y=Hp0/\k=0)
theorem tK.uniq{n:Int}(h:tK x n y j)(g:tK x n z k):y=z/\j=k:=by
 rcases h with⟨h1,h2,h3⟩ | ⟨h1,h2,h3⟩ <;> rcases g with⟨k1,k2,k3⟩ | ⟨k1,k2,k3⟩
 ·have e:=h2.uniq k2;exact⟨by rw[h3,k3,e],e⟩
 ·exact(k1 h1).elim
 ·exact(h1 k1).elim
 ·exact⟨by rw[h2,k2],by rw[h3,k3]⟩
theorem b5d(x:Hp)(at_:Int)(w:World){ar:Option Addr}{kr:Nat}{ac:Option Addr}{kc:Nat}{ag:Option Addr}{kg:Nat}(hR:SlW w (.slice ar x.regs.length kr) x.regs)(hC:SlC w (.slice ac x.cells.length kc) x.cells)(hG:SlI w (.slice ag x.gray.length kg) x.gray):
  Calls Tryz.prog 33 #[x.v (.slice ar x.regs.length kr) (.slice ac x.cells.length kc) (.slice ag x.gray.length kg),.int .i64 at_] w λe w'=>∃(y:Hp) (k:Nat) (ar:Option Addr) (kr:Nat) (ac:Option Addr) (kc:Nat) (ag:Option Addr) (kg:Nat),Hid (e=.returned (b3f y k (.slice ar y.regs.length kr) (.slice ac y.cells.length kc) (.slice ag y.gray.length kg)))/\Hid (tK x at_ y k)/\Hid (HRd w' y ar kr ac kc ag kg)/\Ext w w':=by
 obtain⟨pin,HZ⟩:∃i:Inhabited uN,Hid (∀q,(@default uN i).z q=none):=⟨⟨⟨λ_=>none⟩⟩,λ_=>rfl⟩;have x1:Ext w ((w.alloc (.cells #[iv x.room,iv x.used,iv x.born,.slice ar x.regs.length kr,.slice ac x.cells.length kc,iv x.phase,iv x.hand,iv x.sub,.slice ag x.gray.length kg,iv x.per,iv x.start,iv x.rounds,iv x.forced] 34)).alloc (.cells #[iv 0,iv 0,iv 0,.slice none 0 0,.slice none 0 0,iv 0,iv 0,iv 0,.slice none 0 0,iv 0,iv 0,iv 0,iv 0,iv 0] 56)):=((Ext.refl w).alloc _).alloc _;have S1:=uU (SlW.ext x1 hR);have S2:=uU (SlC.ext x1 hC);have S3:=uU (SlI.ext x1 hG);have HB:=uU ((dW.new w x (.slice ar x.regs.length kr) (.slice ac x.cells.length kc) (.slice ag x.gray.length kg) 34).ext ((Ext.refl _).alloc (.cells #[iv 0,iv 0,iv 0,.slice none 0 0,.slice none 0 0,iv 0,iv 0,iv 0,.slice none 0 0,iv 0,iv 0,iv 0,iv 0,iv 0] 56)));have hs2:((w.alloc (.cells #[iv x.room,iv x.used,iv x.born,.slice ar x.regs.length kr,.slice ac x.cells.length kc,iv x.phase,iv x.hand,iv x.sub,.slice ag x.gray.length kg,iv x.per,iv x.start,iv x.rounds,iv x.forced] 34)).alloc (.cells #[iv 0,iv 0,iv 0,.slice none 0 0,.slice none 0 0,iv 0,iv 0,iv 0,.slice none 0 0,iv 0,iv 0,iv 0,iv 0,iv 0] 56)).heap.size=w.heap.size+2:=by simp
 clear hR hC hG;go_enter Tryz.func33,Tryz.ntmps33;go_wp2_with fail;refine(a5u x _ S1 S2 S3).mono ?_;rintro e w2 ⟨n,rfl,hok2,hq⟩;have x2:=x1.trans hq;have OK2:=uU hok2;have B2:=uU (HB.ext hq);have RC:=uU (show ∀o v,((w.alloc (.cells #[iv x.room,iv x.used,iv x.born,.slice ar x.regs.length kr,.slice ac x.cells.length kc,iv x.phase,iv x.hand,iv x.sub,.slice ag x.gray.length kg,iv x.per,iv x.start,iv x.rounds,iv x.forced] 34)).alloc (.cells #[iv 0,iv 0,iv 0,.slice none 0 0,.slice none 0 0,iv 0,iv 0,iv 0,.slice none 0 0,iv 0,iv 0,iv 0,iv 0,iv 0] 56)).cell? ⟨w.heap.size+1,o,none⟩=some v->w2.cell? ⟨w.heap.size+1,o,none⟩=some v from λo v h=>hq.keep h);have RCF:=uU (show ∀o,w2.frozen? ⟨w.heap.size+1,o,none⟩=false from λo=>((cZ hq).2 (w.heap.size+1) o (by rw[hs2];omega)).trans (by simp [go_sem]));have hz2:w.heap.size+2<=w2.heap.size:=by have:=hq.size;omega
 have Q1:=uU (show SlW w2 (.slice ar x.regs.length kr) x.regs/\SlC w2 (.slice ac x.cells.length kc) x.cells/\SlI w2 (.slice ag x.gray.length kg) x.gray from⟨SlW.ext hq S1,SlC.ext hq S2,SlI.ext hq S3⟩);have rc:=uH RC;have rcF:=uH RCF;have r0:=rc 0 (iv 0) (by simp [go_sem]);have r1:=rc 1 (iv 0) (by simp [go_sem]);have r2:=rc 2 (iv 0) (by simp [go_sem]);have r3:=rc 3 (.slice none 0 0) (by simp [go_sem]);have r4:=rc 4 (.slice none 0 0) (by simp [go_sem]);have r5:=rc 5 (iv 0) (by simp [go_sem]);have r6:=rc 6 (iv 0) (by simp [go_sem]);have r7:=rc 7 (iv 0) (by simp [go_sem]);have r8:=rc 8 (.slice none 0 0) (by simp [go_sem]);have r9:=rc 9 (iv 0) (by simp [go_sem]);have r10:=rc 10 (iv 0) (by simp [go_sem]);have r11:=rc 11 (iv 0) (by simp [go_sem]);have r12:=rc 12 (iv 0) (by simp [go_sem]);have r13:=rc 13 (iv 0) (by simp [go_sem]);have f0:=rcF 0;have f1:=rcF 1;have f2:=rcF 2;have f3:=rcF 3;have f4:=rcF 4;have f5:=rcF 5;have f6:=rcF 6;have f7:=rcF 7;have f8:=rcF 8;have f9:=rcF 9;have f10:=rcF 10;have f11:=rcF 11;have f12:=rcF 12;have f13:=rcF 13;have hr0:w.heap.size+1<w2.heap.size:=uL r0;clear hok2 hq rc rcF;cases t:(n == 0)
 ·have t2:(n != 0)=true:=by simpa using t
  have N:=uU (show tK x at_ Hp0 0 from .inr ⟨λh=>by have:=eJ.uniq h.1 OK2;simp at t;omega,rfl,rfl⟩);go_wp2_with fail;refine bodyPost_ret (v:=b3f Hp0 0 (.slice none 0 0) (.slice none 0 0) (.slice none 0 0)) (by simp [results,Tryz.results33,go_sem,Hp0,r0,r1,r2,r3,r4,r5,r6,r7,r8,r9,r10,r11,r12,r13]) rfl ⟨Hp0,0,none,0,none,0,none,0,rfl,N,HRd.zero _,?_⟩;refine(λ(F:uX (λq=>q=w.heap.size+1) w2 _)=>F.ext x2 (λq hq e=>by omega)) ?_
  repeat (first | refine uX.setCell ?_ (by simp) _ | exact uX.refl _ _)
 ·have t2:(n != 0)=false:=by simpa using t
  have Y:=uU (show eJ x 0 by have:=uH OK2;simp at t;rw[t] at this;exact this);have b4:=B2.2.2.2.2.1;have hb0:w.heap.size<w2.heap.size:=uL b4;by_cases ha0:at_<0
  ·have N:=uU (show tK x at_ Hp0 0 from .inr ⟨λh=>by have:=h.2.1;omega,rfl,rfl⟩);go_wp2_with fail;refine bodyPost_ret (v:=b3f Hp0 0 (.slice none 0 0) (.slice none 0 0) (.slice none 0 0)) (by simp [results,Tryz.results33,go_sem,Hp0,r0,r1,r2,r3,r4,r5,r6,r7,r8,r9,r10,r11,r12,r13]) rfl ⟨Hp0,0,none,0,none,0,none,0,rfl,N,HRd.zero _,?_⟩;refine(λ(F:uX (λq=>q=w.heap.size+1) w2 _)=>F.ext x2 (λq hq e=>by omega)) ?_
   repeat (first | refine uX.setCell ?_ (by simp) _ | exact uX.refl _ _)
  ·by_cases ha1:at_<=100000
   ·obtain⟨i,hi⟩:∃i:Nat,at_=(i:Int):=⟨at_.toNat,by omega⟩;subst hi;have i0:(0:Int)<=(i:Int):=by omega
    have ngt:¬((i:Int) > 100000):=by omega
    obtain⟨b0,b1,b2,b3,b4',b5,b6,b7,b8,b9,b10,b11,b12⟩:=B2;obtain⟨R1x,R2x,_,_⟩:=Y.all;have hg4:=(a2v Y).1;have n8:=Y.n8;have hrg:0<x.regs.length/\x.regs.length<=100:=by rw[R1x.regs];omega
    have P2:=uU Y.p200;clear b4' R1x R2x;go_wp2_with fail;refine(b1k HZ x _ Q1.1 Q1.2.1 Q1.2.2 hrg.1 hrg.2 n8 P2 (by omega)).mono ?_;rintro e w3 ⟨g,rfl,hg,q3⟩;obtain⟨ar3,kr3,ac3,kc3,vg3,br,bc,pb,pa,pk,role,hG3⟩:=uH hg;obtain⟨ag3,kg3,hvg⟩:∃a k,vg3=.slice a x.gray.length k:=hG3.gr.form;subst hvg;have G3:=uU hG3;clear hg hG3 b0 b1 b2 b3 b5 b6 b7 b8 b9 b10 b11 b12 b4;go_wp2_with fail;refine(a5d w2.heap.size g x i _ ⟨_,_,_,_,_,_,_,_,_,_,_,G3⟩ (eJ.snd Y) (by omega) w2 (Nat.le_refl _) q3).mono ?_;rintro e w4 ⟨k,rfl,st4,h4,x4⟩;obtain⟨y,hy⟩:∃y,y=itU k (stepH x i):=⟨_,rfl⟩;have IS:=uU (show tK x (i:Int) y k from .inl ⟨⟨Y,by omega,by omega⟩,st4,hy⟩);have SY:=uU (show Snd y by rw[hy];exact((eJ.snd Y).stepH i).itU k);rw[<-hy] at h4;obtain⟨ar3,kr3,ac3,kc3,vg4,br,bc,pb,pa,pk,role4,hG4⟩:=h4;obtain⟨ag4,kg4,hvg⟩:∃a k,vg4=.slice a y.gray.length k:=hG4.gr.form;subst hvg;have RD:=uU (show ∀W,uX (λq=>q=w.heap.size+1) w4 W->HRd W y ar3 kr3 ac3 kc3 ag4 kg4 from λW o=>(GAt.low HZ hG4 o (λq e=>by omega)).rd (by rw[SY.r1.regs];omega) (by have:=SY.ok.n8;omega) (λq hq=>SY.ok.p200 q hq) (by have:=SY.r1.gray;have:=SY.ok.n8;omega));obtain⟨d0,d1,d2,d3,d4,d5,d6,d7,d8,d9,d10,d11,d12⟩:=hG4.bx;have X4:=x2.trans x4;have hgw:w2.heap.size<=g:=hG4.lo;have hg4s:g<w4.heap.size:=uL d0;have ng:¬g=w.heap.size+1:=by omega
    have ng2:¬w.heap.size+1=g:=by omega
    have e0:=x4.keep r0;have e1:=x4.keep r1;have e2:=x4.keep r2;have e3:=x4.keep r3;have e4:=x4.keep r4;have e5:=x4.keep r5;have e6:=x4.keep r6;have e7:=x4.keep r7;have e8:=x4.keep r8;have e9:=x4.keep r9;have e10:=x4.keep r10;have e11:=x4.keep r11;have e12:=x4.keep r12;have e13:=x4.keep r13;have g0:=((cZ x4).2 (w.heap.size+1) 0 hr0).trans f0;have g1:=((cZ x4).2 (w.heap.size+1) 1 hr0).trans f1;have g2:=((cZ x4).2 (w.heap.size+1) 2 hr0).trans f2;have g3:=((cZ x4).2 (w.heap.size+1) 3 hr0).trans f3;have g4:=((cZ x4).2 (w.heap.size+1) 4 hr0).trans f4;have g5:=((cZ x4).2 (w.heap.size+1) 5 hr0).trans f5;have g6:=((cZ x4).2 (w.heap.size+1) 6 hr0).trans f6;have g7:=((cZ x4).2 (w.heap.size+1) 7 hr0).trans f7;have g8:=((cZ x4).2 (w.heap.size+1) 8 hr0).trans f8;have g9:=((cZ x4).2 (w.heap.size+1) 9 hr0).trans f9;have g10:=((cZ x4).2 (w.heap.size+1) 10 hr0).trans f10;have g11:=((cZ x4).2 (w.heap.size+1) 11 hr0).trans f11;have g12:=((cZ x4).2 (w.heap.size+1) 12 hr0).trans f12;have g13:=((cZ x4).2 (w.heap.size+1) 13 hr0).trans f13;have hr4:w.heap.size+1<w4.heap.size:=uL e0;clear hG4 hy r0 r1 r2 r3 r4 r5 r6 r7 r8 r9 r10 r11 r12 r13 f0 f1 f2 f3 f4 f5 f6 f7 f8 f9 f10 f11 f12 f13;go_wp2_with fail;refine bodyPost_ret (v:=b3f y k (.slice ar3 y.regs.length kr3) (.slice ac3 y.cells.length kc3) (.slice ag4 y.gray.length kg4)) (by simp [results,Tryz.results33,go_sem,e0,e1,e2,e3,e4,e5,e6,e7,e8,e9,e10,e11,e12,e13]) rfl ⟨y,k,ar3,kr3,ac3,kc3,ag4,kg4,rfl,IS,?_⟩;refine(λ(F:uX (λq=>q=w.heap.size+1) w4 _)=>⟨uH RD _ F,F.ext X4 (λq hq e=>by omega)⟩) ?_
    repeat (first | refine uX.setCell ?_ (by simp) _ | exact uX.refl _ _)
   ·have ha2:at_ > 100000:=by omega
    have N:=uU (show tK x at_ Hp0 0 from .inr ⟨λh=>by have:=h.2.2;omega,rfl,rfl⟩);go_wp2_with fail;refine bodyPost_ret (v:=b3f Hp0 0 (.slice none 0 0) (.slice none 0 0) (.slice none 0 0)) (by simp [results,Tryz.results33,go_sem,Hp0,r0,r1,r2,r3,r4,r5,r6,r7,r8,r9,r10,r11,r12,r13]) rfl ⟨Hp0,0,none,0,none,0,none,0,rfl,N,HRd.zero _,?_⟩;refine(λ(F:uX (λq=>q=w.heap.size+1) w2 _)=>F.ext x2 (λq hq e=>by omega)) ?_
    repeat (first | refine uX.setCell ?_ (by simp) _ | exact uX.refl _ _)
theorem a9p[Inhabited uN](B g:Nat)(x:Hp)(w:World)(h:GOk B w g x)(s:Snd x)(a:World)(ha:a.heap.size<=B)(hx:Ext a w):
  Calls Tryz.prog 86 #[.pointer (some ⟨g,0,none⟩)] w λe w'=>∃k:Nat,e=.returned (.int .i64 k)/\Hid (a8n x k)/\GOk B w' g (itU k x)/\Ext a w':=by
 have HS:=uU h;have S:=uU s;have XS:=hx;clear h s;go_enter Tryz.func86,Tryz.ntmps86;go_wp2_with fail
 go_loopg [3] (14000000) (λgk d wr=>∃k:Nat,d=.int .i64 k/\Hid (yL x k)/\Hid (mu (itU k x)<=gk)/\Hid (GOk B wr g (itU k x))/\Ext a wr)
 case atStart=>exact⟨0,rfl,yL.zero _,S.mu_le,HS,XS⟩
 case round=>
  clear HS XS;obtain⟨k,rfl,hr,hm,hG,hxr⟩:=hrel;obtain⟨_,_,c5,_,_,hgw⟩:=hG.box;have kl:=hr.le S;cases q:((itU k x).phase == 0)
  ·have qb:((itU k x).phase != 0)=true:=by simpa using q
   have QP:=uU (show(itU k x).phase≠0 by simpa using q);go_wp2_with fail;refine(a5c B g _ _ hG (S.itU k) QP a ha hxr).mono ?_;rintro e w3 ⟨rfl,h3,x3⟩;have H3:=uU h3;have R3:=uU (hr.succ QP);have M3:=uU (show mu (itU (k+1) x)<mu (itU k x) from(S.itU k).less QP);have wk:wrap64 ((k:Int)+1)=(k:Int)+1:=by unfold wrap64;omega
   clear h3 c5 hgw;go_wp2_with fail
   go_roundg (mu (itU (k+1) x))
   case measure=>have:=uH M3;have:=uH hm;omega
   case rel=>exact⟨k+1,by go_num,R3,Nat.le_refl _,H3,x3⟩
  ·have qb:((itU k x).phase != 0)=false:=by simpa using q
   have QP:=uU (show(itU k x).phase=0 by simpa using q);go_wp2_with fail;go_ret;exact⟨k,rfl,⟨QP,hr⟩,hG,hxr⟩
theorem b0o[Inhabited uN](B g:Nat)(x:Hp)(w:World)(h:GOk B w g x)(s:Snd x)(a:World)(ha:a.heap.size<=B)(hx:Ext a w):
  Calls Tryz.prog 88 #[.pointer (some ⟨g,0,none⟩)] w λe w'=>∃y z,e=.returned (.tuple #[])/\Hid (b4x x y/\b4x (dD y 1 0) z)/\GOk B w' g z/\Ext a w':=by
 have HO:=uU h;have S:=uU s;clear h s;go_enter Tryz.func88,Tryz.ntmps88;go_wp2_with fail;refine(a9p B g x _ HO S a ha hx).mono ?_;rintro e w1 ⟨k,rfl,he,h1,x1⟩;obtain⟨y,hy⟩:∃y,y=itU k x:=⟨_,rfl⟩;rw[<-hy] at h1;have EY:=uU (show b4x x y from⟨k,he,hy⟩);have H1:=uU h1;clear h1 he hy;go_wp2_with fail;refine(a3y B g y _ H1 a ha x1).mono ?_;rintro e w2 ⟨rfl,h2,x2⟩;have H2:=uU h2;clear h2;go_wp2_with fail;refine(a9p B g _ _ H2 ((EY.snd S).1.begin (EY.snd S).2) a ha x2).mono ?_;rintro e w3 ⟨k2,rfl,he,h3,x3⟩;have EZ:=uU (show b4x (dD y 1 0) (itU k2 (dD y 1 0)) from⟨k2,he,rfl⟩);have H3:=uU h3;clear h3 he;go_wp2_with fail
 go_end0
 exact⟨y,_,rfl,⟨EY,EZ⟩,H3,x3⟩
def a5p(x:Hp)(n:Nat):Prop:=(eJ x 0/\a8n x n)\/(¬eJ x 0/\n=0)
theorem a5p.uniq(h:a5p x j)(g:a5p x k):j=k:=by
 rcases h with⟨h1,h2⟩ | ⟨h1,h2⟩ <;> rcases g with⟨k1,k2⟩ | ⟨k1,k2⟩
 ·exact h2.uniq k2
 ·exact(k1 h1).elim
 ·exact(h1 k1).elim
 ·omega
theorem a8r(x:Hp)(a:Nat):∀k,itU (a+k) x=itU k (itU a x)
 | 0=>rfl
 | k+1=>by
  show dK (itU (a+k) x)=dK (itU k (itU a x));rw[a8r x a k]
theorem tK.at{n:Int}(h:tK x n y k)(s:Snd x)(h0:0<=n)(h1:n<=100000):a2n (stepH x n.toNat) n.toNat k/\y=itU k (stepH x n.toNat):=by
 rcases h with⟨_,h2,h3⟩ | ⟨h2,_,_⟩
 ·exact⟨h2,h3⟩
 ·exact(h2 ⟨s.ok,h0,h1⟩).elim
theorem tK.snd{n:Int}(h:tK x n y k)(s:Snd x)(h0:0<=n)(h1:n<=100000):Snd y:=by
 rw[(h.at s h0 h1).2];exact(s.stepH _).itU k
theorem tK.le{n:Int}(h:tK x n y k)(s:Snd x)(h0:0<=n)(h1:n<=100000):(k:Int)<=n/\((k:Int)<n->y.phase=0):=by
 obtain⟨⟨_,h2,h3⟩,h4⟩:=h.at s h0 h1;refine⟨by omega,λe=>?_⟩;rcases h3 with h3 | h3
 ·omega
 ·rw[h4];exact h3
theorem a8s(h:x.phase≠0):stepH x n=x:=by unfold stepH;rw[if_neg (λe=>h e.1)]
theorem a7u(x:Hp):stepH x 0=x:=by unfold stepH;rw[if_neg (λe=>e.2 rfl)]
theorem c2g{a b:Nat}(ha:0<a)(hb:0<b):stepH x a=stepH x b:=by
 unfold stepH;by_cases h:x.phase=0
 ·rw[if_pos ⟨h,by omega⟩,if_pos ⟨h,by omega⟩]
 ·rw[if_neg (λe=>h e.1),if_neg (λe=>h e.1)]
theorem tK.add{z':Hp}{a b:Int}{k2 k3:Nat}{k1:Nat}(s:Snd x)(a0:0<=a)(a1:a<=255)(b0:0<=b)(b1:b<=255)(h:tK x a y k1)(e1:(k1:Int)=a)(hp:y.phase≠0)(h2:tK y b z k2)(h3:tK x (a+b) z' k3):z'=z/\(k3:Int)=a+k2:=by
 have sy:=h.snd s a0 (by omega);obtain⟨i1,j1⟩:=h.at s a0 (by omega);obtain⟨i2,j2⟩:=h2.at sy b0 (by omega);obtain⟨i3,j3⟩:=h3.at s (by omega) (by omega);rw[a8s hp] at i2 j2
 have e:stepH x (a+b).toNat=stepH x a.toNat\/(k1=0/\stepH x a.toNat=x/\stepH x (a+b).toNat=x):=by
  by_cases ha:0<a
  ·exact .inl (c2g (by omega) (by omega))
  ·refine .inr ⟨by omega,?_,?_⟩
   ·rw[show a.toNat=0 by omega];exact a7u x
   ·refine a8s ?_;have:k1=0:=by omega
    rw[this,show a.toNat=0 by omega,a7u] at j1;rw[<-(show y=x from j1)];exact hp
 have e2:stepH x (a+b).toNat=stepH x a.toNat:=by
  rcases e with e | ⟨_,e,f⟩
  ·exact e
  ·rw[e,f]
 rw[e2] at i3 j3;obtain⟨t,ht⟩:∃t,t=stepH x a.toNat:=⟨_,rfl⟩;rw[<-ht] at i1 j1 i3 j3
 have key:a2n t (a+b).toNat (k1+k2):=by
  refine⟨λj hj=>?_,by have:=i2.2.1;omega,?_⟩
  ·by_cases hl:j<k1
   ·exact i1.1 j hl
   ·obtain⟨i,rfl⟩:∃i,j=k1+i:=⟨j-k1,by omega⟩;rw[a8r,<-j1];exact i2.1 i (by omega)
  ·rcases i2.2.2 with e | e
   ·exact .inl (by omega)
   ·exact .inr (by rw[a8r,<-j1];exact e)
 have e3:=i3.uniq key;refine⟨?_,by omega⟩;rw[j3,e3,a8r,<-j1,<-j2]
theorem a5p.at(h:a5p x n)(s:Snd x):a8n x n:=by
 rcases h with⟨_,h⟩ | ⟨h,_⟩
 ·exact h
 ·exact(h s.ok).elim
theorem a5p.zero(h:a5p x n)(s:Snd x):n=0↔x.phase=0:=by
 obtain⟨h1,h2⟩:=h.at s;constructor
 ·intro e;subst e;exact h1
 ·intro e;rcases Nat.eq_zero_or_pos n with z | z
  ·exact z
  ·exact(h2 0 z e).elim
theorem a5p.all(h:a5p x n)(s:Snd x)(hn:n<=100000)(h2:tK x n y k):y.phase=0:=by
 obtain⟨h1,h3⟩:=h.at s;obtain⟨i,j⟩:=h2.at s (by omega) (by omega);rw[Int.toNat_natCast] at i j;rcases Nat.eq_zero_or_pos n with z | z
 ·subst z;rw[a7u] at i j;have:k=0:=by have:=i.2.1;omega
  subst this;rw[j];exact h1
 ·rw[a8s (show x.phase≠0 from h3 0 z)] at i j;have:=i.uniq ⟨h3,Nat.le_refl n,.inl rfl⟩;rw[j,this];exact h1
theorem a5p.less(h:a5p x n)(s:Snd x)(hn:n<=100000)(h1:1<n)(h2:tK x ((n:Int)-1) y k):y.phase≠0:=by
 obtain⟨_,h3⟩:=h.at s;obtain⟨i,j⟩:=h2.at s (by omega) (by omega);rw[show((n:Int)-1).toNat=n-1 by omega,a8s (show x.phase≠0 from h3 0 (by omega))] at i j;have:=i.uniq ⟨λq hq=>h3 q (by omega),Nat.le_refl (n-1),.inl rfl⟩;rw[j,this];exact h3 (n-1) (by omega)
end Go.Proofs.YtddkhnclmeikfaaGreat
