import Derived.Test.YtddkhnclmeikfaaGreatSpecL
import Derived.Test.YtddkhnclmeikfaaGreatVg
set_option maxRecDepth 100000
set_option maxHeartbeats 4000000
namespace Go.Proofs.YtddkhnclmeikfaaGreat
open Go.RowKit
attribute [local go_sem ↓] Go.wp_at_zero Go.wp_at_succ
variable{x:Hp}{w w':World}{g kr kc B br bc k b i:Nat}{ar ac:Option Addr}{vg:Value}{pb pk role:Nat->Nat}{pa:Nat->Option Addr}{r:Int}
abbrev setV(x:Hp)(g d:Nat)(vr vc vg:Value):Value:=.agg #[iv x.room,iv x.used,iv x.born,vr,vc,iv x.phase,iv x.hand,iv x.sub,vg,iv x.per,iv x.start,iv x.rounds,iv x.forced,iv g,iv d]
def b3s(x y:Hp)(g d:Nat):Prop:=(eU x 0/\∃H:Nat->Bool,(∀i,H i=true↔dK x i)/\y=dD x H/\g=eC x H x.cells.length/\d=tQ x H x.cells.length)\/(¬eU x 0/\y=Hp0/\g=0/\d=0)
theorem b3s.uniq{y z:Hp}{d g' d':Nat}(h:b3s x y g d)(k:b3s x z g' d'):y=z/\g=g'/\d=d':=by
 rcases h with⟨h1,H,h2,h3,h4,h5⟩ | ⟨h1,h2,h3,h4⟩ <;> rcases k with⟨k1,G,k2,k3,k4,k5⟩ | ⟨k1,k2,k3,k4⟩
 ·have e:=c5i h2 k2;subst e;exact⟨by rw[h3,k3],by rw[h4,k4],by rw[h5,k5]⟩
 ·exact(k1 h1).elim
 ·exact(h1 k1).elim
 ·exact⟨by rw[h2,k2],by rw[h3,k3],by rw[h4,k4]⟩
theorem b3t(x:Hp)(H:Nat->Bool):(dD x H).regs=x.regs/\(dD x H).gray=x.gray/\(dD x H).cells.length=x.cells.length/\∀q,q<x.cells.length->((dD x H).c q).prs.length<=(x.c q).prs.length:=by
 rw[<-a5b];have r:=a2v x H x.cells.length;refine⟨r.2.2.1,r.2.2.2.2.2.1,a2c x H _,λq hq=>?_⟩;rw[a7b x H _ (Nat.le_refl _) q,if_pos hq];unfold b3c
 split
 ·have:=a1z x H (x.c q) (x.c q).prs;show(yX x H (x.c q) (x.c q).prs).length<=_;omega
 ·split <;> exact Nat.le_refl _
theorem b3u(x:Hp)(w:World){ag:Option Addr}{kg:Nat}(hR:SlW w (.slice ar x.regs.length kr) x.regs)(hC:SlC w (.slice ac x.cells.length kc) x.cells)(hG:SlI w (.slice ag x.gray.length kg) x.gray):
  Calls Tryz.prog 41 #[x.v (.slice ar x.regs.length kr) (.slice ac x.cells.length kc) (.slice ag x.gray.length kg)] w λe w'=>∃(y:Hp) (g d:Nat) (ar:Option Addr) (kr:Nat) (ac:Option Addr) (kc:Nat) (ag:Option Addr) (kg:Nat),Hid (e=.returned (setV y g d (.slice ar y.regs.length kr) (.slice ac y.cells.length kc) (.slice ag y.gray.length kg)))/\Hid (b3s x y g d)/\Hid (HRd w' y ar kr ac kc ag kg)/\Ext w w':=by
 obtain⟨pin,HZ⟩:∃i:Inhabited uZ,Hid (∀q,(@default uZ i).z q=none):=⟨⟨⟨λ_=>none⟩⟩,λ_=>rfl⟩;have x1:Ext w ((w.alloc (.cells #[iv x.room,iv x.used,iv x.born,.slice ar x.regs.length kr,.slice ac x.cells.length kc,iv x.phase,iv x.hand,iv x.sub,.slice ag x.gray.length kg,iv x.per,iv x.start,iv x.rounds,iv x.forced] 34)).alloc (.cells #[iv 0,iv 0,iv 0,.slice none 0 0,.slice none 0 0,iv 0,iv 0,iv 0,.slice none 0 0,iv 0,iv 0,iv 0,iv 0,iv 0,iv 0] 69)):=((Ext.refl w).alloc _).alloc _;have S1:=uU (SlW.ext x1 hR);have S2:=uU (SlC.ext x1 hC);have S3:=uU (SlI.ext x1 hG);have HB:=uU ((dY.new w x (.slice ar x.regs.length kr) (.slice ac x.cells.length kc) (.slice ag x.gray.length kg) 34).ext ((Ext.refl _).alloc (.cells #[iv 0,iv 0,iv 0,.slice none 0 0,.slice none 0 0,iv 0,iv 0,iv 0,.slice none 0 0,iv 0,iv 0,iv 0,iv 0,iv 0,iv 0] 69)));have hs2:((w.alloc (.cells #[iv x.room,iv x.used,iv x.born,.slice ar x.regs.length kr,.slice ac x.cells.length kc,iv x.phase,iv x.hand,iv x.sub,.slice ag x.gray.length kg,iv x.per,iv x.start,iv x.rounds,iv x.forced] 34)).alloc (.cells #[iv 0,iv 0,iv 0,.slice none 0 0,.slice none 0 0,iv 0,iv 0,iv 0,.slice none 0 0,iv 0,iv 0,iv 0,iv 0,iv 0,iv 0] 69)).heap.size=w.heap.size+2:=by simp
 clear hR hC hG;go_enter Tryz.func41,Tryz.ntmps41;go_wp2_with fail;refine(a7a x _ S1 S2 S3).mono ?_;rintro e w2 ⟨n,rfl,hok2,hq⟩;have x2:=x1.trans hq;have OK2:=uU hok2;have B2:=uU (HB.ext hq);have RC:=uU (show ∀o v,((w.alloc (.cells #[iv x.room,iv x.used,iv x.born,.slice ar x.regs.length kr,.slice ac x.cells.length kc,iv x.phase,iv x.hand,iv x.sub,.slice ag x.gray.length kg,iv x.per,iv x.start,iv x.rounds,iv x.forced] 34)).alloc (.cells #[iv 0,iv 0,iv 0,.slice none 0 0,.slice none 0 0,iv 0,iv 0,iv 0,.slice none 0 0,iv 0,iv 0,iv 0,iv 0,iv 0,iv 0] 69)).cell? ⟨w.heap.size+1,o,none⟩=some v->w2.cell? ⟨w.heap.size+1,o,none⟩=some v from λo v h=>hq.keep h);have RCF:=uU (show ∀o,w2.frozen? ⟨w.heap.size+1,o,none⟩=false from λo=>((dH hq).2 (w.heap.size+1) o (by rw[hs2];omega)).trans (by simp [go_sem]));have hz2:w.heap.size+2<=w2.heap.size:=by have:=hq.size;omega
 have Q1:=uU (show SlW w2 (.slice ar x.regs.length kr) x.regs/\SlC w2 (.slice ac x.cells.length kc) x.cells/\SlI w2 (.slice ag x.gray.length kg) x.gray from⟨SlW.ext hq S1,SlC.ext hq S2,SlI.ext hq S3⟩);have rc:=uH RC;have rcF:=uH RCF;have r0:=rc 0 (iv 0) (by simp [go_sem]);have r1:=rc 1 (iv 0) (by simp [go_sem]);have r2:=rc 2 (iv 0) (by simp [go_sem]);have r3:=rc 3 (.slice none 0 0) (by simp [go_sem]);have r4:=rc 4 (.slice none 0 0) (by simp [go_sem]);have r5:=rc 5 (iv 0) (by simp [go_sem]);have r6:=rc 6 (iv 0) (by simp [go_sem]);have r7:=rc 7 (iv 0) (by simp [go_sem]);have r8:=rc 8 (.slice none 0 0) (by simp [go_sem]);have r9:=rc 9 (iv 0) (by simp [go_sem]);have r10:=rc 10 (iv 0) (by simp [go_sem]);have r11:=rc 11 (iv 0) (by simp [go_sem]);have r12:=rc 12 (iv 0) (by simp [go_sem]);have r13:=rc 13 (iv 0) (by simp [go_sem]);have r14:=rc 14 (iv 0) (by simp [go_sem]);have f0:=rcF 0;have f1:=rcF 1;have f2:=rcF 2;have f3:=rcF 3;have f4:=rcF 4;have f5:=rcF 5;have f6:=rcF 6;have f7:=rcF 7;have f8:=rcF 8;have f9:=rcF 9;have f10:=rcF 10;have f11:=rcF 11;have f12:=rcF 12;have f13:=rcF 13;have f14:=rcF 14;have hr0:w.heap.size+1<w2.heap.size:=uL r0;clear hok2 hq rc rcF;cases t:(n == 0)
 ·have t2:(n != 0)=true:=by simpa using t
  have N:=uU (show b3s x Hp0 0 0 from .inr ⟨λh=>by have:=eU.uniq h OK2;simp at t;omega,rfl,rfl,rfl⟩);go_wp2_with fail;refine bodyPost_ret (v:=setV Hp0 0 0 (.slice none 0 0) (.slice none 0 0) (.slice none 0 0)) (by simp [results,Tryz.results41,go_sem,Hp0,r0,r1,r2,r3,r4,r5,r6,r7,r8,r9,r10,r11,r12,r13,r14]) rfl ⟨Hp0,0,0,none,0,none,0,none,0,rfl,N,HRd.zero _,?_⟩;refine(λ(F:uX (λq=>q=w.heap.size+1) w2 _)=>F.ext x2 (λq hq e=>by omega)) ?_
  repeat (first | refine uX.setCell ?_ (by simp) _ | exact uX.refl _ _)
 ·have t2:(n != 0)=false:=by simpa using t
  have Y:=uU (show eU x 0 by have:=uH OK2;simp at t;rw[t] at this;exact this);obtain⟨b0,b1,b2,b3,b4,b5,b6,b7,b8,b9,b10,b11,b12⟩:=uH B2;have hb0:w.heap.size<w2.heap.size:=uL b4;obtain⟨R1x,R2x,_,_⟩:=Y.all;have hg4:=(b7w Y).1;have n8:=Y.n8;have hrg:0<x.regs.length/\x.regs.length<=100:=by rw[R1x.regs];omega
  have P2:=uU Y.p200;clear R1x R2x;go_wp2_with fail;refine(c1i HZ x _ Q1.1 Q1.2.1 Q1.2.2 hrg.1 hrg.2 n8 P2 (by omega)).mono ?_;rintro e w3 ⟨g,rfl,hg,q3⟩;obtain⟨ar3,kr3,ac3,kc3,vg3,br,bc,pb,pa,pk,role,hG3⟩:=uH hg;have G3:=uU hG3;clear hg hG3 b0 b1 b2 b3 b5 b6 b7 b8 b9 b10 b11 b12 b4;go_wp2_with fail;refine(a9y ⟨_,_,_,_,G3⟩ (eU.snd Y) w2 (Nat.le_refl _) q3).mono ?_;rintro e w4 ⟨H,rfl,hH,h4,x4⟩;obtain⟨gn,hgn⟩:∃k,k=eC x H x.cells.length:=⟨_,rfl⟩;obtain⟨dn,hdn⟩:∃k,k=tQ x H x.cells.length:=⟨_,rfl⟩;obtain⟨y,hy⟩:∃y,y=dD x H:=⟨_,rfl⟩;have IS:=uU (show b3s x y gn dn from .inl ⟨Y,H,hH,hy,hgn,hdn⟩);have FI:=uU (show y.regs=x.regs/\y.gray=x.gray/\y.cells.length=x.cells.length/\∀q,q<x.cells.length->(y.c q).prs.length<=(x.c q).prs.length by rw[hy];exact b3t x H);rw[<-hy] at h4;rw[<-hgn,<-hdn];obtain⟨ar3,kr3,ac3,kc3,vg4,br,bc,pb,pa,pk,role4,hG4⟩:=h4;obtain⟨ag4,kg4,hvg⟩:∃a k,vg4=.slice a y.gray.length k:=hG4.gr.form;subst hvg
  have RD:=uU (show ∀W,uX (λq=>q=w.heap.size+1) w4 W->HRd W y ar3 kr3 ac3 kc3 ag4 kg4 from λW o=>(GAt.low HZ hG4 o (λq e=>by omega)).rd (by rw[FI.1];omega) (by rw[FI.2.2.1];omega) (λq hq=>by
   rw[FI.2.2.1] at hq;exact Nat.le_trans (FI.2.2.2 q hq) (P2 q hq)) (by rw[FI.2.1];omega))
  obtain⟨d0,d1,d2,d3,d4,d5,d6,d7,d8,d9,d10,d11,d12⟩:=hG4.bx;have X4:=x2.trans x4;have hgw:w2.heap.size<=g:=hG4.lo;have hg4s:g<w4.heap.size:=uL d0;have ng:¬g=w.heap.size+1:=by omega
  have ng2:¬w.heap.size+1=g:=by omega
  have e0:=x4.keep r0;have e1:=x4.keep r1;have e2:=x4.keep r2;have e3:=x4.keep r3;have e4:=x4.keep r4;have e5:=x4.keep r5;have e6:=x4.keep r6;have e7:=x4.keep r7;have e8:=x4.keep r8;have e9:=x4.keep r9;have e10:=x4.keep r10;have e11:=x4.keep r11;have e12:=x4.keep r12;have e13:=x4.keep r13;have e14:=x4.keep r14;have g0:=((dH x4).2 (w.heap.size+1) 0 hr0).trans f0;have g1:=((dH x4).2 (w.heap.size+1) 1 hr0).trans f1;have g2:=((dH x4).2 (w.heap.size+1) 2 hr0).trans f2;have g3:=((dH x4).2 (w.heap.size+1) 3 hr0).trans f3;have g4:=((dH x4).2 (w.heap.size+1) 4 hr0).trans f4;have g5:=((dH x4).2 (w.heap.size+1) 5 hr0).trans f5;have g6:=((dH x4).2 (w.heap.size+1) 6 hr0).trans f6;have g7:=((dH x4).2 (w.heap.size+1) 7 hr0).trans f7;have g8:=((dH x4).2 (w.heap.size+1) 8 hr0).trans f8;have g9:=((dH x4).2 (w.heap.size+1) 9 hr0).trans f9;have g10:=((dH x4).2 (w.heap.size+1) 10 hr0).trans f10;have g11:=((dH x4).2 (w.heap.size+1) 11 hr0).trans f11;have g12:=((dH x4).2 (w.heap.size+1) 12 hr0).trans f12;have g13:=((dH x4).2 (w.heap.size+1) 13 hr0).trans f13;have g14:=((dH x4).2 (w.heap.size+1) 14 hr0).trans f14;have hr4:w.heap.size+1<w4.heap.size:=uL e0;clear hG4 hy hgn hdn hH r0 r1 r2 r3 r4 r5 r6 r7 r8 r9 r10 r11 r12 r13 r14 f0 f1 f2 f3 f4 f5 f6 f7 f8 f9 f10 f11 f12 f13 f14;go_wp2_with fail;refine bodyPost_ret (v:=setV y gn dn (.slice ar3 y.regs.length kr3) (.slice ac3 y.cells.length kc3) (.slice ag4 y.gray.length kg4)) (by simp [results,Tryz.results41,go_sem,e0,e1,e2,e3,e4,e5,e6,e7,e8,e9,e10,e11,e12,e13,e14]) rfl ⟨y,gn,dn,ar3,kr3,ac3,kc3,ag4,kg4,rfl,IS,?_⟩;refine(λ(F:uX (λq=>q=w.heap.size+1) w4 _)=>⟨uH RD _ F,F.ext X4 (λq hq e=>by omega)⟩) ?_
  repeat (first | refine uX.setCell ?_ (by simp) _ | exact uX.refl _ _)
def qV(x:Hp)(k:Nat)(r:Int):Prop:=(r = -1/\∀i,i<k->(x.c i).last≠2)\/∃i:Nat,r=(i:Int)/\i<k/\(x.c i).last=2/\∀j,j<k->(x.c j).last=2->(x.c i).born<=(x.c j).born
def a6o(x:Hp)(r:Int):Prop:=(eU x 0/\qV x x.cells.length r)\/(¬eU x 0/\r = -1)
theorem born_eq(r2:R2 x){a:Nat}(ha:a<x.cells.length)(hb:b<x.cells.length)(da:(x.c a).last=2)(db:(x.c b).last=2)(e:(x.c a).born=(x.c b).born):a=b:=by
 have sa:=a0x r2 a ha (.inr da);have sb:=a0x r2 b hb (.inr db);have ta:(x.c a).to=0:=by rcases r2.1 a ha with z | z | z;omega;omega;exact z.2.2.2.2.2.2.1
 have tb:(x.c b).to=0:=by rcases r2.1 b hb with z | z | z;omega;omega;exact z.2.2.2.2.2.2.1
 rcases Nat.lt_trichotomy a b with q | q | q
 ·exact(r2.2 b hb (by omega) a q ⟨by omega,by omega,by omega⟩).elim
 ·exact q
 ·exact(r2.2 a ha (by omega) b q ⟨by omega,by omega,by omega⟩).elim
theorem a6o.uniq{s:Int}(h:a6o x r)(k:a6o x s):r=s:=by
 rcases h with⟨h,p⟩ | ⟨h,e⟩ <;> rcases k with⟨k,q⟩ | ⟨k,f⟩
 ·rcases p with⟨p,n⟩ | ⟨i,p,hi,di,mi⟩ <;> rcases q with⟨q,m⟩ | ⟨j,q,hj,dj,mj⟩
  ·omega
  ·exact(n j hj dj).elim
  ·exact(m i hi di).elim
  ·have:=mi j hj dj;have:=mj i hi di;have:=born_eq h.all.2.1 hi hj di dj (by omega);omega
 ·exact(k h).elim
 ·exact(h k).elim
 ·omega
theorem qV.no(h:qV x k r)(hk:(x.c k).last≠2):qV x (k+1) r:=by
 rcases h with⟨h,n⟩ | ⟨i,h,hi,di,mi⟩
 ·exact .inl ⟨h,λj hj=>by rcases (by omega:j<k\/j=k) with q | q;exact n j q;subst q;exact hk⟩
 ·exact .inr ⟨i,h,by omega,di,λj hj dj=>by rcases (by omega:j<k\/j=k) with q | q;exact mi j q dj;subst q;exact(hk dj).elim⟩
theorem qV.first(h:qV x k (-1))(hk:(x.c k).last=2):qV x (k+1) k:=by
 rcases h with⟨h,n⟩ | ⟨i,h,hi,di,mi⟩
 ·exact .inr ⟨k,rfl,by omega,hk,λj hj dj=>by rcases (by omega:j<k\/j=k) with q | q;exact(n j q dj).elim;subst q;omega⟩
 ·omega
theorem qV.less(h:qV x k i)(hk:(x.c k).last=2)(hl:(x.c k).born<(x.c i).born):qV x (k+1) k:=by
 rcases h with⟨h,n⟩ | ⟨i',h,hi,di,mi⟩
 ·omega
 ·obtain rfl:i'=i:=by omega
  exact .inr ⟨k,rfl,by omega,hk,λj hj dj=>by rcases (by omega:j<k\/j=k) with q | q;have:=mi j q dj;omega;subst q;omega⟩
theorem qV.more(h:qV x k i)(hl:(x.c i).born<=(x.c k).born):qV x (k+1) i:=by
 rcases h with⟨h,n⟩ | ⟨i',h,hi,di,mi⟩
 ·omega
 ·obtain rfl:i'=i:=by omega
  exact .inr ⟨i',rfl,by omega,di,λj hj dj=>by rcases (by omega:j<k\/j=k) with q | q;exact mi j q dj;subst q;exact hl⟩
theorem qV.form(h:qV x k r):r = -1\/∃i:Nat,r=(i:Int)/\i<k:=by
 rcases h with⟨h,_⟩ | ⟨i,h,hi,_⟩
 ·exact .inl h
 ·exact .inr ⟨i,h,hi⟩
theorem b7c{y:Wd}(hy:qN x y)(h0:y.k=2->0<=y.a):a5o x y=uY x y:=by
 unfold a5o uY;by_cases e:(y.k == 2)=true
 ·have hk:y.k=2:=by simpa using e
  have hs:=(hy hk).2;have hb:yE x y=qD x y.a.toNat:=by simp [yE,qD,whB,hs,hk]
  rw[if_pos e,hb];unfold cC;have ea:((y.a.toNat:Nat):Int)=y.a:=by have:=h0 hk;omega
  by_cases q:qD x y.a.toNat=true
  ·rw[if_pos q,if_pos q,ea]
  ·rw[if_neg q,if_neg q]
 ·have e2:(y.k == 2)=false:=by simpa using e
  have hb:yE x y=false:=by simp [yE,e2]
  rw[if_neg e,hb];simp
theorem b4c[Inhabited uZ](B g:Nat)(x:Hp)(y:Wd)(w:World)(h:GOk B w g x)(s:Snd x)(hy:qN x y)(h0:y.k=2->0<=y.a)(a:World)(ha:a.heap.size<=B)(hx:Ext a w)(hB:B<=w.heap.size):
  Calls Tryz.prog 232 #[.pointer (some ⟨g,0,none⟩),y.v] w λe w'=>e=.returned (.bool (yE x y))/\GOk B w' g (uY x y)/\Ext a w':=by
 obtain⟨ar,kr,ac,kc,vg,br,bc,pb,pa,pk,role,h⟩:=h;obtain⟨ag,kg,rfl⟩:=h.gr.form;refine(a6y y w h (λhk=>⟨h0 hk,by have:=(hy hk).1;have:=h0 hk;omega⟩) s.ok.n8 (by have:=s.r1.gray;have:=s.ok.n8;omega) a ha hx hB).mono ?_;rintro e w' ⟨he,h2,h3⟩;obtain⟨ag',kg',role',h2⟩:=h2;rw[b7c hy h0] at h2;exact⟨he,⟨_,_,_,_,_,_,_,_,_,_,_,h2⟩,h3⟩
theorem a0y[Inhabited uZ](B g:Nat)(x:Hp)(p hd:Int)(w:World)(h:GOk B w g x)(a:World)(ha:a.heap.size<=B)(hx:Ext a w):
  Calls Tryz.prog 186 #[.pointer (some ⟨g,0,none⟩),.int .i64 p,.int .i64 hd] w λe w'=>e=.returned (.tuple #[])/\GOk B w' g (zC x p hd)/\Ext a w':=by
 obtain⟨ar,kr,ac,kc,vg,br,bc,pb,pa,pk,role,h⟩:=h;have H:=uU h;obtain⟨_,_,_,_,_,c5,c6,c7,_⟩:=h.bx;have f5:=h.nf.2 5;have f6:=h.nf.2 6;have f7:=h.nf.2 7;clear h;go_enter Tryz.func186,Tryz.ntmps186;go_wp2_with fail
 go_end0
 have b1:=((H.bx.set5 p).set6 hd).set7 0;have o1:=uX.setCell (S:=λq=>q=g) (uX.setCell (S:=λq=>q=g) (uX.setCell (S:=λq=>q=g) (uX.refl _ w) (p:=⟨g,5,none⟩) rfl (iv p)) (p:=⟨g,6,none⟩) rfl (iv hd)) (p:=⟨g,7,none⟩) rfl (iv 0);exact⟨rfl,⟨_,_,_,_,_,_,_,_,_,_,_,H.boxed (x':=zC x p hd) o1 (((H.nf.set _ _).set _ _).set _ _) rfl rfl rfl b1⟩,o1.ext hx (λq hq e=>by have:=H.lo;omega)⟩
theorem a0u(w:World)(n:Nat)(cs:Array Value)(t:TypeId)(j:Nat):((w.drewN n).alloc (.cells cs t)).cell? ⟨w.heap.size,j,none⟩=cs[j]?:=by
 have e:(w.drewN n).heap.size=w.heap.size:=by simp
 have:=heap_alloc_new (w.drewN n) (.cells cs t);rw[e] at this;exact cell_of_row _ w.heap.size j _ _ (0,0) this
theorem a6b(w:World)(n:Nat)(o:Obj)(b j:Nat)(h:b<w.heap.size):((w.drewN n).alloc o).cell? ⟨b,j,none⟩=w.cell? ⟨b,j,none⟩:=by
 have x:=((Ext.refl w).drewN n).alloc o;exact x.cell (p:=⟨b,j,none⟩) h
theorem a5f(w:World)(n:Nat)(cs:Array Value)(t:TypeId)(j:Nat):((w.drewN n).alloc (.cells cs t)).frozen? ⟨w.heap.size,j,none⟩=false:=by
 have e:(w.drewN n).heap.size=w.heap.size:=by simp
 have key:∀W:World,(W.alloc (.cells cs t)).frozen? ⟨W.heap.size,j,none⟩=false:=λW=>by simp [go_sem]
 have:=key (w.drewN n);rw[e] at this;exact this
theorem b9q[Inhabited uZ](B g:Nat)(x:Hp)(w:World)(h:GOk B w g x)(s:Snd x)(a:World)(ha:a.heap.size<=B)(hx:Ext a w)(hB:B<=w.heap.size):
  Calls Tryz.prog 187 #[.pointer (some ⟨g,0,none⟩)] w λe w'=>e=.returned (.tuple #[])/\GOk B w' g (tE x)/\Ext a w':=by
 obtain⟨ar,kr,ac,kc,vg,br,bc,pb,pa,pk,role,h⟩:=h;have HO:=uU (show GOk B w g x from⟨_,_,_,_,_,_,_,_,_,_,_,h⟩);have H:=uU h;have c4:=h.bx.2.2.2.2.1;have c6:=h.bx.2.2.2.2.2.2.1;have hgw:g<w.heap.size:=uL c4;have lo:=h.lo;have n8:=s.ok.n8;have S:=uU s;have hh:=s.r1.hand;clear h;by_cases he:x.hand=x.cells.length
 ·have E:=uU (show tE x=zC x 2 0 by unfold tE;rw[if_pos he]);have heb:(x.hand == (x.cells.length:Int))=true:=by simpa using he
  clear he;go_enter Tryz.func187,Tryz.ntmps187;go_wp2_with fail;go_quiet (fail);go_wp2_with fail;refine(a0y B g x 2 0 _ (HO.ext ((Ext.refl w).drewN _)) a ha (hx.drewN _)).mono ?_;rintro e w2 ⟨rfl,h2,x2⟩;have H2:=uU h2;clear h2;go_wp2_with fail
  try simp only [Exit.inBlock,Exit.then]
  refine bodyPost_ret (results_none rfl _ _ _) rfl ?_;exact⟨rfl,by rw[uH E];exact uH H2,x2⟩
 ·obtain⟨i,hi⟩:∃i:Nat,x.hand=(i:Int):=⟨x.hand.toNat,by omega⟩;have hin:i<x.cells.length:=by omega
  have heb:(x.hand == (x.cells.length:Int))=false:=by simpa using he
  rw[hi] at heb c6;have hn:0<x.cells.length:=by omega
  rw[H.hc hn] at c4;obtain⟨p0,p1,p2,p3,p4,p5,p6⟩:=H.rw.s i hin;have p7:=H.rw.p7 i hin;have hbc:bc<w.heap.size:=uL p0;have i0:(0:Int)<=(i:Int):=by omega
  have i1:(i:Int)<(x.cells.length:Int):=by omega
  have ei:x.hand.toNat=i:=by omega
  have EU:=uU (show tE x={ (if a8u (x.c i)=true then cC x i else x) with hand:=x.hand+1 } by unfold tE;rw[if_neg he,ei]);have HI:=uU hi;have zn:=λn j=>a0u w n #[.int .i64 0,.int .i64 0,.int .i64 0,.int .i64 0,.int .i64 0,.int .i64 0,.int .i64 0,.slice none 0 0] 62 j
  have zf:=λn j=>a5f w n #[.int .i64 0,.int .i64 0,.int .i64 0,.int .i64 0,.int .i64 0,.int .i64 0,.int .i64 0,.slice none 0 0] 62 j
  have zo:=λn o b j (h:b<w.heap.size)=>a6b w n o b j h
  clear he hi ei hh;go_enter Tryz.func187,Tryz.ntmps187;go_wp2_with fail;go_quiet (fail);go_wp2_with fail
  go_region
  all_goals
   obtain⟨W2,hW2⟩:∃W,W=(((((((((w.drewN (nq+1)).alloc (.cells #[.int .i64 0,.int .i64 0,.int .i64 0,.int .i64 0,.int .i64 0,.int .i64 0,.int .i64 0,.slice none 0 0] 62)).setCell ⟨w.heap.size,0,none⟩ (.int .i64 (x.c i).st)).setCell ⟨w.heap.size,1,none⟩ (.int .i64 (x.c i).kind)).setCell ⟨w.heap.size,2,none⟩ (.int .i64 (x.c i).weak)).setCell ⟨w.heap.size,3,none⟩ (.int .i64 (x.c i).last)).setCell ⟨w.heap.size,4,none⟩ (.int .i64 (x.c i).born)).setCell ⟨w.heap.size,5,none⟩ (.int .i64 (x.c i).color)).setCell ⟨w.heap.size,6,none⟩ (.int .i64 (x.c i).to)).setCell ⟨w.heap.size,7,none⟩ (.slice (pa i) (x.c i).prs.length (pk i)):=⟨_,rfl⟩
   have X2:Ext w W2:=by
    rw[hW2];exact(((((((((Ext.refl w).drewN (nq+1)).alloc _).setCell (Nat.le_refl _) _).setCell (Nat.le_refl _) _).setCell (Nat.le_refl _) _).setCell (Nat.le_refl _) _).setCell (Nat.le_refl _) _).setCell (Nat.le_refl _) _).setCell (Nat.le_refl _) _ |>.setCell (Nat.le_refl _) _
   have l3:W2.cell? ⟨w.heap.size,3,none⟩=some (iv (x.c i).last):=by
    rw[hW2,uC _ (.inr (by omega)),uC _ (.inr (by omega)),uC _ (.inr (by omega)),uC _ (.inr (by omega))];exact World.cell?_setCell_same _ _ _ (by rw[uC _ (.inr (by omega)),uC _ (.inr (by omega)),uC _ (.inr (by omega)),zn];rfl)
   rw[<-hW2];clear hW2 zn zf zo;have d6:=X2.keep c6;have hgW:g<W2.heap.size:=uL d6;have f6:W2.frozen? ⟨g,6,none⟩=false:=((dH X2).2 g 6 hgw).trans (H.nf.2 6);cases l1:((x.c i).last == 1)
   ·cases l2:((x.c i).last == 2)
    ·have EF:=uU (show tE x={ x with hand:=x.hand+1 } by rw[uH EU,if_neg (by simp [a8u,l1,l2])]);have H3:=uU ((HO.ext X2).set6 (x.hand+1));have X3:=uU ((hx.trans X2).setCell (p:=⟨g,6,none⟩) (show a.heap.size<=g by omega) (iv (x.hand+1)));rw[uH HI] at H3 X3 EF;go_wp2_with fail
     go_end0
     exact⟨rfl,by rw[uH EF];exact uH H3,X3⟩
    ·
     have SP:=uU (show a8u (x.c i)=true by simp [a8u,l2])
     have GD:=uU (show qN x ⟨2,0,i⟩ from λ_=>⟨by simpa using hin,by
      have hsp:=(a9z _).1 SP;have e:((i:Int)).toNat=i:=by omega
      show(x.c ((i:Int)).toNat).st=1;rw[e];rcases S.r2.1 i hin with⟨_,b,_⟩ | ⟨_,b⟩ | ⟨a,_⟩
      ·have:=b.2.2.1;rcases hsp with q | q <;> omega
      ·have:=b.1.2.2.1;rcases hsp with q | q <;> omega
      ·exact a⟩)
     go_wp2_with fail;refine(b4c B g x ⟨2,0,i⟩ _ (HO.ext X2) S GD (λ_=>i0) a ha (hx.trans X2) (Nat.le_trans hB X2.size)).mono ?_;rintro e w3 ⟨rfl,h3,x3⟩;have H3:=uU (h3.set6 (x.hand+1));have X3:=uU (x3.setCell (p:=⟨g,6,none⟩) (show a.heap.size<=g by omega) (iv (x.hand+1)));obtain⟨q6,_,_,ef,_,eg⟩:=h3.box;have e6:w3.cell? ⟨g,6,none⟩=some (iv i):=by rw[q6,(a1k x _).2.2.2.1,uH HI]
     have ef6:=ef 6;rw[uH HI] at H3 X3
     have EF:=uU (show tE x={ uY x ⟨2,0,i⟩ with hand:=(i:Int)+1 } by
      rw[uH EU,if_pos (uH SP),uH HI];have:uY x ⟨2,0,i⟩=cC x i:=by unfold uY;simp
      rw[this])
     clear h3 x3 ef q6;go_wp2_with fail
     go_end0
     exact⟨rfl,by rw[uH EF];exact uH H3,X3⟩
   ·
    have SP:=uU (show a8u (x.c i)=true by simp [a8u,l1])
    have GD:=uU (show qN x ⟨2,0,i⟩ from λ_=>⟨by simpa using hin,by
     have hsp:=(a9z _).1 SP;have e:((i:Int)).toNat=i:=by omega
     show(x.c ((i:Int)).toNat).st=1;rw[e];rcases S.r2.1 i hin with⟨_,b,_⟩ | ⟨_,b⟩ | ⟨a,_⟩
     ·have:=b.2.2.1;rcases hsp with q | q <;> omega
     ·have:=b.1.2.2.1;rcases hsp with q | q <;> omega
     ·exact a⟩)
    go_wp2_with fail;refine(b4c B g x ⟨2,0,i⟩ _ (HO.ext X2) S GD (λ_=>i0) a ha (hx.trans X2) (Nat.le_trans hB X2.size)).mono ?_;rintro e w3 ⟨rfl,h3,x3⟩;have H3:=uU (h3.set6 (x.hand+1));have X3:=uU (x3.setCell (p:=⟨g,6,none⟩) (show a.heap.size<=g by omega) (iv (x.hand+1)));obtain⟨q6,_,_,ef,_,eg⟩:=h3.box;have e6:w3.cell? ⟨g,6,none⟩=some (iv i):=by rw[q6,(a1k x _).2.2.2.1,uH HI]
    have ef6:=ef 6;rw[uH HI] at H3 X3
    have EF:=uU (show tE x={ uY x ⟨2,0,i⟩ with hand:=(i:Int)+1 } by
     rw[uH EU,if_pos (uH SP),uH HI];have:uY x ⟨2,0,i⟩=cC x i:=by unfold uY;simp
     rw[this])
    clear h3 x3 ef q6;go_wp2_with fail
    go_end0
    exact⟨rfl,by rw[uH EF];exact uH H3,X3⟩
theorem GAt.turn[Inhabited uZ](h:GAt B w g x ar kr ac kc vg br bc pb pa pk role)(cs:List Cl)(hl:cs.length=x.cells.length)(so:Nat->Nat)(pa':Nat->Option Addr)(pk':Nat->Nat)(role':Nat->Nat)(hn:0<x.cells.length)
  (o:uX (λq=>q=bc) w w') (nf:Nf1 bc w')
  (hs:∀q,q<x.cells.length->S7 w' bc (q*8) (({ x with cells:=cs }:Hp).c q))
  (h7:∀q,q<x.cells.length->w'.cell? ⟨bc,q*8+7,none⟩=some (.slice (pa' q) (({ x with cells:=cs }:Hp).c q).prs.length (pk' q)))
  (hkp:∀q,q<x.cells.length->(({ x with cells:=cs }:Hp).c q).prs.length<=pk' q)
  (hso:∀q,q<x.cells.length->0<pk' q->(so q<x.cells.length/\pk' q=pk (so q))/\(x.c (so q)).prs=(({ x with cells:=cs }:Hp).c q).prs/\pa' q=pa (so q)/\role' (pb (so q))=6+q)
  (hro:∀q,role q<6->role' q=role q) (hcc:∀j,x.cells.length*8<=j->w'.cell? ⟨bc,j,none⟩=w.cell? ⟨bc,j,none⟩) :
  GAt B w' g { x with cells:=cs } ar kr ac kc vg br bc (λq=>pb (so q)) pa' pk' role':=by
 have far:∀q,q<w.heap.size->role q≠3->w'.heap[q]?=w.heap[q]?:=λq hq hr=>o.block q hq (λe=>hr (by rw[e];exact h.sp.c hn))
 have hl':({ x with cells:=cs }:Hp).cells.length=x.cells.length:=hl;have fg:=far g h.nf.1 (by rw[h.sp.g];omega);have pf:∀q,q<x.cells.length->0<pk q->w'.heap[pb q]?=w.heap[pb q]?:=λq hq hl=>far (pb q) (h.rw.pl q hq hl).2.1.1 (by rw[h.sp.p q hq hl];omega)
 refine⟨?_,cU h.nf fg o.size,h.lo,h.ha,λ_=>h.hc hn,⟨λk hk=>?_,λq hq=>?_,λq hq=>?_,λq hq k hk=>?_,λq hq hlq=>?_,λhr=>⟨cU (h.rw.nr hr).1 (far br (h.rw.nr hr).1.1 (by rw[h.sp.r hr];omega)) o.size,(h.rw.nr hr).2⟩,λ_=>⟨nf,(h.rw.nc hn).2⟩,λ_=>h.rw.d hn,λq q' hq hq' hne h1 h2=>?_,λq hq=>?_⟩,h.gr.block (λq hq=>far q (h.gr.lt q hq).2 (by rw[h.sp.y q hq];omega)),⟨?_,λhr=>?_,λ_=>?_,λq hq=>?_,λq hq hlq=>?_⟩,by rw[hl'];exact h.kl,h.pr.of (λq hq h1=>far q hq (by rw[h1];omega)) (λq _ h1=>by rw[hro q (by rw[h1];omega)];exact h1),λhk=>(h.cc hk).cells (hro bc (by rw[(h.cc hk).ro];omega)) nf (λj v _ hv=>?_)⟩
 ·rw[hl'];exact(h.bx.block fg)
 ·exact(h.rw.r k hk).of λj _=>World.cell?_of_block (a:=⟨br,_,none⟩) (far br (h.rw.nr (by have:k<x.regs.length:=hk;omega)).1.1 (by rw[h.sp.r (by have:k<x.regs.length:=hk;omega)];omega))
 ·rw[hl'] at hq;exact hs q hq
 ·rw[hl'] at hq;exact h7 q hq
 ·rw[hl'] at hq;obtain⟨⟨a1,_⟩,a2,_⟩:=hso q hq (by have:=hkp q hq;omega);have e2:(({ x with cells:=cs }:Hp).c q).p k=(x.c (so q)).p k:=by simp only [Cl.p,a2]
  rw[<-a2] at hk;rw[e2];exact(h.rw.p (so q) a1 k hk).of λj _=>World.cell?_of_block (a:=⟨pb (so q),_,none⟩) (pf (so q) a1 (h.rw.pw a1 (by omega)))
 ·rw[hl'] at hq;obtain⟨⟨a1,a0⟩,a2,a3,_⟩:=hso q hq hlq;rw[a0] at hlq;obtain⟨b1,b2,b3⟩:=h.rw.pl (so q) a1 hlq;exact⟨a3.trans b1,by rw[a0];exact a0f b2 (pf (so q) a1 hlq) o.size,b3⟩
 ·rw[hl'] at hq hq';intro e;have r1:=(hso q hq h1).2.2.2;have r2:=(hso q' hq' h2).2.2.2;have e':pb (so q)=pb (so q'):=e;rw[e',r2] at r1;omega
 ·rw[hl'] at hq;exact hkp q hq
 ·rw[hro g (by rw[h.sp.g];omega)];exact h.sp.g
 ·have:=h.sp.r hr;rw[hro br (by omega)];exact this
 ·have:=h.sp.c hn;rw[hro bc (by omega)];exact this
 ·have:=h.sp.y q hq;rw[hro q (by omega)];exact this
 ·rw[hl'] at hq;exact(hso q hq hlq).2.2.2
 ·by_cases e:x.cells.length*8<=j
  ·exact⟨v,(hcc j e).trans hv⟩
  ·by_cases e7:j % 8=7
   ·have:=h7 (j / 8) (by omega);rw[show j / 8*8+7=j by omega] at this;exact⟨_,this⟩
   ·have:=(hs (j / 8) (by omega)).some (j % 8) (by omega);rw[show j / 8*8+j % 8=j by omega] at this;exact this
theorem GAt.clear[Inhabited uZ](h:GAt B w g x ar kr ac kc vg br bc pb pa pk role)(i:Nat)(hi:i<x.cells.length)(c':Cl)(hp:c'.prs=[])(o:uX (λq=>q=bc) w w')(nf:Nf1 bc w')(hs:S7 w' bc (i*8) c')(h7:w'.cell? ⟨bc,i*8+7,none⟩=some (.slice none 0 0))(ho:∀k,(k<i*8\/i*8+8<=k)->w'.cell? ⟨bc,k,none⟩=w.cell? ⟨bc,k,none⟩):
  GAt B w' g { x with cells:=x.cells.set i c' } ar kr ac kc vg br bc pb (λq=>if q=i then none else pa q) (λq=>if q=i then 0 else pk q) role:=by
 have hc:=Hp.c_set x i c' hi;refine h.turn (x.cells.set i c') (by simp) (λq=>q) _ _ role (by omega) o nf (λq hq=>?_) (λq hq=>?_) (λq hq=>?_) (λq hq hl=>?_) (λ_ _=>rfl) (λj hj=>ho j (by omega))
 ·rw[hc q];by_cases e:q=i
  ·subst e;rw[if_pos rfl];exact hs
  ·rw[if_neg e];exact(h.rw.s q hq).of λj hj=>ho _ (by omega)
 ·rw[hc q];by_cases e:q=i
  ·subst e;simp only [if_true,hp];exact h7
  ·simp only [if_neg e];rw[ho _ (by omega)];exact h.rw.p7 q hq
 ·rw[hc q];by_cases e:q=i
  ·rw[if_pos e,hp];simp
  ·rw[if_neg e,if_neg e];exact h.rw.kp q hq
 ·rw[hc q];by_cases e:q=i
  ·rw[if_pos e] at hl;omega
  ·rw[if_neg e] at hl;exact⟨⟨hq,if_neg e⟩,by rw[if_neg e],if_neg e,h.sp.p q hq hl⟩
theorem GOk.set1[Inhabited uZ](h:GOk B w g x)(v:Int):GOk B (w.setCell ⟨g,1,none⟩ (iv v)) g { x with used:=v }:=by
 obtain⟨ar,kr,ac,kc,vg,br,bc,pb,pa,pk,role,h⟩:=h;exact⟨_,_,_,_,_,_,_,_,_,_,_,h.boxed (x':={ x with used:=v }) (uX.setCell (S:=λq=>q=g) (uX.refl _ w) (p:=⟨g,1,none⟩) rfl _) (h.nf.set _ _) rfl rfl rfl (h.bx.set1 v)⟩
theorem a2h(n:Int)(h0:-1000000<=n)(h1:n<=1000000):wrap64 n=n:=by unfold wrap64;omega
theorem dZ{p:Addr}{v u:Value}(h:w.cell? p=some u):(w.setCell p v).cell? p=some v:=World.cell?_setCell_same _ _ _ h
def a3g(w:World)(b o:Nat)(st tv:Int):World:=(((((((w.setCell ⟨b,o,none⟩ (iv st)).setCell ⟨b,o+1,none⟩ (iv 0)).setCell ⟨b,o+2,none⟩ (iv 0)).setCell ⟨b,o+3,none⟩ (iv 0)).setCell ⟨b,o+4,none⟩ (iv 0)).setCell ⟨b,o+5,none⟩ (iv 0)).setCell ⟨b,o+6,none⟩ (iv tv)).setCell ⟨b,o+7,none⟩ (.slice none 0 0)
theorem a3x(w:World)(b o:Nat)(st tv:Int):uX (λq=>q=b) w (a3g w b o st tv):=
 uX.setCell (S:=λq=>q=b) (uX.setCell (S:=λq=>q=b) (uX.setCell (S:=λq=>q=b) (uX.setCell (S:=λq=>q=b) (uX.setCell (S:=λq=>q=b) (uX.setCell (S:=λq=>q=b) (uX.setCell (S:=λq=>q=b) (uX.setCell (S:=λq=>q=b) (uX.refl _ w) (p:=⟨b,o,none⟩) rfl _) (p:=⟨b,o+1,none⟩) rfl _) (p:=⟨b,o+2,none⟩) rfl _) (p:=⟨b,o+3,none⟩) rfl _) (p:=⟨b,o+4,none⟩) rfl _) (p:=⟨b,o+5,none⟩) rfl _) (p:=⟨b,o+6,none⟩) rfl _) (p:=⟨b,o+7,none⟩) rfl _
theorem b7d(h:Nf1 b w)(o:Nat)(st tv:Int):Nf1 b (a3g w b o st tv):=(((((((h.set _ _).set _ _).set _ _).set _ _).set _ _).set _ _).set _ _).set _ _
theorem a8w(w:World)(b o:Nat)(st tv:Int)(k:Nat)(hk:k<o\/o+8<=k):(a3g w b o st tv).cell? ⟨b,k,none⟩=w.cell? ⟨b,k,none⟩:=by
 unfold a3g;rw[uC _ (.inr (by omega)),uC _ (.inr (by omega)),uC _ (.inr (by omega)),uC _ (.inr (by omega)),uC _ (.inr (by omega)),uC _ (.inr (by omega)),uC _ (.inr (by omega)),uC _ (.inr (by omega))]
theorem b1a(w:World)(b o:Nat)(st tv:Int)(c:Cl)(v:Value)(h:S7 w b o c)(h7:w.cell? ⟨b,o+7,none⟩=some v):S7 (a3g w b o st tv) b o ⟨st,0,0,0,0,0,tv,[]⟩/\(a3g w b o st tv).cell? ⟨b,o+7,none⟩=some (.slice none 0 0):=by
 obtain⟨a0,a1,a2,a3,a4,a5,a6⟩:=h;unfold a3g;refine⟨⟨?_,?_,?_,?_,?_,?_,?_⟩,?_⟩
 ·iterate 7 rw[uC _ (.inr (by omega))]
  exact World.cell?_setCell_same _ _ _ a0
 ·iterate 6 rw[uC _ (.inr (by omega))]
  exact World.cell?_setCell_same _ _ _ ((uC _ (.inr (by omega))).trans a1)
 ·iterate 5 rw[uC _ (.inr (by omega))]
  refine dZ (u:=iv c.weak) ?_
  iterate 2 rw[uC _ (.inr (by omega))]
  exact a2
 ·iterate 4 rw[uC _ (.inr (by omega))]
  refine dZ (u:=iv c.last) ?_
  iterate 3 rw[uC _ (.inr (by omega))]
  exact a3
 ·iterate 3 rw[uC _ (.inr (by omega))]
  refine dZ (u:=iv c.born) ?_
  iterate 4 rw[uC _ (.inr (by omega))]
  exact a4
 ·iterate 2 rw[uC _ (.inr (by omega))]
  refine dZ (u:=iv c.color) ?_
  iterate 5 rw[uC _ (.inr (by omega))]
  exact a5
 ·rw[uC _ (.inr (by omega))];refine dZ (u:=iv c.to) ?_
  iterate 6 rw[uC _ (.inr (by omega))]
  exact a6
 ·refine dZ (u:=v) ?_
  iterate 7 rw[uC _ (.inr (by omega))]
  exact h7
theorem GAt.wipe[Inhabited uZ](h:GAt B w g x ar kr ac kc vg br bc pb pa pk role)(i:Nat)(hi:i<x.cells.length)(st tv:Int):GOk B (a3g w bc (i*8) st tv) g { x with cells:=x.cells.set i ⟨st,0,0,0,0,0,tv,[]⟩ }:=by
 obtain⟨k1,k2⟩:=b1a w bc (i*8) st tv _ _ (h.rw.s i hi) (h.rw.p7 i hi);exact⟨_,_,_,_,_,_,_,_,_,_,_,h.clear i hi _ rfl (a3x _ _ _ _ _) (b7d (h.rw.nc (by omega)).1 _ _ _) k1 k2 (λk hk=>a8w _ _ _ _ _ k hk)⟩
theorem GAt.drop[Inhabited uZ](h:GAt B w g x ar kr ac kc vg br bc pb pa pk role)(i:Nat)(hi:i+1=x.cells.length):
  GOk B (w.setCell ⟨g,4,none⟩ (.slice ac i kc)) g { x with cells:=x.cells.take i }:=by
 have far:∀q,q<w.heap.size->role q≠0->(w.setCell ⟨g,4,none⟩ (.slice ac i kc)).heap[q]?=w.heap[q]?:=λq hq hn=>Below.heap_setCell _ _ _ _ (λe=>hn (by rw[e];exact h.sp.g))
 have rw2:=h.rw.same (w':=w.setCell ⟨g,4,none⟩ (.slice ac i kc)) (by simp [World.setCell]) (λhl=>far br (h.rw.nr hl).1.1 (by rw[h.sp.r hl];omega)) (λhl=>far bc (h.rw.nc hl).1.1 (by rw[h.sp.c hl];omega)) (λq hq hl=>far (pb q) (h.rw.pl q hq hl).2.1.1 (by rw[h.sp.p q hq hl];omega));have hl:({ x with cells:=x.cells.take i }:Hp).cells.length=i:=by simp;omega
 have hn:0<x.cells.length:=by omega
 have hc:∀q,q<i->({ x with cells:=x.cells.take i }:Hp).c q=x.c q:=λq hq=>by
  simp only [Hp.c,List.getD_eq_getElem?_getD,List.getElem?_take_of_lt hq]
 refine⟨ar,kr,ac,kc,vg,br,bc,pb,pa,pk,role,?_,h.nf.set _ _,h.lo,h.ha,λ_=>h.hc hn,⟨rw2.r,λq hq=>?_,λq hq=>?_,λq hq k hk=>?_,λq hq hlq=>?_,rw2.nr,λ_=>rw2.nc hn,λ_=>rw2.d hn,λq q' hq hq' hne h1 h2=>?_,λq hq=>?_⟩,h.gr.block (λq hq=>far q (h.gr.lt q hq).2 (by rw[h.sp.y q hq];omega)),⟨h.sp.g,h.sp.r,λ_=>h.sp.c hn,h.sp.y,λq hq hlq=>?_⟩,by rw[hl];have:=h.kl;omega,h.pr.of (λq hq h1=>far q hq (by rw[h1];omega)) (λ_ _ h=>h),λhk=>(h.cc hk).block rfl (far bc (h.cc hk).nf.1 (by rw[(h.cc hk).ro];omega)) (by simp [World.setCell])⟩
 ·rw[hl];exact h.bx.set4 _
 ·rw[hl] at hq;rw[hc q hq];exact rw2.s q (by omega)
 ·rw[hl] at hq;rw[hc q hq];exact rw2.p7 q (by omega)
 ·rw[hl] at hq;rw[hc q hq] at hk ⊢;exact rw2.p q (by omega) k hk
 ·rw[hl] at hq;exact rw2.pl q (by omega) hlq
 ·rw[hl] at hq hq';exact rw2.dp q q' (by omega) (by omega) hne h1 h2
 ·rw[hl] at hq;rw[hc q hq];exact rw2.kp q (by omega)
 ·rw[hl] at hq;exact h.sp.p q (by omega) hlq
theorem GAt.setr[Inhabited uZ](h:GAt B w g x ar kr ac kc vg br bc pb pa pk role)(j:Nat)(hj:j<x.regs.length)(y:Wd)(o:uX (λq=>q=br) w w')(nf:Nf1 br w')(hy:yC w' br (j*3) y)(ho:∀m,(m<j*3\/j*3+3<=m)->w'.cell? ⟨br,m,none⟩=w.cell? ⟨br,m,none⟩):
  GAt B w' g { x with regs:=x.regs.set j y } ar kr ac kc vg br bc pb pa pk role:=by
 have hr:0<x.regs.length:=by omega
 have far:∀q,q<w.heap.size->role q≠2->w'.heap[q]?=w.heap[q]?:=λq hq hn=>o.block q hq (λe=>hn (by rw[e];exact h.sp.r hr))
 have fg:=far g h.nf.1 (by rw[h.sp.g];omega);have hl:({ x with regs:=x.regs.set j y }:Hp).regs.length=x.regs.length:=by simp
 have pf:∀q,q<x.cells.length->0<pk q->w'.heap[pb q]?=w.heap[pb q]?:=λq hq hl=>far (pb q) (h.rw.pl q hq hl).2.1.1 (by rw[h.sp.p q hq hl];omega)
 have fc:0<x.cells.length->w'.heap[bc]?=w.heap[bc]?:=λhn=>far bc (h.rw.nc hn).1.1 (by rw[h.sp.c hn];omega)
 refine⟨?_,cU h.nf fg o.size,h.lo,λ_=>h.ha hr,h.hc,⟨λm hm=>?_,λq hq=>?_,λq hq=>?_,λq hq k hk=>?_,λq hq hlq=>?_,λ_=>⟨nf,(h.rw.nr hr).2⟩,λhn=>⟨cU (h.rw.nc hn).1 (fc hn) o.size,(h.rw.nc hn).2⟩,h.rw.d,h.rw.dp,h.rw.kp⟩,h.gr.block (λq hq=>far q (h.gr.lt q hq).2 (by rw[h.sp.y q hq];omega)),⟨h.sp.g,λ_=>h.sp.r hr,h.sp.c,h.sp.y,h.sp.p⟩,h.kl,h.pr.of (λq hq h1=>far q hq (by rw[h1];omega)) (λ_ _ h=>h),λhk=>(h.cc hk).block rfl (far bc (h.cc hk).nf.1 (by rw[(h.cc hk).ro];omega)) o.size⟩
 ·rw[hl];exact h.bx.block fg
 ·have hm2:m<x.regs.length:=by rw[hl] at hm;exact hm
  by_cases e:m=j
  ·subst e;have:({ x with regs:=x.regs.set m y }:Hp).regs[m]=y:=by simp
   rw[this];exact hy
  ·have hne:j≠m:=λe2=>e e2.symm
   have:({ x with regs:=x.regs.set j y }:Hp).regs[m]=x.regs[m]:=by simp [hne]
   rw[this];exact(h.rw.r m hm2).of λl hl=>ho _ (by omega)
 ·exact(h.rw.s q hq).of λm _=>World.cell?_of_block (a:=⟨bc,_,none⟩) (fc (by have:q<x.cells.length:=hq;omega))
 ·rw[World.cell?_of_block (a:=⟨bc,_,none⟩) (fc (by have:q<x.cells.length:=hq;omega))];exact h.rw.p7 q hq
 ·exact(h.rw.p q hq k hk).of λm _=>World.cell?_of_block (a:=⟨pb q,_,none⟩) (pf q hq (h.rw.pw hq (by have:k<(x.c q).prs.length:=hk;omega)))
 ·obtain⟨a1,a2,a3⟩:=h.rw.pl q hq hlq;exact⟨a1,a0f a2 (pf q hq hlq) o.size,a3⟩
theorem GAt.move[Inhabited uZ](h:GAt B w g x ar kr ac kc vg br bc pb pa pk role)(t f:Nat)(htf:t≠f)(ht:t<x.cells.length)(hf:f<x.cells.length)(o:uX (λq=>q=bc) w w')(nf:Nf1 bc w')(hs:S7 w' bc (t*8) (x.c f))(h7:w'.cell? ⟨bc,t*8+7,none⟩=some (.slice (pa f) (x.c f).prs.length (pk f)))(gs:S7 w' bc (f*8) (mvC t))(g7:w'.cell? ⟨bc,f*8+7,none⟩=some (.slice none 0 0))
  (ho:∀q,q<x.cells.length->q≠t->q≠f->∀k,k<8->w'.cell? ⟨bc,q*8+k,none⟩=w.cell? ⟨bc,q*8+k,none⟩) (hcc:∀j,x.cells.length*8<=j->w'.cell? ⟨bc,j,none⟩=w.cell? ⟨bc,j,none⟩) :
  ∃pb' pa' pk' role',GAt B w' g { x with cells:=(x.cells.set t (x.c f)).set f (mvC t) } ar kr ac kc vg br bc pb' pa' pk' role':=by
 have hc:∀q,({ x with cells:=(x.cells.set t (x.c f)).set f (mvC t) }:Hp).c q=if q=f then mvC t else if q=t then x.c f else x.c q:=λq=>by
  have h1:=Hp.c_set { x with cells:=x.cells.set t (x.c f) } f (mvC t) (by simpa using hf) q;have h2:=Hp.c_set x t (x.c f) ht q;have e:({ x with cells:=(x.cells.set t (x.c f)).set f (mvC t) }:Hp)={ ({ x with cells:=x.cells.set t (x.c f) }:Hp) with cells:=({ x with cells:=x.cells.set t (x.c f) }:Hp).cells.set f (mvC t) }:=rfl;rw[e,h1];by_cases e1:q=f
  ·rw[if_pos e1,if_pos e1]
  ·rw[if_neg e1,if_neg e1];exact h2
 refine⟨_,_,_,_,h.turn ((x.cells.set t (x.c f)).set f (mvC t)) (by simp) (λq=>if q=t then f else q) (λq=>if q=f then none else if q=t then pa f else pa q) (λq=>if q=f then 0 else if q=t then pk f else pk q) (λb=>if 0<pk f/\b=pb f then 6+t else role b) (by omega) o nf (λq hq=>?_) (λq hq=>?_) (λq hq=>?_) (λq hq hl=>?_) (λb hb=>?_) hcc⟩
 ·rw[hc q];by_cases e1:q=f
  ·subst e1;rw[if_pos rfl];exact gs
  ·rw[if_neg e1];by_cases e2:q=t
   ·subst e2;rw[if_pos rfl];exact hs
   ·rw[if_neg e2];exact(h.rw.s q hq).of λj hj=>ho q hq e2 e1 j (by omega)
 ·rw[hc q];by_cases e1:q=f
  ·subst e1;simp only [if_true];exact g7
  ·simp only [if_neg e1];by_cases e2:q=t
   ·subst e2;simp only [if_true];exact h7
   ·simp only [if_neg e2];rw[ho q hq e2 e1 7 (by omega)];exact h.rw.p7 q hq
 ·rw[hc q];by_cases e1:q=f
  ·rw[if_pos e1];simp [mvC]
  ·simp only [if_neg e1];by_cases e2:q=t
   ·simp only [if_pos e2];exact h.rw.kp f hf
   ·simp only [if_neg e2];exact h.rw.kp q hq
 ·rw[hc q];by_cases e1:q=f
  ·rw[if_pos e1] at hl;omega
  ·rw[if_neg e1] at hl;simp only [if_neg e1];by_cases e2:q=t
   ·rw[if_pos e2] at hl;simp only [if_pos e2];exact⟨⟨hf,trivial⟩,trivial,trivial,by rw[if_pos ⟨hl,trivial⟩,e2]⟩
   ·rw[if_neg e2] at hl;simp only [if_neg e2];refine⟨⟨hq,trivial⟩,trivial,trivial,?_⟩;rw[if_neg (λe=>?_)]
    ·exact h.sp.p q hq hl
    ·have r1:=h.sp.p q hq hl;have r2:=h.sp.p f hf e.1;rw[e.2] at r1;omega
 ·by_cases e:0<pk f/\b=pb f
  ·have r2:=h.sp.p f hf e.1;rw[<-e.2] at r2;omega
  ·rw[if_neg e]
end Go.Proofs.YtddkhnclmeikfaaGreat
