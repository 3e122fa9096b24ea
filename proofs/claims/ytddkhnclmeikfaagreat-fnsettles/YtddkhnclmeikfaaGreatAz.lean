import Derived.Test.YtddkhnclmeikfaaGreatWh3
import Derived.Test.YtddkhnclmeikfaaGreatLq
set_option maxRecDepth 100000
set_option maxHeartbeats 1000000
namespace Go.Proofs.YtddkhnclmeikfaaGreat
open Go.RowKit
attribute [local go_sem ↓] Go.wp_at_zero Go.wp_at_succ
variable{x y:Hp}{op a b c n:Int}{u:Nat}
structure b2e(x z:Hp):Prop where
 hl:z.cells.length=x.cells.length
 rest:a3p z x
 c:∀q,(z.c q).st=(x.c q).st/\(z.c q).kind=(x.c q).kind/\(z.c q).born=(x.c q).born/\(z.c q).color=(x.c q).color/\(z.c q).to=(x.c q).to
 wk:∀q,(z.c q).weak=(x.c q).weak\/((x.c q).st=1/\0<=(z.c q).weak/\(z.c q).weak<=3)
 la:∀q,(z.c q).last=(x.c q).last\/((x.c q).st=1/\0<=(z.c q).last/\(z.c q).last<=3)
 sp:∀q,cQ (z.c q)->cQ (x.c q)
 p:∀q,q<x.cells.length->∀k,k<(z.c q).prs.length->∃j,j<(x.c q).prs.length/\(z.c q).p k=(x.c q).p j/\(uV x=(q:Int)->((k:Int)<z.sub↔(j:Int)<x.sub))
 le:∀q,q<x.cells.length->(z.c q).prs.length<=(x.c q).prs.length
 us:z.used=(dQ z.cells:Nat)
 ul:z.used<=x.used
 s0:0<=z.sub/\z.sub<=x.sub
 s1:∀q,q<x.cells.length->uV x=(q:Int)->z.sub<=(z.c q).prs.length
theorem b5x(hp:x.phase=5)(h:x.hand<x.cells.length):uV x=x.hand:=by
 unfold uV;rw[if_neg (by omega),if_pos ⟨hp,h⟩]
theorem b5y(hp:x.phase=2)(h:0<x.gray.length):uV x=x.gray.getD 0 0:=by
 unfold uV;rw[if_pos ⟨hp,h⟩]
theorem Snd.thin{x z:Hp}(h:Snd x)(t:b2e x z):Snd z:=by
 obtain⟨e1,e2,e3,e4,e5,e6,e7,e8,e9,e10⟩:=t.rest;have dm:∀q,cL z q↔cL x q:=λq=>by unfold cL;rw[e4,e5,(t.c q).1,(t.c q).2.2.2.1]
 have ld:∀(y:Wd) (m m':Prop),(m->m')->cZ x y m->cZ z y m':=λy m m' hm l=>⟨by rw[t.hl];exact l.1,λhk=>by
  rw[(t.c _).1,dm];rcases l.2 hk with o | o
  ·exact .inl ⟨o.1,hm o.2⟩
  ·exact .inr o⟩
 have wh:∀y:Wd,cX z y->cX x y:=λy hy=>⟨hy.1,by rw[<-(t.c _).2.2.2.1];exact hy.2⟩
 have mk:uE z↔uE x:=by unfold uE;rw[e4]
 have s0:=t.s0
 have g0r:x.gray.length≠0->0<=x.gray.getD 0 0/\x.gray.getD 0 0<x.cells.length:=λhg=>by
  refine h.r5.2.2 _ ?_;cases hgr:x.gray with
  | nil=>rw[hgr] at hg;simp at hg
  | cons g G=>simp
 refine⟨?_,⟨λq hq=>?_,λq hq h0 k hk=>?_⟩,⟨t.us,?_⟩,⟨λi hi=>?_,λq hq=>⟨λd=>?_,λk hk=>?_⟩⟩,⟨λhm=>?_,λq hq=>?_,λg hg=>?_⟩,⟨λhp=>?_,λhp=>?_,λhp=>?_,λhp=>?_⟩,λhm q hq=>⟨λhb=>?_,λk hk=>?_⟩,λq hq=>?_⟩
 ·have r:=h.r1;exact⟨by rw[e1];exact r.room,by rw[e3];exact r.regs,by rw[t.hl,e1];exact r.cells,by rw[e6,t.hl];exact r.gray,by rw[e2];exact r.born,by rw[e9];exact r.rounds,by rw[e10];exact r.forced,by rw[e7];exact r.per,by rw[e8];exact r.start,by rw[e4];exact r.phase,by rw[e5,t.hl];exact r.hand,by have:=r.sub;omega⟩
 ·rw[t.hl] at hq;have ok:=h.r2.1 q hq;obtain⟨c1,c2,c3,c4,c5⟩:=t.c q;have l:=t.le q hq;have wk:=t.wk q;have la:=t.la q;unfold dN;rcases ok with⟨o,b,d⟩ | ⟨o,m⟩ | ⟨o,m⟩
  ·refine .inl ⟨by rw[c1];exact o,?_,by rw[c5];exact d⟩;unfold a5k at b ⊢;omega
  ·refine .inr (.inl ⟨by rw[c1];exact o,?_,by rw[e4];exact m.2.1,by rw[c5];exact m.2.2.1,by rw[c5];exact m.2.2.2.1,by rw[c5,(t.c _).1];exact m.2.2.2.2.1,λhp k hk=>?_⟩)
   ·have b:=m.1;unfold a5k at b ⊢;omega
   ·rw[(t.c k).1];rw[e4] at hp;rw[c5] at hk;exact m.2.2.2.2.2 hp k hk
  ·refine .inr (.inr ⟨by rw[c1];exact o,?_⟩);unfold a3h at m ⊢;rw[e2];omega
 ·rw[t.hl] at hq;rw[(t.c q).1] at h0;rw[(t.c k).1,(t.c k).2.2.1,(t.c k).2.2.2.2,(t.c q).1,(t.c q).2.2.1,(t.c q).2.2.2.2];exact h.r2.2 q hq h0 k hk
 ·rw[e1];have:=h.r3.2;have:=t.ul;omega
 ·have e:z.regs[i]=x.regs[i]'(by rw[<-e3];exact hi):=by simp only [e3]
  rw[e];exact ld _ _ _ id (h.r4.1 i (by rw[<-e3];exact hi))
 ·rw[t.hl] at hq;exact(h.r4.2 q hq).1 ⟨(dm q).1 d.1,t.sp q d.2⟩
 ·rw[t.hl] at hq;obtain⟨j,hj,ej,hs⟩:=t.p q hq k hk;have ok:=(h.r4.2 q hq).2 j hj;rw[ej]
  have me:cD z q k->cD x q j:=λm=>⟨by rw[<-e4];exact m.1,λhp=>by
   have:=m.2 (by rw[e4];exact hp);rw[e5] at this;rcases this with a | ⟨a,b⟩
   ·exact .inl a
   ·exact .inr ⟨a,(hs (by rw[b5x hp (by omega)];exact a.symm)).1 b⟩⟩
  refine⟨λd=>?_,λd=>?_⟩
  ·rw[t.hl];exact ok.1 ((dm q).1 d)
  ·have:=ok.2 (λd2=>d ((dm q).2 d2));exact⟨ld _ _ _ (λa b=>a (me b)) this.1,ld _ _ _ (λa b=>a (me b)) this.2⟩
 ·rw[e6];exact h.r5.1 (λm=>hm (mk.2 m))
 ·rw[t.hl] at hq;have o:=h.r5.2.1 q hq;unfold eQ at o ⊢;rw[(t.c q).2.2.2.1,e6,mk,e4,e5];exact o
 ·rw[e6] at hg;rw[t.hl];exact h.r5.2.2 g hg
 ·rw[e4] at hp;have:=h.r6.1 hp;rw[e5];omega
 ·rw[e4] at hp;have r:=h.r6.2.1 hp;rw[e5,e6];refine⟨r.1,λhg=>by have:=r.2.1 hg;omega,λhg=>?_⟩;have gr:=g0r hg;have e:z.g0=x.g0:=by unfold Hp.g0;rw[e6]
  rw[e];refine t.s1 x.g0 (by unfold Hp.g0;omega) ?_;rw[b5y hp (by omega)];unfold Hp.g0;omega
 ·rw[e4] at hp;have r:=h.r6.2.2.1 hp;have hh:=h.r1.hand;rw[e5,t.hl];refine⟨λhq=>?_,λhq=>?_⟩
  ·rw[(t.c _).1] at hq;have:=r.1 hq;omega
  ·refine t.s1 _ (by omega) ?_;rw[b5x hp (by omega)];omega
 ·rw[e4] at hp;have:=h.r6.2.2.2 hp;omega
 ·rw[t.hl] at hq;refine(h.r7 (mk.1 hm) q hq).1 ⟨t.sp q hb.1,by rw[<-(t.c q).2.2.2.1];exact hb.2.1,?_⟩;have:=hb.2.2;rw[e4,e5] at this;exact this
 ·rw[t.hl] at hq;have o:=(h.r7 (mk.1 hm) q hq).2
  have key:k<(z.c q).prs.length/\∀j:Nat,(uV x=(q:Int)->((k:Int)<z.sub↔(j:Int)<x.sub))->j<(x.c q).prs.length->j<cN x q:=by
   unfold cN at hk;rw[(t.c q).2.2.2.1,e4,e6] at hk
   split at hk
   ·rename_i hc;refine⟨hk,λj _ hj=>?_⟩;unfold cN;rw[if_pos hc];exact hj
   ·rename_i hc
    split at hk
    ·rename_i hd;have sc:uV x=(q:Int):=by rw[b5y hd.1 (by omega)];exact hd.2.2
     have:=t.s1 q hq sc;refine⟨by omega,λj hs _=>?_⟩;unfold cN;rw[if_neg hc,if_pos hd];have:=(hs sc).1 (by omega);omega
    ·omega
  obtain⟨j,hj,ej,hs⟩:=t.p q hq k key.1;rw[ej];have:=o j (key.2 j hs hj);exact⟨λw=>this.1 (wh _ w),λw=>this.2 (wh _ w)⟩
 ·rw[t.hl] at hq;rw[e4,e5,(t.c q).1];exact h.r8 q hq
def regTo(x:Hp)(r:Nat)(y:Wd):Hp:={ x with regs:=x.regs.set r y }
theorem Snd.regTo(h:Snd x)(r:Nat)(y:Wd)(hy:cZ x y False):Snd (regTo x r y) where
 r1:=⟨h.r1.room,by simp [Proofs.YtddkhnclmeikfaaGreat.regTo];exact h.r1.regs,h.r1.cells,h.r1.gray,h.r1.born,h.r1.rounds,h.r1.forced,h.r1.per,h.r1.start,h.r1.phase,h.r1.hand,h.r1.sub⟩
 r2:=h.r2
 r3:=h.r3
 r4:=⟨λi hi=>by
  have hi2:i<x.regs.length:=by simpa [Proofs.YtddkhnclmeikfaaGreat.regTo] using hi
  by_cases e:r=i
  ·subst e;have:(Proofs.YtddkhnclmeikfaaGreat.regTo x r y).regs[r]=y:=by simp [Proofs.YtddkhnclmeikfaaGreat.regTo]
   rw[this];exact hy
  ·have:(Proofs.YtddkhnclmeikfaaGreat.regTo x r y).regs[i]=x.regs[i]:=by simp [Proofs.YtddkhnclmeikfaaGreat.regTo,List.getElem_set_ne e]
   rw[this];exact h.r4.1 i hi2,h.r4.2⟩
 r5:=h.r5
 r6:=h.r6
 r7:=h.r7
 r8:=h.r8
def paceTo(x:Hp)(p s:Int):Hp:={ x with per:=p,start:=s }
theorem Snd.paceTo(h:Snd x)(p s:Int)(hp:0<=p/\p<=64)(hs:0<=s/\s<=4000):Snd (paceTo x p s) where
 r1:=⟨h.r1.room,h.r1.regs,h.r1.cells,h.r1.gray,h.r1.born,h.r1.rounds,h.r1.forced,hp,hs,h.r1.phase,h.r1.hand,h.r1.sub⟩
 r2:=h.r2
 r3:=h.r3
 r4:=h.r4
 r5:=h.r5
 r6:=h.r6
 r7:=h.r7
 r8:=h.r8
def forceTo(x:Hp):Hp:={ x with forced:=if x.forced<1000000000 then x.forced+1 else x.forced }
theorem Snd.forceTo(h:Snd x):Snd (forceTo x) where
 r1:=⟨h.r1.room,h.r1.regs,h.r1.cells,h.r1.gray,h.r1.born,h.r1.rounds,by have:=h.r1.forced;show 0<=(if x.forced<1000000000 then x.forced+1 else x.forced)/\(if x.forced<1000000000 then x.forced+1 else x.forced)<=1000000000;split <;> omega,h.r1.per,h.r1.start,h.r1.phase,h.r1.hand,h.r1.sub⟩
 r2:=h.r2
 r3:=h.r3
 r4:=h.r4
 r5:=h.r5
 r6:=h.r6
 r7:=h.r7
 r8:=h.r8
def b6z(x:Hp)(y:Hp):Prop:=∃k,EndIs x k/\y=itU k x
theorem b6z.snd(s:Snd x)(h:b6z x y):Snd y/\y.phase=0:=by
 obtain⟨k,a,b⟩:=h;rw[b];exact⟨s.itU k,a.1⟩
def stepH(x:Hp)(n:Nat):Hp:=if x.phase=0/\n≠0 then zC x 1 0 else x
theorem Snd.stepH(s:Snd x)(n:Nat):Snd (stepH x n):=by
 unfold Go.Proofs.YtddkhnclmeikfaaGreat.stepH
 split
 ·rename_i h;exact s.begin h.1
 ·exact s
def a2n(x:Hp)(u:Nat):Bool:=decide (x.used+u<=x.room)
def RdIs(x z:Hp):Prop:=∃y,b6z x y/\b6z (zC y 1 0) z
theorem RdIs.snd{z:Hp}(s:Snd x)(h:RdIs x z):Snd z:=by
 obtain⟨y,h1,h2⟩:=h;exact(h2.snd ((h1.snd s).1.begin (h1.snd s).2)).1
def a4s(x:Hp)(u:Nat)(y:Hp):Prop:=(a2n x u=true/\y=x)\/(a2n x u=false/\RdIs (forceTo x) y)
theorem a4s.snd(s:Snd x)(h:a4s x u y):Snd y:=by
 rcases h with⟨_,h⟩ | ⟨_,h⟩
 ·rw[h];exact s
 ·exact h.snd s.forceTo
def b0b(x:Hp)(u:Nat):Bool:=x.per == 0 || (u == 0 || (x.phase == 0 && decide (x.used<=x.start)))
def a6a(x:Hp)(u:Nat)(y:Hp):Prop:=(b0b x u=true/\y=x)\/(b0b x u=false/\∃k,b3y (stepH x (x.per.toNat*u)) (x.per.toNat*u) k/\y=itU k (stepH x (x.per.toNat*u)))
theorem a6a.snd(s:Snd x)(h:a6a x u y):Snd y:=by
 rcases h with⟨_,h⟩ | ⟨_,k,_,h⟩
 ·rw[h];exact s
 ·rw[h];exact(s.stepH _).itU k
def a2f(c:Cl)(n:Nat):Cl:={ c with prs:=c.prs++List.replicate n Pr0 }
def zX(x:Hp)(i n:Nat):Hp:={ x with cells:=x.cells.set i (a2f (x.c i) n),used:=x.used+n }
theorem a3c(x:Hp)(i n:Nat)(hi:i<x.cells.length)(q:Nat):(zX x i n).c q=if q=i then a2f (x.c i) n else x.c q:=Hp.c_set x i (a2f (x.c i) n) hi q
theorem a0j(x:Hp)(i n:Nat):(zX x i n).cells.length=x.cells.length:=by simp [zX]
theorem a0v(x:Hp)(i n:Nat)(hi:i<x.cells.length)(q:Nat):((zX x i n).c q).st=(x.c q).st/\((zX x i n).c q).kind=(x.c q).kind/\((zX x i n).c q).weak=(x.c q).weak/\((zX x i n).c q).last=(x.c q).last/\((zX x i n).c q).born=(x.c q).born/\((zX x i n).c q).color=(x.c q).color/\((zX x i n).c q).to=(x.c q).to:=by
 rw[a3c x i n hi q];by_cases e:q=i
 ·rw[if_pos e,e];exact⟨rfl,rfl,rfl,rfl,rfl,rfl,rfl⟩
 ·rw[if_neg e];exact⟨rfl,rfl,rfl,rfl,rfl,rfl,rfl⟩
theorem c3q(c:Cl)(n k:Nat):(a2f c n).p k=if k<c.prs.length then c.p k else Pr0:=by
 unfold Cl.p a2f;by_cases h:k<c.prs.length
 ·rw[if_pos h];simp only [List.getD_eq_getElem?_getD];rw[List.getElem?_append_left h]
 ·rw[if_neg h];simp only [List.getD_eq_getElem?_getD];rw[List.getElem?_append_right (by omega)];by_cases h2:k-c.prs.length<n
  ·simp [h2]
  ·simp [h2]
theorem a3t(x:Hp)(i n:Nat)(hi:i<x.cells.length)(q:Nat):cL (zX x i n) q↔cL x q:=by
 have a:=a0v x i n hi q;unfold cL;rw[a.1,a.2.2.2.2.2.1];exact Iff.rfl
theorem a7g(x:Hp)(i n:Nat)(hi:i<x.cells.length)(y:Wd)(m:Prop):cZ (zX x i n) y m↔cZ x y m:=by
 have a:=a0v x i n hi y.a.toNat;unfold cZ;rw[a0j,a.1,a3t x i n hi]
theorem Snd.grow(h:Snd x)(i n:Nat)(hi:i<x.cells.length)(hs:(x.c i).st=1)(hl:(x.c i).prs.length+n<=200)(hu:x.used+n<=x.room):Snd (zX x i n) where
 r1:=⟨h.r1.room,h.r1.regs,by rw[a0j];exact h.r1.cells,by rw[a0j];exact h.r1.gray,h.r1.born,h.r1.rounds,h.r1.forced,h.r1.per,h.r1.start,h.r1.phase,by rw[a0j];exact h.r1.hand,h.r1.sub⟩
 r2:=⟨λq hq=>by
  rw[a0j] at hq;have ok:=h.r2.1 q hq;have aT:=a0v x i n hi (x.c q).to.toNat;by_cases e:q=i
  ·subst e;rcases ok with o | o | o
   ·omega
   ·omega
   ·refine .inr (.inr ⟨?_,?_⟩)
    ·rw[a3c x q n hi q,if_pos rfl];exact hs
    ·rw[a3c x q n hi q,if_pos rfl];obtain⟨_,o1,o2,o3,o4,o5,o6,o7⟩:=o;exact⟨o1,o2,o3,o4,o5,o6,by simp [a2f];omega⟩
  ·have ec:(zX x i n).c q=x.c q:=by rw[a3c x i n hi q,if_neg e]
   unfold dN;rw[ec];rcases ok with o | ⟨o,m⟩ | o
   ·exact .inl o
   ·refine .inr (.inl ⟨o,m.1,m.2.1,m.2.2.1,m.2.2.2.1,by rw[aT.1];exact m.2.2.2.2.1,λhp k hk=>?_⟩);have ak:=a0v x i n hi k;rw[ak.1];exact m.2.2.2.2.2 hp k hk
   ·exact .inr (.inr o),λq hq h0 k hk=>by
  rw[a0j] at hq;have aq:=a0v x i n hi q;have ak:=a0v x i n hi k;rw[aq.1] at h0;rw[ak.1,ak.2.2.2.2.1,ak.2.2.2.2.2.2,aq.1,aq.2.2.2.2.1,aq.2.2.2.2.2.2];exact h.r2.2 q hq h0 k hk⟩
 r3:=by
  have u:=a1w x.cells i (a2f (x.c i) n) hi;rw[Hp.c_eq x i hi] at u;have e1:cH (x.c i)=1+(x.c i).prs.length:=by unfold cH;rw[if_pos hs]
  have e2:cH (a2f (x.c i) n)=1+((x.c i).prs.length+n):=by
   unfold cH;rw[if_pos (show(a2f (x.c i) n).st=1 from hs)];simp [a2f]
  rw[e1,e2] at u;have r:=h.r3;refine⟨?_,hu⟩;show x.used+(n:Int)=(dQ (x.cells.set i (a2f (x.c i) n)):Nat);have:=r.1;omega
 r4:=⟨λj hj=>(a7g x i n hi _ _).2 (h.r4.1 j hj),λq hq=>by
  rw[a0j] at hq;have aq:=a0v x i n hi q;refine⟨λ⟨d,s⟩=>(h.r4.2 q hq).1 ⟨(a3t x i n hi q).1 d,by unfold cQ at s ⊢;rw[aq.2.2.2.1] at s;exact s⟩,λk hk=>?_⟩
  have key:∀p:Pr,a2o x q k p->a2o (zX x i n) q k p:=λp o=>⟨λd=>by rw[a0j];exact o.1 ((a3t x i n hi q).1 d),λd=>by
   have:=o.2 (λd2=>d ((a3t x i n hi q).2 d2));exact⟨(a7g x i n hi _ _).2 this.1,(a7g x i n hi _ _).2 this.2⟩⟩
  by_cases e:q=i
  ·subst e;rw[a3c x q n hi q,if_pos rfl] at hk ⊢;rw[c3q];by_cases hk2:k<(x.c q).prs.length
   ·rw[if_pos hk2];exact key _ ((h.r4.2 q hq).2 k hk2)
   ·rw[if_neg hk2];have nl:∀m:Prop,cZ x ⟨0,0,0⟩ m:=λm=>⟨.inl ⟨rfl,rfl,rfl⟩,λh=>by simp at h⟩
    exact key _ ⟨λ_=>⟨(nl True).1,(nl True).1⟩,λ_=>⟨nl _,nl _⟩⟩
  ·rw[a3c x i n hi q,if_neg e] at hk ⊢;exact key _ ((h.r4.2 q hq).2 k hk)⟩
 r5:=⟨h.r5.1,λq hq=>by
  rw[a0j] at hq;have aq:=a0v x i n hi q;unfold eQ;rw[aq.2.2.2.2.2.1];exact h.r5.2.1 q hq,λg hg=>by rw[a0j];exact h.r5.2.2 g hg⟩
 r6:=by
  have lg:∀q,(x.c q).prs.length<=((zX x i n).c q).prs.length:=λq=>by
   rw[a3c x i n hi q];by_cases e:q=i
   ·rw[if_pos e,e];simp [a2f]
   ·rw[if_neg e];exact Nat.le_refl _
  obtain⟨a,b,c,d⟩:=h.r6;refine⟨a,λhp=>⟨(b hp).1,(b hp).2.1,λhg=>?_⟩,λhp=>⟨λhq=>(c hp).1 ?_,λhq=>?_⟩,d⟩
  ·have h1:=(b hp).2.2 hg;have h2:=lg x.g0;show x.sub<=(((zX x i n).c x.g0).prs.length:Int);omega
  ·rw[a0j] at hq;have:=a0v x i n hi x.hand.toNat;rcases hq with hq | hq
   ·exact .inl hq
   ·exact .inr (by rw[<-this.1];exact hq)
  ·rw[a0j] at hq;have a1:=a0v x i n hi x.hand.toNat;have h1:=(c hp).2 ⟨hq.1,by rw[<-a1.1];exact hq.2⟩;have h2:=lg x.hand.toNat;show x.sub<=(((zX x i n).c x.hand.toNat).prs.length:Int);omega
 r7:=λhm q hq=>by
  rw[a0j] at hq;have aq:=a0v x i n hi q;have o:=h.r7 hm q hq;refine⟨λhb=>o.1 ⟨by have:=hb.1;unfold cQ at this ⊢;rw[aq.2.2.2.1] at this;exact this,by rw[<-aq.2.2.2.2.2.1];exact hb.2.1,hb.2.2⟩,λk hk=>?_⟩;have wh:∀y:Wd,cX (zX x i n) y->cX x y:=λy hy=>⟨hy.1,by rw[<-(a0v x i n hi y.a.toNat).2.2.2.2.2.1];exact hy.2⟩
  have nil:∀p:Pr,p=Pr0->¬cX (zX x i n) p.key/\¬cX (zX x i n) p.val:=λp e=>by subst e;exact⟨λw=>by have:=w.1;simp [Pr0] at this,λw=>by have:=w.1;simp [Pr0] at this⟩
  have old:∀k,k<cN x q->(k<(x.c q).prs.length->True)->¬cX (zX x i n) ((x.c q).p k).key/\¬cX (zX x i n) ((x.c q).p k).val:=λk hk _=>⟨λw=>(o.2 k hk).1 (wh _ w),λw=>(o.2 k hk).2 (wh _ w)⟩
  by_cases e:q=i
  ·subst e;rw[a3c x q n hi q,if_pos rfl,c3q];by_cases hk2:k<(x.c q).prs.length
   ·rw[if_pos hk2];refine old k ?_ (λ_=>trivial);unfold cN at hk ⊢;rw[aq.2.2.2.2.2.1] at hk
    split at hk
    ·rename_i hc;rw[if_pos hc];exact hk2
    ·rename_i hc;rw[if_neg hc];exact hk
   ·rw[if_neg hk2];exact nil _ rfl
  ·rw[a3c x i n hi q,if_neg e];refine old k ?_ (λ_=>trivial);unfold cN at hk ⊢;rw[a3c x i n hi q,if_neg e] at hk;exact hk
 r8:=λq hq=>by
  rw[a0j] at hq;rw[(a0v x i n hi q).1];exact h.r8 q hq
def yH(b k:Int)(n:Nat)(col:Int):Cl:=⟨1,k,0,0,b,col,0,List.replicate n Pr0⟩
def qQ(x:Hp)(t:Nat):Int:=if x.phase=1\/x.phase=2\/(x.phase=3/\x.hand<=(t:Int)) then 2 else 0
def a5e(x:Hp)(t:Nat)(c:Cl):List Cl:=if t<x.cells.length then x.cells.set t c else x.cells++[c]
def a4p(x:Hp)(k:Int)(n:Nat):Hp:={ x with born:=x.born+1,used:=x.used+(1+n),cells:=a5e x (cJ x) (yH (x.born+1) k n (qQ x (cJ x))) }
theorem a7y(x:Hp)(t:Nat)(c:Cl):(a5e x t c).length=if t<x.cells.length then x.cells.length else x.cells.length+1:=by
 unfold a5e
 split <;> simp
theorem c3r(x z:Hp)(t:Nat)(c:Cl)(ht:t<=x.cells.length)(hz:z.cells=a5e x t c)(q:Nat):z.c q=if q=t then c else x.c q:=by
 unfold Hp.c;rw[hz];unfold a5e;by_cases h:t<x.cells.length
 ·rw[if_pos h];simp only [List.getD_eq_getElem?_getD,List.getElem?_set];by_cases e:q=t
  ·subst e;simp [h]
  ·rw[if_neg (λe'=>e e'.symm),if_neg e]
 ·rw[if_neg h];have te:t=x.cells.length:=by omega
  simp only [List.getD_eq_getElem?_getD];by_cases e:q=t
  ·rw[if_pos e,e,te];simp
  ·rw[if_neg e];by_cases h2:q<x.cells.length
   ·rw[List.getElem?_append_left h2]
   ·rw[List.getElem?_eq_none (by simp;omega),List.getElem?_eq_none (by omega)]
theorem Snd.crowd{x:Hp}(h:Snd x)(hf:∀i,i<x.cells.length->(x.c i).st≠0):x.cells.length<=2*dQ x.cells:=by
 have r2:=h.r2
 let U:=(List.range x.cells.length).filter (λi=>(x.c i).st == 1)
 let M:=(List.range x.cells.length).filter (λi=>(x.c i).st == 2)
 have hU:U.length<=dQ x.cells:=by
  have key:∀m,m<=x.cells.length->((List.range m).filter (λi=>(x.c i).st == 1)).length<=dQ (x.cells.take m):=λm=>by
   induction m with
   | zero=>intro _;simp
   | succ m ih=>
    intro hm;have i1:=ih (by omega);have ht:x.cells.take (m+1)=x.cells.take m++[x.cells[m]'(by omega)]:=List.take_succ_eq_append_getElem (by omega);rw[List.range_succ,List.filter_append,List.length_append,ht];have eu:dQ (x.cells.take m++[x.cells[m]'(by omega)])=dQ (x.cells.take m)+cH (x.c m):=by simp [dQ,Hp.c_eq x m (by omega)]
    rw[eu];by_cases e:(x.c m).st=1
    ·have:cH (x.c m)=1+(x.c m).prs.length:=by unfold cH;rw[if_pos e]
     simp [e];omega
    ·simp [e];omega
  have:=key x.cells.length (Nat.le_refl _);rw[List.take_length] at this;exact this
 have hM:M.length<=U.length:=by
  have nd:(M.map (λi=>(x.c i).to.toNat)).Nodup:=by
   rw[List.nodup_iff_pairwise_ne,List.pairwise_map];have pm:M.Pairwise (· < ·):=List.Pairwise.filter _ List.pairwise_lt_range;refine List.Pairwise.imp_of_mem (λ{a b} ha hb hab e=>?_) pm;have ha2:=List.mem_filter.1 ha;have hb2:=List.mem_filter.1 hb;have la:=List.mem_range.1 ha2.1;have lb:=List.mem_range.1 hb2.1;have sa:(x.c a).st=2:=by simpa using ha2.2
   have sb:(x.c b).st=2:=by simpa using hb2.2
   have oa:=r2.1 a la;have ob:=r2.1 b lb;unfold dN eV a5k at oa ob;exact r2.2 b lb (by omega) a hab ⟨by omega,by omega,by omega⟩
  have sub:∀z,z∈M.map (λi=>(x.c i).to.toNat)->z∈U:=λz hz=>by
   obtain⟨i,hi,e⟩:=List.mem_map.1 hz;have hi2:=List.mem_filter.1 hi;have li:=List.mem_range.1 hi2.1;have si:(x.c i).st=2:=by simpa using hi2.2
   have oi:=r2.1 i li;unfold dN eV at oi
   have st:(x.c (x.c i).to.toNat).st=1:=by
    rcases oi with o | o | o
    ·omega
    ·exact o.2.2.2.2.2.1
    ·omega
   rw[<-e];exact List.mem_filter.2 ⟨List.mem_range.2 (by omega),by simpa using st⟩
  have:=List.Nodup.length_le_of_subset nd sub
  simpa using this
 have hA:x.cells.length<=U.length+M.length:=by
  have key:∀m,m<=x.cells.length->m<=((List.range m).filter (λi=>(x.c i).st == 1)).length+((List.range m).filter (λi=>(x.c i).st == 2)).length:=λm=>by
   induction m with
   | zero=>intro _;omega
   | succ m ih=>
    intro hm;have i1:=ih (by omega);rw[List.range_succ,List.filter_append,List.filter_append,List.length_append,List.length_append];have:=r2.1 m (by omega);have nf:=hf m (by omega);have s12:(x.c m).st=1\/(x.c m).st=2:=by unfold dN at this;omega
    rcases s12 with e | e
    ·simp [e];omega
    ·simp [e];omega
  exact key x.cells.length (Nat.le_refl _)
 omega
theorem newC_p(b k:Int)(n:Nat)(col:Int)(j:Nat):(yH b k n col).p j=Pr0:=by
 unfold Cl.p yH;simp only [List.getD_eq_getElem?_getD];by_cases h:j<n
 ·simp [h]
 ·simp [h]
theorem Snd.make{x:Hp}(h:Snd x)(k:Int)(n:Nat)(hk:0<=k/\k<=255)(hn:n<=200)(hb:x.born<1000000000)(hu:x.used+(1+n)<=x.room):Snd (a4p x k n)/\((a4p x k n).c (cJ x)).st=1/\cJ x<(a4p x k n).cells.length/\¬cL (a4p x k n) (cJ x):=by
 obtain⟨f1,f2,f3⟩:=a1m x;obtain⟨t,ht⟩:∃t,t=cJ x:=⟨_,rfl⟩;obtain⟨c,hc⟩:∃c,c=yH (x.born+1) k n (qQ x t):=⟨_,rfl⟩;obtain⟨z,hz⟩:∃z,z=a4p x k n:=⟨_,rfl⟩;rw[<-ht] at f1 f2 f3 ⊢;have zcs:z.cells=a5e x t c:=by rw[hz,hc,ht];rfl
 have zc:∀q,z.c q=if q=t then c else x.c q:=c3r x z t c f1 zcs
 have zl:z.cells.length=if t<x.cells.length then x.cells.length else x.cells.length+1:=by rw[zcs];exact a7y x t c
 have zle:x.cells.length<=z.cells.length:=by rw[zl];split <;> omega
 have zq:∀q,q<z.cells.length->q=t\/(q≠t/\q<x.cells.length):=λq hq=>by
  rw[zl] at hq;by_cases e:q=t
  ·exact .inl e
  ·refine .inr ⟨e,?_⟩
   split at hq <;> omega
 have tl:t<z.cells.length:=by rw[zl];split <;> omega
 have zne:∀q,q≠t->z.c q=x.c q:=λq e=>by rw[zc q,if_neg e]
 have ze:z.c t=c:=by rw[zc t,if_pos rfl]
 have free:∀q,q<x.cells.length->(x.c q).st≠0->q≠t:=λq hq hs e=>by subst e;exact hs (f3 hq)
 have zro:z.room=x.room:=by rw[hz];rfl
 have zus:z.used=x.used+(1+n):=by rw[hz];rfl
 have zbo:z.born=x.born+1:=by rw[hz];rfl
 have zre:z.regs=x.regs:=by rw[hz];rfl
 have zph:z.phase=x.phase:=by rw[hz];rfl
 have zha:z.hand=x.hand:=by rw[hz];rfl
 have zsu:z.sub=x.sub:=by rw[hz];rfl
 have zgr:z.gray=x.gray:=by rw[hz];rfl
 have zrest:z.per=x.per/\z.start=x.start/\z.rounds=x.rounds/\z.forced=x.forced:=by rw[hz];exact⟨rfl,rfl,rfl,rfl⟩
 have cst:c.st=1:=by rw[hc];rfl
 have cbo:c.born=x.born+1:=by rw[hc];rfl
 have cto:c.to=0:=by rw[hc];rfl
 have cla:c.last=0:=by rw[hc];rfl
 have cco:c.color=qQ x t:=by rw[hc];rfl
 have cpl:c.prs.length=n:=by rw[hc];simp [yH]
 have cp:∀j,c.p j=Pr0:=λj=>by rw[hc];exact newC_p _ _ _ _ j
 have ncd:¬cL z t:=λd=>by
  have d4:=d.2.2.2;rw[ze,cco] at d4;unfold qQ at d4;have d1:=d.1;have d2:=d.2.1;rw[zph] at d1;rw[zha] at d2;rw[if_pos (.inr (.inr ⟨d1,d2⟩))] at d4;omega
 have dm:∀q,q≠t->(cL z q↔cL x q):=λq e=>by unfold cL;rw[zph,zha,zne q e]
 have fm:∀y:Wd,uJ y x.cells.length->uJ y z.cells.length:=λy f=>by unfold uJ at f ⊢;omega
 have ld:∀(y:Wd) (m:Prop),cZ x y m->cZ z y m:=λy m l=>⟨fm y l.1,λhk=>by
  have hf:=l.1;unfold uJ at hf;have hy:y.a.toNat<x.cells.length:=by omega
  rcases l.2 hk with o | o
  ·have e:=free _ hy (by rw[o.1];omega);rw[zne _ e];exact .inl o
  ·have e:=free _ hy (by rw[o.1];omega);rw[zne _ e];exact .inr ⟨o.1,λd=>o.2 ((dm _ e).1 d)⟩⟩
 have nl:∀m:Prop,cZ z ⟨0,0,0⟩ m:=λm=>⟨.inl ⟨rfl,rfl,rfl⟩,λh=>by simp at h⟩
 have us:x.used=(dQ x.cells:Nat):=h.r3.1;rw[<-hz];refine⟨⟨?_,?_,?_,?_,?_,?_,?_,?_⟩,by rw[ze];exact cst,tl,ncd⟩
 ·have rc:=h.r1.cells;have rr:=h.r1.room;refine⟨by rw[zro];exact rr,by rw[zre];exact h.r1.regs,?_,by rw[zgr];exact Nat.le_trans h.r1.gray zle,by rw[zbo];have:=h.r1.born;omega,by rw[zrest.2.2.1];exact h.r1.rounds,by rw[zrest.2.2.2];exact h.r1.forced,by rw[zrest.1];exact h.r1.per,by rw[zrest.2.1];exact h.r1.start,by rw[zph];exact h.r1.phase,by rw[zha];have:=h.r1.hand;omega,by rw[zsu];exact h.r1.sub⟩;rw[zro,zl];by_cases e:t<x.cells.length
  ·rw[if_pos e];exact rc
  ·rw[if_neg e];have:=h.crowd (λi hi=>f2 i (by omega));omega
 ·refine⟨λq hq=>?_,λq hq h0 j hj hb2=>?_⟩
  ·rcases zq q hq with e | ⟨e,hqx⟩
   ·subst e;refine .inr (.inr ⟨by rw[ze];exact cst,?_⟩);rw[ze];have cc:0<=c.color/\c.color<=2:=by rw[cco];unfold qQ;split <;> omega
    have ck:c.kind=k:=by rw[hc];rfl
    have cw:c.weak=0:=by rw[hc];rfl
    have:=h.r1.born;exact⟨by rw[ck];exact hk,by omega,by omega,by rw[zbo];omega,cc,cto,by omega⟩
   ·have ok:=h.r2.1 q hqx;unfold dN;rw[zne q e];rcases ok with o | ⟨o,m⟩ | ⟨o,m⟩
    ·exact .inl o
    ·have mt:=m.2.2.2.2.1;have tt:=m.2.2.2.1;have t0:=m.2.2.1;have e2:=free (x.c q).to.toNat (by omega) (by rw[mt];omega);refine .inr (.inl ⟨o,m.1,by rw[zph];exact m.2.1,t0,tt,by rw[zne _ e2];exact mt,λhp j hj=>?_⟩);rw[zph] at hp;have:=m.2.2.2.2.2 hp j hj;by_cases ej:j=t
     ·rw[ej,ze];omega
     ·rw[zne j ej];exact this
    ·refine .inr (.inr ⟨o,?_⟩);unfold a3h at m ⊢;rw[zbo];omega
  ·have key:∀a,a≠t->a<x.cells.length->(x.c a).st=1->(x.c a).born<=x.born:=λa _ ha hs=>by
    have:=h.r2.1 a ha;unfold dN a3h at this;omega
   rcases zq q hq with e | ⟨e,hqx⟩
   ·subst e;rcases zq j (by omega) with e2 | ⟨e2,hjx⟩
    ·omega
    ·rw[zne j e2,ze] at hb2;have:=key j e2 hjx (by omega);omega
   ·rcases zq j (by omega) with e2 | ⟨e2,hjx⟩
    ·subst e2;rw[ze,zne q e] at hb2;have:=key q e hqx (by omega);omega
    ·rw[zne j e2,zne q e] at hb2;rw[zne q e] at h0;exact h.r2.2 q hqx h0 j hj hb2
 ·refine⟨?_,by rw[zus,zro];exact hu⟩;rw[zus,zcs];have uc:cH c=1+n:=by unfold cH;rw[if_pos cst,cpl]
  unfold a5e;by_cases e:t<x.cells.length
  ·rw[if_pos e];have u:=a1w x.cells t c e;rw[Hp.c_eq x t e] at u;have u0:cH (x.c t)=0:=by unfold cH;rw[if_neg (by rw[f3 e];omega)]
   omega
  ·rw[if_neg e];have:dQ (x.cells++[c])=dQ x.cells+cH c:=by simp [dQ]
   omega
 ·refine⟨λi hi=>?_,λq hq=>?_⟩
  ·have e:z.regs[i]=x.regs[i]'(by rw[<-zre];exact hi):=by simp only [zre]
   rw[e];exact ld _ _ (h.r4.1 i (by rw[<-zre];exact hi))
  ·rcases zq q hq with e | ⟨e,hqx⟩
   ·subst e;refine⟨λd=>ncd d.1,λj hj=>?_⟩;rw[ze,cp j];exact⟨λd=>(ncd d).elim,λ_=>⟨nl _,nl _⟩⟩
   ·have o:=h.r4.2 q hqx;have md:∀j,cD z q j↔cD x q j:=λj=>by unfold cD;rw[zph,zha,zsu]
    rw[zne q e];refine⟨λd=>o.1 ⟨(dm q e).1 d.1,d.2⟩,λj hj=>?_⟩;have p:=o.2 j hj;refine⟨λd=>?_,λd=>?_⟩
    ·have:=p.1 ((dm q e).1 d);exact⟨fm _ this.1,fm _ this.2⟩
    ·have:=p.2 (λd2=>d ((dm q e).2 d2));have em:(¬cD z q j)=(¬cD x q j):=propext (not_congr (md j));rw[em];exact⟨ld _ _ this.1,ld _ _ this.2⟩
 ·refine⟨λhm=>by rw[zgr];exact h.r5.1 (λm=>hm (by unfold uE at m ⊢;rw[zph];exact m)),λq hq=>?_,λg hg=>?_⟩
  ·rcases zq q hq with e | ⟨e,hqx⟩
   ·subst e
    have c0:cnt x.gray q=0:=by
     by_cases e:q<x.cells.length
     ·have ok:=h.r2.1 q e;have s0:=f3 e;have:(x.c q).color≠1:=by unfold dN a5k at ok;omega
      exact(h.r5.2.1 q e).2.1 this
     ·unfold cnt;rw[List.count_eq_zero];intro hg;have:=h.r5.2.2 _ hg;omega
    unfold eQ;rw[ze,zgr,zph,zha,cco];refine⟨λe1=>?_,λ_=>c0,λe2=>?_⟩
    ·unfold qQ at e1;split at e1 <;> omega
    ·unfold qQ at e2
     split at e2
     ·rename_i hh;rcases hh with hh | hh | hh
      ·exact .inl (by unfold uE;rw[zph];exact .inl hh)
      ·exact .inl (by unfold uE;rw[zph];exact .inr hh)
      ·exact .inr hh
     ·omega
   ·have o:=h.r5.2.1 q hqx;unfold eQ at o ⊢;rw[zne q e,zgr,zph,zha]
    exact⟨o.1,o.2.1,λe2=>by
     rcases o.2.2 e2 with m | m
     ·exact .inl (by unfold uE at m ⊢;rw[zph];exact m)
     ·exact .inr m⟩
  ·rw[zgr] at hg;have:=h.r5.2.2 g hg;omega
 ·obtain⟨a,b,d,e⟩:=h.r6;refine⟨λhp=>by rw[zph] at hp;rw[zha,zsu];exact a hp,λhp=>?_,λhp=>?_,λhp=>by rw[zph] at hp;rw[zsu];exact e hp⟩
  ·rw[zph] at hp;have b2:=b hp;have eg:z.g0=x.g0:=by unfold Hp.g0;rw[zgr]
   rw[zha,zgr,zsu,eg];refine⟨b2.1,b2.2.1,λhg=>?_⟩;have hs:=b2.2.2 hg
   have gl:(x.gray.getD 0 0)∈x.gray:=by
    cases hgr:x.gray with
    | nil=>rw[hgr] at hg;simp at hg
    | cons g G=>simp
   have gr:=h.r5.2.2 _ gl;have g0l:x.g0<x.cells.length:=by unfold Hp.g0;omega
   by_cases e2:x.g0=t
   ·have s0:=f3 (by omega);rw[<-e2] at s0;have ok:=h.r2.1 x.g0 g0l;have p0:(x.c x.g0).prs.length=0:=by unfold dN a5k at ok;omega
    rw[e2,ze,cpl];omega
   ·rw[zne _ e2];exact hs
  ·rw[zph] at hp;have d2:=d hp;have hh:=h.r1.hand;rw[zha,zsu];have hcase:x.hand.toNat=t\/x.hand.toNat≠t:=by omega
   refine⟨λhq=>?_,λhq=>?_⟩
   ·rcases hcase with e2 | e2
    ·rcases hq with hq | hq
     ·exfalso;rw[zl] at hq
      split at hq <;> omega
     ·rw[e2,ze] at hq;omega
    ·rcases hq with hq | hq
     ·refine d2.1 (.inl ?_);rw[zl] at hq
      split at hq <;> omega
     ·rw[zne _ e2] at hq;exact d2.1 (.inr hq)
   ·rcases hcase with e2 | e2
    ·have s0:x.sub=0:=by
      by_cases e3:t<x.cells.length
      ·refine d2.1 (.inr ?_);rw[e2,f3 e3];omega
      ·exact d2.1 (.inl (by omega))
     rw[s0];omega
    ·rw[zne _ e2] at hq ⊢;refine d2.2 ⟨λe3=>?_,hq.2⟩;have h1:=hq.1;have h2:=hq.2;rw[zl] at h1
     split at h1
     ·omega
     ·omega
 ·intro hm q hq;have hm2:uE x:=by unfold uE at hm ⊢;rw[zph] at hm;exact hm
  have wh:∀y:Wd,cX z y->cX x y:=λy hy=>⟨hy.1,by
   have h2:=hy.2;by_cases e:y.a.toNat=t
   ·rw[e,ze,cco] at h2;unfold qQ at h2;unfold uE at hm2;rw[if_pos (by omega)] at h2;omega
   ·rw[zne _ e] at h2;exact h2⟩
  rcases zq q hq with e | ⟨e,hqx⟩
  ·subst e;rw[ze];refine⟨λs=>?_,λj _=>?_⟩
   ·have:=s.1;unfold cQ at this;omega
   ·rw[cp j];exact⟨λw=>by have:=w.1;simp [Pr0] at this,λw=>by have:=w.1;simp [Pr0] at this⟩
  ·have o:=h.r7 hm2 q hqx;rw[zne q e,zph,zha];refine⟨o.1,λj hj=>?_⟩;have lk:cN z q=cN x q:=by unfold cN;rw[zne q e,zph,zgr,zsu]
   rw[lk] at hj;exact⟨λw=>(o.2 j hj).1 (wh _ w),λw=>(o.2 j hj).2 (wh _ w)⟩
 ·intro q hq;rw[zph,zha];rcases zq q hq with e | ⟨e,hqx⟩
  ·subst e;rw[ze];intro hb2;omega
  ·rw[zne q e];exact h.r8 q hqx
def zH(op:Int):Bool:=!(op == 18 || op == 20 || op == 21 || op == 22 || op == 23 || op == 24)
def zY(op:Int):Bool:=op == 4 || op == 5 || op == 6 || op == 7 || op == 8 || op == 13
def zJ(op:Int):Int:=if op=1 then 255 else if zY op=true then 15 else if op=23 then 64 else 0
def tH(op:Int):Int:=if op=1\/op=9\/op=10 then 200 else if 5<=op/\op<=8 then 199 else if op=11 then 3 else if op=12 then 1 else if op=22 then 100000 else if op=23 then 4000 else 0
theorem b9m(op:Int)(h1:1<=op)(h2:op<=24):op=1\/op=2\/op=3\/op=4\/op=5\/op=6\/op=7\/op=8\/op=9\/op=10\/op=11\/op=12\/op=13\/op=14\/op=15\/op=16\/op=17\/op=18\/op=19\/op=20\/op=21\/op=22\/op=23\/op=24:=by omega
theorem a7z(op:Int)(h1:1<=op)(h2:op<=24)(w:World):Calls Tryz.prog 220 #[.int .i64 op] w λe w'=>e=.returned (.tuple #[.bool (zH op),.bool (zY op)])/\w'=w:=by
 have h:=b9m op h1 h2;clear h1 h2;rcases h with rfl | rfl | rfl | rfl | rfl | rfl | rfl | rfl | rfl | rfl | rfl | rfl | rfl | rfl | rfl | rfl | rfl | rfl | rfl | rfl | rfl | rfl | rfl | rfl
 all_goals
  go_enter Tryz.func220,Tryz.ntmps220
  go_wp2
  go_ret2;exact⟨rfl,rfl⟩
theorem b3z(op:Int)(h1:1<=op)(h2:op<=24)(w:World):Calls Tryz.prog 221 #[.int .i64 op] w λe w'=>e=.returned (.tuple #[.int .i64 (zJ op),.int .i64 (tH op)])/\w'=w:=by
 have h:=b9m op h1 h2;clear h1 h2;rcases h with rfl | rfl | rfl | rfl | rfl | rfl | rfl | rfl | rfl | rfl | rfl | rfl | rfl | rfl | rfl | rfl | rfl | rfl | rfl | rfl | rfl | rfl | rfl | rfl
 all_goals
  go_enter Tryz.func221,Tryz.ntmps221
  go_wp2
  go_ret2;exact⟨rfl,rfl⟩
def zE(op:Int):Int:=if zH op=true then 15 else 0
def eD(op a b c n:Int):Bool:=decide ((1<=op/\op<=24)/\(n=0\/op=2)) && (decide (0<=a/\a<=zE op) && (decide (0<=b/\b<=zJ op) && decide (0<=c/\c<=tH op)))
abbrev tJ(op a b c n:Int):Value:=.agg #[iv op,iv a,iv b,iv c,iv n]
theorem c1z(h:op<1\/24<op\/(n≠0/\op≠2)):eD op a b c n=false:=by
 unfold eD;rw[decide_eq_false (by omega)];rfl
theorem c3s(h:a<0\/zE op<a):eD op a b c n=false:=by
 unfold eD;have e:decide (0<=a/\a<=zE op)=false:=decide_eq_false (by omega);rw[e];simp
theorem c3t(h1:1<=op)(h2:op<=24)(h3:n=0\/op=2)(h4:0<=a)(h5:a<=zE op):eD op a b c n=(decide (0<=b/\b<=zJ op) && decide (0<=c/\c<=tH op)):=by
 unfold eD;rw[decide_eq_true ⟨⟨h1,h2⟩,h3⟩,decide_eq_true ⟨h4,h5⟩];simp
theorem a3n(n lo hi:Int)(r:Bool)(h:uK n lo hi=r)(w:World):Calls Tryz.prog 60 #[.int .i64 n,.int .i64 lo,.int .i64 hi] w λe w'=>e=.returned (.bool r)/\w'=w:=h ▸ dX n lo hi w
theorem b4z(op a b c n:Int)(w:World)(h1:1<=op)(h2:op<=24)(q1b:(op != 2)=true)(q2b:(n != 0)=false):Calls Tryz.prog 158 #[tJ op a b c n] w λe w'=>e=.returned (.bool (eD op a b c n))/\Ext w w':=by
 have H3:=uU (show n=0\/op=2 from by simp at q2b;exact .inl q2b);have QM:=uU (λW=>b3z op h1 h2 W);have YY:=uU (λh4 h5=>c3t (b:=b) (c:=c) (n:=n) (a:=a) h1 h2 H3 h4 h5);obtain⟨bm,eb⟩:∃v,v=zJ op:=⟨_,rfl⟩;obtain⟨cm,ec⟩:∃v,v=tH op:=⟨_,rfl⟩;rw[<-eb,<-ec] at QM YY;clear eb ec;have h1b:¬op<1:=by omega
 have h2b:¬op > 24:=by omega
 cases q3:zH op
 ·have QL:=uU (λW=>q3 ▸ a7z op h1 h2 W);cases q5:(a == 0)
  ·have q5b:(a != 0)=true:=by simpa using q5
   have E:=uU (c3s (op:=op) (a:=a) (b:=b) (c:=c) (n:=n) (by unfold zE;rw[q3];simp at q5;simp;omega));go_enter Tryz.func158,Tryz.ntmps158;go_wp2_with (first | (go_at_call 220;refine(QL _).mono ?_;rintro e w2 ⟨rfl,rfl⟩));go_ret;exact⟨by rw[uH E];rfl,(Ext.refl _).alloc _⟩
  ·have q5b:(a != 0)=false:=by simpa using q5
   have EY:=uU (YY (by simp at q5;omega) (by unfold zE;rw[q3];simp at q5;simp;omega));cases q6:uK b 0 bm
   ·have QB:=uU (λW=>a3n b 0 bm false q6 W);have E:=uU (show eD op a b c n=false by rw[uH EY];have e:decide (0<=b/\b<=bm)=false:=q6;rw[e];rfl);clear EY H3 YY;go_enter Tryz.func158,Tryz.ntmps158;go_wp2_with (first | (go_at_call 220;refine(QL _).mono ?_;rintro e w2 ⟨rfl,rfl⟩) | (go_at_call 221;refine(QM _).mono ?_;rintro e w2 ⟨rfl,rfl⟩) | (go_at_call 60;refine(QB _).mono ?_;rintro e w2 ⟨rfl,rfl⟩));go_ret;exact⟨by rw[uH E];rfl,(Ext.refl _).alloc _⟩
   ·have QB:=uU (λW=>a3n b 0 bm true q6 W);have QC:=uU (λW=>dX c 0 cm W);have E:=uU (show eD op a b c n=uK c 0 cm by rw[uH EY];have e:decide (0<=b/\b<=bm)=true:=q6;rw[e];rfl);clear EY H3 YY;go_enter Tryz.func158,Tryz.ntmps158;go_wp2_with (first | (go_at_call 220;refine(QL _).mono ?_;rintro e w2 ⟨rfl,rfl⟩) | (go_at_call 221;refine(QM _).mono ?_;rintro e w2 ⟨rfl,rfl⟩) | (have _:=LQB;go_at_call 60;refine(QC _).mono ?_;rintro e w2 ⟨rfl,rfl⟩) | (go_at_call 60;refine(QB _).mono ?_;rintro e w2 ⟨rfl,rfl⟩;have LQB:=True.intro));go_ret;exact⟨by rw[uH E];rfl,(Ext.refl _).alloc _⟩
 ·have QL:=uU (λW=>q3 ▸ a7z op h1 h2 W);cases q5:uK a 0 15
  ·have QA:=uU (λW=>a3n a 0 15 false q5 W);have E:=uU (c3s (op:=op) (a:=a) (b:=b) (c:=c) (n:=n) (by unfold zE;rw[q3];simp [uK] at q5;simp;omega));go_enter Tryz.func158,Tryz.ntmps158;go_wp2_with (first | (go_at_call 220;refine(QL _).mono ?_;rintro e w2 ⟨rfl,rfl⟩) | (go_at_call 60;refine(QA _).mono ?_;rintro e w2 ⟨rfl,rfl⟩));go_ret;exact⟨by rw[uH E];rfl,(Ext.refl _).alloc _⟩
  ·have QA:=uU (λW=>a3n a 0 15 true q5 W);have EY:=uU (YY (by simp [uK] at q5;omega) (by unfold zE;rw[q3];simp [uK] at q5;simp;omega));cases q6:uK b 0 bm
   ·have QB:=uU (λW=>a3n b 0 bm false q6 W);have E:=uU (show eD op a b c n=false by rw[uH EY];have e:decide (0<=b/\b<=bm)=false:=q6;rw[e];rfl);clear EY H3 YY;go_enter Tryz.func158,Tryz.ntmps158;go_wp2_with (first | (go_at_call 220;refine(QL _).mono ?_;rintro e w2 ⟨rfl,rfl⟩) | (go_at_call 221;refine(QM _).mono ?_;rintro e w2 ⟨rfl,rfl⟩) | (have _:=LQA;go_at_call 60;refine(QB _).mono ?_;rintro e w2 ⟨rfl,rfl⟩) | (go_at_call 60;refine(QA _).mono ?_;rintro e w2 ⟨rfl,rfl⟩;have LQA:=True.intro));go_ret;exact⟨by rw[uH E];rfl,(Ext.refl _).alloc _⟩
   ·have QB:=uU (λW=>a3n b 0 bm true q6 W);have QC:=uU (λW=>dX c 0 cm W);have E:=uU (show eD op a b c n=uK c 0 cm by rw[uH EY];have e:decide (0<=b/\b<=bm)=true:=q6;rw[e];rfl);clear EY H3 YY;go_enter Tryz.func158,Tryz.ntmps158;go_wp2_with (first | (go_at_call 220;refine(QL _).mono ?_;rintro e w2 ⟨rfl,rfl⟩) | (go_at_call 221;refine(QM _).mono ?_;rintro e w2 ⟨rfl,rfl⟩) | (have _:=LQB;go_at_call 60;refine(QC _).mono ?_;rintro e w2 ⟨rfl,rfl⟩) | (have _:=LQA;go_at_call 60;refine(QB _).mono ?_;rintro e w2 ⟨rfl,rfl⟩;have LQB:=True.intro) | (go_at_call 60;refine(QA _).mono ?_;rintro e w2 ⟨rfl,rfl⟩;have LQA:=True.intro));go_ret;exact⟨by rw[uH E];rfl,(Ext.refl _).alloc _⟩
theorem b5a(op a b c n:Int)(w:World)(h1:1<=op)(h2:op<=24)(q1b:(op != 2)=false):Calls Tryz.prog 158 #[tJ op a b c n] w λe w'=>e=.returned (.bool (eD op a b c n))/\Ext w w':=by
 have H3:=uU (show n=0\/op=2 from by simp at q1b;exact .inr q1b);have QM:=uU (λW=>b3z op h1 h2 W);have YY:=uU (λh4 h5=>c3t (b:=b) (c:=c) (n:=n) (a:=a) h1 h2 H3 h4 h5);obtain⟨bm,eb⟩:∃v,v=zJ op:=⟨_,rfl⟩;obtain⟨cm,ec⟩:∃v,v=tH op:=⟨_,rfl⟩;rw[<-eb,<-ec] at QM YY;clear eb ec;have h1b:¬op<1:=by omega
 have h2b:¬op > 24:=by omega
 cases q3:zH op
 ·have QL:=uU (λW=>q3 ▸ a7z op h1 h2 W);cases q5:(a == 0)
  ·have q5b:(a != 0)=true:=by simpa using q5
   have E:=uU (c3s (op:=op) (a:=a) (b:=b) (c:=c) (n:=n) (by unfold zE;rw[q3];simp at q5;simp;omega));go_enter Tryz.func158,Tryz.ntmps158;go_wp2_with (first | (go_at_call 220;refine(QL _).mono ?_;rintro e w2 ⟨rfl,rfl⟩));go_ret;exact⟨by rw[uH E];rfl,(Ext.refl _).alloc _⟩
  ·have q5b:(a != 0)=false:=by simpa using q5
   have EY:=uU (YY (by simp at q5;omega) (by unfold zE;rw[q3];simp at q5;simp;omega));cases q6:uK b 0 bm
   ·have QB:=uU (λW=>a3n b 0 bm false q6 W);have E:=uU (show eD op a b c n=false by rw[uH EY];have e:decide (0<=b/\b<=bm)=false:=q6;rw[e];rfl);clear EY H3 YY;go_enter Tryz.func158,Tryz.ntmps158;go_wp2_with (first | (go_at_call 220;refine(QL _).mono ?_;rintro e w2 ⟨rfl,rfl⟩) | (go_at_call 221;refine(QM _).mono ?_;rintro e w2 ⟨rfl,rfl⟩) | (go_at_call 60;refine(QB _).mono ?_;rintro e w2 ⟨rfl,rfl⟩));go_ret;exact⟨by rw[uH E];rfl,(Ext.refl _).alloc _⟩
   ·have QB:=uU (λW=>a3n b 0 bm true q6 W);have QC:=uU (λW=>dX c 0 cm W);have E:=uU (show eD op a b c n=uK c 0 cm by rw[uH EY];have e:decide (0<=b/\b<=bm)=true:=q6;rw[e];rfl);clear EY H3 YY;go_enter Tryz.func158,Tryz.ntmps158;go_wp2_with (first | (go_at_call 220;refine(QL _).mono ?_;rintro e w2 ⟨rfl,rfl⟩) | (go_at_call 221;refine(QM _).mono ?_;rintro e w2 ⟨rfl,rfl⟩) | (have _:=LQB;go_at_call 60;refine(QC _).mono ?_;rintro e w2 ⟨rfl,rfl⟩) | (go_at_call 60;refine(QB _).mono ?_;rintro e w2 ⟨rfl,rfl⟩;have LQB:=True.intro));go_ret;exact⟨by rw[uH E];rfl,(Ext.refl _).alloc _⟩
 ·have QL:=uU (λW=>q3 ▸ a7z op h1 h2 W);cases q5:uK a 0 15
  ·have QA:=uU (λW=>a3n a 0 15 false q5 W);have E:=uU (c3s (op:=op) (a:=a) (b:=b) (c:=c) (n:=n) (by unfold zE;rw[q3];simp [uK] at q5;simp;omega));go_enter Tryz.func158,Tryz.ntmps158;go_wp2_with (first | (go_at_call 220;refine(QL _).mono ?_;rintro e w2 ⟨rfl,rfl⟩) | (go_at_call 60;refine(QA _).mono ?_;rintro e w2 ⟨rfl,rfl⟩));go_ret;exact⟨by rw[uH E];rfl,(Ext.refl _).alloc _⟩
  ·have QA:=uU (λW=>a3n a 0 15 true q5 W);have EY:=uU (YY (by simp [uK] at q5;omega) (by unfold zE;rw[q3];simp [uK] at q5;simp;omega));cases q6:uK b 0 bm
   ·have QB:=uU (λW=>a3n b 0 bm false q6 W);have E:=uU (show eD op a b c n=false by rw[uH EY];have e:decide (0<=b/\b<=bm)=false:=q6;rw[e];rfl);clear EY H3 YY;go_enter Tryz.func158,Tryz.ntmps158;go_wp2_with (first | (go_at_call 220;refine(QL _).mono ?_;rintro e w2 ⟨rfl,rfl⟩) | (go_at_call 221;refine(QM _).mono ?_;rintro e w2 ⟨rfl,rfl⟩) | (have _:=LQA;go_at_call 60;refine(QB _).mono ?_;rintro e w2 ⟨rfl,rfl⟩) | (go_at_call 60;refine(QA _).mono ?_;rintro e w2 ⟨rfl,rfl⟩;have LQA:=True.intro));go_ret;exact⟨by rw[uH E];rfl,(Ext.refl _).alloc _⟩
   ·have QB:=uU (λW=>a3n b 0 bm true q6 W);have QC:=uU (λW=>dX c 0 cm W);have E:=uU (show eD op a b c n=uK c 0 cm by rw[uH EY];have e:decide (0<=b/\b<=bm)=true:=q6;rw[e];rfl);clear EY H3 YY;go_enter Tryz.func158,Tryz.ntmps158;go_wp2_with (first | (go_at_call 220;refine(QL _).mono ?_;rintro e w2 ⟨rfl,rfl⟩) | (go_at_call 221;refine(QM _).mono ?_;rintro e w2 ⟨rfl,rfl⟩) | (have _:=LQB;go_at_call 60;refine(QC _).mono ?_;rintro e w2 ⟨rfl,rfl⟩) | (have _:=LQA;go_at_call 60;refine(QB _).mono ?_;rintro e w2 ⟨rfl,rfl⟩;have LQB:=True.intro) | (go_at_call 60;refine(QA _).mono ?_;rintro e w2 ⟨rfl,rfl⟩;have LQA:=True.intro));go_ret;exact⟨by rw[uH E];rfl,(Ext.refl _).alloc _⟩
theorem a1g(op a b c n:Int)(w:World):Calls Tryz.prog 158 #[tJ op a b c n] w λe w'=>e=.returned (.bool (eD op a b c n))/\Ext w w':=by
 by_cases h1:op<1
 ·have E:=uU (c1z (op:=op) (a:=a) (b:=b) (c:=c) (n:=n) (.inl h1));go_enter Tryz.func158,Tryz.ntmps158;go_wp2_with fail;go_ret;exact⟨by rw[uH E];rfl,(Ext.refl _).alloc _⟩
 ·by_cases h2:op > 24
  ·have E:=uU (c1z (op:=op) (a:=a) (b:=b) (c:=c) (n:=n) (.inr (.inl h2)));go_enter Tryz.func158,Tryz.ntmps158;go_wp2_with fail;go_ret;exact⟨by rw[uH E];rfl,(Ext.refl _).alloc _⟩
  ·cases q1:(op == 2)
   ·have q1b:(op != 2)=true:=by simpa using q1
    cases q2:(n == 0)
    ·have q2b:(n != 0)=true:=by simpa using q2
     have E:=uU (c1z (op:=op) (a:=a) (b:=b) (c:=c) (n:=n) (.inr (.inr ⟨by simpa using q2,by simpa using q1⟩)));go_enter Tryz.func158,Tryz.ntmps158;go_wp2_with fail;go_ret;exact⟨by rw[uH E];rfl,(Ext.refl _).alloc _⟩
    ·exact b4z op a b c n w (by omega) (by omega) q1b (by simpa using q2)
   ·exact b5a op a b c n w (by omega) (by omega) (by simpa using q1)
def Wd0:Wd:=⟨0,0,0⟩
def Hp.r(x:Hp)(i:Nat):Wd:=x.regs.getD i Wd0
theorem Hp.r_eq(x:Hp)(i:Nat)(h:i<x.regs.length):x.regs[i]=x.r i:=by simp [Hp.r,h]
def Hp.at(x:Hp)(i:Nat):Nat:=(x.r i).a.toNat
def keyC(c:Cl)(k:Nat)(y:Wd):Cl:={ c with prs:=c.prs.set k ⟨y,(c.p k).val⟩ }
def valC(c:Cl)(k:Nat)(y:Wd):Cl:={ c with prs:=c.prs.set k ⟨(c.p k).key,y⟩ }
def dE(x:Hp)(i:Nat)(c:Cl):Hp:={ x with cells:=x.cells.set i c }
def a1d(c:Cl)(n:Nat):Cl:={ c with prs:=c.prs.take n }
def qE(x:Hp)(i n:Nat):Hp:={ x with cells:=x.cells.set i (a1d (x.c i) n),used:=x.used-((x.c i).prs.length-n:Nat),sub:=if uV x=(i:Int)/\(n:Int)<x.sub then n else x.sub }
def c3u(c:Cl)(n:Int):Cl:={ c with weak:=n }
def a2g(c:Cl)(n:Int):Cl:={ c with last:=n }
def b7a(x:Hp)(f c:Nat)(y:Hp)(cd nm:Int)(R:Nat->Prop):Prop:=
 ((x.r f).k≠2/\y=x/\cd=2/\nm=0)\/((x.r f).k=2/\(x.c (x.at f)).prs.length<=c/\y=x/\cd=3/\nm=0)\/((x.r f).k=2/\c<(x.c (x.at f)).prs.length/\R (x.at f)/\cd=0/\nm=0)
def b0y(x:Hp)(f:Nat)(y:Hp)(cd nm:Int)(R:Nat->Prop):Prop:=((x.r f).k≠2/\y=x/\cd=2/\nm=0)\/((x.r f).k=2/\R (x.at f))
def b7b(x:Hp)(a b c:Nat)(y:Hp)(cd nm:Int):Prop:=nm=0/\
 ((x.born=1000000000/\y=x/\cd=4)\/(x.born≠1000000000/\∃z,a4s x (1+c) z/\((a2n z (1+c)=false/\y=z/\cd=4)\/(a2n z (1+c)=true/\cd=0/\a6a (regTo (a4p z b c) a ⟨2,0,cJ z⟩) (1+c) y))))
def b4a(x:Hp)(a c i:Nat)(y:Hp)(cd nm:Int):Prop:=nm=0/\
 ((200<(x.c i).prs.length+c/\y=x/\cd=5)\/((x.c i).prs.length+c<=200/\∃z,a4s x c z/\((a2n z c=false/\y=z/\cd=4)\/(a2n z c=true/\cd=0/\a6a (zX z (z.at a) c) c y))))
def wdB(a b:Wd):Bool:=a.k == b.k && (a.n == b.n && a.a == b.a)
def SumIs(x:Hp)(P:Nat->Prop)(nm:Int):Prop:=∃p:Nat->Bool,(∀i,p i=true↔P i)/\nm=(qY x p x.cells.length:Nat)
def c8o(x:Hp)(a:Nat)(y:Hp)(nm:Int):Prop:=(qV x x.cells.length (-1)/\y=regTo x a Wd0/\nm=0)\/∃i:Nat,qV x x.cells.length (i:Int)/\y=regTo (dE x i (a2g (x.c i) 3)) a ⟨2,0,i⟩/\nm=1
def DoR(x:Hp)(a b c:Nat)(n:Int)(y:Hp)(cd nm:Int):Nat->Prop
 | 1=>b7b x a b c y cd nm
 | 2=>y=regTo x a ⟨1,n,0⟩/\cd=0/\nm=0
 | 3=>y=regTo x a Wd0/\cd=0/\nm=0
 | 4=>y=regTo x a (x.r b)/\cd=0/\nm=0
 | 5=>b7a x b c y cd nm λi=>y=regTo x a (zU x ((x.c i).p c).key)
 | 6=>b7a x b c y cd nm λi=>y=regTo x a (zU x ((x.c i).p c).val)
 | 7=>b7a x a c y cd nm λi=>y=uY (dE x i (keyC (x.c i) c (x.r b))) (x.r b)
 | 8=>b7a x a c y cd nm λi=>y=uY (dE x i (valC (x.c i) c (x.r b))) (x.r b)
 | 9=>b0y x a y cd nm λi=>b4a x a c i y cd nm
 | 10=>b0y x a y cd nm λi=>y=qE x i c/\cd=0/\nm=0
 | 11=>b0y x a y cd nm λi=>y=dE x i (c3u (x.c i) c)/\cd=0/\nm=0
 | 12=>b0y x a y cd nm λi=>y=(if c=1 then cC (dE x i (a2g (x.c i) c)) i else dE x i (a2g (x.c i) c))/\cd=0/\nm=0
 | 13=>y=x/\cd=0/\nm=if wdB (x.r a) (x.r b)=true then 1 else 0
 | 14=>y=x/\cd=0/\nm=(x.r a).k
 | 15=>y=x/\(((x.r a).k≠1/\cd=2/\nm=0)\/((x.r a).k=1/\cd=0/\nm=(x.r a).n))
 | 16=>b0y x a y cd nm λi=>y=x/\cd=0/\nm=(x.c i).kind
 | 17=>b0y x a y cd nm λi=>y=x/\cd=0/\nm=((x.c i).prs.length:Nat)
 | 18=>cd=0/\∃H:Nat->Bool,(∀i,H i=true↔dK x i)/\y=dD x H/\nm=(tQ x H x.cells.length:Nat)
 | 19=>cd=0/\c8o x a y nm
 | 20=>y=x/\cd=0/\SumIs x (dK x) nm
 | 21=>y=x/\cd=0/\SumIs x (cY x) nm
 | 22=>cd=0/\nm=0/\∃k,b3y (stepH x c) c k/\y=itU k (stepH x c)
 | 23=>y=paceTo x b c/\cd=0/\nm=0
 | 24=>cd=0/\nm=0/\RdIs x y
 | _=>False
def DoIs(x:Hp)(op a b c n:Int)(y:Hp)(cd nm:Int):Prop:=(eD op a b c n=false/\y=x/\cd=1/\nm=0)\/(eD op a b c n=true/\DoR x a.toNat b.toNat c.toNat n y cd nm op.toNat)
structure Edit(x:Hp)(i:Nat)(c:Cl):Prop where
 hi:i<x.cells.length
 st:(x.c i).st=1
 nd:¬cL x i
 e:c.st=(x.c i).st/\c.kind=(x.c i).kind/\c.weak=(x.c i).weak/\c.born=(x.c i).born/\c.color=(x.c i).color/\c.to=(x.c i).to
 la:0<=c.last/\c.last<=3
 ln:c.prs.length=(x.c i).prs.length
 ld:∀k,k<c.prs.length->cZ x (c.p k).key (¬cD x i k)/\cZ x (c.p k).val (¬cD x i k)
 lk:uE x->∀k,k<cN x i->¬cX x (c.p k).key/\¬cX x (c.p k).val
 sp:cQ c->uE x->c.color=0->¬(x.phase=2\/(i:Int)<x.hand)
theorem a3d(x:Hp)(i:Nat)(c:Cl)(hi:i<x.cells.length)(q:Nat):(dE x i c).c q=if q=i then c else x.c q:=Hp.c_set x i c hi q
theorem b0z(x:Hp)(i:Nat)(c:Cl):(dE x i c).cells.length=x.cells.length:=by simp [dE]
theorem Snd.edit{i:Nat}{c:Cl}(h:Snd x)(t:Edit x i c):Snd (dE x i c):=by
 obtain⟨e1,e2,e3,e4,e5,e6⟩:=t.e;have zc:=a3d x i c t.hi;have zl:=b0z x i c
 have sm:∀q,((dE x i c).c q).st=(x.c q).st/\((dE x i c).c q).born=(x.c q).born/\((dE x i c).c q).color=(x.c q).color/\((dE x i c).c q).to=(x.c q).to/\((dE x i c).c q).prs.length=(x.c q).prs.length:=λq=>by
  rw[zc q];by_cases e:q=i
  ·rw[if_pos e,e];exact⟨e1,e4,e5,e6,t.ln⟩
  ·rw[if_neg e];exact⟨rfl,rfl,rfl,rfl,rfl⟩
 have dm:∀q,cL (dE x i c) q↔cL x q:=λq=>by unfold cL;rw[(sm q).1,(sm q).2.2.1];exact Iff.rfl
 have ld:∀(y:Wd) (m:Prop),cZ x y m->cZ (dE x i c) y m:=λy m l=>⟨by rw[zl];exact l.1,λhk=>by rw[(sm _).1,dm];exact l.2 hk⟩
 have wh:∀y:Wd,cX (dE x i c) y->cX x y:=λy hy=>⟨hy.1,by rw[<-(sm _).2.2.1];exact hy.2⟩
 refine⟨?_,⟨λq hq=>?_,λq hq h0 k hk=>?_⟩,⟨?_,h.r3.2⟩,⟨λj hj=>ld _ _ (h.r4.1 j hj),λq hq=>?_⟩,⟨h.r5.1,λq hq=>?_,λg hg=>?_⟩,⟨h.r6.1,λhp=>?_,λhp=>?_,h.r6.2.2.2⟩,λhm q hq=>?_,λq hq=>?_⟩
 ·exact⟨h.r1.room,h.r1.regs,by rw[zl];exact h.r1.cells,by rw[zl];exact h.r1.gray,h.r1.born,h.r1.rounds,h.r1.forced,h.r1.per,h.r1.start,h.r1.phase,by rw[zl];exact h.r1.hand,h.r1.sub⟩
 ·rw[zl] at hq;have ok:=h.r2.1 q hq;by_cases e:q=i
  ·subst e;refine .inr (.inr ⟨by rw[(sm q).1];exact t.st,?_⟩);rw[zc q,if_pos rfl];have la:=t.la;have ln:=t.ln;have s1:=t.st;rcases ok with o | o | ⟨_,o⟩
   ·omega
   ·omega
   ·unfold a3h at o ⊢;have:(dE x q c).born=x.born:=rfl;omega
  ·unfold dN;rw[zc q,if_neg e];rcases ok with o | ⟨o,m⟩ | o
   ·exact .inl o
   ·refine .inr (.inl ⟨o,m.1,m.2.1,m.2.2.1,m.2.2.2.1,by rw[(sm _).1];exact m.2.2.2.2.1,λhp k hk=>by rw[(sm k).1];exact m.2.2.2.2.2 hp k hk⟩)
   ·exact .inr (.inr o)
 ·rw[zl] at hq;rw[(sm q).1] at h0;rw[(sm k).1,(sm k).2.1,(sm k).2.2.2.1,(sm q).1,(sm q).2.1,(sm q).2.2.2.1];exact h.r2.2 q hq h0 k hk
 ·have u:dQ (dE x i c).cells=dQ x.cells:=a3v x.cells i c t.hi (by rw[Hp.c_eq x i t.hi];unfold cH;rw[e1,t.ln]);rw[u];exact h.r3.1
 ·rw[zl] at hq;rw[zc q];by_cases e:q=i
  ·subst e;rw[if_pos rfl];refine⟨λd=>t.nd ((dm q).1 d.1),λk hk=>⟨λd=>absurd ((dm q).1 d) t.nd,λ_=>?_⟩⟩;have:=t.ld k hk;exact⟨ld _ _ this.1,ld _ _ this.2⟩
  ·rw[if_neg e];have o:=h.r4.2 q hq;refine⟨λd=>o.1 ⟨(dm q).1 d.1,d.2⟩,λk hk=>?_⟩;have p:=o.2 k hk;refine⟨λd=>by rw[zl];exact p.1 ((dm q).1 d),λd=>?_⟩;have:=p.2 (λd2=>d ((dm q).2 d2));exact⟨ld _ _ this.1,ld _ _ this.2⟩
 ·rw[zl] at hq;have o:=h.r5.2.1 q hq;unfold eQ at o ⊢;rw[(sm q).2.2.1];exact o
 ·rw[zl];exact h.r5.2.2 g hg
 ·have r:=h.r6.2.1 hp;refine⟨r.1,r.2.1,λhg=>?_⟩;rw[(sm _).2.2.2.2];exact r.2.2 hg
 ·have r:=h.r6.2.2.1 hp;rw[zl,(sm _).1,(sm _).2.2.2.2];exact r
 ·rw[zl] at hq;have o:=h.r7 hm q hq
  have lk:cN (dE x i c) q=cN x q:=by
   unfold cN;rw[(sm q).2.2.1,(sm q).2.2.2.2];rfl
  rw[lk,zc q];by_cases e:q=i
  ·subst e;rw[if_pos rfl];refine⟨λhb=>t.sp hb.1 hm hb.2.1 hb.2.2,λk hk=>?_⟩;have:=t.lk hm k hk;exact⟨λw=>this.1 (wh _ w),λw=>this.2 (wh _ w)⟩
  ·rw[if_neg e];exact⟨o.1,λk hk=>⟨λw=>(o.2 k hk).1 (wh _ w),λw=>(o.2 k hk).2 (wh _ w)⟩⟩
 ·rw[zl] at hq;rw[(sm q).1];exact h.r8 q hq
theorem b4b(x:Hp)(i t:Nat)(c:Cl)(hi:i<x.cells.length)(hs:c.st=(x.c i).st)(hc:c.color=(x.c i).color):cC (dE x i c) t=dE (cC x t) i (if qD x t=true/\t=i then a2j c else c):=by
 have zc:=a3d x i c hi t
 have eb:qD (dE x i c) t=qD x t:=by
  unfold qD whB;rw[zc];by_cases e:t=i
  ·rw[if_pos e,e,hs,hc];rfl
  ·rw[if_neg e];rfl
 unfold cC;rw[eb];by_cases q:qD x t=true
 ·rw[if_pos q,if_pos q,zc];by_cases e:t=i
  ·rw[if_pos e,if_pos ⟨q,e⟩,e];simp [dE]
  ·rw[if_neg e,if_neg (λh=>e h.2)];simp only [dE];rw[List.set_comm _ _ (λh=>e h.symm)]
 ·rw[if_neg q,if_neg q,if_neg (λh=>q h.1)]
theorem a7h(hm:¬uE x)(t:Nat):cC x t=x:=by
 unfold cC;rw[if_neg];intro h;exact hm (a5z h).1
theorem cZ.shade{y:Wd}{m:Prop}(h:cZ x y m)(t:Nat)(ht:t<x.cells.length):cZ (cC x t) y m:=by
 by_cases hm:uE x
 ·refine⟨by rw[(a0b x t).2.2.2.2.1];exact h.1,λhk=>?_⟩;rw[(a0i (a6s x t ht _)).1];rcases h.2 hk with o | o
  ·exact .inl o
  ·refine .inr ⟨o.1,λd=>?_⟩;have:=d.1;rw[(a0b x t).2.2.2.2.2.1] at this;unfold uE at hm;omega
 ·rw[a7h hm];exact h
theorem Snd.put(h:Snd x)(i k:Nat)(hi:i<x.cells.length)(s1:(x.c i).st=1)(nd:¬cL x i)(hk:k<(x.c i).prs.length)(y:Wd)(hy:cZ x y False)(p:Pr)(hp:(p.key=y/\p.val=((x.c i).p k).val)\/(p.val=y/\p.key=((x.c i).p k).key)):Snd (uY (dE x i { x.c i with prs:=(x.c i).prs.set k p }) y):=by
 have pk:∀j,j<(x.c i).prs.length->({ x.c i with prs:=(x.c i).prs.set k p }:Cl).p j=if j=k then p else (x.c i).p j:=λj hj=>by
  unfold Cl.p;simp only [List.getD_eq_getElem?_getD,List.getElem?_set];by_cases e:k=j
  ·rw[if_pos e,if_pos e.symm,if_pos (by omega)];rfl
  ·rw[if_neg e,if_neg (λh=>e h.symm)]
 have key:∀(z:Hp) (c:Cl),Snd z->z.cells.length=x.cells.length->(∀q,(z.c q).st=(x.c q).st)->(z.c i).prs=(x.c i).prs->z.phase=x.phase->z.hand=x.hand->z.sub=x.sub->¬cL z i->(∀(u:Wd) (m:Prop),cZ x u m->cZ z u m)->(uE z->¬cX z y)->c={ z.c i with prs:=(x.c i).prs.set k p }->Snd (dE z i c):=λz c sz zl zs zp e4 e5 e7 ndz ldz wz ec=>by
  have me:∀j,cD z i j↔cD x i j:=λj=>by unfold cD;rw[e4,e5,e7]
  have cp:∀j,c.p j=({ x.c i with prs:=(x.c i).prs.set k p }:Cl).p j:=λj=>by rw[ec];rfl
  have la:0<=(z.c i).last/\(z.c i).last<=3:=by
   have ok:=sz.r2.1 i (by rw[zl];exact hi);have:=zs i;unfold dN a3h a5k eV a5k at ok;omega
  refine sz.edit ⟨by rw[zl];exact hi,by rw[zs];exact s1,ndz,by rw[ec];exact⟨rfl,rfl,rfl,rfl,rfl,rfl⟩,by rw[ec];exact la,by rw[ec,zp];simp,λj hj=>?_,λhm j hj=>?_,λhsp hm hc=>?_⟩
  ·have hj2:j<(x.c i).prs.length:=by rw[ec] at hj;simpa using hj
   have o:=((h.r4.2 i hi).2 j hj2).2 nd;have em:(¬cD z i j)=(¬cD x i j):=propext (not_congr (me j));rw[em,cp j,pk j hj2];have hyl:∀m,cZ x y m:=λm=>⟨hy.1,λe=>by rcases hy.2 e with o | o;exact o.2.elim;exact .inr o⟩
   by_cases e:j=k
   ·rw[if_pos e];rw[e] at o;rcases hp with⟨a,b⟩ | ⟨a,b⟩
    ·rw[a,b,e];exact⟨ldz _ _ (hyl _),ldz _ _ o.2⟩
    ·rw[a,b,e];exact⟨ldz _ _ o.1,ldz _ _ (hyl _)⟩
   ·rw[if_neg e];exact⟨ldz _ _ o.1,ldz _ _ o.2⟩
  ·have o:=(sz.r7 hm i (by rw[zl];exact hi)).2 j hj
   have hj2:j<(x.c i).prs.length:=by
    unfold cN at hj;rw[zp] at hj
    split at hj
    ·exact hj
    ·split at hj
     ·rename_i hd;have r:=(sz.r6.2.1 hd.1).2.2 hd.2.1;have eg:z.g0=i:=by unfold Hp.g0;rw[hd.2.2];simp
      rw[eg,zp] at r;omega
     ·omega
   have zpj:(z.c i).p j=(x.c i).p j:=by simp only [Cl.p,zp]
   rw[zpj] at o;rw[cp j,pk j hj2];by_cases e:j=k
   ·rw[if_pos e];rw[e] at o;rcases hp with⟨a,b⟩ | ⟨a,b⟩
    ·rw[a,b];exact⟨wz hm,o.2⟩
    ·rw[a,b];exact⟨o.1,wz hm⟩
   ·rw[if_neg e];exact o
  ·rw[ec] at hsp hc;exact λhd=>(sz.r7 hm i (by rw[zl];exact hi)).1 ⟨hsp,hc,hd⟩
 unfold uY;by_cases e:(y.k == 2)=true
 ·rw[if_pos e];have e2:y.k=2:=by simpa using e
  have ft:y.a.toNat<x.cells.length:=by have:=hy.1;unfold uJ at this;omega
  have st:(x.c y.a.toNat).st=1:=by
   rcases hy.2 e2 with o | o
   ·exact o.2.elim
   ·exact o.1
  rw[b4b x i y.a.toNat { x.c i with prs:=(x.c i).prs.set k p } hi rfl rfl];have un:=a6s x y.a.toNat ft;refine key (cC x y.a.toNat) _ (h.shade _ ft) (a0b x _).2.2.2.2.1 (λq=>(a0i (un q)).1) (a0i (un i)).2.2.2.2.2.2 (a0b x _).2.2.2.2.2.1 (a0b x _).2.2.2.2.2.2.1 (a0b x _).2.2.2.2.2.2.2.1 (λd=>?_) (λu m l=>l.shade _ ft) (λhm w=>?_) ?_
  ·by_cases hm:uE x
   ·have:=d.1;rw[(a0b x _).2.2.2.2.2.1] at this;unfold uE at hm;omega
   ·rw[a7h hm] at d;exact nd d
  ·have hm2:uE x:=by unfold uE at hm ⊢;rw[(a0b x _).2.2.2.2.2.1] at hm;exact hm
   exact a1t x _ ft hm2 st w.2
  ·rw[a7r x _ ft i];by_cases q:qD x y.a.toNat=true/\y.a.toNat=i
   ·rw[if_pos q,if_pos ⟨q.1,q.2.symm⟩,q.2];rfl
   ·rw[if_neg q,if_neg (λh=>q ⟨h.1,h.2.symm⟩)]
 ·rw[if_neg e];have e2:y.k≠2:=by simpa using e
  exact key x _ h rfl (λ_=>rfl) rfl rfl rfl rfl nd (λ_ _ l=>l) (λ_ w=>e2 w.1) rfl
theorem Snd.want(h:Snd x)(i:Nat)(hi:i<x.cells.length)(s1:(x.c i).st=1)(nd:¬cL x i):Snd (cC (dE x i (a2g (x.c i) 1)) i):=by
 rw[b4b x i i (a2g (x.c i) 1) hi rfl rfl];have un:=a6s x i hi i;have hc:=a7r x i hi i;have sz:=h.shade i hi;have zl:=(a0b x i).2.2.2.2.1
 have ec:(if qD x i=true/\i=i then a2j (a2g (x.c i) 1) else a2g (x.c i) 1)=a2g ((cC x i).c i) 1:=by
  rw[hc];by_cases q:qD x i=true
  ·rw[if_pos ⟨q,rfl⟩,if_pos ⟨q,rfl⟩];rfl
  ·rw[if_neg (λh=>q h.1),if_neg (λh=>q h.1)]
 rw[ec];have s2:((cC x i).c i).st=1:=by rw[(a0i un).1];exact s1
 have nd2:¬cL (cC x i) i:=λd=>by
  by_cases hm:uE x
  ·have:=d.1;rw[(a0b x _).2.2.2.2.2.1] at this;unfold uE at hm;omega
  ·rw[a7h hm] at d;exact nd d
 refine sz.edit ⟨by rw[zl];exact hi,s2,nd2,⟨rfl,rfl,rfl,rfl,rfl,rfl⟩,⟨by simp [a2g],by simp [a2g]⟩,rfl,λk hk=>((sz.r4.2 i (by rw[zl];exact hi)).2 k hk).2 nd2,λhm k hk=>(sz.r7 hm i (by rw[zl];exact hi)).2 k hk,λ_ hm hcol=>?_⟩;have hm2:uE x:=by unfold uE at hm ⊢;rw[(a0b x _).2.2.2.2.2.1] at hm;exact hm
 exact absurd hcol (a1t x i hi hm2 s1)
theorem Snd.scan(h:Snd x)(q:Nat)(hs:uV x=(q:Int)):x.sub<=(x.c q).prs.length:=by
 have h8:=h.r6;unfold uV at hs
 split at hs
 ·rename_i e;have e8:=(h8.2.1 e.1).2.2 (by omega);have:x.g0=q:=by unfold Hp.g0;rw[hs];rfl
  rw[this] at e8;exact e8
 ·split at hs
  ·rename_i e;have a:=h8.2.2.1 e.1;have hq:x.hand.toNat=q:=by omega
   by_cases hc:(x.c x.hand.toNat).st=1
   ·have:=a.2 ⟨by omega,hc⟩;rw[hq] at this;exact this
   ·have:=a.1 (.inr hc);omega
  ·omega
theorem b2e.self(h:Snd x)(i:Nat)(c:Cl)(hi:i<x.cells.length)(s1:(x.c i).st=1)(e:c.st=(x.c i).st/\c.kind=(x.c i).kind/\c.born=(x.c i).born/\c.color=(x.c i).color/\c.to=(x.c i).to)(hp:c.prs=(x.c i).prs)(wk:c.weak=(x.c i).weak\/(0<=c.weak/\c.weak<=3))(la:c.last=(x.c i).last\/(0<=c.last/\c.last<=3))(sp:cQ c->cQ (x.c i)):b2e x (dE x i c) where
 hl:=b0z x i c
 rest:=a3p.refl _
 c:=λq=>by rw[a3d x i c hi q];split;(· rename_i t;rw[t];exact e);(· exact⟨rfl,rfl,rfl,rfl,rfl⟩)
 wk:=λq=>by rw[a3d x i c hi q];split;(· rename_i t;rw[t];exact wk.imp id (λu=>⟨s1,u⟩));(· exact .inl rfl)
 la:=λq=>by rw[a3d x i c hi q];split;(· rename_i t;rw[t];exact la.imp id (λu=>⟨s1,u⟩));(· exact .inl rfl)
 sp:=λq=>by rw[a3d x i c hi q];split;(· rename_i t;rw[t];exact sp);(· exact id)
 p:=λq hq k hk=>by
  rw[a3d x i c hi q] at hk ⊢
  split at hk
  ·rename_i t;rw[if_pos t,t];exact⟨k,by rw[<-hp];exact hk,by unfold Cl.p;rw[hp],λ_=>Iff.rfl⟩
  ·rename_i t;rw[if_neg t];exact⟨k,hk,rfl,λ_=>Iff.rfl⟩
 le:=λq hq=>by rw[a3d x i c hi q];split;(· rename_i t;rw[t,hp];exact Nat.le_refl _);(· exact Nat.le_refl _)
 us:=by
  have u:dQ (dE x i c).cells=dQ x.cells:=a3v x.cells i c hi (by rw[Hp.c_eq x i hi];unfold cH;rw[e.1,hp]);rw[u];exact h.r3.1
 ul:=Int.le_refl _
 s0:=⟨h.r1.sub.1,Int.le_refl _⟩
 s1:=λq hq hs=>by
  have k:=h.scan q hs;rw[a3d x i c hi q];split
  ·rename_i t;rw[hp,<-t];exact k
  ·exact k
theorem Snd.weakT(h:Snd x)(i:Nat)(hi:i<x.cells.length)(s1:(x.c i).st=1)(n:Int)(hn:0<=n/\n<=3):Snd (dE x i (c3u (x.c i) n)):=
 h.thin (b2e.self h i _ hi s1 ⟨rfl,rfl,rfl,rfl,rfl⟩ rfl (.inr hn) (.inl rfl) id)
theorem Snd.lastT(h:Snd x)(i:Nat)(hi:i<x.cells.length)(s1:(x.c i).st=1)(n:Int)(hn:n=0\/n=3):Snd (dE x i (a2g (x.c i) n)):=
 h.thin (b2e.self h i _ hi s1 ⟨rfl,rfl,rfl,rfl,rfl⟩ rfl (.inl rfl) (.inr ⟨by show 0<=n;omega,by show n<=3;omega⟩) (λs=>by have s2:n=1\/n=2:=s;omega))
theorem a6c(x:Hp)(i n:Nat)(hi:i<x.cells.length)(q:Nat):(qE x i n).c q=if q=i then a1d (x.c i) n else x.c q:=Hp.c_set x i (a1d (x.c i) n) hi q
theorem c8w(c:Cl)(n k:Nat)(hk:k<(a1d c n).prs.length):(a1d c n).p k=c.p k/\k<n/\k<c.prs.length:=by
 have e:(a1d c n).prs=c.prs.take n:=rfl;rw[e,List.length_take] at hk;refine⟨?_,by omega,by omega⟩;unfold Cl.p;rw[e];simp [show k<n by omega]
theorem b2e.short(h:Snd x)(i n:Nat)(hi:i<x.cells.length)(s1:(x.c i).st=1):b2e x (qE x i n) where
 hl:=by simp [qE]
 rest:=a3p.refl _
 c:=λq=>by rw[a6c x i n hi q];split;(· rename_i t;rw[t];exact⟨rfl,rfl,rfl,rfl,rfl⟩);(· exact⟨rfl,rfl,rfl,rfl,rfl⟩)
 wk:=λq=>by rw[a6c x i n hi q];split;(· rename_i t;rw[t];exact .inl rfl);(· exact .inl rfl)
 la:=λq=>by rw[a6c x i n hi q];split;(· rename_i t;rw[t];exact .inl rfl);(· exact .inl rfl)
 sp:=λq=>by rw[a6c x i n hi q];split;(· rename_i t;rw[t];exact id);(· exact id)
 p:=λq hq k hk=>by
  rw[a6c x i n hi q] at hk ⊢
  split at hk
  ·rename_i t;rw[if_pos t,t];obtain⟨a,b,c⟩:=c8w _ _ _ hk;refine⟨k,c,a,λhs=>?_⟩;show(k:Int)<(if uV x=(i:Int)/\(n:Int)<x.sub then (n:Int) else x.sub)↔_
   split <;> omega
  ·rename_i t;rw[if_neg t];refine⟨k,hk,rfl,λhs=>?_⟩;show(k:Int)<(if uV x=(i:Int)/\(n:Int)<x.sub then (n:Int) else x.sub)↔_;rw[if_neg (λu=>by omega)]
 le:=λq hq=>by
  rw[a6c x i n hi q];split
  ·rename_i t;rw[t];show((x.c i).prs.take n).length<=_;rw[List.length_take];omega
  ·exact Nat.le_refl _
 us:=by
  have u:=a1w x.cells i (a1d (x.c i) n) hi;rw[Hp.c_eq x i hi] at u;have e1:cH (x.c i)=1+(x.c i).prs.length:=by unfold cH;rw[if_pos s1]
  have e2:cH (a1d (x.c i) n)=1+min n (x.c i).prs.length:=by
   unfold cH;show(if (x.c i).st=1 then 1+((x.c i).prs.take n).length else 0)=_;rw[if_pos s1,List.length_take]
  have h3:=h.r3.1;show x.used-(((x.c i).prs.length-n:Nat):Int)=(dQ (x.cells.set i (a1d (x.c i) n)):Nat);rw[e1,e2] at u;omega
 ul:=by show x.used-(((x.c i).prs.length-n:Nat):Int)<=x.used;omega
 s0:=by
  have:=h.r1.sub;show 0<=(if uV x=(i:Int)/\(n:Int)<x.sub then (n:Int) else x.sub)/\(if uV x=(i:Int)/\(n:Int)<x.sub then (n:Int) else x.sub)<=x.sub
  split <;> omega
 s1:=λq hq hs=>by
  have k:=h.scan q hs;show(if uV x=(i:Int)/\(n:Int)<x.sub then (n:Int) else x.sub)<=_;rw[a6c x i n hi q];by_cases t:q=i
  ·rw[if_pos t];have e:(a1d (x.c i) n).prs.length=min n (x.c i).prs.length:=List.length_take;rw[e];rw[t] at k hs
   split <;> omega
  ·rw[if_neg t,if_neg (λu=>by omega)];exact k
theorem Snd.short(h:Snd x)(i n:Nat)(hi:i<x.cells.length)(s1:(x.c i).st=1):Snd (qE x i n):=h.thin (b2e.short h i n hi s1)
theorem b1b{α:Type}(f:α->Bool)(d:α):∀(l:List α) (k:Nat),k<(l.filter f).length->∃j,j<l.length/\(l.filter f).getD k d=l.getD j d/\∀s,(k<((l.take s).filter f).length↔j<s)
 | [],k,h=>by simp at h
 | a::l,k,h=>by
  cases fa:f a
  ·rw[List.filter_cons_of_neg (by simp [fa])] at h ⊢;obtain⟨j,h1,h2,h3⟩:=b1b f d l k h;refine⟨j+1,by simp;omega,by rw[h2];rfl,λs=>?_⟩;cases s with
   | zero=>simp
   | succ s=>
    rw[List.take_succ_cons,List.filter_cons_of_neg (by simp [fa]),h3 s];omega
  ·rw[List.filter_cons_of_pos fa] at h ⊢;cases k with
   | zero=>
    refine⟨0,by simp,rfl,λs=>?_⟩;cases s with
    | zero=>simp
    | succ s=>rw[List.take_succ_cons,List.filter_cons_of_pos fa];simp
   | succ k=>
    obtain⟨j,h1,h2,h3⟩:=b1b f d l k (by simp at h;exact h);refine⟨j+1,by simp;omega,by exact h2,λs=>?_⟩;cases s with
    | zero=>simp
    | succ s=>
     rw[List.take_succ_cons,List.filter_cons_of_pos fa,List.length_cons];have:=h3 s;omega
def c0b(c:Cl)(f:Pr->Bool):Cl:={ c with prs:=c.prs.filter f }
def fltH(x:Hp)(i:Nat)(f:Pr->Bool)(g:Nat)(t:Int):Hp:={ x with cells:=x.cells.set i (c0b (x.c i) f),used:=x.used-g,sub:=t }
theorem a8x(x:Hp)(i:Nat)(f:Pr->Bool)(g:Nat)(t:Int)(hi:i<x.cells.length)(q:Nat):(fltH x i f g t).c q=if q=i then c0b (x.c i) f else x.c q:=Hp.c_set x i (c0b (x.c i) f) hi q
theorem c3v(f:Pr->Bool)(l:List Pr)(n:Nat):((l.take n).filter f).length<=(l.filter f).length/\((l.take n).filter f).length<=n:=by
 constructor
 ·have e:(l.filter f)=((l.take n).filter f)++((l.drop n).filter f):=by rw[<-List.filter_append,List.take_append_drop]
  rw[e,List.length_append];omega
 ·have:=List.length_filter_le f (l.take n);rw[List.length_take] at this;omega
theorem b2e.flt(h:Snd x)(i:Nat)(hi:i<x.cells.length)(f:Pr->Bool)(g:Nat)(t:Int)(hg:((x.c i).prs.filter f).length+g=(x.c i).prs.length)(ht:t=if uV x=(i:Int) then ((((x.c i).prs.take x.sub.toNat).filter f).length:Int) else x.sub):b2e x (fltH x i f g t) where
 hl:=by simp [fltH]
 rest:=a3p.refl _
 c:=λq=>by rw[a8x x i f g t hi q];split;(· rename_i t;rw[t];exact⟨rfl,rfl,rfl,rfl,rfl⟩);(· exact⟨rfl,rfl,rfl,rfl,rfl⟩)
 wk:=λq=>by rw[a8x x i f g t hi q];split;(· rename_i t;rw[t];exact .inl rfl);(· exact .inl rfl)
 la:=λq=>by rw[a8x x i f g t hi q];split;(· rename_i t;rw[t];exact .inl rfl);(· exact .inl rfl)
 sp:=λq=>by rw[a8x x i f g t hi q];split;(· rename_i t;rw[t];exact id);(· exact id)
 p:=λq hq k hk=>by
  rw[a8x x i f g t hi q] at hk ⊢;by_cases e:q=i
  ·rw[if_pos e] at hk ⊢;rw[e];obtain⟨j,h1,h2,h3⟩:=b1b f Pr0 (x.c i).prs k hk;refine⟨j,h1,h2,λhs=>?_⟩;show(k:Int)<t↔_;rw[ht,if_pos hs];have:=h3 x.sub.toNat;have:=h.r1.sub;omega
  ·rw[if_neg e] at hk ⊢;refine⟨k,hk,rfl,λhs=>?_⟩;show(k:Int)<t↔_;rw[ht,if_neg (λu=>by omega)]
 le:=λq hq=>by
  rw[a8x x i f g t hi q];split
  ·rename_i e;rw[e];exact List.length_filter_le _ _
  ·exact Nat.le_refl _
 us:=by
  have u:=a1w x.cells i (c0b (x.c i) f) hi;rw[Hp.c_eq x i hi] at u;have h3:=h.r3.1;show x.used-(g:Int)=(dQ (x.cells.set i (c0b (x.c i) f)):Nat);by_cases s1:(x.c i).st=1
  ·have e1:cH (x.c i)=1+(x.c i).prs.length:=by unfold cH;rw[if_pos s1]
   have e2:cH (c0b (x.c i) f)=1+((x.c i).prs.filter f).length:=by
    unfold cH;show(if (x.c i).st=1 then 1+((x.c i).prs.filter f).length else 0)=_;rw[if_pos s1]
   rw[e1,e2] at u;omega
  ·have e1:cH (x.c i)=0:=by unfold cH;rw[if_neg s1]
   have e2:cH (c0b (x.c i) f)=0:=by
    unfold cH;show(if (x.c i).st=1 then 1+((x.c i).prs.filter f).length else 0)=_;rw[if_neg s1]
   have e3:(x.c i).prs.length=0:=by
    rcases h.r2.1 i hi with z | z | z
    ·exact z.2.1.2.2.2.2.2
    ·exact z.2.1.2.2.2.2.2
    ·exact absurd z.1 s1
   rw[e1,e2] at u;omega
 ul:=by show x.used-(g:Int)<=x.used;omega
 s0:=by
  have:=h.r1.sub;have:=(c3v f (x.c i).prs x.sub.toNat).2;show 0<=t/\t<=x.sub;rw[ht]
  split <;> omega
 s1:=λq hq hs=>by
  have k:=h.scan q hs;show t<=_;rw[a8x x i f g t hi q,ht];by_cases e:q=i
  ·rw[if_pos e,if_pos (by rw[<-e];exact hs)];have:=(c3v f (x.c i).prs x.sub.toNat).1;show _<=((((x.c i).prs.filter f).length:Nat):Int);omega
  ·rw[if_neg e,if_neg (λu=>by omega)];exact k
end Go.Proofs.YtddkhnclmeikfaaGreat
