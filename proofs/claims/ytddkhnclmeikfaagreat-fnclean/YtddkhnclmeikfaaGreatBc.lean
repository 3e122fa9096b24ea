import Derived.Test.YtddkhnclmeikfaaGreatVh
import Derived.Test.YtddkhnclmeikfaaGreatPxp
namespace Go.Proofs.YtddkhnclmeikfaaGreat
open Go.RowKit
variable{x y:Hp}{a b c k:Nat}{cd nm n:Int}
structure b1r(x z:Hp):Prop where
 hl:z.A.length=x.A.length
 rest:a3y z x
 c:∀q,(z.c q).st=(x.c q).st/\(z.c q).kind=(x.c q).kind/\(z.c q).born=(x.c q).born/\(z.c q).J=(x.c q).J/\(z.c q).to=(x.c q).to
 wk:∀q,(z.c q).T=(x.c q).T\/((x.c q).st=1/\0<=(z.c q).T/\(z.c q).T<=3)
 la:∀q,(z.c q).U=(x.c q).U\/((x.c q).st=1/\0<=(z.c q).U/\(z.c q).U<=3)
 sp:∀q,cU (z.c q)->cU (x.c q)
 p:∀q,q<x.A.length->∀k,k<(z.c q).F.length->∃j,j<(x.c q).F.length/\(z.c q).p k=(x.c q).p j/\(dC x=(q:Int)->((k:Int)<z.sub↔(j:Int)<x.sub))
 le:∀q,q<x.A.length->(z.c q).F.length<=(x.c q).F.length
 us:z.K=(dL z.A:Nat)
 ul:z.K<=x.K
 s0:0<=z.sub/\z.sub<=x.sub
 s1:∀q,q<x.A.length->dC x=(q:Int)->z.sub<=(z.c q).F.length
theorem b5k(hp:x.E=5)(h:x.I<x.A.length):dC x=x.I:=by
 unfold dC;rw[if_neg (by omega),if_pos ⟨hp,h⟩]
theorem b5m(hp:x.E=2)(h:0<x.D.length):dC x=x.D.getD 0 0:=by
 unfold dC;rw[if_pos ⟨hp,h⟩]
theorem Snd.thin{x z:Hp}(h:Snd x)(t:b1r x z):Snd z:=by
 obtain⟨e1,e2,e3,e4,e5,e6,e7,e8,e9,e10⟩:=t.rest;have dm:∀q,hY z q↔hY x q:=λq=>by unfold hY;rw[e4,e5,(t.c q).1,(t.c q).2.2.2.1]
 have ld:∀(y:Wd) (m m':Prop),(m->m')->cL x y m->cL z y m':=λy m m' hm l=>⟨by rw[t.hl];exact l.1,λhk=>by
  rw[(t.c _).1,dm];rcases l.2 hk with o | o
  ·exact .inl ⟨o.1,hm o.2⟩
  ·exact .inr o⟩
 have wh:∀y:Wd,cZ z y->cZ x y:=λy hy=>⟨hy.1,by rw[<-(t.c _).2.2.2.1];exact hy.2⟩
 have mk:uD z↔uD x:=by unfold uD;rw[e4]
 have s0:=t.s0
 have g0r:x.D.length≠0->0<=x.D.getD 0 0/\x.D.getD 0 0<x.A.length:=λhg=>by
  refine h.r5.2.2 _ ?_;cases hgr:x.D with
  | nil=>rw[hgr] at hg;simp at hg
  | cons g G=>simp
 refine⟨?_,⟨λq hq=>?_,λq hq h0 k hk=>?_⟩,⟨t.us,?_⟩,⟨λi hi=>?_,λq hq=>⟨λd=>?_,λk hk=>?_⟩⟩,⟨λhm=>?_,λq hq=>?_,λg hg=>?_⟩,⟨λhp=>?_,λhp=>?_,λhp=>?_,λhp=>?_⟩,λhm q hq=>⟨λhb=>?_,λk hk=>?_⟩,λq hq=>?_⟩
 ·have r:=h.r1;exact⟨by rw[e1];exact r.M,by rw[e3];exact r.B,by rw[t.hl,e1];exact r.A,by rw[e6,t.hl];exact r.D,by rw[e2];exact r.born,by rw[e9];exact r.Q,by rw[e10];exact r.S,by rw[e7];exact r.per,by rw[e8];exact r.V,by rw[e4];exact r.E,by rw[e5,t.hl];exact r.I,by have:=r.sub;omega⟩
 ·rw[t.hl] at hq;have ok:=h.r2.1 q hq;obtain⟨c1,c2,c3,c4,c5⟩:=t.c q;have l:=t.le q hq;have wk:=t.wk q;have la:=t.la q;unfold cQ;rcases ok with⟨o,b,d⟩ | ⟨o,m⟩ | ⟨o,m⟩
  ·refine .inl ⟨by rw[c1];exact o,?_,by rw[c5];exact d⟩;unfold yW at b ⊢;omega
  ·refine .inr (.inl ⟨by rw[c1];exact o,?_,by rw[e4];exact m.2.1,by rw[c5];exact m.2.2.1,by rw[c5];exact m.2.2.2.1,by rw[c5,(t.c _).1];exact m.2.2.2.2.1,λhp k hk=>?_⟩)
   ·have b:=m.1;unfold yW at b ⊢;omega
   ·rw[(t.c k).1];rw[e4] at hp;rw[c5] at hk;exact m.2.2.2.2.2 hp k hk
  ·refine .inr (.inr ⟨by rw[c1];exact o,?_⟩);unfold a2k at m ⊢;rw[e2];omega
 ·rw[t.hl] at hq;rw[(t.c q).1] at h0;rw[(t.c k).1,(t.c k).2.2.1,(t.c k).2.2.2.2,(t.c q).1,(t.c q).2.2.1,(t.c q).2.2.2.2];exact h.r2.2 q hq h0 k hk
 ·rw[e1];have:=h.r3.2;have:=t.ul;omega
 ·have e:z.B[i]=x.B[i]'(by rw[<-e3];exact hi):=by simp only [e3]
  rw[e];exact ld _ _ _ id (h.r4.1 i (by rw[<-e3];exact hi))
 ·rw[t.hl] at hq;exact(h.r4.2 q hq).1 ⟨(dm q).1 d.1,t.sp q d.2⟩
 ·rw[t.hl] at hq;obtain⟨j,hj,ej,hs⟩:=t.p q hq k hk;have ok:=(h.r4.2 q hq).2 j hj;rw[ej]
  have me:cX z q k->cX x q j:=λm=>⟨by rw[<-e4];exact m.1,λhp=>by
   have:=m.2 (by rw[e4];exact hp);rw[e5] at this;rcases this with a | ⟨a,b⟩
   ·exact .inl a
   ·exact .inr ⟨a,(hs (by rw[b5k hp (by omega)];exact a.symm)).1 b⟩⟩
  refine⟨λd=>?_,λd=>?_⟩
  ·rw[t.hl];exact ok.1 ((dm q).1 d)
  ·have:=ok.2 (λd2=>d ((dm q).2 d2));exact⟨ld _ _ _ (λa b=>a (me b)) this.1,ld _ _ _ (λa b=>a (me b)) this.2⟩
 ·rw[e6];exact h.r5.1 (λm=>hm (mk.2 m))
 ·rw[t.hl] at hq;have o:=h.r5.2.1 q hq;unfold eV at o ⊢;rw[(t.c q).2.2.2.1,e6,mk,e4,e5];exact o
 ·rw[e6] at hg;rw[t.hl];exact h.r5.2.2 g hg
 ·rw[e4] at hp;have:=h.r6.1 hp;rw[e5];omega
 ·rw[e4] at hp;have r:=h.r6.2.1 hp;rw[e5,e6];refine⟨r.1,λhg=>by have:=r.2.1 hg;omega,λhg=>?_⟩;have gr:=g0r hg;have e:z.g0=x.g0:=by unfold Hp.g0;rw[e6]
  rw[e];refine t.s1 x.g0 (by unfold Hp.g0;omega) ?_;rw[b5m hp (by omega)];unfold Hp.g0;omega
 ·rw[e4] at hp;have r:=h.r6.2.2.1 hp;have hh:=h.r1.I;rw[e5,t.hl];refine⟨λhq=>?_,λhq=>?_⟩
  ·rw[(t.c _).1] at hq;have:=r.1 hq;omega
  ·refine t.s1 _ (by omega) ?_;rw[b5k hp (by omega)];omega
 ·rw[e4] at hp;have:=h.r6.2.2.2 hp;omega
 ·rw[t.hl] at hq;refine(h.r7 (mk.1 hm) q hq).1 ⟨t.sp q hb.1,by rw[<-(t.c q).2.2.2.1];exact hb.2.1,?_⟩;have:=hb.2.2;rw[e4,e5] at this;exact this
 ·rw[t.hl] at hq;have o:=(h.r7 (mk.1 hm) q hq).2
  have key:k<(z.c q).F.length/\∀j:Nat,(dC x=(q:Int)->((k:Int)<z.sub↔(j:Int)<x.sub))->j<(x.c q).F.length->j<cC x q:=by
   unfold cC at hk;rw[(t.c q).2.2.2.1,e4,e6] at hk
   split at hk
   ·rename_i hc;refine⟨hk,λj _ hj=>?_⟩;unfold cC;rw[if_pos hc];exact hj
   ·rename_i hc
    split at hk
    ·rename_i hd;have sc:dC x=(q:Int):=by rw[b5m hd.1 (by omega)];exact hd.2.2
     have:=t.s1 q hq sc;refine⟨by omega,λj hs _=>?_⟩;unfold cC;rw[if_neg hc,if_pos hd];have:=(hs sc).1 (by omega);omega
    ·omega
  obtain⟨j,hj,ej,hs⟩:=t.p q hq k key.1;rw[ej];have:=o j (key.2 j hs hj);exact⟨λw=>this.1 (wh _ w),λw=>this.2 (wh _ w)⟩
 ·rw[t.hl] at hq;rw[e4,e5,(t.c q).1];exact h.r8 q hq
structure Edit(x:Hp)(i:Nat)(c:Cl):Prop where
 hi:i<x.A.length
 st:(x.c i).st=1
 nd:¬hY x i
 e:c.st=(x.c i).st/\c.kind=(x.c i).kind/\c.T=(x.c i).T/\c.born=(x.c i).born/\c.J=(x.c i).J/\c.to=(x.c i).to
 la:0<=c.U/\c.U<=3
 ln:c.F.length=(x.c i).F.length
 ld:∀k,k<c.F.length->cL x (c.p k).key (¬cX x i k)/\cL x (c.p k).val (¬cX x i k)
 lk:uD x->∀k,k<cC x i->¬cZ x (c.p k).key/\¬cZ x (c.p k).val
 sp:cU c->uD x->c.J=0->¬(x.E=2\/(i:Int)<x.I)
theorem a2y(x:Hp)(i:Nat)(c:Cl)(hi:i<x.A.length)(q:Nat):(dW x i c).c q=if q=i then c else x.c q:=Hp.c_set x i c hi q
theorem b0s(x:Hp)(i:Nat)(c:Cl):(dW x i c).A.length=x.A.length:=by simp [dW]
theorem Snd.edit{i:Nat}{c:Cl}(h:Snd x)(t:Edit x i c):Snd (dW x i c):=by
 obtain⟨e1,e2,e3,e4,e5,e6⟩:=t.e;have zc:=a2y x i c t.hi;have zl:=b0s x i c
 have sm:∀q,((dW x i c).c q).st=(x.c q).st/\((dW x i c).c q).born=(x.c q).born/\((dW x i c).c q).J=(x.c q).J/\((dW x i c).c q).to=(x.c q).to/\((dW x i c).c q).F.length=(x.c q).F.length:=λq=>by
  rw[zc q];by_cases e:q=i
  ·rw[if_pos e,e];exact⟨e1,e4,e5,e6,t.ln⟩
  ·rw[if_neg e];exact⟨rfl,rfl,rfl,rfl,rfl⟩
 have dm:∀q,hY (dW x i c) q↔hY x q:=λq=>by unfold hY;rw[(sm q).1,(sm q).2.2.1];exact Iff.rfl
 have ld:∀(y:Wd) (m:Prop),cL x y m->cL (dW x i c) y m:=λy m l=>⟨by rw[zl];exact l.1,λhk=>by rw[(sm _).1,dm];exact l.2 hk⟩
 have wh:∀y:Wd,cZ (dW x i c) y->cZ x y:=λy hy=>⟨hy.1,by rw[<-(sm _).2.2.1];exact hy.2⟩
 refine⟨?_,⟨λq hq=>?_,λq hq h0 k hk=>?_⟩,⟨?_,h.r3.2⟩,⟨λj hj=>ld _ _ (h.r4.1 j hj),λq hq=>?_⟩,⟨h.r5.1,λq hq=>?_,λg hg=>?_⟩,⟨h.r6.1,λhp=>?_,λhp=>?_,h.r6.2.2.2⟩,λhm q hq=>?_,λq hq=>?_⟩
 ·exact⟨h.r1.M,h.r1.B,by rw[zl];exact h.r1.A,by rw[zl];exact h.r1.D,h.r1.born,h.r1.Q,h.r1.S,h.r1.per,h.r1.V,h.r1.E,by rw[zl];exact h.r1.I,h.r1.sub⟩
 ·rw[zl] at hq;have ok:=h.r2.1 q hq;by_cases e:q=i
  ·subst e;refine .inr (.inr ⟨by rw[(sm q).1];exact t.st,?_⟩);rw[zc q,if_pos rfl];have la:=t.la;have ln:=t.ln;have s1:=t.st;rcases ok with o | o | ⟨_,o⟩
   ·omega
   ·omega
   ·unfold a2k at o ⊢;have:(dW x q c).born=x.born:=rfl;omega
  ·unfold cQ;rw[zc q,if_neg e];rcases ok with o | ⟨o,m⟩ | o
   ·exact .inl o
   ·refine .inr (.inl ⟨o,m.1,m.2.1,m.2.2.1,m.2.2.2.1,by rw[(sm _).1];exact m.2.2.2.2.1,λhp k hk=>by rw[(sm k).1];exact m.2.2.2.2.2 hp k hk⟩)
   ·exact .inr (.inr o)
 ·rw[zl] at hq;rw[(sm q).1] at h0;rw[(sm k).1,(sm k).2.1,(sm k).2.2.2.1,(sm q).1,(sm q).2.1,(sm q).2.2.2.1];exact h.r2.2 q hq h0 k hk
 ·have u:dL (dW x i c).A=dL x.A:=a3j x.A i c t.hi (by rw[Hp.c_eq x i t.hi];unfold hE;rw[e1,t.ln]);rw[u];exact h.r3.1
 ·rw[zl] at hq;rw[zc q];by_cases e:q=i
  ·subst e;rw[if_pos rfl];refine⟨λd=>t.nd ((dm q).1 d.1),λk hk=>⟨λd=>absurd ((dm q).1 d) t.nd,λ_=>?_⟩⟩;have:=t.ld k hk;exact⟨ld _ _ this.1,ld _ _ this.2⟩
  ·rw[if_neg e];have o:=h.r4.2 q hq;refine⟨λd=>o.1 ⟨(dm q).1 d.1,d.2⟩,λk hk=>?_⟩;have p:=o.2 k hk;refine⟨λd=>by rw[zl];exact p.1 ((dm q).1 d),λd=>?_⟩;have:=p.2 (λd2=>d ((dm q).2 d2));exact⟨ld _ _ this.1,ld _ _ this.2⟩
 ·rw[zl] at hq;have o:=h.r5.2.1 q hq;unfold eV at o ⊢;rw[(sm q).2.2.1];exact o
 ·rw[zl];exact h.r5.2.2 g hg
 ·have r:=h.r6.2.1 hp;refine⟨r.1,r.2.1,λhg=>?_⟩;rw[(sm _).2.2.2.2];exact r.2.2 hg
 ·have r:=h.r6.2.2.1 hp;rw[zl,(sm _).1,(sm _).2.2.2.2];exact r
 ·rw[zl] at hq;have o:=h.r7 hm q hq
  have lk:cC (dW x i c) q=cC x q:=by
   unfold cC;rw[(sm q).2.2.1,(sm q).2.2.2.2];rfl
  rw[lk,zc q];by_cases e:q=i
  ·subst e;rw[if_pos rfl];refine⟨λhb=>t.sp hb.1 hm hb.2.1 hb.2.2,λk hk=>?_⟩;have:=t.lk hm k hk;exact⟨λw=>this.1 (wh _ w),λw=>this.2 (wh _ w)⟩
  ·rw[if_neg e];exact⟨o.1,λk hk=>⟨λw=>(o.2 k hk).1 (wh _ w),λw=>(o.2 k hk).2 (wh _ w)⟩⟩
 ·rw[zl] at hq;rw[(sm q).1];exact h.r8 q hq
theorem b3t(x:Hp)(i t:Nat)(c:Cl)(hi:i<x.A.length)(hs:c.st=(x.c i).st)(hc:c.J=(x.c i).J):uW (dW x i c) t=dW (uW x t) i (if eJ x t=true/\t=i then tY c else c):=by
 have zc:=a2y x i c hi t
 have eb:eJ (dW x i c) t=eJ x t:=by
  unfold eJ whB;rw[zc];by_cases e:t=i
  ·rw[if_pos e,e,hs,hc];rfl
  ·rw[if_neg e];rfl
 unfold uW;rw[eb];by_cases q:eJ x t=true
 ·rw[if_pos q,if_pos q,zc];by_cases e:t=i
  ·rw[if_pos e,if_pos ⟨q,e⟩,e];simp [dW]
  ·rw[if_neg e,if_neg (λh=>e h.2)];simp only [dW];rw[List.set_comm _ _ (λh=>e h.symm)]
 ·rw[if_neg q,if_neg q,if_neg (λh=>q h.1)]
theorem a6r(hm:¬uD x)(t:Nat):uW x t=x:=by
 unfold uW;rw[if_neg];intro h;exact hm (a5h h).1
theorem cL.shade{y:Wd}{m:Prop}(h:cL x y m)(t:Nat)(ht:t<x.A.length):cL (uW x t) y m:=by
 by_cases hm:uD x
 ·refine⟨by rw[(cV x t).2.2.2.2.1];exact h.1,λhk=>?_⟩;rw[(eN (a3u x t ht _)).1];rcases h.2 hk with o | o
  ·exact .inl o
  ·refine .inr ⟨o.1,λd=>?_⟩;have:=d.1;rw[(cV x t).2.2.2.2.2.1] at this;unfold uD at hm;omega
 ·rw[a6r hm];exact h
theorem Snd.put(h:Snd x)(i k:Nat)(hi:i<x.A.length)(s1:(x.c i).st=1)(nd:¬hY x i)(hk:k<(x.c i).F.length)(y:Wd)(hy:cL x y False)(p:Pr)(hp:(p.key=y/\p.val=((x.c i).p k).val)\/(p.val=y/\p.key=((x.c i).p k).key)):Snd (shadeW (dW x i { x.c i with F:=(x.c i).F.set k p }) y):=by
 have pk:∀j,j<(x.c i).F.length->({ x.c i with F:=(x.c i).F.set k p }:Cl).p j=if j=k then p else (x.c i).p j:=λj hj=>by
  unfold Cl.p;simp only [List.getD_eq_getElem?_getD,List.getElem?_set];by_cases e:k=j
  ·rw[if_pos e,if_pos e.symm,if_pos (by omega)];rfl
  ·rw[if_neg e,if_neg (λh=>e h.symm)]
 have key:∀(z:Hp) (c:Cl),Snd z->z.A.length=x.A.length->(∀q,(z.c q).st=(x.c q).st)->(z.c i).F=(x.c i).F->z.E=x.E->z.I=x.I->z.sub=x.sub->¬hY z i->(∀(u:Wd) (m:Prop),cL x u m->cL z u m)->(uD z->¬cZ z y)->c={ z.c i with F:=(x.c i).F.set k p }->Snd (dW z i c):=λz c sz zl zs zp e4 e5 e7 ndz ldz wz ec=>by
  have me:∀j,cX z i j↔cX x i j:=λj=>by unfold cX;rw[e4,e5,e7]
  have cp:∀j,c.p j=({ x.c i with F:=(x.c i).F.set k p }:Cl).p j:=λj=>by rw[ec];rfl
  have la:0<=(z.c i).U/\(z.c i).U<=3:=by
   have ok:=sz.r2.1 i (by rw[zl];exact hi);have:=zs i;unfold cQ a2k yW eX yW at ok;omega
  refine sz.edit ⟨by rw[zl];exact hi,by rw[zs];exact s1,ndz,by rw[ec];exact⟨rfl,rfl,rfl,rfl,rfl,rfl⟩,by rw[ec];exact la,by rw[ec,zp];simp,λj hj=>?_,λhm j hj=>?_,λhsp hm hc=>?_⟩
  ·have hj2:j<(x.c i).F.length:=by rw[ec] at hj;simpa using hj
   have o:=((h.r4.2 i hi).2 j hj2).2 nd;have em:(¬cX z i j)=(¬cX x i j):=propext (not_congr (me j));rw[em,cp j,pk j hj2];have hyl:∀m,cL x y m:=λm=>⟨hy.1,λe=>by rcases hy.2 e with o | o;exact o.2.elim;exact .inr o⟩
   by_cases e:j=k
   ·rw[if_pos e];rw[e] at o;rcases hp with⟨a,b⟩ | ⟨a,b⟩
    ·rw[a,b,e];exact⟨ldz _ _ (hyl _),ldz _ _ o.2⟩
    ·rw[a,b,e];exact⟨ldz _ _ o.1,ldz _ _ (hyl _)⟩
   ·rw[if_neg e];exact⟨ldz _ _ o.1,ldz _ _ o.2⟩
  ·have o:=(sz.r7 hm i (by rw[zl];exact hi)).2 j hj
   have hj2:j<(x.c i).F.length:=by
    unfold cC at hj;rw[zp] at hj
    split at hj
    ·exact hj
    ·split at hj
     ·rename_i hd;have r:=(sz.r6.2.1 hd.1).2.2 hd.2.1;have eg:z.g0=i:=by unfold Hp.g0;rw[hd.2.2];simp
      rw[eg,zp] at r;omega
     ·omega
   have zpj:(z.c i).p j=(x.c i).p j:=by simp only [Cl.p,zp]
   rw[zpj] at o;rw[cp j,pk j hj2];by_cases e:j=k
   ·rw[if_pos e];rw[e] at o;rcases hp with⟨a,b⟩ | ⟨a,b⟩
    ·rw[a,b];exact⟨wz hm,o.2⟩
    ·rw[a,b];exact⟨o.1,wz hm⟩
   ·rw[if_neg e];exact o
  ·rw[ec] at hsp hc;exact λhd=>(sz.r7 hm i (by rw[zl];exact hi)).1 ⟨hsp,hc,hd⟩
 unfold shadeW;by_cases e:(y.k == 2)=true
 ·rw[if_pos e];have e2:y.k=2:=by simpa using e
  have ft:y.a.toNat<x.A.length:=by have:=hy.1;unfold uE at this;omega
  have st:(x.c y.a.toNat).st=1:=by
   rcases hy.2 e2 with o | o
   ·exact o.2.elim
   ·exact o.1
  rw[b3t x i y.a.toNat { x.c i with F:=(x.c i).F.set k p } hi rfl rfl];have un:=a3u x y.a.toNat ft;refine key (uW x y.a.toNat) _ (h.shade _ ft) (cV x _).2.2.2.2.1 (λq=>(eN (un q)).1) (eN (un i)).2.2.2.2.2.2 (cV x _).2.2.2.2.2.1 (cV x _).2.2.2.2.2.2.1 (cV x _).2.2.2.2.2.2.2.1 (λd=>?_) (λu m l=>l.shade _ ft) (λhm w=>?_) ?_
  ·by_cases hm:uD x
   ·have:=d.1;rw[(cV x _).2.2.2.2.2.1] at this;unfold uD at hm;omega
   ·rw[a6r hm] at d;exact nd d
  ·have hm2:uD x:=by unfold uD at hm ⊢;rw[(cV x _).2.2.2.2.2.1] at hm;exact hm
   exact a1x x _ ft hm2 st w.2
  ·rw[a5g x _ ft i];by_cases q:eJ x y.a.toNat=true/\y.a.toNat=i
   ·rw[if_pos q,if_pos ⟨q.1,q.2.symm⟩,q.2];rfl
   ·rw[if_neg q,if_neg (λh=>q ⟨h.1,h.2.symm⟩)]
 ·rw[if_neg e];have e2:y.k≠2:=by simpa using e
  exact key x _ h rfl (λ_=>rfl) rfl rfl rfl rfl nd (λ_ _ l=>l) (λ_ w=>e2 w.1) rfl
theorem Snd.want(h:Snd x)(i:Nat)(hi:i<x.A.length)(s1:(x.c i).st=1)(nd:¬hY x i):Snd (uW (dW x i (a2i (x.c i) 1)) i):=by
 rw[b3t x i i (a2i (x.c i) 1) hi rfl rfl];have un:=a3u x i hi i;have hc:=a5g x i hi i;have sz:=h.shade i hi;have zl:=(cV x i).2.2.2.2.1
 have ec:(if eJ x i=true/\i=i then tY (a2i (x.c i) 1) else a2i (x.c i) 1)=a2i ((uW x i).c i) 1:=by
  rw[hc];by_cases q:eJ x i=true
  ·rw[if_pos ⟨q,rfl⟩,if_pos ⟨q,rfl⟩];rfl
  ·rw[if_neg (λh=>q h.1),if_neg (λh=>q h.1)]
 rw[ec];have s2:((uW x i).c i).st=1:=by rw[(eN un).1];exact s1
 have nd2:¬hY (uW x i) i:=λd=>by
  by_cases hm:uD x
  ·have:=d.1;rw[(cV x _).2.2.2.2.2.1] at this;unfold uD at hm;omega
  ·rw[a6r hm] at d;exact nd d
 refine sz.edit ⟨by rw[zl];exact hi,s2,nd2,⟨rfl,rfl,rfl,rfl,rfl,rfl⟩,⟨by simp [a2i],by simp [a2i]⟩,rfl,λk hk=>((sz.r4.2 i (by rw[zl];exact hi)).2 k hk).2 nd2,λhm k hk=>(sz.r7 hm i (by rw[zl];exact hi)).2 k hk,λ_ hm hcol=>?_⟩;have hm2:uD x:=by unfold uD at hm ⊢;rw[(cV x _).2.2.2.2.2.1] at hm;exact hm
 exact absurd hcol (a1x x i hi hm2 s1)
theorem Snd.scan(h:Snd x)(q:Nat)(hs:dC x=(q:Int)):x.sub<=(x.c q).F.length:=by
 have h8:=h.r6;unfold dC at hs
 split at hs
 ·rename_i e;have e8:=(h8.2.1 e.1).2.2 (by omega);have:x.g0=q:=by unfold Hp.g0;rw[hs];rfl
  rw[this] at e8;exact e8
 ·split at hs
  ·rename_i e;have a:=h8.2.2.1 e.1;have hq:x.I.toNat=q:=by omega
   by_cases hc:(x.c x.I.toNat).st=1
   ·have:=a.2 ⟨by omega,hc⟩;rw[hq] at this;exact this
   ·have:=a.1 (.inr hc);omega
  ·omega
theorem b1r.self(h:Snd x)(i:Nat)(c:Cl)(hi:i<x.A.length)(s1:(x.c i).st=1)(e:c.st=(x.c i).st/\c.kind=(x.c i).kind/\c.born=(x.c i).born/\c.J=(x.c i).J/\c.to=(x.c i).to)(hp:c.F=(x.c i).F)(wk:c.T=(x.c i).T\/(0<=c.T/\c.T<=3))(la:c.U=(x.c i).U\/(0<=c.U/\c.U<=3))(sp:cU c->cU (x.c i)):b1r x (dW x i c) where
 hl:=b0s x i c
 rest:=a3y.refl _
 c:=λq=>by rw[a2y x i c hi q];split;(· rename_i t;rw[t];exact e);(· exact⟨rfl,rfl,rfl,rfl,rfl⟩)
 wk:=λq=>by rw[a2y x i c hi q];split;(· rename_i t;rw[t];exact wk.imp id (λu=>⟨s1,u⟩));(· exact .inl rfl)
 la:=λq=>by rw[a2y x i c hi q];split;(· rename_i t;rw[t];exact la.imp id (λu=>⟨s1,u⟩));(· exact .inl rfl)
 sp:=λq=>by rw[a2y x i c hi q];split;(· rename_i t;rw[t];exact sp);(· exact id)
 p:=λq hq k hk=>by
  rw[a2y x i c hi q] at hk ⊢
  split at hk
  ·rename_i t;rw[if_pos t,t];exact⟨k,by rw[<-hp];exact hk,by unfold Cl.p;rw[hp],λ_=>Iff.rfl⟩
  ·rename_i t;rw[if_neg t];exact⟨k,hk,rfl,λ_=>Iff.rfl⟩
 le:=λq hq=>by rw[a2y x i c hi q];split;(· rename_i t;rw[t,hp];exact Nat.le_refl _);(· exact Nat.le_refl _)
 us:=by
  have u:dL (dW x i c).A=dL x.A:=a3j x.A i c hi (by rw[Hp.c_eq x i hi];unfold hE;rw[e.1,hp]);rw[u];exact h.r3.1
 ul:=Int.le_refl _
 s0:=⟨h.r1.sub.1,Int.le_refl _⟩
 s1:=λq hq hs=>by
  have k:=h.scan q hs;rw[a2y x i c hi q];split
  ·rename_i t;rw[hp,<-t];exact k
  ·exact k
theorem Snd.weakT(h:Snd x)(i:Nat)(hi:i<x.A.length)(s1:(x.c i).st=1)(n:Int)(hn:0<=n/\n<=3):Snd (dW x i (c3e (x.c i) n)):=
 h.thin (b1r.self h i _ hi s1 ⟨rfl,rfl,rfl,rfl,rfl⟩ rfl (.inr hn) (.inl rfl) id)
theorem Snd.lastT(h:Snd x)(i:Nat)(hi:i<x.A.length)(s1:(x.c i).st=1)(n:Int)(hn:n=0\/n=3):Snd (dW x i (a2i (x.c i) n)):=
 h.thin (b1r.self h i _ hi s1 ⟨rfl,rfl,rfl,rfl,rfl⟩ rfl (.inl rfl) (.inr ⟨by show 0<=n;omega,by show n<=3;omega⟩) (λs=>by have s2:n=1\/n=2:=s;omega))
theorem a5p(x:Hp)(i n:Nat)(hi:i<x.A.length)(q:Nat):(qJ x i n).c q=if q=i then a1d (x.c i) n else x.c q:=Hp.c_set x i (a1d (x.c i) n) hi q
theorem d0f(c:Cl)(n k:Nat)(hk:k<(a1d c n).F.length):(a1d c n).p k=c.p k/\k<n/\k<c.F.length:=by
 have e:(a1d c n).F=c.F.take n:=rfl;rw[e,List.length_take] at hk;refine⟨?_,by omega,by omega⟩;unfold Cl.p;rw[e];simp [show k<n by omega]
theorem b1r.short(h:Snd x)(i n:Nat)(hi:i<x.A.length)(s1:(x.c i).st=1):b1r x (qJ x i n) where
 hl:=by simp [qJ]
 rest:=a3y.refl _
 c:=λq=>by rw[a5p x i n hi q];split;(· rename_i t;rw[t];exact⟨rfl,rfl,rfl,rfl,rfl⟩);(· exact⟨rfl,rfl,rfl,rfl,rfl⟩)
 wk:=λq=>by rw[a5p x i n hi q];split;(· rename_i t;rw[t];exact .inl rfl);(· exact .inl rfl)
 la:=λq=>by rw[a5p x i n hi q];split;(· rename_i t;rw[t];exact .inl rfl);(· exact .inl rfl)
 sp:=λq=>by rw[a5p x i n hi q];split;(· rename_i t;rw[t];exact id);(· exact id)
 p:=λq hq k hk=>by
  rw[a5p x i n hi q] at hk ⊢
  split at hk
  ·rename_i t;rw[if_pos t,t];obtain⟨a,b,c⟩:=d0f _ _ _ hk;refine⟨k,c,a,λhs=>?_⟩;show(k:Int)<(if dC x=(i:Int)/\(n:Int)<x.sub then (n:Int) else x.sub)↔_
   split <;> omega
  ·rename_i t;rw[if_neg t];refine⟨k,hk,rfl,λhs=>?_⟩;show(k:Int)<(if dC x=(i:Int)/\(n:Int)<x.sub then (n:Int) else x.sub)↔_;rw[if_neg (λu=>by omega)]
 le:=λq hq=>by
  rw[a5p x i n hi q];split
  ·rename_i t;rw[t];show((x.c i).F.take n).length<=_;rw[List.length_take];omega
  ·exact Nat.le_refl _
 us:=by
  have u:=a1z x.A i (a1d (x.c i) n) hi;rw[Hp.c_eq x i hi] at u;have e1:hE (x.c i)=1+(x.c i).F.length:=by unfold hE;rw[if_pos s1]
  have e2:hE (a1d (x.c i) n)=1+min n (x.c i).F.length:=by
   unfold hE;show(if (x.c i).st=1 then 1+((x.c i).F.take n).length else 0)=_;rw[if_pos s1,List.length_take]
  have h3:=h.r3.1;show x.K-(((x.c i).F.length-n:Nat):Int)=(dL (x.A.set i (a1d (x.c i) n)):Nat);rw[e1,e2] at u;omega
 ul:=by show x.K-(((x.c i).F.length-n:Nat):Int)<=x.K;omega
 s0:=by
  have:=h.r1.sub;show 0<=(if dC x=(i:Int)/\(n:Int)<x.sub then (n:Int) else x.sub)/\(if dC x=(i:Int)/\(n:Int)<x.sub then (n:Int) else x.sub)<=x.sub
  split <;> omega
 s1:=λq hq hs=>by
  have k:=h.scan q hs;show(if dC x=(i:Int)/\(n:Int)<x.sub then (n:Int) else x.sub)<=_;rw[a5p x i n hi q];by_cases t:q=i
  ·rw[if_pos t];have e:(a1d (x.c i) n).F.length=min n (x.c i).F.length:=List.length_take;rw[e];rw[t] at k hs
   split <;> omega
  ·rw[if_neg t,if_neg (λu=>by omega)];exact k
theorem Snd.short(h:Snd x)(i n:Nat)(hi:i<x.A.length)(s1:(x.c i).st=1):Snd (qJ x i n):=h.thin (b1r.short h i n hi s1)
theorem Snd.res(h:Snd x){u:Wd}{m:Prop}(hl:cL x u m):cL x (qX x u) False:=by
 unfold qX
 split
 ·rename_i e;have hlt:u.a.toNat<x.A.length:=by rcases hl.1 with f | f | f <;> omega
  rcases h.r2.1 _ hlt with⟨a,_⟩ | ⟨_,b⟩ | ⟨a,_⟩
  ·have:=e.2;omega
  ·obtain⟨b1,b2,b3,b4,b5,_⟩:=b;exact⟨.inr (.inr ⟨rfl,rfl,b3,show(x.c u.a.toNat).to<_ by omega⟩),λ_=>.inr ⟨b5,λd=>by have:=d.1;omega⟩⟩
  ·have:=e.2;omega
 ·rename_i e;refine⟨hl.1,λhk=>?_⟩;rcases hl.2 hk with⟨a,_⟩ | ⟨a,b⟩
  ·exact(e ⟨hk,a⟩).elim
  ·exact .inr ⟨a,b⟩
theorem Snd.half(h:Snd x)(i k:Nat)(hi:i<x.A.length)(nd:¬hY x i)(hk:k<(x.c i).F.length):cL x (qX x ((x.c i).p k).key) False/\cL x (qX x ((x.c i).p k).val) False:=
 let q:=((h.r4.2 i hi).2 k hk).2 nd
 ⟨h.res q.1,h.res q.2⟩
theorem DoR.sndA(s:Snd x)(ha:a<16)(hb:k≠1->k≠23->b<16)(h23:k=23->b<=64/\c<=4000)(h11:k=11->c<=3)(h12:k=12->c<=1)(hk:k≠1/\k≠9/\k≠18)(h:DoR x a b c n y cd nm k):Snd y:=by
 unfold DoR at h
 split at h
 ·exact absurd rfl hk.1
 ·rw[h.1];exact s.regTo a _ ⟨.inr (.inl ⟨rfl,rfl⟩),λe=>by cases e⟩
 ·rw[h.1];exact s.regTo a _ ⟨.inl ⟨rfl,rfl,rfl⟩,λe=>by cases e⟩
 ·rw[h.1];exact s.regTo a _ (s.reg b (hb (by omega) (by omega)))
 ·have b16:=hb (by omega) (by omega);rcases h with h | h | h
  ·rw[h.2.1];exact s
  ·rw[h.2.2.1];exact s
  ·obtain⟨_,_,p3,_,p5⟩:=s.at b b16 h.1;rw[h.2.2.1];exact s.regTo a _ (s.half _ c p3 p5 h.2.1).1
 ·have b16:=hb (by omega) (by omega);rcases h with h | h | h
  ·rw[h.2.1];exact s
  ·rw[h.2.2.1];exact s
  ·obtain⟨_,_,p3,_,p5⟩:=s.at b b16 h.1;rw[h.2.2.1];exact s.regTo a _ (s.half _ c p3 p5 h.2.1).2
 ·have b16:=hb (by omega) (by omega);rcases h with h | h | h
  ·rw[h.2.1];exact s
  ·rw[h.2.2.1];exact s
  ·obtain⟨_,_,p3,p4,p5⟩:=s.at a ha h.1;rw[h.2.2.1];exact s.put _ c p3 p4 p5 h.2.1 _ (s.reg b b16) ⟨x.r b,((x.c (x.at a)).p c).val⟩ (.inl ⟨rfl,rfl⟩)
 ·have b16:=hb (by omega) (by omega);rcases h with h | h | h
  ·rw[h.2.1];exact s
  ·rw[h.2.2.1];exact s
  ·obtain⟨_,_,p3,p4,p5⟩:=s.at a ha h.1;rw[h.2.2.1];exact s.put _ c p3 p4 p5 h.2.1 _ (s.reg b b16) ⟨((x.c (x.at a)).p c).key,x.r b⟩ (.inr ⟨rfl,rfl⟩)
 ·exact absurd rfl hk.2.1
 ·rcases h with h | h
  ·rw[h.2.1];exact s
  ·obtain⟨_,_,p3,p4,p5⟩:=s.at a ha h.1;rw[h.2.1];exact s.short _ c p3 p4
 ·rcases h with h | h
  ·rw[h.2.1];exact s
  ·obtain⟨_,_,p3,p4,p5⟩:=s.at a ha h.1;have:=h11 rfl;rw[h.2.1];exact s.weakT _ p3 p4 c (by omega)
 ·rcases h with h | h
  ·rw[h.2.1];exact s
  ·obtain⟨_,_,p3,p4,p5⟩:=s.at a ha h.1;have:=h12 rfl;rw[h.2.1]
   split
   ·rename_i e;rw[e];exact s.want _ p3 p4 p5
   ·rename_i e;exact s.lastT _ p3 p4 c (.inl (by omega))
 ·rw[h.1];exact s
 ·rw[h.1];exact s
 ·rw[h.1];exact s
 ·rcases h with h | h
  ·rw[h.2.1];exact s
  ·rw[h.2.1];exact s
 ·rcases h with h | h
  ·rw[h.2.1];exact s
  ·rw[h.2.1];exact s
 ·exact absurd rfl hk.2.2
 ·rcases h.2 with h | ⟨i,h⟩
  ·rw[h.2.1];exact s.regTo a _ ⟨.inl ⟨rfl,rfl,rfl⟩,λe=>by cases e⟩
  ·obtain⟨hi,l2⟩:i<x.A.length/\(x.c i).U=2:=by
    rcases h.1 with d | ⟨j,e,hj,hl,_⟩
    ·have:=d.1;omega
    ·have e2:i=j:=by omega
     rw[e2];exact⟨hj,hl⟩
   have s1:=a1b s.r2 i hi (.inr l2);have nd:¬hY x i:=λd=>(s.r4.2 i hi).1 ⟨d,.inr l2⟩
   have s2:=s.lastT i hi s1 3 (.inr rfl);rw[h.2.1];refine s2.regTo a _ ⟨.inr (.inr ⟨rfl,rfl,by show(0:Int)<=(i:Int);omega,by show(i:Int)<((dW x i (a2i (x.c i) 3)).A.length:Nat);rw[b0s];omega⟩),λ_=>.inr ?_⟩;show((dW x i (a2i (x.c i) 3)).c i).st=1/\¬hY (dW x i (a2i (x.c i) 3)) i;unfold hY;rw[a2y x i _ hi i,if_pos rfl];exact⟨s1,nd⟩
 ·rw[h.1];exact s
 ·rw[h.1];exact s
 ·obtain⟨_,_,k,_,e⟩:=h;rw[e];exact(s.stepH _).itU k
 ·have:=h23 rfl;rw[h.1];exact s.paceTo _ _ (by omega) (by omega)
 ·exact h.2.2.snd s
 ·exact h.elim
theorem a7b(x:Hp)(y:Wd):(shadeW x y).born=x.born:=by
 unfold shadeW
 split
 ·exact(cV x _).2.2.1
 ·rfl
theorem b0w:∀(ys:List Wd) (z:Hp),(ys.foldl shadeW z).born=z.born
 | [],_=>rfl
 | y::ys,z=>(b0w ys (shadeW z y)).trans (a7b z y)
theorem uborn1(x:Hp):(eZ x).born=x.born:=by
 unfold eZ
 split
 ·rfl
 ·by_cases e:tJ (x.c x.I.toNat)=true
  ·simp only [if_pos e];exact(cV x _).2.2.1
  ·simp only [if_neg e]
theorem uborn2(x:Hp):(dY x).born=x.born:=by
 unfold dY
 split
 ·split
  ·exact(a7b _ _).trans (a7b _ _)
  ·rfl
 ·split
  ·exact b0w x.B x
  ·exact b0w x.B x
theorem uborn3(x:Hp):(dQ x).born=x.born:=by
 unfold dQ
 split
 ·rfl
 ·split <;> rfl
theorem uborn4(x:Hp):(unit4 x).born=x.born:=by
 unfold unit4
 split <;> rfl
theorem uborn5(x:Hp):(eH x).born=x.born:=by
 unfold eH
 split
 ·rfl
 ·split <;> rfl
theorem uborn6(x:Hp):(cN x).born=x.born:=by
 unfold cN zU
 split
 ·rfl
 ·split <;> rfl
theorem b3y(x:Hp):(dD x).born=x.born:=by
 unfold dD
 repeat (first | (split) | exact uborn1 x | exact uborn2 x | exact uborn3 x | exact uborn4 x | exact uborn5 x | exact uborn6 x | rfl)
theorem b3z:∀(k:Nat) (x:Hp),(itU k x).born=x.born
 | 0,_=>rfl
 | k+1,x=>by
  first
   | exact(b3z k (dD x)).trans (b3y x)
   | exact(b3y (itU k x)).trans (b3z k x)
theorem b5t(h:a9h x y):y.born=x.born:=by
 obtain⟨k,_,e⟩:=h;rw[e];exact b3z k x
theorem b4d.bornE(h:b4d x y):y.born=x.born:=by
 obtain⟨z,a,b⟩:=h;exact(b5t b).trans (show z.born=x.born from b5t a)
theorem a2t.bornE{u:Nat}(h:a2t x u y):y.born=x.born:=by
 rcases h with h | h
 ·rw[h.2]
 ·exact h.2.bornE
theorem b6t.snd(s:Snd x)(hb:b<=255)(hc:c<=200)(h:b6t x a b c y cd nm):Snd y:=by
 rcases h.2 with h | ⟨nb,z,hz,h | h⟩
 ·rw[h.2.1];exact s
 ·rw[h.2.1];exact hz.snd s
 ·have sz:=hz.snd s;have eb:=hz.bornE;have b1:=s.r1.born;have hu:z.K+(1+c)<=z.M:=by have e:=h.1;unfold a2j at e;have:=of_decide_eq_true e;omega
  obtain⟨s1,s2,s3,s4⟩:=sz.make b c (by omega) hc (by omega) hu;refine h.2.2.snd (s1.regTo a ⟨2,0,cH z⟩ ⟨.inr (.inr ⟨rfl,rfl,by show(0:Int)<=(cH z:Nat);omega,by show((cH z:Nat):Int)<_;omega⟩),λ_=>.inr ⟨s2,s4⟩⟩)
theorem b0x{α:Type}(f:α->Bool)(d:α):∀(l:List α) (k:Nat),k<(l.filter f).length->∃j,j<l.length/\(l.filter f).getD k d=l.getD j d/\∀s,(k<((l.take s).filter f).length↔j<s)
 | [],k,h=>by simp at h
 | a::l,k,h=>by
  cases fa:f a
  ·rw[List.filter_cons_of_neg (by simp [fa])] at h ⊢;obtain⟨j,h1,h2,h3⟩:=b0x f d l k h;refine⟨j+1,by simp;omega,by rw[h2];rfl,λs=>?_⟩;cases s with
   | zero=>simp
   | succ s=>
    rw[List.take_succ_cons,List.filter_cons_of_neg (by simp [fa]),h3 s];omega
  ·rw[List.filter_cons_of_pos fa] at h ⊢;cases k with
   | zero=>
    refine⟨0,by simp,rfl,λs=>?_⟩;cases s with
    | zero=>simp
    | succ s=>rw[List.take_succ_cons,List.filter_cons_of_pos fa];simp
   | succ k=>
    obtain⟨j,h1,h2,h3⟩:=b0x f d l k (by simp at h;exact h);refine⟨j+1,by simp;omega,by exact h2,λs=>?_⟩;cases s with
    | zero=>simp
    | succ s=>
     rw[List.take_succ_cons,List.filter_cons_of_pos fa,List.length_cons];have:=h3 s;omega
def b9r(c:Cl)(f:Pr->Bool):Cl:={ c with F:=c.F.filter f }
def fltH(x:Hp)(i:Nat)(f:Pr->Bool)(g:Nat)(t:Int):Hp:={ x with A:=x.A.set i (b9r (x.c i) f),K:=x.K-g,sub:=t }
theorem a8r(x:Hp)(i:Nat)(f:Pr->Bool)(g:Nat)(t:Int)(hi:i<x.A.length)(q:Nat):(fltH x i f g t).c q=if q=i then b9r (x.c i) f else x.c q:=Hp.c_set x i (b9r (x.c i) f) hi q
theorem c3j(f:Pr->Bool)(l:List Pr)(n:Nat):((l.take n).filter f).length<=(l.filter f).length/\((l.take n).filter f).length<=n:=by
 constructor
 ·have e:(l.filter f)=((l.take n).filter f)++((l.drop n).filter f):=by rw[<-List.filter_append,List.take_append_drop]
  rw[e,List.length_append];omega
 ·have:=List.length_filter_le f (l.take n);rw[List.length_take] at this;omega
theorem b1r.flt(h:Snd x)(i:Nat)(hi:i<x.A.length)(f:Pr->Bool)(g:Nat)(t:Int)(hg:((x.c i).F.filter f).length+g=(x.c i).F.length)(ht:t=if dC x=(i:Int) then ((((x.c i).F.take x.sub.toNat).filter f).length:Int) else x.sub):b1r x (fltH x i f g t) where
 hl:=by simp [fltH]
 rest:=a3y.refl _
 c:=λq=>by rw[a8r x i f g t hi q];split;(· rename_i t;rw[t];exact⟨rfl,rfl,rfl,rfl,rfl⟩);(· exact⟨rfl,rfl,rfl,rfl,rfl⟩)
 wk:=λq=>by rw[a8r x i f g t hi q];split;(· rename_i t;rw[t];exact .inl rfl);(· exact .inl rfl)
 la:=λq=>by rw[a8r x i f g t hi q];split;(· rename_i t;rw[t];exact .inl rfl);(· exact .inl rfl)
 sp:=λq=>by rw[a8r x i f g t hi q];split;(· rename_i t;rw[t];exact id);(· exact id)
 p:=λq hq k hk=>by
  rw[a8r x i f g t hi q] at hk ⊢;by_cases e:q=i
  ·rw[if_pos e] at hk ⊢;rw[e];obtain⟨j,h1,h2,h3⟩:=b0x f Pr0 (x.c i).F k hk;refine⟨j,h1,h2,λhs=>?_⟩;show(k:Int)<t↔_;rw[ht,if_pos hs];have:=h3 x.sub.toNat;have:=h.r1.sub;omega
  ·rw[if_neg e] at hk ⊢;refine⟨k,hk,rfl,λhs=>?_⟩;show(k:Int)<t↔_;rw[ht,if_neg (λu=>by omega)]
 le:=λq hq=>by
  rw[a8r x i f g t hi q];split
  ·rename_i e;rw[e];exact List.length_filter_le _ _
  ·exact Nat.le_refl _
 us:=by
  have u:=a1z x.A i (b9r (x.c i) f) hi;rw[Hp.c_eq x i hi] at u;have h3:=h.r3.1;show x.K-(g:Int)=(dL (x.A.set i (b9r (x.c i) f)):Nat);by_cases s1:(x.c i).st=1
  ·have e1:hE (x.c i)=1+(x.c i).F.length:=by unfold hE;rw[if_pos s1]
   have e2:hE (b9r (x.c i) f)=1+((x.c i).F.filter f).length:=by
    unfold hE;show(if (x.c i).st=1 then 1+((x.c i).F.filter f).length else 0)=_;rw[if_pos s1]
   rw[e1,e2] at u;omega
  ·have e1:hE (x.c i)=0:=by unfold hE;rw[if_neg s1]
   have e2:hE (b9r (x.c i) f)=0:=by
    unfold hE;show(if (x.c i).st=1 then 1+((x.c i).F.filter f).length else 0)=_;rw[if_neg s1]
   have e3:(x.c i).F.length=0:=by
    rcases h.r2.1 i hi with z | z | z
    ·exact z.2.1.2.2.2.2.2
    ·exact z.2.1.2.2.2.2.2
    ·exact absurd z.1 s1
   rw[e1,e2] at u;omega
 ul:=by show x.K-(g:Int)<=x.K;omega
 s0:=by
  have:=h.r1.sub;have:=(c3j f (x.c i).F x.sub.toNat).2;show 0<=t/\t<=x.sub;rw[ht]
  split <;> omega
 s1:=λq hq hs=>by
  have k:=h.scan q hs;show t<=_;rw[a8r x i f g t hi q,ht];by_cases e:q=i
  ·rw[if_pos e,if_pos (by rw[<-e];exact hs)];have:=(c3j f (x.c i).F x.sub.toNat).1;show _<=((((x.c i).F.filter f).length:Nat):Int);omega
  ·rw[if_neg e,if_neg (λu=>by omega)];exact k
theorem c6g{z:Hp}(r:a3y z x)(hl:z.A.length=x.A.length):dC z=dC x:=by
 obtain⟨_,_,_,r4,r5,r6,_⟩:=r;unfold dC;rw[r4,r5,r6,hl]
theorem Snd.stTo{x:Hp}(s:Snd x)(H:Nat->Bool):∀k,k<=x.A.length->Snd (stTo x H k)
 | 0,_=>s
 | k+1,hk=>by
  have sz:=Snd.stTo s H k (by omega);have zl:=a6q x H k;have zc:(Go.Proofs.YtddkhnclmeikfaaGreat.stTo x H k).c k=x.c k:=by rw[c1w x H k (by omega) k,if_neg (by omega)]
  have sc:=c6g (b0r x H k) zl;show Snd (a2w x H k (Go.Proofs.YtddkhnclmeikfaaGreat.stTo x H k));obtain⟨z,hz⟩:∃z,z=Go.Proofs.YtddkhnclmeikfaaGreat.stTo x H k:=⟨_,rfl⟩;rw[<-hz] at sz zl zc sc ⊢;have hi:k<z.A.length:=by omega
  unfold a2w
  split
  ·have e:({ z with A:=z.A.set k (b4j x H (x.c k)),K:=z.K-tW x H (x.c k) (x.c k).F,sub:=a2h x H k z.sub }:Hp)=fltH z k (λp=>!goB x H (x.c k) p) (tW x H (x.c k) (x.c k).F) (a2h x H k z.sub):=by
    unfold fltH b9r b4j yV;rw[zc]
   rw[e];refine sz.thin (b1r.flt sz k hi _ _ _ ?_ ?_)
   ·rw[zc];exact a7m x H (x.c k) (x.c k).F
   ·unfold a2h;rw[sc,zc]
    split
    ·rename_i es;have a:=sz.scan k (by rw[sc];exact es);have b:=sz.r1.sub;rw[zc] at a;have c:=a7m x H (x.c k) ((x.c k).F.take z.sub.toNat);rw[List.length_take] at c;unfold yV at c;omega
    ·rfl
  ·split
   ·rename_i _ e1;have s1:=a1b sz.r2 k hi (.inl (by rw[zc];exact e1));have e:({ z with A:=z.A.set k (b6r (x.c k)) }:Hp)=dW z k (b6r (z.c k)):=by rw[zc];rfl
    rw[e];exact sz.thin (b1r.self sz k _ hi s1 ⟨rfl,rfl,rfl,rfl,rfl⟩ rfl (.inl rfl) (.inr ⟨by show(0:Int)<=2;omega,by show(2:Int)<=3;omega⟩) (λ_=>.inl (by rw[zc];exact e1)))
   ·exact sz
theorem Snd.settle(s:Snd x)(H:Nat->Bool):Snd (a4h x H):=by
 rw[<-c8x];exact s.stTo H _ (Nat.le_refl _)
theorem DoR.sndB(s:Snd x)(ha:a<16)(hb:k≠1->k≠23->b<16)(h1:k=1->b<=255/\c<=200)(h23:k=23->b<=64/\c<=4000)(h11:k=11->c<=3)(h12:k=12->c<=1)(hk:k≠9)(h:DoR x a b c n y cd nm k):Snd y:=by
 by_cases e1:k=1
 ·subst e1;exact b6t.snd s (h1 rfl).1 (h1 rfl).2 h
 ·by_cases e2:k=18
  ·subst e2;obtain⟨_,H,_,e,_⟩:=h;rw[e];exact s.settle H
  ·exact h.sndA s ha hb h23 h11 h12 ⟨e1,hk,e2⟩
theorem DoR.snd(s:Snd x)(ha:a<16)(hb:k≠1->k≠23->b<16)(h1:k=1->b<=255/\c<=200)(h23:k=23->b<=64/\c<=4000)(h11:k=11->c<=3)(h12:k=12->c<=1)(h:DoR x a b c n y cd nm k):Snd y:=by
 by_cases e9:k=9
 ·subst e9;rcases h with h | h
  ·rw[h.2.1];exact s
  ·exact b3m.snd s ha h.1 rfl h.2
 ·exact h.sndB s ha hb h1 h23 h11 h12 e9
end Go.Proofs.YtddkhnclmeikfaaGreat
