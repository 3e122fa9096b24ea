import Derived.Test.YtddkhnclmeikfaaGreatWa
import Derived.Test.YtddkhnclmeikfaaGreatE0
namespace Go.Proofs.YtddkhnclmeikfaaGreat
open Go.RowKit
variable{x y:Hp}{a b c k:Nat}{cd nm n:Int}
theorem Snd.res(h:Snd x){u:Wd}{m:Prop}(hl:cZ x u m):cZ x (zU x u) False:=by
 unfold zU
 split
 ·rename_i e;have hlt:u.a.toNat<x.cells.length:=by rcases hl.1 with f | f | f <;> omega
  rcases h.r2.1 _ hlt with⟨a,_⟩ | ⟨_,b⟩ | ⟨a,_⟩
  ·have:=e.2;omega
  ·obtain⟨b1,b2,b3,b4,b5,_⟩:=b;exact⟨.inr (.inr ⟨rfl,rfl,b3,show(x.c u.a.toNat).to<_ by omega⟩),λ_=>.inr ⟨b5,λd=>by have:=d.1;omega⟩⟩
  ·have:=e.2;omega
 ·rename_i e;refine⟨hl.1,λhk=>?_⟩;rcases hl.2 hk with⟨a,_⟩ | ⟨a,b⟩
  ·exact(e ⟨hk,a⟩).elim
  ·exact .inr ⟨a,b⟩
theorem Snd.half(h:Snd x)(i k:Nat)(hi:i<x.cells.length)(nd:¬cL x i)(hk:k<(x.c i).prs.length):cZ x (zU x ((x.c i).p k).key) False/\cZ x (zU x ((x.c i).p k).val) False:=
 let q:=((h.r4.2 i hi).2 k hk).2 nd
 ⟨h.res q.1,h.res q.2⟩
theorem DoR.sndA(s:Snd x)(ha:a<16)(hb:k≠1->k≠23->b<16)(h23:k=23->b<=64/\c<=4000)(h11:k=11->c<=3)(h12:k=12->c<=1)(hk:k≠1/\k≠9/\k≠18)(h:DoR x a b c n y cd nm k):Snd y:=by
 unfold DoR at h
 split at h
 ·exact absurd rfl hk.1
 ·rw[h.1];exact s.regTo a _ ⟨.inr (.inl ⟨rfl,rfl⟩),λe=>by cases e⟩
 ·rw[h.1];exact s.regTo a _ ⟨.inl ⟨rfl,rfl,rfl⟩,λe=>by cases e⟩
 ·rw[h.1];exact s.regTo a _ (s.reg b (hb (by omega) (by omega)))
 ·have b16:=hb (by omega) (by omega);rcases h with h | h | h
  ·rw[h.2.1];exact s
  ·rw[h.2.2.1];exact s
  ·obtain⟨_,_,p3,_,p5⟩:=s.at b b16 h.1;rw[h.2.2.1];exact s.regTo a _ (s.half _ c p3 p5 h.2.1).1
 ·have b16:=hb (by omega) (by omega);rcases h with h | h | h
  ·rw[h.2.1];exact s
  ·rw[h.2.2.1];exact s
  ·obtain⟨_,_,p3,_,p5⟩:=s.at b b16 h.1;rw[h.2.2.1];exact s.regTo a _ (s.half _ c p3 p5 h.2.1).2
 ·have b16:=hb (by omega) (by omega);rcases h with h | h | h
  ·rw[h.2.1];exact s
  ·rw[h.2.2.1];exact s
  ·obtain⟨_,_,p3,p4,p5⟩:=s.at a ha h.1;rw[h.2.2.1];exact s.put _ c p3 p4 p5 h.2.1 _ (s.reg b b16) ⟨x.r b,((x.c (x.at a)).p c).val⟩ (.inl ⟨rfl,rfl⟩)
 ·have b16:=hb (by omega) (by omega);rcases h with h | h | h
  ·rw[h.2.1];exact s
  ·rw[h.2.2.1];exact s
  ·obtain⟨_,_,p3,p4,p5⟩:=s.at a ha h.1;rw[h.2.2.1];exact s.put _ c p3 p4 p5 h.2.1 _ (s.reg b b16) ⟨((x.c (x.at a)).p c).key,x.r b⟩ (.inr ⟨rfl,rfl⟩)
 ·exact absurd rfl hk.2.1
 ·rcases h with h | h
  ·rw[h.2.1];exact s
  ·obtain⟨_,_,p3,p4,p5⟩:=s.at a ha h.1;rw[h.2.1];exact s.short _ c p3 p4
 ·rcases h with h | h
  ·rw[h.2.1];exact s
  ·obtain⟨_,_,p3,p4,p5⟩:=s.at a ha h.1;have:=h11 rfl;rw[h.2.1];exact s.weakT _ p3 p4 c (by omega)
 ·rcases h with h | h
  ·rw[h.2.1];exact s
  ·obtain⟨_,_,p3,p4,p5⟩:=s.at a ha h.1;have:=h12 rfl;rw[h.2.1]
   split
   ·rename_i e;rw[e];exact s.want _ p3 p4 p5
   ·rename_i e;exact s.lastT _ p3 p4 c (.inl (by omega))
 ·rw[h.1];exact s
 ·rw[h.1];exact s
 ·rw[h.1];exact s
 ·rcases h with h | h
  ·rw[h.2.1];exact s
  ·rw[h.2.1];exact s
 ·rcases h with h | h
  ·rw[h.2.1];exact s
  ·rw[h.2.1];exact s
 ·exact absurd rfl hk.2.2
 ·rcases h.2 with h | ⟨i,h⟩
  ·rw[h.2.1];exact s.regTo a _ ⟨.inl ⟨rfl,rfl,rfl⟩,λe=>by cases e⟩
  ·obtain⟨hi,l2⟩:i<x.cells.length/\(x.c i).last=2:=by
    rcases h.1 with d | ⟨j,e,hj,hl,_⟩
    ·have:=d.1;omega
    ·have e2:i=j:=by omega
     rw[e2];exact⟨hj,hl⟩
   have s1:=a0x s.r2 i hi (.inr l2);have nd:¬cL x i:=λd=>(s.r4.2 i hi).1 ⟨d,.inr l2⟩
   have s2:=s.lastT i hi s1 3 (.inr rfl);rw[h.2.1];refine s2.regTo a _ ⟨.inr (.inr ⟨rfl,rfl,by show(0:Int)<=(i:Int);omega,by show(i:Int)<((dE x i (a2g (x.c i) 3)).cells.length:Nat);rw[b0z];omega⟩),λ_=>.inr ?_⟩;show((dE x i (a2g (x.c i) 3)).c i).st=1/\¬cL (dE x i (a2g (x.c i) 3)) i;unfold cL;rw[a3d x i _ hi i,if_pos rfl];exact⟨s1,nd⟩
 ·rw[h.1];exact s
 ·rw[h.1];exact s
 ·obtain⟨_,_,k,_,e⟩:=h;rw[e];exact(s.stepH _).itU k
 ·have:=h23 rfl;rw[h.1];exact s.paceTo _ _ (by omega) (by omega)
 ·exact h.2.2.snd s
 ·exact h.elim
theorem a7j(x:Hp)(y:Wd):(uY x y).born=x.born:=by
 unfold uY
 split
 ·exact(a0b x _).2.2.1
 ·rfl
theorem b1c:∀(ys:List Wd) (z:Hp),(ys.foldl uY z).born=z.born
 | [],_=>rfl
 | y::ys,z=>(b1c ys (uY z y)).trans (a7j z y)
theorem uborn1(x:Hp):(tE x).born=x.born:=by
 unfold tE
 split
 ·rfl
 ·by_cases e:a8u (x.c x.hand.toNat)=true
  ·simp only [if_pos e];exact(a0b x _).2.2.1
  ·simp only [if_neg e]
theorem uborn2(x:Hp):(zV x).born=x.born:=by
 unfold zV
 split
 ·split
  ·exact(a7j _ _).trans (a7j _ _)
  ·rfl
 ·split
  ·exact b1c x.regs x
  ·exact b1c x.regs x
theorem uborn3(x:Hp):(tW x).born=x.born:=by
 unfold tW
 split
 ·rfl
 ·split <;> rfl
theorem uborn4(x:Hp):(unit4 x).born=x.born:=by
 unfold unit4
 split <;> rfl
theorem uborn5(x:Hp):(a2e x).born=x.born:=by
 unfold a2e
 split
 ·rfl
 ·split <;> rfl
theorem uborn6(x:Hp):(zZ x).born=x.born:=by
 unfold zZ a4h
 split
 ·rfl
 ·split <;> rfl
theorem b4h(x:Hp):(eY x).born=x.born:=by
 unfold eY
 repeat (first | (split) | exact uborn1 x | exact uborn2 x | exact uborn3 x | exact uborn4 x | exact uborn5 x | exact uborn6 x | rfl)
theorem b4i:∀(k:Nat) (x:Hp),(itU k x).born=x.born
 | 0,_=>rfl
 | k+1,x=>by
  first
   | exact(b4i k (eY x)).trans (b4h x)
   | exact(b4h (itU k x)).trans (b4i k x)
theorem b5z(h:b6z x y):y.born=x.born:=by
 obtain⟨k,_,e⟩:=h;rw[e];exact b4i k x
theorem RdIs.bornE(h:RdIs x y):y.born=x.born:=by
 obtain⟨z,a,b⟩:=h;exact(b5z b).trans (show z.born=x.born from b5z a)
theorem a4s.bornE{u:Nat}(h:a4s x u y):y.born=x.born:=by
 rcases h with h | h
 ·rw[h.2]
 ·exact h.2.bornE
theorem b7b.snd(s:Snd x)(hb:b<=255)(hc:c<=200)(h:b7b x a b c y cd nm):Snd y:=by
 rcases h.2 with h | ⟨nb,z,hz,h | h⟩
 ·rw[h.2.1];exact s
 ·rw[h.2.1];exact hz.snd s
 ·have sz:=hz.snd s;have eb:=hz.bornE;have b1:=s.r1.born;have hu:z.used+(1+c)<=z.room:=by have e:=h.1;unfold a2n at e;have:=of_decide_eq_true e;omega
  obtain⟨s1,s2,s3,s4⟩:=sz.make b c (by omega) hc (by omega) hu;refine h.2.2.snd (s1.regTo a ⟨2,0,cJ z⟩ ⟨.inr (.inr ⟨rfl,rfl,by show(0:Int)<=(cJ z:Nat);omega,by show((cJ z:Nat):Int)<_;omega⟩),λ_=>.inr ⟨s2,s4⟩⟩)
theorem c6a{z:Hp}(r:a3p z x)(hl:z.cells.length=x.cells.length):uV z=uV x:=by
 obtain⟨_,_,_,r4,r5,r6,_⟩:=r;unfold uV;rw[r4,r5,r6,hl]
theorem Snd.stTo{x:Hp}(s:Snd x)(H:Nat->Bool):∀k,k<=x.cells.length->Snd (stTo x H k)
 | 0,_=>s
 | k+1,hk=>by
  have sz:=Snd.stTo s H k (by omega);have zl:=a2c x H k;have zc:(Go.Proofs.YtddkhnclmeikfaaGreat.stTo x H k).c k=x.c k:=by rw[a7b x H k (by omega) k,if_neg (by omega)]
  have sc:=c6a (a2v x H k) zl;show Snd (a1b x H k (Go.Proofs.YtddkhnclmeikfaaGreat.stTo x H k));obtain⟨z,hz⟩:∃z,z=Go.Proofs.YtddkhnclmeikfaaGreat.stTo x H k:=⟨_,rfl⟩;rw[<-hz] at sz zl zc sc ⊢;have hi:k<z.cells.length:=by omega
  unfold a1b
  split
  ·have e:({ z with cells:=z.cells.set k (yL x H (x.c k)),used:=z.used-eZ x H (x.c k) (x.c k).prs,sub:=qH x H k z.sub }:Hp)=fltH z k (λp=>!goB x H (x.c k) p) (eZ x H (x.c k) (x.c k).prs) (qH x H k z.sub):=by
    unfold fltH c0b yL yX;rw[zc]
   rw[e];refine sz.thin (b2e.flt sz k hi _ _ _ ?_ ?_)
   ·rw[zc];exact a1z x H (x.c k) (x.c k).prs
   ·unfold qH;rw[sc,zc]
    split
    ·rename_i es;have a:=sz.scan k (by rw[sc];exact es);have b:=sz.r1.sub;rw[zc] at a;have c:=a1z x H (x.c k) ((x.c k).prs.take z.sub.toNat);rw[List.length_take] at c;unfold yX at c;omega
    ·rfl
  ·split
   ·rename_i _ e1;have s1:=a0x sz.r2 k hi (.inl (by rw[zc];exact e1));have e:({ z with cells:=z.cells.set k (b1y (x.c k)) }:Hp)=dE z k (b1y (z.c k)):=by rw[zc];rfl
    rw[e];exact sz.thin (b2e.self sz k _ hi s1 ⟨rfl,rfl,rfl,rfl,rfl⟩ rfl (.inl rfl) (.inr ⟨by show(0:Int)<=2;omega,by show(2:Int)<=3;omega⟩) (λ_=>.inl (by rw[zc];exact e1)))
   ·exact sz
theorem Snd.settle(s:Snd x)(H:Nat->Bool):Snd (dD x H):=by
 rw[<-a5b];exact s.stTo H _ (Nat.le_refl _)
theorem DoR.sndB(s:Snd x)(ha:a<16)(hb:k≠1->k≠23->b<16)(h1:k=1->b<=255/\c<=200)(h23:k=23->b<=64/\c<=4000)(h11:k=11->c<=3)(h12:k=12->c<=1)(hk:k≠9)(h:DoR x a b c n y cd nm k):Snd y:=by
 by_cases e1:k=1
 ·subst e1;exact b7b.snd s (h1 rfl).1 (h1 rfl).2 h
 ·by_cases e2:k=18
  ·subst e2;obtain⟨_,H,_,e,_⟩:=h;rw[e];exact s.settle H
  ·exact h.sndA s ha hb h23 h11 h12 ⟨e1,hk,e2⟩
abbrev eK(c n:Int):Value:=.agg #[iv c,iv n]
theorem b7k(x:Hp)(j:Nat)(c:Cl)(hc:c.prs.length=(x.c j).prs.length)(q:Nat):(({ x with cells:=x.cells.set j c }:Hp).c q).prs.length=(x.c q).prs.length:=by
 by_cases hj:j<x.cells.length
 ·rw[Hp.c_set x j c hj q]
  split
  ·rename_i e;rw[e];exact hc
  ·rfl
 ·have e:x.cells.set j c=x.cells:=List.set_eq_of_length_le (by omega);rw[e]
theorem b6d(x:Hp)(j q:Nat):((cC x j).c q).prs.length=(x.c q).prs.length:=by
 unfold cC
 split
 ·exact b7k x j (a2j (x.c j)) rfl q
 ·rfl
theorem b1f(x:Hp)(y:Wd)(q:Nat):((uY x y).c q).prs.length=(x.c q).prs.length:=by
 unfold uY
 split
 ·exact b6d x _ q
 ·rfl
theorem b7m(q:Nat):∀(ys:List Wd) (z:Hp),((ys.foldl uY z).c q).prs.length=(z.c q).prs.length
 | [],_=>rfl
 | y::ys,z=>(b7m q ys (uY z y)).trans (b1f z y q)
theorem uprs1(x:Hp)(q:Nat):((tE x).c q).prs.length=(x.c q).prs.length:=by
 unfold tE
 split
 ·rfl
 ·by_cases e:a8u (x.c x.hand.toNat)=true
  ·simp only [if_pos e];exact b6d x _ q
  ·simp only [if_neg e];rfl
theorem uprs2(x:Hp)(q:Nat):((zV x).c q).prs.length=(x.c q).prs.length:=by
 unfold zV
 split
 ·rename_i g G _
  split
  ·exact(b1f _ _ q).trans (b1f _ _ q)
  ·exact b7k x g.toNat (a1v (x.c g.toNat)) rfl q
 ·split
  ·exact b7m q x.regs x
  ·exact b7m q x.regs x
theorem uprs5(x:Hp)(q:Nat):((a2e x).c q).prs.length=(x.c q).prs.length:=by
 unfold a2e
 split
 ·rfl
 ·split
  ·exact b7k x x.hand.toNat (tZ x (x.c x.hand.toNat) x.sub.toNat) (by simp [tZ]) q
  ·rfl
theorem take_at{α:Type}(l:List α)(m q:Nat)(d:α)(h:q<m):(l.take m).getD q d=l.getD q d:=by simp [h]
theorem uprs3(x:Hp)(s:Snd x)(hp:x.phase=3)(q:Nat)(hq:q<x.cells.length)(s1:(x.c q).st=1)(nd:¬cL x q):((tW x).c q).prs.length=(x.c q).prs.length:=by
 have hh:=s.r1.hand;unfold tW
 split
 ·rfl
 ·have hl:x.hand.toNat<x.cells.length:=by omega
  split
  ·rename_i e;show((({ x with cells:=x.cells.set x.hand.toNat Cl0 }:Hp)).c q).prs.length=_;rw[Hp.c_set x _ _ hl q]
   split
   ·rename_i eq;refine absurd (show cL x q from⟨hp,by omega,s1,?_⟩) nd;rw[eq];unfold whB at e;simp at e;exact e.2
   ·rfl
  ·exact b7k x x.hand.toNat (a7f (x.c x.hand.toNat)) rfl q
theorem uprs6(x:Hp)(s:Snd x)(q:Nat)(hq:q<x.cells.length)(s1:(x.c q).st=1):((zZ x).c q).prs.length=(x.c q).prs.length:=by
 have hh:=s.r1.hand;unfold zZ
 split
 ·rfl
 ·have e:∀i,i<x.cells.length->((eE x i).c q)=x.c q:=λi hi=>by
   unfold eE
   split
   ·rename_i e2;show((({ x with cells:=x.cells.set i Cl0 }:Hp)).c q)=_;rw[Hp.c_set x _ _ hi q,if_neg (λu=>by rw[u] at s1;omega)]
   ·rfl
  have el:=e (x.hand-1).toNat (by omega);unfold a4h
  split
  ·rename_i d
   have ne:q≠(x.hand-1).toNat:=λu=>by
    have:=d.2;rw[<-u,e _ hq] at this
    all_goals omega
   have ql:q<(x.hand-1).toNat:=by
    have l:(eE x (x.hand-1).toNat).cells.length=x.cells.length:=by unfold eE;split <;> simp
    have:=d.1;omega
   rw[<-el];show(((eE x (x.hand-1).toNat).cells.take (x.hand-1).toNat).getD q Cl0).prs.length=_;rw[take_at _ _ _ _ ql];rfl
  ·rw[el]
end Go.Proofs.YtddkhnclmeikfaaGreat
