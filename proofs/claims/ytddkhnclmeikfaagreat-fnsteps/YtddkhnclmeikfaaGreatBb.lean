import Derived.Test.YtddkhnclmeikfaaGreatEh0
namespace Go.Proofs.YtddkhnclmeikfaaGreat
open Go.RowKit
theorem b5p(x:Hp)(j:Nat)(c:Cl)(hc:c.prs.length=(x.c j).prs.length)(q:Nat):(({ x with cells:=x.cells.set j c }:Hp).c q).prs.length=(x.c q).prs.length:=by
 by_cases hj:j<x.cells.length
 ·rw[Hp.c_set x j c hj q]
  split
  ·rename_i e;rw[e];exact hc
  ·rfl
 ·have e:x.cells.set j c=x.cells:=List.set_eq_of_length_le (by omega);rw[e]
theorem b4d(x:Hp)(j q:Nat):((uV x j).c q).prs.length=(x.c q).prs.length:=by
 unfold uV
 split
 ·exact b5p x j (tN (x.c j)) rfl q
 ·rfl
theorem b0a(x:Hp)(y:Wd)(q:Nat):((uY x y).c q).prs.length=(x.c q).prs.length:=by
 unfold uY
 split
 ·exact b4d x _ q
 ·rfl
theorem b5q(q:Nat):∀(ys:List Wd) (z:Hp),((ys.foldl uY z).c q).prs.length=(z.c q).prs.length
 | [],_=>rfl
 | y::ys,z=>(b5q q ys (uY z y)).trans (b0a z y q)
theorem uprs1(x:Hp)(q:Nat):((qC x).c q).prs.length=(x.c q).prs.length:=by
 unfold qC
 split
 ·rfl
 ·by_cases e:tJ (x.c x.hand.toNat)=true
  ·simp only [if_pos e];exact b4d x _ q
  ·simp only [if_neg e];rfl
theorem uprs2(x:Hp)(q:Nat):((eC x).c q).prs.length=(x.c q).prs.length:=by
 unfold eC
 split
 ·rename_i g G _
  split
  ·exact(b0a _ _ q).trans (b0a _ _ q)
  ·exact b5p x g.toNat (a1d (x.c g.toNat)) rfl q
 ·split
  ·exact b5q q x.regs x
  ·exact b5q q x.regs x
theorem uprs5(x:Hp)(q:Nat):((eK x).c q).prs.length=(x.c q).prs.length:=by
 unfold eK
 split
 ·rfl
 ·split
  ·exact b5p x x.hand.toNat (zZ x (x.c x.hand.toNat) x.sub.toNat) (by simp [zZ]) q
  ·rfl
theorem take_at{α:Type}(l:List α)(m q:Nat)(d:α)(h:q<m):(l.take m).getD q d=l.getD q d:=by simp [h]
theorem uprs3(x:Hp)(s:Snd x)(hp:x.phase=3)(q:Nat)(hq:q<x.cells.length)(s1:(x.c q).st=1)(nd:¬cU x q):((dE x).c q).prs.length=(x.c q).prs.length:=by
 have hh:=s.r1.hand;unfold dE
 split
 ·rfl
 ·have hl:x.hand.toNat<x.cells.length:=by omega
  split
  ·rename_i e;show((({ x with cells:=x.cells.set x.hand.toNat Cl0 }:Hp)).c q).prs.length=_;rw[Hp.c_set x _ _ hl q]
   split
   ·rename_i eq;refine absurd (show cU x q from⟨hp,by omega,s1,?_⟩) nd;rw[eq];unfold whB at e;simp at e;exact e.2
   ·rfl
  ·exact b5p x x.hand.toNat (a1u (x.c x.hand.toNat)) rfl q
theorem uprs6(x:Hp)(s:Snd x)(q:Nat)(hq:q<x.cells.length)(s1:(x.c q).st=1):((dZ x).c q).prs.length=(x.c q).prs.length:=by
 have hh:=s.r1.hand;unfold dZ
 split
 ·rfl
 ·have e:∀i,i<x.cells.length->((eU x i).c q)=x.c q:=λi hi=>by
   unfold eU
   split
   ·rename_i e2;show((({ x with cells:=x.cells.set i Cl0 }:Hp)).c q)=_;rw[Hp.c_set x _ _ hi q,if_neg (λu=>by rw[u] at s1;omega)]
   ·rfl
  have el:=e (x.hand-1).toNat (by omega);unfold zX
  split
  ·rename_i d
   have ne:q≠(x.hand-1).toNat:=λu=>by
    have:=d.2;rw[<-u,e _ hq] at this
    all_goals omega
   have ql:q<(x.hand-1).toNat:=by
    have l:(eU x (x.hand-1).toNat).cells.length=x.cells.length:=by unfold eU;split <;> simp
    have:=d.1;omega
   rw[<-el];show(((eU x (x.hand-1).toNat).cells.take (x.hand-1).toNat).getD q Cl0).prs.length=_;rw[take_at _ _ _ _ ql];rfl
  ·rw[el]
end Go.Proofs.YtddkhnclmeikfaaGreat
