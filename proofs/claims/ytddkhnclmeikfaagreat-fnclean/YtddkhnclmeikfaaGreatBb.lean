import Derived.Test.YtddkhnclmeikfaaGreatEl
namespace Go.Proofs.YtddkhnclmeikfaaGreat
open Go.RowKit
theorem b6v(x:Hp)(j:Nat)(c:Cl)(hc:c.F.length=(x.c j).F.length)(q:Nat):(({ x with A:=x.A.set j c }:Hp).c q).F.length=(x.c q).F.length:=by
 by_cases hj:j<x.A.length
 ·rw[Hp.c_set x j c hj q]
  split
  ·rename_i e;rw[e];exact hc
  ·rfl
 ·have e:x.A.set j c=x.A:=List.set_eq_of_length_le (by omega);rw[e]
theorem b5j(x:Hp)(j q:Nat):((uW x j).c q).F.length=(x.c q).F.length:=by
 unfold uW
 split
 ·exact b6v x j (tY (x.c j)) rfl q
 ·rfl
theorem b0o(x:Hp)(y:Wd)(q:Nat):((shadeW x y).c q).F.length=(x.c q).F.length:=by
 unfold shadeW
 split
 ·exact b5j x _ q
 ·rfl
theorem b6w(q:Nat):∀(ys:List Wd) (z:Hp),((ys.foldl shadeW z).c q).F.length=(z.c q).F.length
 | [],_=>rfl
 | y::ys,z=>(b6w q ys (shadeW z y)).trans (b0o z y q)
theorem uprs1(x:Hp)(q:Nat):((eZ x).c q).F.length=(x.c q).F.length:=by
 unfold eZ
 split
 ·rfl
 ·by_cases e:tJ (x.c x.I.toNat)=true
  ·simp only [if_pos e];exact b5j x _ q
  ·simp only [if_neg e];rfl
theorem uprs2(x:Hp)(q:Nat):((dY x).c q).F.length=(x.c q).F.length:=by
 unfold dY
 split
 ·rename_i g G _
  split
  ·exact(b0o _ _ q).trans (b0o _ _ q)
  ·exact b6v x g.toNat (qV (x.c g.toNat)) rfl q
 ·split
  ·exact b6w q x.B x
  ·exact b6w q x.B x
theorem uprs5(x:Hp)(q:Nat):((eH x).c q).F.length=(x.c q).F.length:=by
 unfold eH
 split
 ·rfl
 ·split
  ·exact b6v x x.I.toNat (qD x (x.c x.I.toNat) x.sub.toNat) (by simp [qD]) q
  ·rfl
theorem take_at{α:Type}(l:List α)(m q:Nat)(d:α)(h:q<m):(l.take m).getD q d=l.getD q d:=by simp [h]
theorem uprs3(x:Hp)(s:Snd x)(hp:x.E=3)(q:Nat)(hq:q<x.A.length)(s1:(x.c q).st=1)(nd:¬hY x q):((dQ x).c q).F.length=(x.c q).F.length:=by
 have hh:=s.r1.I;unfold dQ
 split
 ·rfl
 ·have hl:x.I.toNat<x.A.length:=by omega
  split
  ·rename_i e;show((({ x with A:=x.A.set x.I.toNat Cl0 }:Hp)).c q).F.length=_;rw[Hp.c_set x _ _ hl q]
   split
   ·rename_i eq;refine absurd (show hY x q from⟨hp,by omega,s1,?_⟩) nd;rw[eq];unfold whB at e;simp at e;exact e.2
   ·rfl
  ·exact b6v x x.I.toNat (a1i (x.c x.I.toNat)) rfl q
theorem uprs6(x:Hp)(s:Snd x)(q:Nat)(hq:q<x.A.length)(s1:(x.c q).st=1):((cN x).c q).F.length=(x.c q).F.length:=by
 have hh:=s.r1.I;unfold cN
 split
 ·rfl
 ·have e:∀i,i<x.A.length->((dH x i).c q)=x.c q:=λi hi=>by
   unfold dH
   split
   ·rename_i e2;show((({ x with A:=x.A.set i Cl0 }:Hp)).c q)=_;rw[Hp.c_set x _ _ hi q,if_neg (λu=>by rw[u] at s1;omega)]
   ·rfl
  have el:=e (x.I-1).toNat (by omega);unfold zU
  split
  ·rename_i d
   have ne:q≠(x.I-1).toNat:=λu=>by
    have:=d.2;rw[<-u,e _ hq] at this
    all_goals omega
   have ql:q<(x.I-1).toNat:=by
    have l:(dH x (x.I-1).toNat).A.length=x.A.length:=by unfold dH;split <;> simp
    have:=d.1;omega
   rw[<-el];show(((dH x (x.I-1).toNat).A.take (x.I-1).toNat).getD q Cl0).F.length=_;rw[take_at _ _ _ _ ql];rfl
  ·rw[el]
end Go.Proofs.YtddkhnclmeikfaaGreat
