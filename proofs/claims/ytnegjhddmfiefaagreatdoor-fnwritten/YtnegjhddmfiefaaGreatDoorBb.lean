import Derived.Test.YtnegjhddmfiefaaGreatDoorEh0
namespace Go.Proofs.YtnegjhddmfiefaaGreatDoor
open Go.RowKit
theorem set_np(x:Hp)(j:Nat)(c:Cl)(hc:c.prs.length=(x.c j).prs.length)(q:Nat):(({ x with cells:=x.cells.set j c }:Hp).c q).prs.length=(x.c q).prs.length:=by
 by_cases hj:j<x.cells.length
 ·rw[Hp.c_set x j c hj q]
  split
  ·rename_i e;rw[e];exact hc
  ·rfl
 ·have e:x.cells.set j c=x.cells:=List.set_eq_of_length_le (by omega);rw[e]
theorem shadeH_np(x:Hp)(j q:Nat):((shadeH x j).c q).prs.length=(x.c q).prs.length:=by
 unfold shadeH
 split
 ·exact set_np x j (grayC (x.c j)) rfl q
 ·rfl
theorem shadeW_np(x:Hp)(y:Wd)(q:Nat):((shadeW x y).c q).prs.length=(x.c q).prs.length:=by
 unfold shadeW
 split
 ·exact shadeH_np x _ q
 ·rfl
theorem fold_np(q:Nat):∀(ys:List Wd) (z:Hp),((ys.foldl shadeW z).c q).prs.length=(z.c q).prs.length
 | [],_=>rfl
 | y::ys,z=>(fold_np q ys (shadeW z y)).trans (shadeW_np z y q)
theorem uprs1(x:Hp)(q:Nat):((unit1 x).c q).prs.length=(x.c q).prs.length:=by
 unfold unit1
 split
 ·rfl
 ·by_cases e:spkB (x.c x.hand.toNat)=true
  ·simp only [if_pos e];exact shadeH_np x _ q
  ·simp only [if_neg e];rfl
theorem uprs2(x:Hp)(q:Nat):((unit2 x).c q).prs.length=(x.c q).prs.length:=by
 unfold unit2
 split
 ·rename_i g G _
  split
  ·exact(shadeW_np _ _ q).trans (shadeW_np _ _ q)
  ·exact set_np x g.toNat (blackC (x.c g.toNat)) rfl q
 ·split
  ·exact fold_np q x.regs x
  ·exact fold_np q x.regs x
theorem uprs5(x:Hp)(q:Nat):((unit5 x).c q).prs.length=(x.c q).prs.length:=by
 unfold unit5
 split
 ·rfl
 ·split
  ·exact set_np x x.hand.toNat (mendC x (x.c x.hand.toNat) x.sub.toNat) (by simp [mendC]) q
  ·rfl
theorem take_at{α:Type}(l:List α)(m q:Nat)(d:α)(h:q<m):(l.take m).getD q d=l.getD q d:=by simp [h]
theorem uprs3(x:Hp)(s:Snd x)(hp:x.phase=3)(q:Nat)(hq:q<x.cells.length)(s1:(x.c q).st=1)(nd:¬Doomed x q):((unit3 x).c q).prs.length=(x.c q).prs.length:=by
 have hh:=s.r1.hand;unfold unit3
 split
 ·rfl
 ·have hl:x.hand.toNat<x.cells.length:=by omega
  split
  ·rename_i e;show((({ x with cells:=x.cells.set x.hand.toNat Cl0 }:Hp)).c q).prs.length=_;rw[Hp.c_set x _ _ hl q]
   split
   ·rename_i eq;refine absurd (show Doomed x q from⟨hp,by omega,s1,?_⟩) nd;rw[eq];unfold whB at e;simp at e;exact e.2
   ·rfl
  ·exact set_np x x.hand.toNat (whiteC (x.c x.hand.toNat)) rfl q
theorem uprs6(x:Hp)(s:Snd x)(q:Nat)(hq:q<x.cells.length)(s1:(x.c q).st=1):((unit6 x).c q).prs.length=(x.c q).prs.length:=by
 have hh:=s.r1.hand;unfold unit6
 split
 ·rfl
 ·have e:∀i,i<x.cells.length→((shutH x i).c q)=x.c q:=fun i hi=>by
   unfold shutH
   split
   ·rename_i e2;show((({ x with cells:=x.cells.set i Cl0 }:Hp)).c q)=_;rw[Hp.c_set x _ _ hi q,if_neg (fun u=>by rw[u] at s1;omega)]
   ·rfl
  have el:=e (x.hand-1).toNat (by omega);unfold dropH
  split
  ·rename_i d
   have ne:q≠(x.hand-1).toNat:=fun u=>by
    have:=d.2;rw[←u,e _ hq] at this
    all_goals omega
   have ql:q<(x.hand-1).toNat:=by
    have l:(shutH x (x.hand-1).toNat).cells.length=x.cells.length:=by unfold shutH;split <;> simp
    have:=d.1;omega
   rw[←el];show(((shutH x (x.hand-1).toNat).cells.take (x.hand-1).toNat).getD q Cl0).prs.length=_;rw[take_at _ _ _ _ ql];rfl
  ·rw[el]
end Go.Proofs.YtnegjhddmfiefaaGreatDoor
