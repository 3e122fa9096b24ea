import Derived.Test.YtnegjhddmfiefaaGreatDoorAb
import Derived.Test.YtnegjhddmfiefaaGreatDoorL2e0
set_option maxRecDepth 100000
set_option maxHeartbeats 2000000
namespace Go.Proofs.YtnegjhddmfiefaaGreatDoor
open Go.RowKit
attribute [local go_sem ↓] Go.wp_at_zero Go.wp_at_succ
def newC(b k:Int)(n:Nat)(col:Int):Cl:=⟨1,k,0,0,b,col,0,List.replicate n Pr0⟩
def newCol(x:Hp)(t:Nat):Int:=if x.phase=1∨x.phase=2∨(x.phase=3∧x.hand≤(t:Int)) then 2 else 0
def newCs(x:Hp)(t:Nat)(c:Cl):List Cl:=if t<x.cells.length then x.cells.set t c else x.cells++[c]
def makeH(x:Hp)(k:Int)(n:Nat):Hp:={ x with born:=x.born+1,used:=x.used+(1+n),cells:=newCs x (fstFree x) (newC (x.born+1) k n (newCol x (fstFree x))) }
theorem newCs_len(x:Hp)(t:Nat)(c:Cl):(newCs x t c).length=if t<x.cells.length then x.cells.length else x.cells.length+1:=by
 unfold newCs
 split <;> simp
theorem newCs_c(x z:Hp)(t:Nat)(c:Cl)(ht:t≤x.cells.length)(hz:z.cells=newCs x t c)(q:Nat):z.c q=if q=t then c else x.c q:=by
 unfold Hp.c;rw[hz];unfold newCs;by_cases h:t<x.cells.length
 ·rw[if_pos h];simp only [List.getD_eq_getElem?_getD,List.getElem?_set];by_cases e:q=t
  ·subst e;simp [h]
  ·rw[if_neg (fun e'=>e e'.symm),if_neg e]
 ·rw[if_neg h];have te:t=x.cells.length:=by omega
  simp only [List.getD_eq_getElem?_getD];by_cases e:q=t
  ·rw[if_pos e,e,te];simp
  ·rw[if_neg e];by_cases h2:q<x.cells.length
   ·rw[List.getElem?_append_left h2]
   ·rw[List.getElem?_eq_none (by simp;omega),List.getElem?_eq_none (by omega)]
theorem Snd.crowd{x:Hp}(h:Snd x)(hf:∀i,i<x.cells.length→(x.c i).st≠0):x.cells.length≤2*units x.cells:=by
 have r2:=h.r2
 let U:=(List.range x.cells.length).filter (fun i=>(x.c i).st == 1)
 let M:=(List.range x.cells.length).filter (fun i=>(x.c i).st == 2)
 have hU:U.length≤units x.cells:=by
  have key:∀m,m≤x.cells.length→((List.range m).filter (fun i=>(x.c i).st == 1)).length≤units (x.cells.take m):=fun m=>by
   induction m with
   | zero=>intro _;simp
   | succ m ih=>
    intro hm;have i1:=ih (by omega);have ht:x.cells.take (m+1)=x.cells.take m++[x.cells[m]'(by omega)]:=List.take_succ_eq_append_getElem (by omega);rw[List.range_succ,List.filter_append,List.length_append,ht];have eu:units (x.cells.take m++[x.cells[m]'(by omega)])=units (x.cells.take m)+unitsOf (x.c m):=by simp [units,Hp.c_eq x m (by omega)]
    rw[eu];by_cases e:(x.c m).st=1
    ·have:unitsOf (x.c m)=1+(x.c m).prs.length:=by unfold unitsOf;rw[if_pos e]
     simp [e];omega
    ·simp [e];omega
  have:=key x.cells.length (Nat.le_refl _);rw[List.take_length] at this;exact this
 have hM:M.length≤U.length:=by
  have nd:(M.map (fun i=>(x.c i).to.toNat)).Nodup:=by
   rw[List.nodup_iff_pairwise_ne,List.pairwise_map];have pm:M.Pairwise (· < ·):=List.Pairwise.filter _ List.pairwise_lt_range;refine List.Pairwise.imp_of_mem (fun {a b} ha hb hab e=>?_) pm;have ha2:=List.mem_filter.1 ha;have hb2:=List.mem_filter.1 hb;have la:=List.mem_range.1 ha2.1;have lb:=List.mem_range.1 hb2.1;have sa:(x.c a).st=2:=by simpa using ha2.2
   have sb:(x.c b).st=2:=by simpa using hb2.2
   have oa:=r2.1 a la;have ob:=r2.1 b lb;unfold CellOk MovedOk Bare at oa ob;exact r2.2 b lb (by omega) a hab ⟨by omega,by omega,by omega⟩
  have sub:∀z,z∈M.map (fun i=>(x.c i).to.toNat)→z∈U:=fun z hz=>by
   obtain⟨i,hi,e⟩:=List.mem_map.1 hz;have hi2:=List.mem_filter.1 hi;have li:=List.mem_range.1 hi2.1;have si:(x.c i).st=2:=by simpa using hi2.2
   have oi:=r2.1 i li;unfold CellOk MovedOk at oi
   have st:(x.c (x.c i).to.toNat).st=1:=by
    rcases oi with o | o | o
    ·omega
    ·exact o.2.2.2.2.2.1
    ·omega
   rw[←e];exact List.mem_filter.2 ⟨List.mem_range.2 (by omega),by simpa using st⟩
  have:=List.Nodup.length_le_of_subset nd sub
  simpa using this
 have hA:x.cells.length≤U.length+M.length:=by
  have key:∀m,m≤x.cells.length→m≤((List.range m).filter (fun i=>(x.c i).st == 1)).length+((List.range m).filter (fun i=>(x.c i).st == 2)).length:=fun m=>by
   induction m with
   | zero=>intro _;omega
   | succ m ih=>
    intro hm;have i1:=ih (by omega);rw[List.range_succ,List.filter_append,List.filter_append,List.length_append,List.length_append];have:=r2.1 m (by omega);have nf:=hf m (by omega);have s12:(x.c m).st=1∨(x.c m).st=2:=by unfold CellOk at this;omega
    rcases s12 with e | e
    ·simp [e];omega
    ·simp [e];omega
  exact key x.cells.length (Nat.le_refl _)
 omega
theorem newC_p(b k:Int)(n:Nat)(col:Int)(j:Nat):(newC b k n col).p j=Pr0:=by
 unfold Cl.p newC;simp only [List.getD_eq_getElem?_getD];by_cases h:j<n
 ·simp [h]
 ·simp [h]
theorem Snd.make{x:Hp}(h:Snd x)(k:Int)(n:Nat)(hk:0≤k∧k≤255)(hn:n≤200)(hb:x.born<1000000000)(hu:x.used+(1+n)≤x.room):Snd (makeH x k n)∧((makeH x k n).c (fstFree x)).st=1∧fstFree x<(makeH x k n).cells.length∧¬Doomed (makeH x k n) (fstFree x):=by
 obtain⟨f1,f2,f3⟩:=fstFree_is x;obtain⟨t,ht⟩:∃t,t=fstFree x:=⟨_,rfl⟩;obtain⟨c,hc⟩:∃c,c=newC (x.born+1) k n (newCol x t):=⟨_,rfl⟩;obtain⟨z,hz⟩:∃z,z=makeH x k n:=⟨_,rfl⟩;rw[←ht] at f1 f2 f3 ⊢;have zcs:z.cells=newCs x t c:=by rw[hz,hc,ht];rfl
 have zc:∀q,z.c q=if q=t then c else x.c q:=newCs_c x z t c f1 zcs
 have zl:z.cells.length=if t<x.cells.length then x.cells.length else x.cells.length+1:=by rw[zcs];exact newCs_len x t c
 have zle:x.cells.length≤z.cells.length:=by rw[zl];split <;> omega
 have zq:∀q,q<z.cells.length→q=t∨(q≠t∧q<x.cells.length):=fun q hq=>by
  rw[zl] at hq;by_cases e:q=t
  ·exact .inl e
  ·refine .inr ⟨e,?_⟩
   split at hq <;> omega
 have tl:t<z.cells.length:=by rw[zl];split <;> omega
 have zne:∀q,q≠t→z.c q=x.c q:=fun q e=>by rw[zc q,if_neg e]
 have ze:z.c t=c:=by rw[zc t,if_pos rfl]
 have free:∀q,q<x.cells.length→(x.c q).st≠0→q≠t:=fun q hq hs e=>by subst e;exact hs (f3 hq)
 have zro:z.room=x.room:=by rw[hz];rfl
 have zus:z.used=x.used+(1+n):=by rw[hz];rfl
 have zbo:z.born=x.born+1:=by rw[hz];rfl
 have zre:z.regs=x.regs:=by rw[hz];rfl
 have zph:z.phase=x.phase:=by rw[hz];rfl
 have zha:z.hand=x.hand:=by rw[hz];rfl
 have zsu:z.sub=x.sub:=by rw[hz];rfl
 have zgr:z.gray=x.gray:=by rw[hz];rfl
 have zrest:z.per=x.per∧z.start=x.start∧z.rounds=x.rounds∧z.forced=x.forced:=by rw[hz];exact⟨rfl,rfl,rfl,rfl⟩
 have cst:c.st=1:=by rw[hc];rfl
 have cbo:c.born=x.born+1:=by rw[hc];rfl
 have cto:c.to=0:=by rw[hc];rfl
 have cla:c.last=0:=by rw[hc];rfl
 have cco:c.color=newCol x t:=by rw[hc];rfl
 have cpl:c.prs.length=n:=by rw[hc];simp [newC]
 have cp:∀j,c.p j=Pr0:=fun j=>by rw[hc];exact newC_p _ _ _ _ j
 have ncd:¬Doomed z t:=fun d=>by
  have d4:=d.2.2.2;rw[ze,cco] at d4;unfold newCol at d4;have d1:=d.1;have d2:=d.2.1;rw[zph] at d1;rw[zha] at d2;rw[if_pos (.inr (.inr ⟨d1,d2⟩))] at d4;omega
 have dm:∀q,q≠t→(Doomed z q↔Doomed x q):=fun q e=>by unfold Doomed;rw[zph,zha,zne q e]
 have fm:∀y:Wd,Formed y x.cells.length→Formed y z.cells.length:=fun y f=>by unfold Formed at f ⊢;omega
 have ld:∀(y:Wd) (m:Prop),Leads x y m→Leads z y m:=fun y m l=>⟨fm y l.1,fun hk=>by
  have hf:=l.1;unfold Formed at hf;have hy:y.a.toNat<x.cells.length:=by omega
  rcases l.2 hk with o | o
  ·have e:=free _ hy (by rw[o.1];omega);rw[zne _ e];exact .inl o
  ·have e:=free _ hy (by rw[o.1];omega);rw[zne _ e];exact .inr ⟨o.1,fun d=>o.2 ((dm _ e).1 d)⟩⟩
 have nl:∀m:Prop,Leads z ⟨0,0,0⟩ m:=fun m=>⟨.inl ⟨rfl,rfl,rfl⟩,fun h=>by simp at h⟩
 have us:x.used=(units x.cells:Nat):=h.r3.1;rw[←hz];refine⟨⟨?_,?_,?_,?_,?_,?_,?_,?_⟩,by rw[ze];exact cst,tl,ncd⟩
 ·have rc:=h.r1.cells;have rr:=h.r1.room;refine⟨by rw[zro];exact rr,by rw[zre];exact h.r1.regs,?_,by rw[zgr];exact Nat.le_trans h.r1.gray zle,by rw[zbo];have:=h.r1.born;omega,by rw[zrest.2.2.1];exact h.r1.rounds,by rw[zrest.2.2.2];exact h.r1.forced,by rw[zrest.1];exact h.r1.per,by rw[zrest.2.1];exact h.r1.start,by rw[zph];exact h.r1.phase,by rw[zha];have:=h.r1.hand;omega,by rw[zsu];exact h.r1.sub⟩;rw[zro,zl];by_cases e:t<x.cells.length
  ·rw[if_pos e];exact rc
  ·rw[if_neg e];have:=h.crowd (fun i hi=>f2 i (by omega));omega
 ·refine⟨fun q hq=>?_,fun q hq h0 j hj hb2=>?_⟩
  ·rcases zq q hq with e | ⟨e,hqx⟩
   ·subst e;refine .inr (.inr ⟨by rw[ze];exact cst,?_⟩);rw[ze];have cc:0≤c.color∧c.color≤2:=by rw[cco];unfold newCol;split <;> omega
    have ck:c.kind=k:=by rw[hc];rfl
    have cw:c.weak=0:=by rw[hc];rfl
    have:=h.r1.born;exact⟨by rw[ck];exact hk,by omega,by omega,by rw[zbo];omega,cc,cto,by omega⟩
   ·have ok:=h.r2.1 q hqx;unfold CellOk;rw[zne q e];rcases ok with o | ⟨o,m⟩ | ⟨o,m⟩
    ·exact .inl o
    ·have mt:=m.2.2.2.2.1;have tt:=m.2.2.2.1;have t0:=m.2.2.1;have e2:=free (x.c q).to.toNat (by omega) (by rw[mt];omega);refine .inr (.inl ⟨o,m.1,by rw[zph];exact m.2.1,t0,tt,by rw[zne _ e2];exact mt,fun hp j hj=>?_⟩);rw[zph] at hp;have:=m.2.2.2.2.2 hp j hj;by_cases ej:j=t
     ·rw[ej,ze];omega
     ·rw[zne j ej];exact this
    ·refine .inr (.inr ⟨o,?_⟩);unfold UsedOk at m ⊢;rw[zbo];omega
  ·have key:∀a,a≠t→a<x.cells.length→(x.c a).st=1→(x.c a).born≤x.born:=fun a _ ha hs=>by
    have:=h.r2.1 a ha;unfold CellOk UsedOk at this;omega
   rcases zq q hq with e | ⟨e,hqx⟩
   ·subst e;rcases zq j (by omega) with e2 | ⟨e2,hjx⟩
    ·omega
    ·rw[zne j e2,ze] at hb2;have:=key j e2 hjx (by omega);omega
   ·rcases zq j (by omega) with e2 | ⟨e2,hjx⟩
    ·subst e2;rw[ze,zne q e] at hb2;have:=key q e hqx (by omega);omega
    ·rw[zne j e2,zne q e] at hb2;rw[zne q e] at h0;exact h.r2.2 q hqx h0 j hj hb2
 ·refine⟨?_,by rw[zus,zro];exact hu⟩;rw[zus,zcs];have uc:unitsOf c=1+n:=by unfold unitsOf;rw[if_pos cst,cpl]
  unfold newCs;by_cases e:t<x.cells.length
  ·rw[if_pos e];have u:=units_set2 x.cells t c e;rw[Hp.c_eq x t e] at u;have u0:unitsOf (x.c t)=0:=by unfold unitsOf;rw[if_neg (by rw[f3 e];omega)]
   omega
  ·rw[if_neg e];have:units (x.cells++[c])=units x.cells+unitsOf c:=by simp [units]
   omega
 ·refine⟨fun i hi=>?_,fun q hq=>?_⟩
  ·have e:z.regs[i]=x.regs[i]'(by rw[←zre];exact hi):=by simp only [zre]
   rw[e];exact ld _ _ (h.r4.1 i (by rw[←zre];exact hi))
  ·rcases zq q hq with e | ⟨e,hqx⟩
   ·subst e;refine⟨fun d=>ncd d.1,fun j hj=>?_⟩;rw[ze,cp j];exact⟨fun d=>(ncd d).elim,fun _=>⟨nl _,nl _⟩⟩
   ·have o:=h.r4.2 q hqx;have md:∀j,Mended z q j↔Mended x q j:=fun j=>by unfold Mended;rw[zph,zha,zsu]
    rw[zne q e];refine⟨fun d=>o.1 ⟨(dm q e).1 d.1,d.2⟩,fun j hj=>?_⟩;have p:=o.2 j hj;refine⟨fun d=>?_,fun d=>?_⟩
    ·have:=p.1 ((dm q e).1 d);exact⟨fm _ this.1,fm _ this.2⟩
    ·have:=p.2 (fun d2=>d ((dm q e).2 d2));have em:(¬Mended z q j)=(¬Mended x q j):=propext (not_congr (md j));rw[em];exact⟨ld _ _ this.1,ld _ _ this.2⟩
 ·refine⟨fun hm=>by rw[zgr];exact h.r5.1 (fun m=>hm (by unfold Marking at m ⊢;rw[zph];exact m)),fun q hq=>?_,fun g hg=>?_⟩
  ·rcases zq q hq with e | ⟨e,hqx⟩
   ·subst e
    have c0:cnt x.gray q=0:=by
     by_cases e:q<x.cells.length
     ·have ok:=h.r2.1 q e;have s0:=f3 e;have:(x.c q).color≠1:=by unfold CellOk Bare at ok;omega
      exact(h.r5.2.1 q e).2.1 this
     ·unfold cnt;rw[List.count_eq_zero];intro hg;have:=h.r5.2.2 _ hg;omega
    unfold ColorOk;rw[ze,zgr,zph,zha,cco];refine⟨fun e1=>?_,fun _=>c0,fun e2=>?_⟩
    ·unfold newCol at e1;split at e1 <;> omega
    ·unfold newCol at e2
     split at e2
     ·rename_i hh;rcases hh with hh | hh | hh
      ·exact .inl (by unfold Marking;rw[zph];exact .inl hh)
      ·exact .inl (by unfold Marking;rw[zph];exact .inr hh)
      ·exact .inr hh
     ·omega
   ·have o:=h.r5.2.1 q hqx;unfold ColorOk at o ⊢;rw[zne q e,zgr,zph,zha]
    exact⟨o.1,o.2.1,fun e2=>by
     rcases o.2.2 e2 with m | m
     ·exact .inl (by unfold Marking at m ⊢;rw[zph];exact m)
     ·exact .inr m⟩
  ·rw[zgr] at hg;have:=h.r5.2.2 g hg;omega
 ·obtain⟨a,b,d,e⟩:=h.r6;refine⟨fun hp=>by rw[zph] at hp;rw[zha,zsu];exact a hp,fun hp=>?_,fun hp=>?_,fun hp=>by rw[zph] at hp;rw[zsu];exact e hp⟩
  ·rw[zph] at hp;have b2:=b hp;have eg:z.g0=x.g0:=by unfold Hp.g0;rw[zgr]
   rw[zha,zgr,zsu,eg];refine⟨b2.1,b2.2.1,fun hg=>?_⟩;have hs:=b2.2.2 hg
   have gl:(x.gray.getD 0 0)∈x.gray:=by
    cases hgr:x.gray with
    | nil=>rw[hgr] at hg;simp at hg
    | cons g G=>simp
   have gr:=h.r5.2.2 _ gl;have g0l:x.g0<x.cells.length:=by unfold Hp.g0;omega
   by_cases e2:x.g0=t
   ·have s0:=f3 (by omega);rw[←e2] at s0;have ok:=h.r2.1 x.g0 g0l;have p0:(x.c x.g0).prs.length=0:=by unfold CellOk Bare at ok;omega
    rw[e2,ze,cpl];omega
   ·rw[zne _ e2];exact hs
  ·rw[zph] at hp;have d2:=d hp;have hh:=h.r1.hand;rw[zha,zsu];have hcase:x.hand.toNat=t∨x.hand.toNat≠t:=by omega
   refine⟨fun hq=>?_,fun hq=>?_⟩
   ·rcases hcase with e2 | e2
    ·rcases hq with hq | hq
     ·exfalso;rw[zl] at hq
      split at hq <;> omega
     ·rw[e2,ze] at hq;omega
    ·rcases hq with hq | hq
     ·refine d2.1 (.inl ?_);rw[zl] at hq
      split at hq <;> omega
     ·rw[zne _ e2] at hq;exact d2.1 (.inr hq)
   ·rcases hcase with e2 | e2
    ·have s0:x.sub=0:=by
      by_cases e3:t<x.cells.length
      ·refine d2.1 (.inr ?_);rw[e2,f3 e3];omega
      ·exact d2.1 (.inl (by omega))
     rw[s0];omega
    ·rw[zne _ e2] at hq ⊢;refine d2.2 ⟨fun e3=>?_,hq.2⟩;have h1:=hq.1;have h2:=hq.2;rw[zl] at h1
     split at h1
     ·omega
     ·omega
 ·intro hm q hq;have hm2:Marking x:=by unfold Marking at hm ⊢;rw[zph] at hm;exact hm
  have wh:∀y:Wd,White z y→White x y:=fun y hy=>⟨hy.1,by
   have h2:=hy.2;by_cases e:y.a.toNat=t
   ·rw[e,ze,cco] at h2;unfold newCol at h2;unfold Marking at hm2;rw[if_pos (by omega)] at h2;omega
   ·rw[zne _ e] at h2;exact h2⟩
  rcases zq q hq with e | ⟨e,hqx⟩
  ·subst e;rw[ze];refine⟨fun s=>?_,fun j _=>?_⟩
   ·have:=s.1;unfold Speaks at this;omega
   ·rw[cp j];exact⟨fun w=>by have:=w.1;simp [Pr0] at this,fun w=>by have:=w.1;simp [Pr0] at this⟩
  ·have o:=h.r7 hm2 q hqx;rw[zne q e,zph,zha];refine⟨o.1,fun j hj=>?_⟩;have lk:looked z q=looked x q:=by unfold looked;rw[zne q e,zph,zgr,zsu]
   rw[lk] at hj;exact⟨fun w=>(o.2 j hj).1 (wh _ w),fun w=>(o.2 j hj).2 (wh _ w)⟩
 ·intro q hq;rw[zph,zha];rcases zq q hq with e | ⟨e,hqx⟩
  ·subst e;rw[ze];intro hb2;omega
  ·rw[zne q e];exact h.r8 q hqx
def actRa(op:Int):Bool:=!(op == 18 || op == 20 || op == 21 || op == 22 || op == 23 || op == 24)
def actRb(op:Int):Bool:=op == 4 || op == 5 || op == 6 || op == 7 || op == 8 || op == 13
def actB(op:Int):Int:=if op=1 then 255 else if actRb op=true then 15 else if op=23 then 64 else 0
def actC(op:Int):Int:=if op=1∨op=9∨op=10 then 200 else if 5≤op∧op≤8 then 199 else if op=11 then 3 else if op=12 then 1 else if op=22 then 100000 else if op=23 then 4000 else 0
theorem op_cases(op:Int)(h1:1≤op)(h2:op≤24):op=1∨op=2∨op=3∨op=4∨op=5∨op=6∨op=7∨op=8∨op=9∨op=10∨op=11∨op=12∨op=13∨op=14∨op=15∨op=16∨op=17∨op=18∨op=19∨op=20∨op=21∨op=22∨op=23∨op=24:=by omega
theorem l5reg_any(op:Int)(h1:1≤op)(h2:op≤24)(w:World):Calls Tryz.prog 37 #[.int .i64 op] w fun e w'=>e=.returned (.tuple #[.bool (actRa op),.bool (actRb op)])∧w'=w:=by
 have h:=op_cases op h1 h2;clear h1 h2;rcases h with rfl | rfl | rfl | rfl | rfl | rfl | rfl | rfl | rfl | rfl | rfl | rfl | rfl | rfl | rfl | rfl | rfl | rfl | rfl | rfl | rfl | rfl | rfl | rfl
 all_goals
  go_enter Tryz.func37,Tryz.ntmps37
  go_wp2
  go_ret2;exact⟨rfl,rfl⟩
theorem l5most_any(op:Int)(h1:1≤op)(h2:op≤24)(w:World):Calls Tryz.prog 38 #[.int .i64 op] w fun e w'=>e=.returned (.tuple #[.int .i64 (actB op),.int .i64 (actC op)])∧w'=w:=by
 have h:=op_cases op h1 h2;clear h1 h2;rcases h with rfl | rfl | rfl | rfl | rfl | rfl | rfl | rfl | rfl | rfl | rfl | rfl | rfl | rfl | rfl | rfl | rfl | rfl | rfl | rfl | rfl | rfl | rfl | rfl
 all_goals
  go_enter Tryz.func38,Tryz.ntmps38
  go_wp2
  go_ret2;exact⟨rfl,rfl⟩
def actA(op:Int):Int:=if actRa op=true then 15 else 0
def actOkB(op a b c n:Int):Bool:=decide ((1≤op∧op≤24)∧(n=0∨op=2)) && (decide (0≤a∧a≤actA op) && (decide (0≤b∧b≤actB op) && decide (0≤c∧c≤actC op)))
abbrev actV(op a b c n:Int):Value:=.agg #[iv op,iv a,iv b,iv c,iv n]
theorem act_no{op a b c n:Int}(h:op<1∨24<op∨(n≠0∧op≠2)):actOkB op a b c n=false:=by
 unfold actOkB;rw[decide_eq_false (by omega)];rfl
theorem act_a{op a b c n:Int}(h:a<0∨actA op<a):actOkB op a b c n=false:=by
 unfold actOkB;have e:decide (0≤a∧a≤actA op)=false:=decide_eq_false (by omega);rw[e];simp
theorem act_yes{op a b c n:Int}(h1:1≤op)(h2:op≤24)(h3:n=0∨op=2)(h4:0≤a)(h5:a≤actA op):actOkB op a b c n=(decide (0≤b∧b≤actB op) && decide (0≤c∧c≤actC op)):=by
 unfold actOkB;rw[decide_eq_true ⟨⟨h1,h2⟩,h3⟩,decide_eq_true ⟨h4,h5⟩];simp
theorem l1in_r(n lo hi:Int)(r:Bool)(h:l1inB n lo hi=r)(w:World):Calls Tryz.prog 19 #[.int .i64 n,.int .i64 lo,.int .i64 hi] w fun e w'=>e=.returned (.bool r)∧w'=w:=h ▸ l1in_any n lo hi w
theorem specActOk_in(op a b c n:Int)(w:World)(h1:1≤op)(h2:op≤24)(hq:((op != 2)=true∧(n != 0)=false)∨(op != 2)=false):Calls Tryz.prog 21 #[actV op a b c n] w fun e w'=>e=.returned (.bool (actOkB op a b c n))∧Ext w w':=by
 have H3:=hide (show n=0∨op=2 from by rcases hq with⟨_,q⟩ | q <;> simp at q <;> omega);have QM:=hide (fun W=>l5most_any op h1 h2 W);have YY:=hide (fun h4 h5=>act_yes (b:=b) (c:=c) (n:=n) (a:=a) h1 h2 (unhide H3) h4 h5);obtain⟨bm,eb⟩:∃v,v=actB op:=⟨_,rfl⟩;obtain⟨cm,ec⟩:∃v,v=actC op:=⟨_,rfl⟩;rw[←eb,←ec] at QM YY;clear eb ec;have h1b:¬op<1:=by omega
 have h2b:¬op > 24:=by omega
 rcases hq with⟨q1b,q2b⟩ | q1b
 all_goals
  cases q3:actRa op
  ·have QL:=hide (fun W=>q3 ▸ l5reg_any op h1 h2 W);cases q5:(a == 0)
   ·have q5b:(a != 0)=true:=by simpa using q5
    have E:=hide (act_a (op:=op) (a:=a) (b:=b) (c:=c) (n:=n) (by unfold actA;rw[q3];simp at q5;simp;omega));go_enter Tryz.func21,Tryz.ntmps21;go_wp2_with (first | (go_at_call 37;refine(unhide QL _).mono ?_;rintro e w2 ⟨rfl,rfl⟩));go_ret;exact⟨by rw[unhide E];rfl,(Ext.refl _).alloc _⟩
   ·have q5b:(a != 0)=false:=by simpa using q5
    have EY:=hide (unhide YY (by simp at q5;omega) (by unfold actA;rw[q3];simp at q5;simp;omega));cases q6:l1inB b 0 bm
    ·have QB:=hide (fun W=>l1in_r b 0 bm false q6 W);have E:=hide (show actOkB op a b c n=false by rw[unhide EY];have e:decide (0≤b∧b≤bm)=false:=q6;rw[e];rfl);clear EY H3 YY;go_enter Tryz.func21,Tryz.ntmps21;go_wp2_with (first | (go_at_call 37;refine(unhide QL _).mono ?_;rintro e w2 ⟨rfl,rfl⟩) | (go_at_call 38;refine(unhide QM _).mono ?_;rintro e w2 ⟨rfl,rfl⟩) | (go_at_call 19;refine(unhide QB _).mono ?_;rintro e w2 ⟨rfl,rfl⟩));go_ret;exact⟨by rw[unhide E];rfl,(Ext.refl _).alloc _⟩
    ·have QB:=hide (fun W=>l1in_r b 0 bm true q6 W);have QC:=hide (fun W=>l1in_any c 0 cm W);have E:=hide (show actOkB op a b c n=l1inB c 0 cm by rw[unhide EY];have e:decide (0≤b∧b≤bm)=true:=q6;rw[e];rfl);clear EY H3 YY;go_enter Tryz.func21,Tryz.ntmps21;go_wp2_with (first | (go_at_call 37;refine(unhide QL _).mono ?_;rintro e w2 ⟨rfl,rfl⟩) | (go_at_call 38;refine(unhide QM _).mono ?_;rintro e w2 ⟨rfl,rfl⟩) | (have _:=LQB;go_at_call 19;refine(unhide QC _).mono ?_;rintro e w2 ⟨rfl,rfl⟩) | (go_at_call 19;refine(unhide QB _).mono ?_;rintro e w2 ⟨rfl,rfl⟩;have LQB:=True.intro));go_ret;exact⟨by rw[unhide E];rfl,(Ext.refl _).alloc _⟩
  ·have QL:=hide (fun W=>q3 ▸ l5reg_any op h1 h2 W);cases q5:l1inB a 0 15
   ·have QA:=hide (fun W=>l1in_r a 0 15 false q5 W);have E:=hide (act_a (op:=op) (a:=a) (b:=b) (c:=c) (n:=n) (by unfold actA;rw[q3];simp [l1inB] at q5;simp;omega));go_enter Tryz.func21,Tryz.ntmps21;go_wp2_with (first | (go_at_call 37;refine(unhide QL _).mono ?_;rintro e w2 ⟨rfl,rfl⟩) | (go_at_call 19;refine(unhide QA _).mono ?_;rintro e w2 ⟨rfl,rfl⟩));go_ret;exact⟨by rw[unhide E];rfl,(Ext.refl _).alloc _⟩
   ·have QA:=hide (fun W=>l1in_r a 0 15 true q5 W);have EY:=hide (unhide YY (by simp [l1inB] at q5;omega) (by unfold actA;rw[q3];simp [l1inB] at q5;simp;omega));cases q6:l1inB b 0 bm
    ·have QB:=hide (fun W=>l1in_r b 0 bm false q6 W);have E:=hide (show actOkB op a b c n=false by rw[unhide EY];have e:decide (0≤b∧b≤bm)=false:=q6;rw[e];rfl);clear EY H3 YY;go_enter Tryz.func21,Tryz.ntmps21;go_wp2_with (first | (go_at_call 37;refine(unhide QL _).mono ?_;rintro e w2 ⟨rfl,rfl⟩) | (go_at_call 38;refine(unhide QM _).mono ?_;rintro e w2 ⟨rfl,rfl⟩) | (have _:=LQA;go_at_call 19;refine(unhide QB _).mono ?_;rintro e w2 ⟨rfl,rfl⟩) | (go_at_call 19;refine(unhide QA _).mono ?_;rintro e w2 ⟨rfl,rfl⟩;have LQA:=True.intro));go_ret;exact⟨by rw[unhide E];rfl,(Ext.refl _).alloc _⟩
    ·have QB:=hide (fun W=>l1in_r b 0 bm true q6 W);have QC:=hide (fun W=>l1in_any c 0 cm W);have E:=hide (show actOkB op a b c n=l1inB c 0 cm by rw[unhide EY];have e:decide (0≤b∧b≤bm)=true:=q6;rw[e];rfl);clear EY H3 YY;go_enter Tryz.func21,Tryz.ntmps21;go_wp2_with (first | (go_at_call 37;refine(unhide QL _).mono ?_;rintro e w2 ⟨rfl,rfl⟩) | (go_at_call 38;refine(unhide QM _).mono ?_;rintro e w2 ⟨rfl,rfl⟩) | (have _:=LQB;go_at_call 19;refine(unhide QC _).mono ?_;rintro e w2 ⟨rfl,rfl⟩) | (have _:=LQA;go_at_call 19;refine(unhide QB _).mono ?_;rintro e w2 ⟨rfl,rfl⟩;have LQB:=True.intro) | (go_at_call 19;refine(unhide QA _).mono ?_;rintro e w2 ⟨rfl,rfl⟩;have LQA:=True.intro));go_ret;exact⟨by rw[unhide E];rfl,(Ext.refl _).alloc _⟩
theorem specActOk_any(op a b c n:Int)(w:World):Calls Tryz.prog 21 #[actV op a b c n] w fun e w'=>e=.returned (.bool (actOkB op a b c n))∧Ext w w':=by
 by_cases h1:op<1
 ·have E:=hide (act_no (op:=op) (a:=a) (b:=b) (c:=c) (n:=n) (.inl h1));go_enter Tryz.func21,Tryz.ntmps21;go_wp2_with fail;go_ret;exact⟨by rw[unhide E];rfl,(Ext.refl _).alloc _⟩
 ·by_cases h2:op > 24
  ·have E:=hide (act_no (op:=op) (a:=a) (b:=b) (c:=c) (n:=n) (.inr (.inl h2)));go_enter Tryz.func21,Tryz.ntmps21;go_wp2_with fail;go_ret;exact⟨by rw[unhide E];rfl,(Ext.refl _).alloc _⟩
  ·cases q1:(op == 2)
   ·have q1b:(op != 2)=true:=by simpa using q1
    cases q2:(n == 0)
    ·have q2b:(n != 0)=true:=by simpa using q2
     have E:=hide (act_no (op:=op) (a:=a) (b:=b) (c:=c) (n:=n) (.inr (.inr ⟨by simpa using q2,by simpa using q1⟩)));go_enter Tryz.func21,Tryz.ntmps21;go_wp2_with fail;go_ret;exact⟨by rw[unhide E];rfl,(Ext.refl _).alloc _⟩
    ·exact specActOk_in op a b c n w (by omega) (by omega) (.inl ⟨q1b,by simpa using q2⟩)
   ·exact specActOk_in op a b c n w (by omega) (by omega) (.inr (by simpa using q1))
def Wd0:Wd:=⟨0,0,0⟩
def Hp.r(x:Hp)(i:Nat):Wd:=x.regs.getD i Wd0
theorem Hp.r_eq(x:Hp)(i:Nat)(h:i<x.regs.length):x.regs[i]=x.r i:=by simp [Hp.r,h]
def Hp.at(x:Hp)(i:Nat):Nat:=(x.r i).a.toNat
def keyC(c:Cl)(k:Nat)(y:Wd):Cl:={ c with prs:=c.prs.set k ⟨y,(c.p k).val⟩ }
def valC(c:Cl)(k:Nat)(y:Wd):Cl:={ c with prs:=c.prs.set k ⟨(c.p k).key,y⟩ }
def setcH(x:Hp)(i:Nat)(c:Cl):Hp:={ x with cells:=x.cells.set i c }
def shortC(c:Cl)(n:Nat):Cl:={ c with prs:=c.prs.take n }
def shortH(x:Hp)(i n:Nat):Hp:={ x with cells:=x.cells.set i (shortC (x.c i) n),used:=x.used-((x.c i).prs.length-n:Nat),sub:=if scanI x=(i:Int)∧(n:Int)<x.sub then n else x.sub }
def weakC(c:Cl)(n:Int):Cl:={ c with weak:=n }
def lastC(c:Cl)(n:Int):Cl:={ c with last:=n }
def HalfIs(x:Hp)(f c:Nat)(y:Hp)(cd nm:Int)(R:Nat→Prop):Prop:=
 ((x.r f).k≠2∧y=x∧cd=2∧nm=0)∨((x.r f).k=2∧(x.c (x.at f)).prs.length≤c∧y=x∧cd=3∧nm=0)∨((x.r f).k=2∧c<(x.c (x.at f)).prs.length∧R (x.at f)∧cd=0∧nm=0)
def CellIs(x:Hp)(f:Nat)(y:Hp)(cd nm:Int)(R:Nat→Prop):Prop:=((x.r f).k≠2∧y=x∧cd=2∧nm=0)∨((x.r f).k=2∧R (x.at f))
def MakeIs(x:Hp)(a b c:Nat)(y:Hp)(cd nm:Int):Prop:=nm=0∧
 ((x.born=1000000000∧y=x∧cd=4)∨(x.born≠1000000000∧∃z,RoomIs x (1+c) z∧((fitsB z (1+c)=false∧y=z∧cd=4)∨(fitsB z (1+c)=true∧cd=0∧PaceIs (regTo (makeH z b c) a ⟨2,0,fstFree z⟩) (1+c) y))))
def GrowIs(x:Hp)(a c i:Nat)(y:Hp)(cd nm:Int):Prop:=nm=0∧
 ((200<(x.c i).prs.length+c∧y=x∧cd=5)∨((x.c i).prs.length+c≤200∧∃z,RoomIs x c z∧((fitsB z c=false∧y=z∧cd=4)∨(fitsB z c=true∧cd=0∧PaceIs (growH z (z.at a) c) c y))))
def wdB(a b:Wd):Bool:=a.k == b.k && (a.n == b.n && a.a == b.a)
def SumIs(x:Hp)(P:Nat→Prop)(nm:Int):Prop:=∃p:Nat→Bool,(∀i,p i=true↔P i)∧nm=(sumTo x p x.cells.length:Nat)
def TellIs(x:Hp)(a:Nat)(y:Hp)(nm:Int):Prop:=(DueTo x x.cells.length (-1)∧y=regTo x a Wd0∧nm=0)∨∃i:Nat,DueTo x x.cells.length (i:Int)∧y=regTo (setcH x i (lastC (x.c i) 3)) a ⟨2,0,i⟩∧nm=1
def DoR(x:Hp)(a b c:Nat)(n:Int)(y:Hp)(cd nm:Int):Nat→Prop
 | 1=>MakeIs x a b c y cd nm
 | 2=>y=regTo x a ⟨1,n,0⟩∧cd=0∧nm=0
 | 3=>y=regTo x a Wd0∧cd=0∧nm=0
 | 4=>y=regTo x a (x.r b)∧cd=0∧nm=0
 | 5=>HalfIs x b c y cd nm fun i=>y=regTo x a (resW x ((x.c i).p c).key)
 | 6=>HalfIs x b c y cd nm fun i=>y=regTo x a (resW x ((x.c i).p c).val)
 | 7=>HalfIs x a c y cd nm fun i=>y=shadeW (setcH x i (keyC (x.c i) c (x.r b))) (x.r b)
 | 8=>HalfIs x a c y cd nm fun i=>y=shadeW (setcH x i (valC (x.c i) c (x.r b))) (x.r b)
 | 9=>CellIs x a y cd nm fun i=>GrowIs x a c i y cd nm
 | 10=>CellIs x a y cd nm fun i=>y=shortH x i c∧cd=0∧nm=0
 | 11=>CellIs x a y cd nm fun i=>y=setcH x i (weakC (x.c i) c)∧cd=0∧nm=0
 | 12=>CellIs x a y cd nm fun i=>y=(if c=1 then shadeH (setcH x i (lastC (x.c i) c)) i else setcH x i (lastC (x.c i) c))∧cd=0∧nm=0
 | 13=>y=x∧cd=0∧nm=if wdB (x.r a) (x.r b)=true then 1 else 0
 | 14=>y=x∧cd=0∧nm=(x.r a).k
 | 15=>y=x∧(((x.r a).k≠1∧cd=2∧nm=0)∨((x.r a).k=1∧cd=0∧nm=(x.r a).n))
 | 16=>CellIs x a y cd nm fun i=>y=x∧cd=0∧nm=(x.c i).kind
 | 17=>CellIs x a y cd nm fun i=>y=x∧cd=0∧nm=((x.c i).prs.length:Nat)
 | 18=>cd=0∧∃H:Nat→Bool,(∀i,H i=true↔Held x i)∧y=settleH x H∧nm=(dueN x H x.cells.length:Nat)
 | 19=>cd=0∧TellIs x a y nm
 | 20=>y=x∧cd=0∧SumIs x (Held x) nm
 | 21=>y=x∧cd=0∧SumIs x (Reached x) nm
 | 22=>cd=0∧nm=0∧∃k,StepIs (stepH x c) c k∧y=itU k (stepH x c)
 | 23=>y=paceTo x b c∧cd=0∧nm=0
 | 24=>cd=0∧nm=0∧RdIs x y
 | _=>False
def DoIs(x:Hp)(op a b c n:Int)(y:Hp)(cd nm:Int):Prop:=(actOkB op a b c n=false∧y=x∧cd=1∧nm=0)∨(actOkB op a b c n=true∧DoR x a.toNat b.toNat c.toNat n y cd nm op.toNat)
end Go.Proofs.YtnegjhddmfiefaaGreatDoor
