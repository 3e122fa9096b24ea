import Derived.Test.YtddkhnclmeikfaaGreatLh
set_option maxRecDepth 100000
set_option maxHeartbeats 1000000
namespace Go.Proofs.YtddkhnclmeikfaaGreat
open Go.RowKit
attribute [local go_sem ↓] Go.wp_at_zero Go.wp_at_succ
variable{op a b c n:Int}
abbrev eY(c n:Int):Value:=.agg #[iv c,iv n]
def a2c(c:Cl)(n:Nat):Cl:={ c with prs:=c.prs++List.replicate n Pr0 }
def zD(x:Hp)(i n:Nat):Hp:={ x with cells:=x.cells.set i (a2c (x.c i) n),used:=x.used+n }
theorem a2s(x:Hp)(i n:Nat)(hi:i<x.cells.length)(q:Nat):(zD x i n).c q=if q=i then a2c (x.c i) n else x.c q:=Hp.c_set x i (a2c (x.c i) n) hi q
theorem a0n(x:Hp)(i n:Nat):(zD x i n).cells.length=x.cells.length:=by simp [zD]
theorem a0v(x:Hp)(i n:Nat)(hi:i<x.cells.length)(q:Nat):((zD x i n).c q).st=(x.c q).st/\((zD x i n).c q).kind=(x.c q).kind/\((zD x i n).c q).weak=(x.c q).weak/\((zD x i n).c q).last=(x.c q).last/\((zD x i n).c q).born=(x.c q).born/\((zD x i n).c q).color=(x.c q).color/\((zD x i n).c q).to=(x.c q).to:=by
 rw[a2s x i n hi q];by_cases e:q=i
 ·rw[if_pos e,e];exact⟨rfl,rfl,rfl,rfl,rfl,rfl,rfl⟩
 ·rw[if_neg e];exact⟨rfl,rfl,rfl,rfl,rfl,rfl,rfl⟩
theorem c0z(c:Cl)(n k:Nat):(a2c c n).p k=if k<c.prs.length then c.p k else Pr0:=by
 unfold Cl.p a2c;by_cases h:k<c.prs.length
 ·rw[if_pos h];simp only [List.getD_eq_getElem?_getD];rw[List.getElem?_append_left h]
 ·rw[if_neg h];simp only [List.getD_eq_getElem?_getD];rw[List.getElem?_append_right (by omega)];by_cases h2:k-c.prs.length<n
  ·simp [h2]
  ·simp [h2]
theorem a3e(x:Hp)(i n:Nat)(hi:i<x.cells.length)(q:Nat):cU (zD x i n) q↔cU x q:=by
 have a:=a0v x i n hi q;unfold cU;rw[a.1,a.2.2.2.2.2.1];exact Iff.rfl
theorem a5z(x:Hp)(i n:Nat)(hi:i<x.cells.length)(y:Wd)(m:Prop):cN (zD x i n) y m↔cN x y m:=by
 have a:=a0v x i n hi y.a.toNat;unfold cN;rw[a0n,a.1,a3e x i n hi]
theorem Snd.grow {x : Hp} (h : Snd x) (i n : Nat) (hi : i < x.cells.length) (hs : (x.c i).st = 1) (hl : (x.c i).prs.length + n <= 200) (hu : x.used + n <= x.room) : Snd (zD x i n) where
  r1 := ⟨h.r1.room, h.r1.regs, by rw [a0n]; exact h.r1.cells, by rw [a0n]; exact h.r1.gray, h.r1.born, h.r1.rounds, h.r1.forced, h.r1.per, h.r1.start, h.r1.phase, by rw [a0n]; exact h.r1.hand, h.r1.sub⟩
  r2 := ⟨λq hq => by
    rw [a0n] at hq
    have ok := h.r2.1 q hq
    have aT := a0v x i n hi (x.c q).to.toNat
    by_cases e : q = i
    · subst e
      rcases ok with o | o | o
      · omega
      · omega
      · refine .inr (.inr ⟨?_, ?_⟩)
        · rw [a2s x q n hi q, if_pos rfl]; exact hs
        · rw [a2s x q n hi q, if_pos rfl]
          obtain ⟨_, o1, o2, o3, o4, o5, o6, o7⟩ := o
          exact ⟨o1, o2, o3, o4, o5, o6, by simp [a2c]; omega⟩
    · have ec : (zD x i n).c q = x.c q := by rw [a2s x i n hi q, if_neg e]
      unfold cE
      rw [ec]
      rcases ok with o | ⟨o, m⟩ | o
      · exact .inl o
      · refine .inr (.inl ⟨o, m.1, m.2.1, m.2.2.1, m.2.2.2.1, by rw [aT.1]; exact m.2.2.2.2.1, λhp k hk => ?_⟩)
        have ak := a0v x i n hi k
        rw [ak.1]; exact m.2.2.2.2.2 hp k hk
      · exact .inr (.inr o), λq hq h0 k hk => by
    rw [a0n] at hq
    have aq := a0v x i n hi q
    have ak := a0v x i n hi k
    rw [aq.1] at h0
    rw [ak.1, ak.2.2.2.2.1, ak.2.2.2.2.2.2, aq.1, aq.2.2.2.2.1, aq.2.2.2.2.2.2]
    exact h.r2.2 q hq h0 k hk⟩
  r3 := by
    have u := a1v x.cells i (a2c (x.c i) n) hi
    rw [Hp.c_eq x i hi] at u
    have e1 : cH (x.c i) = 1 + (x.c i).prs.length := by unfold cH; rw [if_pos hs]
    have e2 : cH (a2c (x.c i) n) = 1 + ((x.c i).prs.length + n) := by
      unfold cH
      rw [if_pos (show (a2c (x.c i) n).st = 1 from hs)]
      simp [a2c]
    rw [e1, e2] at u
    have r := h.r3
    refine ⟨?_, hu⟩
    show x.used + (n : Int) = (dN (x.cells.set i (a2c (x.c i) n)) : Nat)
    have := r.1
    omega
  r4 := ⟨λj hj => (a5z x i n hi _ _).2 (h.r4.1 j hj), λq hq => by
    rw [a0n] at hq
    have aq := a0v x i n hi q
    refine ⟨λ⟨d, s⟩ => (h.r4.2 q hq).1 ⟨(a3e x i n hi q).1 d, by unfold cY at s ⊢; rw [aq.2.2.2.1] at s; exact s⟩, λk hk => ?_⟩
    have key : ∀ p : Pr, a2j x q k p -> a2j (zD x i n) q k p := λp o => ⟨λd => by rw [a0n]; exact o.1 ((a3e x i n hi q).1 d), λd => by
      have := o.2 (λd2 => d ((a3e x i n hi q).2 d2))
      exact ⟨(a5z x i n hi _ _).2 this.1, (a5z x i n hi _ _).2 this.2⟩⟩
    by_cases e : q = i
    · subst e
      rw [a2s x q n hi q, if_pos rfl] at hk ⊢
      rw [c0z]
      by_cases hk2 : k < (x.c q).prs.length
      · rw [if_pos hk2]; exact key _ ((h.r4.2 q hq).2 k hk2)
      · rw [if_neg hk2]
        have nl : ∀ m : Prop, cN x ⟨0, 0, 0⟩ m := λm => ⟨.inl ⟨rfl, rfl, rfl⟩, λh => by simp at h⟩
        exact key _ ⟨λ_ => ⟨(nl True).1, (nl True).1⟩, λ_ => ⟨nl _, nl _⟩⟩
    · rw [a2s x i n hi q, if_neg e] at hk ⊢
      exact key _ ((h.r4.2 q hq).2 k hk)⟩
  r5 := ⟨h.r5.1, λq hq => by
    rw [a0n] at hq
    have aq := a0v x i n hi q
    unfold eE
    rw [aq.2.2.2.2.2.1]
    exact h.r5.2.1 q hq, λg hg => by rw [a0n]; exact h.r5.2.2 g hg⟩
  r6 := by
    have lg : ∀ q, (x.c q).prs.length <= ((zD x i n).c q).prs.length := λq => by
      rw [a2s x i n hi q]
      by_cases e : q = i
      · rw [if_pos e, e]; simp [a2c]
      · rw [if_neg e]; exact Nat.le_refl _
    obtain ⟨a, b, c, d⟩ := h.r6
    refine ⟨a, λhp => ⟨(b hp).1, (b hp).2.1, λhg => ?_⟩, λhp => ⟨λhq => (c hp).1 ?_, λhq => ?_⟩, d⟩
    · have h1 := (b hp).2.2 hg
      have h2 := lg x.g0
      show x.sub <= (((zD x i n).c x.g0).prs.length : Int)
      omega
    · rw [a0n] at hq
      have := a0v x i n hi x.hand.toNat
      rcases hq with hq | hq
      · exact .inl hq
      · exact .inr (by rw [<- this.1]; exact hq)
    · rw [a0n] at hq
      have a1 := a0v x i n hi x.hand.toNat
      have h1 := (c hp).2 ⟨hq.1, by rw [<- a1.1]; exact hq.2⟩
      have h2 := lg x.hand.toNat
      show x.sub <= (((zD x i n).c x.hand.toNat).prs.length : Int)
      omega
  r7 := λhm q hq => by
    rw [a0n] at hq
    have aq := a0v x i n hi q
    have o := h.r7 hm q hq
    refine ⟨λhb => o.1 ⟨by have := hb.1; unfold cY at this ⊢; rw [aq.2.2.2.1] at this; exact this, by rw [<- aq.2.2.2.2.2.1]; exact hb.2.1, hb.2.2⟩, λk hk => ?_⟩
    have wh : ∀ y : Wd, cQ (zD x i n) y -> cQ x y := λy hy => ⟨hy.1, by rw [<- (a0v x i n hi y.a.toNat).2.2.2.2.2.1]; exact hy.2⟩
    have nil : ∀ p : Pr, p = Pr0 -> ¬ cQ (zD x i n) p.key /\ ¬ cQ (zD x i n) p.val := λp e => by subst e; exact ⟨λw => by have := w.1; simp [Pr0] at this, λw => by have := w.1; simp [Pr0] at this⟩
    have old : ∀ k, k < cC x q -> (k < (x.c q).prs.length -> True) -> ¬ cQ (zD x i n) ((x.c q).p k).key /\ ¬ cQ (zD x i n) ((x.c q).p k).val := λk hk _ => ⟨λw => (o.2 k hk).1 (wh _ w), λw => (o.2 k hk).2 (wh _ w)⟩
    by_cases e : q = i
    · subst e
      rw [a2s x q n hi q, if_pos rfl, c0z]
      by_cases hk2 : k < (x.c q).prs.length
      · rw [if_pos hk2]
        refine old k ?_ (λ_ => trivial)
        unfold cC at hk ⊢
        rw [aq.2.2.2.2.2.1] at hk
        split at hk
        · rename_i hc; rw [if_pos hc]; exact hk2
        · rename_i hc; rw [if_neg hc]; exact hk
      · rw [if_neg hk2]; exact nil _ rfl
    · rw [a2s x i n hi q, if_neg e]
      refine old k ?_ (λ_ => trivial)
      unfold cC at hk ⊢
      rw [a2s x i n hi q, if_neg e] at hk
      exact hk
  r8 := λq hq => by
    rw [a0n] at hq
    rw [(a0v x i n hi q).1]
    exact h.r8 q hq
def tE(b k:Int)(n:Nat)(col:Int):Cl:=⟨1,k,0,0,b,col,0,List.replicate n Pr0⟩
def qY(x:Hp)(t:Nat):Int:=if x.phase=1\/x.phase=2\/(x.phase=3/\x.hand<=(t:Int)) then 2 else 0
def a4q(x:Hp)(t:Nat)(c:Cl):List Cl:=if t<x.cells.length then x.cells.set t c else x.cells++[c]
def a3z(x:Hp)(k:Int)(n:Nat):Hp:={ x with born:=x.born+1,used:=x.used+(1+n),cells:=a4q x (cD x) (tE (x.born+1) k n (qY x (cD x))) }
theorem a6y(x:Hp)(t:Nat)(c:Cl):(a4q x t c).length=if t<x.cells.length then x.cells.length else x.cells.length+1:=by
 unfold a4q
 split <;> simp
theorem c1a(x z:Hp)(t:Nat)(c:Cl)(ht:t<=x.cells.length)(hz:z.cells=a4q x t c)(q:Nat):z.c q=if q=t then c else x.c q:=by
 unfold Hp.c;rw[hz];unfold a4q;by_cases h:t<x.cells.length
 ·rw[if_pos h];simp only [List.getD_eq_getElem?_getD,List.getElem?_set];by_cases e:q=t
  ·subst e;simp [h]
  ·rw[if_neg (λe'=>e e'.symm),if_neg e]
 ·rw[if_neg h];have te:t=x.cells.length:=by omega
  simp only [List.getD_eq_getElem?_getD];by_cases e:q=t
  ·rw[if_pos e,e,te];simp
  ·rw[if_neg e];by_cases h2:q<x.cells.length
   ·rw[List.getElem?_append_left h2]
   ·rw[List.getElem?_eq_none (by simp;omega),List.getElem?_eq_none (by omega)]
theorem Snd.crowd{x:Hp}(h:Snd x)(hf:∀i,i<x.cells.length->(x.c i).st≠0):x.cells.length<=2*dN x.cells:=by
 have r2:=h.r2
 let U:=(List.range x.cells.length).filter (λi=>(x.c i).st == 1)
 let M:=(List.range x.cells.length).filter (λi=>(x.c i).st == 2)
 have hU:U.length<=dN x.cells:=by
  have key:∀m,m<=x.cells.length->((List.range m).filter (λi=>(x.c i).st == 1)).length<=dN (x.cells.take m):=λm=>by
   induction m with
   | zero=>intro _;simp
   | succ m ih=>
    intro hm;have i1:=ih (by omega);have ht:x.cells.take (m+1)=x.cells.take m++[x.cells[m]'(by omega)]:=List.take_succ_eq_append_getElem (by omega);rw[List.range_succ,List.filter_append,List.length_append,ht];have eu:dN (x.cells.take m++[x.cells[m]'(by omega)])=dN (x.cells.take m)+cH (x.c m):=by simp [dN,Hp.c_eq x m (by omega)]
    rw[eu];by_cases e:(x.c m).st=1
    ·have:cH (x.c m)=1+(x.c m).prs.length:=by unfold cH;rw[if_pos e]
     simp [e];omega
    ·simp [e];omega
  have:=key x.cells.length (Nat.le_refl _);rw[List.take_length] at this;exact this
 have hM:M.length<=U.length:=by
  have nd:(M.map (λi=>(x.c i).to.toNat)).Nodup:=by
   rw[List.nodup_iff_pairwise_ne,List.pairwise_map];have pm:M.Pairwise (· < ·):=List.Pairwise.filter _ List.pairwise_lt_range;refine List.Pairwise.imp_of_mem (λ{a b} ha hb hab e=>?_) pm;have ha2:=List.mem_filter.1 ha;have hb2:=List.mem_filter.1 hb;have la:=List.mem_range.1 ha2.1;have lb:=List.mem_range.1 hb2.1;have sa:(x.c a).st=2:=by simpa using ha2.2
   have sb:(x.c b).st=2:=by simpa using hb2.2
   have oa:=r2.1 a la;have ob:=r2.1 b lb;unfold cE eD yX at oa ob;exact r2.2 b lb (by omega) a hab ⟨by omega,by omega,by omega⟩
  have sub:∀z,z∈M.map (λi=>(x.c i).to.toNat)->z∈U:=λz hz=>by
   obtain⟨i,hi,e⟩:=List.mem_map.1 hz;have hi2:=List.mem_filter.1 hi;have li:=List.mem_range.1 hi2.1;have si:(x.c i).st=2:=by simpa using hi2.2
   have oi:=r2.1 i li;unfold cE eD at oi
   have st:(x.c (x.c i).to.toNat).st=1:=by
    rcases oi with o | o | o
    ·omega
    ·exact o.2.2.2.2.2.1
    ·omega
   rw[<-e];exact List.mem_filter.2 ⟨List.mem_range.2 (by omega),by simpa using st⟩
  have:=List.Nodup.length_le_of_subset nd sub
  simpa using this
 have hA:x.cells.length<=U.length+M.length:=by
  have key:∀m,m<=x.cells.length->m<=((List.range m).filter (λi=>(x.c i).st == 1)).length+((List.range m).filter (λi=>(x.c i).st == 2)).length:=λm=>by
   induction m with
   | zero=>intro _;omega
   | succ m ih=>
    intro hm;have i1:=ih (by omega);rw[List.range_succ,List.filter_append,List.filter_append,List.length_append,List.length_append];have:=r2.1 m (by omega);have nf:=hf m (by omega);have s12:(x.c m).st=1\/(x.c m).st=2:=by unfold cE at this;omega
    rcases s12 with e | e
    ·simp [e];omega
    ·simp [e];omega
  exact key x.cells.length (Nat.le_refl _)
 omega
theorem newC_p(b k:Int)(n:Nat)(col:Int)(j:Nat):(tE b k n col).p j=Pr0:=by
 unfold Cl.p tE;simp only [List.getD_eq_getElem?_getD];by_cases h:j<n
 ·simp [h]
 ·simp [h]
theorem Snd.make{x:Hp}(h:Snd x)(k:Int)(n:Nat)(hk:0<=k/\k<=255)(hn:n<=200)(hb:x.born<1000000000)(hu:x.used+(1+n)<=x.room):Snd (a3z x k n)/\((a3z x k n).c (cD x)).st=1/\cD x<(a3z x k n).cells.length/\¬cU (a3z x k n) (cD x):=by
 obtain⟨f1,f2,f3⟩:=a0z x;obtain⟨t,ht⟩:∃t,t=cD x:=⟨_,rfl⟩;obtain⟨c,hc⟩:∃c,c=tE (x.born+1) k n (qY x t):=⟨_,rfl⟩;obtain⟨z,hz⟩:∃z,z=a3z x k n:=⟨_,rfl⟩;rw[<-ht] at f1 f2 f3 ⊢;have zcs:z.cells=a4q x t c:=by rw[hz,hc,ht];rfl
 have zc:∀q,z.c q=if q=t then c else x.c q:=c1a x z t c f1 zcs
 have zl:z.cells.length=if t<x.cells.length then x.cells.length else x.cells.length+1:=by rw[zcs];exact a6y x t c
 have zle:x.cells.length<=z.cells.length:=by rw[zl];split <;> omega
 have zq:∀q,q<z.cells.length->q=t\/(q≠t/\q<x.cells.length):=λq hq=>by
  rw[zl] at hq;by_cases e:q=t
  ·exact .inl e
  ·refine .inr ⟨e,?_⟩
   split at hq <;> omega
 have tl:t<z.cells.length:=by rw[zl];split <;> omega
 have zne:∀q,q≠t->z.c q=x.c q:=λq e=>by rw[zc q,if_neg e]
 have ze:z.c t=c:=by rw[zc t,if_pos rfl]
 have free:∀q,q<x.cells.length->(x.c q).st≠0->q≠t:=λq hq hs e=>by subst e;exact hs (f3 hq)
 have zro:z.room=x.room:=by rw[hz];rfl
 have zus:z.used=x.used+(1+n):=by rw[hz];rfl
 have zbo:z.born=x.born+1:=by rw[hz];rfl
 have zre:z.regs=x.regs:=by rw[hz];rfl
 have zph:z.phase=x.phase:=by rw[hz];rfl
 have zha:z.hand=x.hand:=by rw[hz];rfl
 have zsu:z.sub=x.sub:=by rw[hz];rfl
 have zgr:z.gray=x.gray:=by rw[hz];rfl
 have zrest:z.per=x.per/\z.start=x.start/\z.rounds=x.rounds/\z.forced=x.forced:=by rw[hz];exact⟨rfl,rfl,rfl,rfl⟩
 have cst:c.st=1:=by rw[hc];rfl
 have cbo:c.born=x.born+1:=by rw[hc];rfl
 have cto:c.to=0:=by rw[hc];rfl
 have cla:c.last=0:=by rw[hc];rfl
 have cco:c.color=qY x t:=by rw[hc];rfl
 have cpl:c.prs.length=n:=by rw[hc];simp [tE]
 have cp:∀j,c.p j=Pr0:=λj=>by rw[hc];exact newC_p _ _ _ _ j
 have ncd:¬cU z t:=λd=>by
  have d4:=d.2.2.2;rw[ze,cco] at d4;unfold qY at d4;have d1:=d.1;have d2:=d.2.1;rw[zph] at d1;rw[zha] at d2;rw[if_pos (.inr (.inr ⟨d1,d2⟩))] at d4;omega
 have dm:∀q,q≠t->(cU z q↔cU x q):=λq e=>by unfold cU;rw[zph,zha,zne q e]
 have fm:∀y:Wd,uK y x.cells.length->uK y z.cells.length:=λy f=>by unfold uK at f ⊢;omega
 have ld:∀(y:Wd) (m:Prop),cN x y m->cN z y m:=λy m l=>⟨fm y l.1,λhk=>by
  have hf:=l.1;unfold uK at hf;have hy:y.a.toNat<x.cells.length:=by omega
  rcases l.2 hk with o | o
  ·have e:=free _ hy (by rw[o.1];omega);rw[zne _ e];exact .inl o
  ·have e:=free _ hy (by rw[o.1];omega);rw[zne _ e];exact .inr ⟨o.1,λd=>o.2 ((dm _ e).1 d)⟩⟩
 have nl:∀m:Prop,cN z ⟨0,0,0⟩ m:=λm=>⟨.inl ⟨rfl,rfl,rfl⟩,λh=>by simp at h⟩
 have us:x.used=(dN x.cells:Nat):=h.r3.1;rw[<-hz];refine⟨⟨?_,?_,?_,?_,?_,?_,?_,?_⟩,by rw[ze];exact cst,tl,ncd⟩
 ·have rc:=h.r1.cells;have rr:=h.r1.room;refine⟨by rw[zro];exact rr,by rw[zre];exact h.r1.regs,?_,by rw[zgr];exact Nat.le_trans h.r1.gray zle,by rw[zbo];have:=h.r1.born;omega,by rw[zrest.2.2.1];exact h.r1.rounds,by rw[zrest.2.2.2];exact h.r1.forced,by rw[zrest.1];exact h.r1.per,by rw[zrest.2.1];exact h.r1.start,by rw[zph];exact h.r1.phase,by rw[zha];have:=h.r1.hand;omega,by rw[zsu];exact h.r1.sub⟩;rw[zro,zl];by_cases e:t<x.cells.length
  ·rw[if_pos e];exact rc
  ·rw[if_neg e];have:=h.crowd (λi hi=>f2 i (by omega));omega
 ·refine⟨λq hq=>?_,λq hq h0 j hj hb2=>?_⟩
  ·rcases zq q hq with e | ⟨e,hqx⟩
   ·subst e;refine .inr (.inr ⟨by rw[ze];exact cst,?_⟩);rw[ze];have cc:0<=c.color/\c.color<=2:=by rw[cco];unfold qY;split <;> omega
    have ck:c.kind=k:=by rw[hc];rfl
    have cw:c.weak=0:=by rw[hc];rfl
    have:=h.r1.born;exact⟨by rw[ck];exact hk,by omega,by omega,by rw[zbo];omega,cc,cto,by omega⟩
   ·have ok:=h.r2.1 q hqx;unfold cE;rw[zne q e];rcases ok with o | ⟨o,m⟩ | ⟨o,m⟩
    ·exact .inl o
    ·have mt:=m.2.2.2.2.1;have tt:=m.2.2.2.1;have t0:=m.2.2.1;have e2:=free (x.c q).to.toNat (by omega) (by rw[mt];omega);refine .inr (.inl ⟨o,m.1,by rw[zph];exact m.2.1,t0,tt,by rw[zne _ e2];exact mt,λhp j hj=>?_⟩);rw[zph] at hp;have:=m.2.2.2.2.2 hp j hj;by_cases ej:j=t
     ·rw[ej,ze];omega
     ·rw[zne j ej];exact this
    ·refine .inr (.inr ⟨o,?_⟩);unfold a2i at m ⊢;rw[zbo];omega
  ·have key:∀a,a≠t->a<x.cells.length->(x.c a).st=1->(x.c a).born<=x.born:=λa _ ha hs=>by
    have:=h.r2.1 a ha;unfold cE a2i at this;omega
   rcases zq q hq with e | ⟨e,hqx⟩
   ·subst e;rcases zq j (by omega) with e2 | ⟨e2,hjx⟩
    ·omega
    ·rw[zne j e2,ze] at hb2;have:=key j e2 hjx (by omega);omega
   ·rcases zq j (by omega) with e2 | ⟨e2,hjx⟩
    ·subst e2;rw[ze,zne q e] at hb2;have:=key q e hqx (by omega);omega
    ·rw[zne j e2,zne q e] at hb2;rw[zne q e] at h0;exact h.r2.2 q hqx h0 j hj hb2
 ·refine⟨?_,by rw[zus,zro];exact hu⟩;rw[zus,zcs];have uc:cH c=1+n:=by unfold cH;rw[if_pos cst,cpl]
  unfold a4q;by_cases e:t<x.cells.length
  ·rw[if_pos e];have u:=a1v x.cells t c e;rw[Hp.c_eq x t e] at u;have u0:cH (x.c t)=0:=by unfold cH;rw[if_neg (by rw[f3 e];omega)]
   omega
  ·rw[if_neg e];have:dN (x.cells++[c])=dN x.cells+cH c:=by simp [dN]
   omega
 ·refine⟨λi hi=>?_,λq hq=>?_⟩
  ·have e:z.regs[i]=x.regs[i]'(by rw[<-zre];exact hi):=by simp only [zre]
   rw[e];exact ld _ _ (h.r4.1 i (by rw[<-zre];exact hi))
  ·rcases zq q hq with e | ⟨e,hqx⟩
   ·subst e;refine⟨λd=>ncd d.1,λj hj=>?_⟩;rw[ze,cp j];exact⟨λd=>(ncd d).elim,λ_=>⟨nl _,nl _⟩⟩
   ·have o:=h.r4.2 q hqx;have md:∀j,cX z q j↔cX x q j:=λj=>by unfold cX;rw[zph,zha,zsu]
    rw[zne q e];refine⟨λd=>o.1 ⟨(dm q e).1 d.1,d.2⟩,λj hj=>?_⟩;have p:=o.2 j hj;refine⟨λd=>?_,λd=>?_⟩
    ·have:=p.1 ((dm q e).1 d);exact⟨fm _ this.1,fm _ this.2⟩
    ·have:=p.2 (λd2=>d ((dm q e).2 d2));have em:(¬cX z q j)=(¬cX x q j):=propext (not_congr (md j));rw[em];exact⟨ld _ _ this.1,ld _ _ this.2⟩
 ·refine⟨λhm=>by rw[zgr];exact h.r5.1 (λm=>hm (by unfold uE at m ⊢;rw[zph];exact m)),λq hq=>?_,λg hg=>?_⟩
  ·rcases zq q hq with e | ⟨e,hqx⟩
   ·subst e
    have c0:cnt x.gray q=0:=by
     by_cases e:q<x.cells.length
     ·have ok:=h.r2.1 q e;have s0:=f3 e;have:(x.c q).color≠1:=by unfold cE yX at ok;omega
      exact(h.r5.2.1 q e).2.1 this
     ·unfold cnt;rw[List.count_eq_zero];intro hg;have:=h.r5.2.2 _ hg;omega
    unfold eE;rw[ze,zgr,zph,zha,cco];refine⟨λe1=>?_,λ_=>c0,λe2=>?_⟩
    ·unfold qY at e1;split at e1 <;> omega
    ·unfold qY at e2
     split at e2
     ·rename_i hh;rcases hh with hh | hh | hh
      ·exact .inl (by unfold uE;rw[zph];exact .inl hh)
      ·exact .inl (by unfold uE;rw[zph];exact .inr hh)
      ·exact .inr hh
     ·omega
   ·have o:=h.r5.2.1 q hqx;unfold eE at o ⊢;rw[zne q e,zgr,zph,zha]
    exact⟨o.1,o.2.1,λe2=>by
     rcases o.2.2 e2 with m | m
     ·exact .inl (by unfold uE at m ⊢;rw[zph];exact m)
     ·exact .inr m⟩
  ·rw[zgr] at hg;have:=h.r5.2.2 g hg;omega
 ·obtain⟨a,b,d,e⟩:=h.r6;refine⟨λhp=>by rw[zph] at hp;rw[zha,zsu];exact a hp,λhp=>?_,λhp=>?_,λhp=>by rw[zph] at hp;rw[zsu];exact e hp⟩
  ·rw[zph] at hp;have b2:=b hp;have eg:z.g0=x.g0:=by unfold Hp.g0;rw[zgr]
   rw[zha,zgr,zsu,eg];refine⟨b2.1,b2.2.1,λhg=>?_⟩;have hs:=b2.2.2 hg
   have gl:(x.gray.getD 0 0)∈x.gray:=by
    cases hgr:x.gray with
    | nil=>rw[hgr] at hg;simp at hg
    | cons g G=>simp
   have gr:=h.r5.2.2 _ gl;have g0l:x.g0<x.cells.length:=by unfold Hp.g0;omega
   by_cases e2:x.g0=t
   ·have s0:=f3 (by omega);rw[<-e2] at s0;have ok:=h.r2.1 x.g0 g0l;have p0:(x.c x.g0).prs.length=0:=by unfold cE yX at ok;omega
    rw[e2,ze,cpl];omega
   ·rw[zne _ e2];exact hs
  ·rw[zph] at hp;have d2:=d hp;have hh:=h.r1.hand;rw[zha,zsu];have hcase:x.hand.toNat=t\/x.hand.toNat≠t:=by omega
   refine⟨λhq=>?_,λhq=>?_⟩
   ·rcases hcase with e2 | e2
    ·rcases hq with hq | hq
     ·exfalso;rw[zl] at hq
      split at hq <;> omega
     ·rw[e2,ze] at hq;omega
    ·rcases hq with hq | hq
     ·refine d2.1 (.inl ?_);rw[zl] at hq
      split at hq <;> omega
     ·rw[zne _ e2] at hq;exact d2.1 (.inr hq)
   ·rcases hcase with e2 | e2
    ·have s0:x.sub=0:=by
      by_cases e3:t<x.cells.length
      ·refine d2.1 (.inr ?_);rw[e2,f3 e3];omega
      ·exact d2.1 (.inl (by omega))
     rw[s0];omega
    ·rw[zne _ e2] at hq ⊢;refine d2.2 ⟨λe3=>?_,hq.2⟩;have h1:=hq.1;have h2:=hq.2;rw[zl] at h1
     split at h1
     ·omega
     ·omega
 ·intro hm q hq;have hm2:uE x:=by unfold uE at hm ⊢;rw[zph] at hm;exact hm
  have wh:∀y:Wd,cQ z y->cQ x y:=λy hy=>⟨hy.1,by
   have h2:=hy.2;by_cases e:y.a.toNat=t
   ·rw[e,ze,cco] at h2;unfold qY at h2;unfold uE at hm2;rw[if_pos (by omega)] at h2;omega
   ·rw[zne _ e] at h2;exact h2⟩
  rcases zq q hq with e | ⟨e,hqx⟩
  ·subst e;rw[ze];refine⟨λs=>?_,λj _=>?_⟩
   ·have:=s.1;unfold cY at this;omega
   ·rw[cp j];exact⟨λw=>by have:=w.1;simp [Pr0] at this,λw=>by have:=w.1;simp [Pr0] at this⟩
  ·have o:=h.r7 hm2 q hqx;rw[zne q e,zph,zha];refine⟨o.1,λj hj=>?_⟩;have lk:cC z q=cC x q:=by unfold cC;rw[zne q e,zph,zgr,zsu]
   rw[lk] at hj;exact⟨λw=>(o.2 j hj).1 (wh _ w),λw=>(o.2 j hj).2 (wh _ w)⟩
 ·intro q hq;rw[zph,zha];rcases zq q hq with e | ⟨e,hqx⟩
  ·subst e;rw[ze];intro hb2;omega
  ·rw[zne q e];exact h.r8 q hqx
def qV(op:Int):Bool:=!(op == 18 || op == 20 || op == 21 || op == 22 || op == 23 || op == 24)
def zQ(op:Int):Bool:=op == 4 || op == 5 || op == 6 || op == 7 || op == 8 || op == 13
def zW(op:Int):Int:=if op=1 then 255 else if zQ op=true then 15 else if op=23 then 64 else 0
def zK(op:Int):Int:=if op=1\/op=9\/op=10 then 200 else if 5<=op/\op<=8 then 199 else if op=11 then 3 else if op=12 then 1 else if op=22 then 100000 else if op=23 then 4000 else 0
theorem b7i(op:Int)(h1:1<=op)(h2:op<=24):op=1\/op=2\/op=3\/op=4\/op=5\/op=6\/op=7\/op=8\/op=9\/op=10\/op=11\/op=12\/op=13\/op=14\/op=15\/op=16\/op=17\/op=18\/op=19\/op=20\/op=21\/op=22\/op=23\/op=24:=by omega
theorem a7c(op:Int)(h1:1<=op)(h2:op<=24)(w:World):Calls Tryz.prog 220 #[.int .i64 op] w λe w'=>e=.returned (.tuple #[.bool (qV op),.bool (zQ op)])/\w'=w:=by
 have h:=b7i op h1 h2;clear h1 h2;rcases h with rfl | rfl | rfl | rfl | rfl | rfl | rfl | rfl | rfl | rfl | rfl | rfl | rfl | rfl | rfl | rfl | rfl | rfl | rfl | rfl | rfl | rfl | rfl | rfl
 all_goals
  go_enter Tryz.func220,Tryz.ntmps220
  go_wp2
  go_ret2;exact⟨rfl,rfl⟩
theorem b2o(op:Int)(h1:1<=op)(h2:op<=24)(w:World):Calls Tryz.prog 221 #[.int .i64 op] w λe w'=>e=.returned (.tuple #[.int .i64 (zW op),.int .i64 (zK op)])/\w'=w:=by
 have h:=b7i op h1 h2;clear h1 h2;rcases h with rfl | rfl | rfl | rfl | rfl | rfl | rfl | rfl | rfl | rfl | rfl | rfl | rfl | rfl | rfl | rfl | rfl | rfl | rfl | rfl | rfl | rfl | rfl | rfl
 all_goals
  go_enter Tryz.func221,Tryz.ntmps221
  go_wp2
  go_ret2;exact⟨rfl,rfl⟩
def zL(op:Int):Int:=if qV op=true then 15 else 0
def dU(op a b c n:Int):Bool:=decide ((1<=op/\op<=24)/\(n=0\/op=2)) && (decide (0<=a/\a<=zL op) && (decide (0<=b/\b<=zW op) && decide (0<=c/\c<=zK op)))
abbrev qZ(op a b c n:Int):Value:=.agg #[iv op,iv a,iv b,iv c,iv n]
theorem b9r(h:op<1\/24<op\/(n≠0/\op≠2)):dU op a b c n=false:=by
 unfold dU;rw[decide_eq_false (by omega)];rfl
theorem c1d(h:a<0\/zL op<a):dU op a b c n=false:=by
 unfold dU;have e:decide (0<=a/\a<=zL op)=false:=decide_eq_false (by omega);rw[e];simp
theorem c1e(h1:1<=op)(h2:op<=24)(h3:n=0\/op=2)(h4:0<=a)(h5:a<=zL op):dU op a b c n=(decide (0<=b/\b<=zW op) && decide (0<=c/\c<=zK op)):=by
 unfold dU;rw[decide_eq_true ⟨⟨h1,h2⟩,h3⟩,decide_eq_true ⟨h4,h5⟩];simp
theorem a3c(n lo hi:Int)(r:Bool)(h:hD n lo hi=r)(w:World):Calls Tryz.prog 60 #[.int .i64 n,.int .i64 lo,.int .i64 hi] w λe w'=>e=.returned (.bool r)/\w'=w:=h ▸ dY n lo hi w
theorem b3m(op a b c n:Int)(w:World)(h1:1<=op)(h2:op<=24)(q1b:(op != 2)=true)(q2b:(n != 0)=false):Calls Tryz.prog 158 #[qZ op a b c n] w λe w'=>e=.returned (.bool (dU op a b c n))/\Ext w w':=by
 have H3:=uU (show n=0\/op=2 from by simp at q2b;exact .inl q2b);have QM:=uU (λW=>b2o op h1 h2 W);have YY:=uU (λh4 h5=>c1e (b:=b) (c:=c) (n:=n) (a:=a) h1 h2 H3 h4 h5);obtain⟨bm,eb⟩:∃v,v=zW op:=⟨_,rfl⟩;obtain⟨cm,ec⟩:∃v,v=zK op:=⟨_,rfl⟩;rw[<-eb,<-ec] at QM YY;clear eb ec;have h1b:¬op<1:=by omega
 have h2b:¬op > 24:=by omega
 cases q3:qV op
 ·have QL:=uU (λW=>q3 ▸ a7c op h1 h2 W);cases q5:(a == 0)
  ·have q5b:(a != 0)=true:=by simpa using q5
   have E:=uU (c1d (op:=op) (a:=a) (b:=b) (c:=c) (n:=n) (by unfold zL;rw[q3];simp at q5;simp;omega));go_enter Tryz.func158,Tryz.ntmps158;go_wp2_with (first | (go_at_call 220;refine(QL _).mono ?_;rintro e w2 ⟨rfl,rfl⟩));go_ret;exact⟨by rw[uH E];rfl,(Ext.refl _).alloc _⟩
  ·have q5b:(a != 0)=false:=by simpa using q5
   have EY:=uU (YY (by simp at q5;omega) (by unfold zL;rw[q3];simp at q5;simp;omega));cases q6:hD b 0 bm
   ·have QB:=uU (λW=>a3c b 0 bm false q6 W);have E:=uU (show dU op a b c n=false by rw[uH EY];have e:decide (0<=b/\b<=bm)=false:=q6;rw[e];rfl);clear EY H3 YY;go_enter Tryz.func158,Tryz.ntmps158;go_wp2_with (first | (go_at_call 220;refine(QL _).mono ?_;rintro e w2 ⟨rfl,rfl⟩) | (go_at_call 221;refine(QM _).mono ?_;rintro e w2 ⟨rfl,rfl⟩) | (go_at_call 60;refine(QB _).mono ?_;rintro e w2 ⟨rfl,rfl⟩));go_ret;exact⟨by rw[uH E];rfl,(Ext.refl _).alloc _⟩
   ·have QB:=uU (λW=>a3c b 0 bm true q6 W);have QC:=uU (λW=>dY c 0 cm W);have E:=uU (show dU op a b c n=hD c 0 cm by rw[uH EY];have e:decide (0<=b/\b<=bm)=true:=q6;rw[e];rfl);clear EY H3 YY;go_enter Tryz.func158,Tryz.ntmps158;go_wp2_with (first | (go_at_call 220;refine(QL _).mono ?_;rintro e w2 ⟨rfl,rfl⟩) | (go_at_call 221;refine(QM _).mono ?_;rintro e w2 ⟨rfl,rfl⟩) | (have _:=LQB;go_at_call 60;refine(QC _).mono ?_;rintro e w2 ⟨rfl,rfl⟩) | (go_at_call 60;refine(QB _).mono ?_;rintro e w2 ⟨rfl,rfl⟩;have LQB:=True.intro));go_ret;exact⟨by rw[uH E];rfl,(Ext.refl _).alloc _⟩
 ·have QL:=uU (λW=>q3 ▸ a7c op h1 h2 W);cases q5:hD a 0 15
  ·have QA:=uU (λW=>a3c a 0 15 false q5 W);have E:=uU (c1d (op:=op) (a:=a) (b:=b) (c:=c) (n:=n) (by unfold zL;rw[q3];simp [hD] at q5;simp;omega));go_enter Tryz.func158,Tryz.ntmps158;go_wp2_with (first | (go_at_call 220;refine(QL _).mono ?_;rintro e w2 ⟨rfl,rfl⟩) | (go_at_call 60;refine(QA _).mono ?_;rintro e w2 ⟨rfl,rfl⟩));go_ret;exact⟨by rw[uH E];rfl,(Ext.refl _).alloc _⟩
  ·have QA:=uU (λW=>a3c a 0 15 true q5 W);have EY:=uU (YY (by simp [hD] at q5;omega) (by unfold zL;rw[q3];simp [hD] at q5;simp;omega));cases q6:hD b 0 bm
   ·have QB:=uU (λW=>a3c b 0 bm false q6 W);have E:=uU (show dU op a b c n=false by rw[uH EY];have e:decide (0<=b/\b<=bm)=false:=q6;rw[e];rfl);clear EY H3 YY;go_enter Tryz.func158,Tryz.ntmps158;go_wp2_with (first | (go_at_call 220;refine(QL _).mono ?_;rintro e w2 ⟨rfl,rfl⟩) | (go_at_call 221;refine(QM _).mono ?_;rintro e w2 ⟨rfl,rfl⟩) | (have _:=LQA;go_at_call 60;refine(QB _).mono ?_;rintro e w2 ⟨rfl,rfl⟩) | (go_at_call 60;refine(QA _).mono ?_;rintro e w2 ⟨rfl,rfl⟩;have LQA:=True.intro));go_ret;exact⟨by rw[uH E];rfl,(Ext.refl _).alloc _⟩
   ·have QB:=uU (λW=>a3c b 0 bm true q6 W);have QC:=uU (λW=>dY c 0 cm W);have E:=uU (show dU op a b c n=hD c 0 cm by rw[uH EY];have e:decide (0<=b/\b<=bm)=true:=q6;rw[e];rfl);clear EY H3 YY;go_enter Tryz.func158,Tryz.ntmps158;go_wp2_with (first | (go_at_call 220;refine(QL _).mono ?_;rintro e w2 ⟨rfl,rfl⟩) | (go_at_call 221;refine(QM _).mono ?_;rintro e w2 ⟨rfl,rfl⟩) | (have _:=LQB;go_at_call 60;refine(QC _).mono ?_;rintro e w2 ⟨rfl,rfl⟩) | (have _:=LQA;go_at_call 60;refine(QB _).mono ?_;rintro e w2 ⟨rfl,rfl⟩;have LQB:=True.intro) | (go_at_call 60;refine(QA _).mono ?_;rintro e w2 ⟨rfl,rfl⟩;have LQA:=True.intro));go_ret;exact⟨by rw[uH E];rfl,(Ext.refl _).alloc _⟩
theorem b3n(op a b c n:Int)(w:World)(h1:1<=op)(h2:op<=24)(q1b:(op != 2)=false):Calls Tryz.prog 158 #[qZ op a b c n] w λe w'=>e=.returned (.bool (dU op a b c n))/\Ext w w':=by
 have H3:=uU (show n=0\/op=2 from by simp at q1b;exact .inr q1b);have QM:=uU (λW=>b2o op h1 h2 W);have YY:=uU (λh4 h5=>c1e (b:=b) (c:=c) (n:=n) (a:=a) h1 h2 H3 h4 h5);obtain⟨bm,eb⟩:∃v,v=zW op:=⟨_,rfl⟩;obtain⟨cm,ec⟩:∃v,v=zK op:=⟨_,rfl⟩;rw[<-eb,<-ec] at QM YY;clear eb ec;have h1b:¬op<1:=by omega
 have h2b:¬op > 24:=by omega
 cases q3:qV op
 ·have QL:=uU (λW=>q3 ▸ a7c op h1 h2 W);cases q5:(a == 0)
  ·have q5b:(a != 0)=true:=by simpa using q5
   have E:=uU (c1d (op:=op) (a:=a) (b:=b) (c:=c) (n:=n) (by unfold zL;rw[q3];simp at q5;simp;omega));go_enter Tryz.func158,Tryz.ntmps158;go_wp2_with (first | (go_at_call 220;refine(QL _).mono ?_;rintro e w2 ⟨rfl,rfl⟩));go_ret;exact⟨by rw[uH E];rfl,(Ext.refl _).alloc _⟩
  ·have q5b:(a != 0)=false:=by simpa using q5
   have EY:=uU (YY (by simp at q5;omega) (by unfold zL;rw[q3];simp at q5;simp;omega));cases q6:hD b 0 bm
   ·have QB:=uU (λW=>a3c b 0 bm false q6 W);have E:=uU (show dU op a b c n=false by rw[uH EY];have e:decide (0<=b/\b<=bm)=false:=q6;rw[e];rfl);clear EY H3 YY;go_enter Tryz.func158,Tryz.ntmps158;go_wp2_with (first | (go_at_call 220;refine(QL _).mono ?_;rintro e w2 ⟨rfl,rfl⟩) | (go_at_call 221;refine(QM _).mono ?_;rintro e w2 ⟨rfl,rfl⟩) | (go_at_call 60;refine(QB _).mono ?_;rintro e w2 ⟨rfl,rfl⟩));go_ret;exact⟨by rw[uH E];rfl,(Ext.refl _).alloc _⟩
   ·have QB:=uU (λW=>a3c b 0 bm true q6 W);have QC:=uU (λW=>dY c 0 cm W);have E:=uU (show dU op a b c n=hD c 0 cm by rw[uH EY];have e:decide (0<=b/\b<=bm)=true:=q6;rw[e];rfl);clear EY H3 YY;go_enter Tryz.func158,Tryz.ntmps158;go_wp2_with (first | (go_at_call 220;refine(QL _).mono ?_;rintro e w2 ⟨rfl,rfl⟩) | (go_at_call 221;refine(QM _).mono ?_;rintro e w2 ⟨rfl,rfl⟩) | (have _:=LQB;go_at_call 60;refine(QC _).mono ?_;rintro e w2 ⟨rfl,rfl⟩) | (go_at_call 60;refine(QB _).mono ?_;rintro e w2 ⟨rfl,rfl⟩;have LQB:=True.intro));go_ret;exact⟨by rw[uH E];rfl,(Ext.refl _).alloc _⟩
 ·have QL:=uU (λW=>q3 ▸ a7c op h1 h2 W);cases q5:hD a 0 15
  ·have QA:=uU (λW=>a3c a 0 15 false q5 W);have E:=uU (c1d (op:=op) (a:=a) (b:=b) (c:=c) (n:=n) (by unfold zL;rw[q3];simp [hD] at q5;simp;omega));go_enter Tryz.func158,Tryz.ntmps158;go_wp2_with (first | (go_at_call 220;refine(QL _).mono ?_;rintro e w2 ⟨rfl,rfl⟩) | (go_at_call 60;refine(QA _).mono ?_;rintro e w2 ⟨rfl,rfl⟩));go_ret;exact⟨by rw[uH E];rfl,(Ext.refl _).alloc _⟩
  ·have QA:=uU (λW=>a3c a 0 15 true q5 W);have EY:=uU (YY (by simp [hD] at q5;omega) (by unfold zL;rw[q3];simp [hD] at q5;simp;omega));cases q6:hD b 0 bm
   ·have QB:=uU (λW=>a3c b 0 bm false q6 W);have E:=uU (show dU op a b c n=false by rw[uH EY];have e:decide (0<=b/\b<=bm)=false:=q6;rw[e];rfl);clear EY H3 YY;go_enter Tryz.func158,Tryz.ntmps158;go_wp2_with (first | (go_at_call 220;refine(QL _).mono ?_;rintro e w2 ⟨rfl,rfl⟩) | (go_at_call 221;refine(QM _).mono ?_;rintro e w2 ⟨rfl,rfl⟩) | (have _:=LQA;go_at_call 60;refine(QB _).mono ?_;rintro e w2 ⟨rfl,rfl⟩) | (go_at_call 60;refine(QA _).mono ?_;rintro e w2 ⟨rfl,rfl⟩;have LQA:=True.intro));go_ret;exact⟨by rw[uH E];rfl,(Ext.refl _).alloc _⟩
   ·have QB:=uU (λW=>a3c b 0 bm true q6 W);have QC:=uU (λW=>dY c 0 cm W);have E:=uU (show dU op a b c n=hD c 0 cm by rw[uH EY];have e:decide (0<=b/\b<=bm)=true:=q6;rw[e];rfl);clear EY H3 YY;go_enter Tryz.func158,Tryz.ntmps158;go_wp2_with (first | (go_at_call 220;refine(QL _).mono ?_;rintro e w2 ⟨rfl,rfl⟩) | (go_at_call 221;refine(QM _).mono ?_;rintro e w2 ⟨rfl,rfl⟩) | (have _:=LQB;go_at_call 60;refine(QC _).mono ?_;rintro e w2 ⟨rfl,rfl⟩) | (have _:=LQA;go_at_call 60;refine(QB _).mono ?_;rintro e w2 ⟨rfl,rfl⟩;have LQB:=True.intro) | (go_at_call 60;refine(QA _).mono ?_;rintro e w2 ⟨rfl,rfl⟩;have LQA:=True.intro));go_ret;exact⟨by rw[uH E];rfl,(Ext.refl _).alloc _⟩
theorem hE(op a b c n:Int)(w:World):Calls Tryz.prog 158 #[qZ op a b c n] w λe w'=>e=.returned (.bool (dU op a b c n))/\Ext w w':=by
 by_cases h1:op<1
 ·have E:=uU (b9r (op:=op) (a:=a) (b:=b) (c:=c) (n:=n) (.inl h1));go_enter Tryz.func158,Tryz.ntmps158;go_wp2_with fail;go_ret;exact⟨by rw[uH E];rfl,(Ext.refl _).alloc _⟩
 ·by_cases h2:op > 24
  ·have E:=uU (b9r (op:=op) (a:=a) (b:=b) (c:=c) (n:=n) (.inr (.inl h2)));go_enter Tryz.func158,Tryz.ntmps158;go_wp2_with fail;go_ret;exact⟨by rw[uH E];rfl,(Ext.refl _).alloc _⟩
  ·cases q1:(op == 2)
   ·have q1b:(op != 2)=true:=by simpa using q1
    cases q2:(n == 0)
    ·have q2b:(n != 0)=true:=by simpa using q2
     have E:=uU (b9r (op:=op) (a:=a) (b:=b) (c:=c) (n:=n) (.inr (.inr ⟨by simpa using q2,by simpa using q1⟩)));go_enter Tryz.func158,Tryz.ntmps158;go_wp2_with fail;go_ret;exact⟨by rw[uH E];rfl,(Ext.refl _).alloc _⟩
    ·exact b3m op a b c n w (by omega) (by omega) q1b (by simpa using q2)
   ·exact b3n op a b c n w (by omega) (by omega) (by simpa using q1)
end Go.Proofs.YtddkhnclmeikfaaGreat
