import Derived.Test.YtddkhnclmeikfaaGreatAw
import Derived.Test.YtddkhnclmeikfaaGreatAy
import Derived.Test.YtddkhnclmeikfaaGreatBb
import Derived.Carry
import Derived.ChangeSlices
import Derived.Laws.Bits64b
import Derived.OpenShut
import Derived.ProofKit
set_option maxRecDepth 100000
set_option maxHeartbeats 1000000
namespace Go.Proofs.YtddkhnclmeikfaaGreat
open Go.RowKit
attribute [local go_sem ↓] Go.wp_at_zero Go.wp_at_succ
def LB(x:Hp)(L:Nat):Prop:=∃p:Nat→Bool,(∀i,p i=true↔Reached x i)∧sumTo x p x.cells.length≤L
structure Keep(x y:Hp):Prop where
 cp:∀P,Cp x P→Cp y P
 cw:Marking x→∀P,Cp x P→Cw x P→Cw y P
 len:y.cells.length=x.cells.length
 prs:∀i,(y.c i).prs.length=(x.c i).prs.length
 gd:∀i,Good y i→Good x i
 last:∀i,(y.c i).last=(x.c i).last
 ph:y.phase=x.phase
 phi:phi y≤phi x
 us:y.used=x.used
 rm:y.room=x.room
 per:y.per=x.per
 st:y.start=x.start
 fo:y.forced=x.forced
 rd:y.rounds=x.rounds
 bn:y.born=x.born
theorem Keep.ns{x y:Hp}(k:Keep x y)(h:NoSpk x):NoSpk y:=fun i sp=>h i (by unfold Speaks at sp ⊢;rw[←k.last];exact sp)
theorem Keep.gs{x y:Hp}(k:Keep x y):gS y≤gS x:=by
 unfold gS;rw[k.len,sumTo_as k.prs];exact sumTo_mono (fun i h=>gdB_iff.2 (k.gd i (gdB_iff.1 h))) _
theorem Keep.jn{x y:Hp}{m:Nat}(k:Keep x y)(j:Jn x m):Jn y m:=by
 refine⟨fun h=>?_,fun h=>Nat.le_trans k.gs (j.sw (by rw[←k.ph];exact h))⟩;have mx:Marking x:=by unfold Marking at h ⊢;rw[←k.ph];exact h
 obtain⟨Q,a,b,c⟩:=j.mq mx;exact⟨Q,k.cp _ a,k.cw mx _ a b,sum_as k.len k.prs c⟩
theorem LB.sub{x y:Hp}{L:Nat}(h:LB x L)(hl:y.cells.length=x.cells.length)(hp:∀i,(y.c i).prs.length=(x.c i).prs.length)(r:∀i,Reached y i→Reached x i):LB y L:=by
 classical
 obtain⟨p,a,b⟩:=h;refine⟨fun i=>decide (Reached y i),fun i=>by simp,?_⟩;rw[hl,sumTo_as hp];exact Nat.le_trans (sumTo_mono (fun i q=>(a i).2 (r i (by simpa using q))) _) b
theorem Keep.lb{x y:Hp}{L:Nat}(k:Keep x y)(s:Snd x)(ns:NoSpk x)(h:LB x L):LB y L:=h.sub k.len k.prs fun _ r=>(k.cp _ s.cpR).in (k.ns ns) r
theorem Cp.r{x:Hp}{P:Nat→Prop}(c:Cp x P)(k:Nat)(h:(x.r k).k=2):P (tgt x (x.r k)):=by
 rcases Nat.lt_or_ge k x.regs.length with l | l
 ·rw[←Hp.r_eq x k l] at h ⊢;exact c.rg k l h
 ·have:x.r k=Wd0:=by unfold Hp.r;simp [List.getD_eq_getElem?_getD,l]
  rw[this] at h;simp [Wd0] at h
theorem keep_reg{x:Hp}(a:Nat)(u:Wd)(hu:u.k=2→∀P,Cp x P→P (tgt x u)):Keep x (regTo x a u) where
 cp:=fun P c=>⟨c.g,fun k h e=>by
  have h':k<(x.regs.set a u).length:=h;have e':(x.regs.set a u)[k].k=2:=e;show P (tgt x (x.regs.set a u)[k]);rw[List.getElem_set] at e' ⊢;by_cases q:a=k
  ·rw[if_pos q] at e' ⊢;exact hu e' P c
  ·rw[if_neg q] at e' ⊢;exact c.rg k (by simpa using h') e',c.ky,c.vl⟩
 cw:=fun _ _ _ c=>c
 len:=rfl
 prs:=fun _=>rfl
 gd:=fun _ g=>g
 last:=fun _=>rfl
 ph:=rfl
 phi:=Nat.le_refl _
 us:=rfl
 rm:=rfl
 per:=rfl
 st:=rfl
 fo:=rfl
 rd:=rfl
 bn:=rfl
theorem shadeW_off{x:Hp}(u:Wd)(h:¬Marking x):shadeW x u=x:=by
 unfold shadeW
 split
 ·unfold shadeH;rw[if_neg (fun e=>h (shadeB_parts e).1)]
 ·rfl
theorem part_shade{x:Hp}(u:Wd)(g:Good1 x u):part (shadeW x u)≤part x:=by
 by_cases m:Marking x
 ·obtain⟨_,l,p,h,s⟩:=shadeW_same x u;have a:=shadeW_sum x u g;have b:=shadeW_gle x u;unfold part;rw[p,h,s,l];rcases m with e | e
  ·rw[e];simp
  ·rw[if_pos e,if_pos e];omega
 ·rw[shadeW_off u m];exact Nat.le_refl _
theorem part_setc{x:Hp}(i:Nat)(C:Cl)(hi:i<x.cells.length)(h1:C.st=(x.c i).st)(h2:C.color=(x.c i).color)(h3:C.prs.length=(x.c i).prs.length):part (setcH x i C)=part x:=by
 have e:∀F:Cl→Nat,F C=F (x.c i)→∀k,sm F ((x.cells.set i C).drop k)=sm F (x.cells.drop k):=fun F h k=>sm_drop_set F x.cells i k C hi (by rw[Hp.c_eq x i hi];exact h)
 have e2:=e D2 (by unfold D2;rw[h1,h2,h3]) 0;have e4:=e D4 (by unfold D4;rw[h1]) 0;have e5:=e D5 (by unfold D5;rw[h3]) x.hand.toNat;simp only [List.drop_zero] at e2 e4;unfold part setcH;simp only [List.length_set];rw[e2,e4,e5]
theorem keep_set{x:Hp}(s:Snd x)(f b c:Nat)(hf:f<16)(hb:b<16)(k2:(x.r f).k=2)(hc:c<(x.c (x.at f)).prs.length):Keep x (shadeW (setcH x (x.at f) (valC (x.c (x.at f)) c (x.r b))) (x.r b)):=by
 obtain⟨_,_,i1,i2,i3⟩:=s.at f hf k2;obtain⟨i,hi⟩:∃i,i=x.at f:=⟨_,rfl⟩;rw[←hi] at i1 i2 i3 hc ⊢
 have ti:tgt x (x.r f)=i:=by
  unfold tgt
  rw[lead_no (show(x.c (x.r f).a.toNat).st≠2 by
   have:(x.c (x.r f).a.toNat).st=1:=by rw[hi] at i2;exact i2
   omega),hi]
  rfl
 obtain⟨z,hz⟩:∃z,z=setcH x i (valC (x.c i) c (x.r b)):=⟨_,rfl⟩;have hq:∀q,z.c q=if q=i then valC (x.c i) c (x.r b) else x.c q:=fun q=>by rw[hz];exact Hp.c_set x i _ i1 q
 have zl:z.cells.length=x.cells.length:=by rw[hz];simp [setcH]
 have zs:∀q,(z.c q).st=(x.c q).st∧(z.c q).to=(x.c q).to∧(z.c q).last=(x.c q).last∧(z.c q).color=(x.c q).color∧(z.c q).prs.length=(x.c q).prs.length:=fun q=>by
  rw[hq];split
  ·rename_i e;rw[e];exact⟨rfl,rfl,rfl,rfl,by simp [valC]⟩
  ·exact⟨rfl,rfl,rfl,rfl,rfl⟩
 have gb:Good1 z (x.r b):=fun hk2=>by
  obtain⟨_,_,p3,p4,_⟩:=s.at b hb hk2;exact⟨by rw[zl];exact p3,by rw[(zs _).1];exact p4⟩
 have pz:part z=part x:=by rw[hz];exact part_setc i _ i1 rfl rfl (by simp [valC])
 rw[←hz];have un:=shadeW_un z (x.r b) gb;have sm:=shadeW_same z (x.r b);have rs:=rst_shadeW z (x.r b)
 have tg:∀u,tgt (shadeW z (x.r b)) u=tgt x u:=fun u=>by
  rw[tgt_un un];unfold tgt lead2;rw[(zs _).1,(zs _).2.1]
 have zp:∀q p,(z.c q).p p=if q=i∧p=c then ⟨((x.c i).p c).key,x.r b⟩ else (x.c q).p p:=fun q p=>by
  rw[hq];by_cases e:q=i
  ·rw[if_pos e,e];unfold valC Cl.p;simp only [List.getD_eq_getElem?_getD,List.getElem?_set];by_cases e2:p=c
   ·subst e2;simp [hc]
   ·rw[if_neg (fun z=>e2 z.symm),if_neg (fun z=>e2 z.2)]
  ·rw[if_neg e,if_neg (fun z=>e z.1)]
 have ph:(shadeW z (x.r b)).phase=x.phase:=by rw[sm.2.2.1,hz];rfl
 have hh:(shadeW z (x.r b)).hand=x.hand:=by rw[sm.2.2.2.1,hz];rfl
 have oth:(shadeW z (x.r b)).used=x.used∧(shadeW z (x.r b)).room=x.room∧(shadeW z (x.r b)).per=x.per∧(shadeW z (x.r b)).start=x.start∧(shadeW z (x.r b)).forced=x.forced∧(shadeW z (x.r b)).rounds=x.rounds∧(shadeW z (x.r b)).born=x.born:=by
  rw[hz];unfold shadeW
  split
  ·have q:=shade_same (setcH x i (valC (x.c i) c (x.r b))) (x.r b).a.toNat;exact⟨q.2.1,q.1,q.2.2.2.2.2.2.2.2.1,q.2.2.2.2.2.2.2.2.2.1,q.2.2.2.2.2.2.2.2.2.2.2,q.2.2.2.2.2.2.2.2.2.2.1,q.2.2.1⟩
  ·exact⟨rfl,rfl,rfl,rfl,rfl,rfl,rfl⟩
 have cz:∀P,Cp x P→Cp (shadeW z (x.r b)) P:=fun P c0=>by
  refine⟨fun q h=>⟨by rw[sm.2.1,zl];exact(c0.g q h).1,by rw[(un_parts (un q)).1,(zs q).1];exact(c0.g q h).2.1,fun d=>(c0.g q h).2.2 ⟨by rw[←ph];exact d.1,by rw[←hh];exact d.2.1,(c0.g q h).2.1,?_⟩⟩,fun k h e=>?_,fun q p h hp e=>?_,fun q p h hp e=>?_⟩
  ·exact Classical.byContradiction fun w=>shadeW_mono z _ gb q (by rw[(zs q).2.2.2.1];exact w) d.2.2.2
  ·have e1:(shadeW z (x.r b)).regs=x.regs:=by rw[sm.1,hz];rfl
   have e2:(shadeW z (x.r b)).regs[k]=x.regs[k]'(by rw[←e1];exact h):=by simp only [e1]
   rw[e2] at e ⊢;rw[tg];exact c0.rg k _ e
  ·rw[un_prs un,(zs q).2.2.2.2] at hp;rw[un_p un,zp] at e ⊢;rw[tg];by_cases w:q=i∧p=c
   ·rw[if_pos w] at e ⊢;rw[w.1] at h;exact c0.ky i c h hc e
   ·rw[if_neg w] at e ⊢;exact c0.ky q p h hp e
  ·rw[un_prs un,(zs q).2.2.2.2] at hp;rw[un_p un,zp] at e ⊢;rw[tg];by_cases w:q=i∧p=c
   ·rw[if_pos w] at e ⊢;exact c0.r b e
   ·rw[if_neg w] at e ⊢;exact c0.vl q p h hp e
 refine⟨cz,fun m P c0 cw=>?_,by rw[sm.2.1,zl],fun q=>by rw[un_prs un,(zs q).2.2.2.2],fun q g=>⟨by have:=g.1;rw[sm.2.1,zl] at this;exact this,by have:=g.2.1;rw[(un_parts (un q)).1,(zs q).1] at this;exact this,fun d=>g.2.2 ⟨by rw[ph];exact d.1,by rw[hh];exact d.2.1,g.2.1,?_⟩⟩,fun q=>by rw[(un_parts (un q)).2.2.2.1,(zs q).2.2.1],ph,?_,oth.1,oth.2.1,oth.2.2.1,oth.2.2.2.1,oth.2.2.2.2.1,oth.2.2.2.2.2.1,oth.2.2.2.2.2.2⟩
 ·refine Cw.shadeW (x:=z) (P:=P) (fun q hq' hcol=>cw q (by rw[←zl];exact hq') (by rw[←(zs q).2.2.2.1];exact hcol)) _ gb (fun e=>?_);have:=c0.r b e;unfold tgt at this;obtain⟨_,_,p3,p4,_⟩:=s.at b hb e;rw[lead_no (show(x.c (x.r b).a.toNat).st≠2 by have:(x.c (x.r b).a.toNat).st=1:=p4;omega)] at this;exact this
 ·have nm:¬Marking z:=fun m=>by
   have d1:=d.1;have:z.phase=x.phase:=by rw[hz];rfl
   rcases m with e | e <;> omega
  rw[shadeW_off _ nm,(zs q).2.2.2.1];exact d.2.2.2
 ·unfold phi;rw[ph,oth.2.1];have:=part_shade (x:=z) (x.r b) gb
  split <;> omega
structure Mk(x y:Hp)(f c:Nat):Prop where
 cp:∀P,Cp x P→Cp y (fun i=>P i∨i=f)
 cw:∀P,Cw x P→Cw y (fun i=>P i∨i=f)
 sum:∀p:Nat→Bool,(∀i,p i=true→Good x i)→sumTo y (fun i=>p i || i == f) y.cells.length≤sumTo x p x.cells.length+(1+c)
 gd:∀i,Good y i→Good x i∨i=f
 gf:Good y f
 nf:¬Good x f
 lf:(y.c f).prs=List.replicate c Pr0
 oth:∀i,i≠f→y.c i=x.c i
 ns:NoSpk x→NoSpk y
 ph:y.phase=x.phase
 phi:phi y≤phi x+(1+c)
 us:y.used=x.used+(1+c)
 rm:y.room=x.room
 per:y.per=x.per
 st:y.start=x.start
 fo:y.forced=x.forced
 rd:y.rounds=x.rounds
 bn:y.born=x.born+1
theorem sum_new{x y:Hp}{f c:Nat}(ho:∀i,i≠f→(y.c i).prs.length=(x.c i).prs.length)(hf:(y.c f).prs.length=c){p:Nat→Bool}(pf:p f=false)(k:Nat):sumTo y (fun i=>p i || i == f) k≤sumTo x p k+(if f<k then 1+c else 0):=by
 induction k with
 | zero=>simp [sumTo]
 | succ k ih=>
  simp only [sumTo];by_cases e:k=f
  ·subst e;simp only [pf,hf,Bool.false_or,BEq.rfl,if_true,Bool.false_eq_true,if_false] at ih ⊢;have:¬k<k:=by omega
   rw[if_neg this] at ih;rw[if_pos (by omega)];omega
  ·have e2:(k == f)=false:=by simpa using e
   simp only [ho k e,e2,Bool.or_false]
   split at ih <;> split <;> (try split) <;> omega
theorem sumTo_out{x:Hp}{p:Nat→Bool}{n:Nat}(h:∀i,p i=true→i<n):sumTo x p (n+1)=sumTo x p n:=by
 have:p n=false:=by
  cases e:p n
  ·rfl
  ·have:=h n e;omega
 simp [sumTo,this]
theorem sm_app(F:Cl→Nat)(a b:List Cl):sm F (a++b)=sm F a+sm F b:=by simp [sm]
theorem sm_new(F:Cl→Nat)(x:Hp)(t h:Nat)(c:Cl):sm F ((newCs x t c).drop h)≤sm F (x.cells.drop h)+F c:=by
 unfold newCs
 split
 ·rename_i l
  have:∀(cs:List Cl) (t h:Nat),sm F ((cs.set t c).drop h)≤sm F (cs.drop h)+F c:=fun cs=>by
   induction cs with
   | nil=>intro t h;simp [sm]
   | cons a cs ih=>
    intro t h;cases h with
    | zero=>
     cases t with
     | zero=>simp [sm];omega
     | succ t=>have:=ih t 0;simp [sm] at this ⊢;omega
    | succ h=>
     cases t with
     | zero=>simp
     | succ t=>exact ih t h
  exact this _ _ _
 ·rw[List.drop_append,sm_app]
  have:sm F ([c].drop (h-x.cells.length))≤F c:=by
   cases h-x.cells.length <;> simp [sm]
  omega
theorem mk_is{x:Hp}(s:Snd x)(a b c:Nat)(ha:a<16):Mk x (regTo (makeH x b c) a ⟨2,0,fstFree x⟩) (fstFree x) c:=by
 obtain⟨f1,f2,f3⟩:=fstFree_is x;obtain⟨f,hf⟩:∃f,f=fstFree x:=⟨_,rfl⟩;obtain⟨y,hy⟩:∃y,y=regTo (makeH x b c) a ⟨2,0,fstFree x⟩:=⟨_,rfl⟩;have hc:∀q,y.c q=if q=f then newC (x.born+1) b c (newCol x f) else x.c q:=fun q=>by rw[hy,hf];exact newCs_c x (regTo (makeH x b c) a ⟨2,0,fstFree x⟩) (fstFree x) _ (by omega) rfl q
 have yc:y.cells=newCs x f (newC (x.born+1) b c (newCol x f)):=by rw[hy,hf];rfl
 have yl:y.cells.length=if f<x.cells.length then x.cells.length else x.cells.length+1:=by rw[yc];exact newCs_len x _ _
 have st0:(x.c f).st=0:=by
  rcases Nat.lt_or_ge f x.cells.length with l | l
  ·have:=f3 (by omega);rw[hf];omega
  ·rw[Hp.c_out l];rfl
 have yp:y.phase=x.phase:=by rw[hy];rfl
 have yh:y.hand=x.hand:=by rw[hy];rfl
 have cf:y.c f=newC (x.born+1) b c (newCol x f):=by rw[hc,if_pos rfl]
 have nf:¬Good x f:=fun g=>by have:=g.2.1;omega
 have oth:∀i,i≠f→y.c i=x.c i:=fun i h=>by rw[hc,if_neg h]
 have gg:∀i,Good x i→Good y i∧i≠f:=fun i g=>by
  have n:i≠f:=fun e=>nf (e ▸ g)
  refine⟨⟨by have:=g.1;rw[yl];split <;> omega,by rw[oth i n];exact g.2.1,fun d=>g.2.2 ⟨by rw[←yp];exact d.1,by rw[←yh];exact d.2.1,g.2.1,by rw[←oth i n];exact d.2.2.2⟩⟩,n⟩
 have gf:Good y f:=by
  refine⟨by rw[yl];split <;> omega,by rw[cf];rfl,fun d=>?_⟩;have d4:=d.2.2.2;rw[cf] at d4;have d1:=d.1;have d2:=d.2.1;rw[yp] at d1;rw[yh] at d2;have:newCol x f=0:=d4;unfold newCol at this;rw[if_pos (.inr (.inr ⟨d1,d2⟩))] at this;omega
 have tg:∀u,MayMark x u→u.k=2→tgt y u=tgt x u:=fun u mu hk=>by
  have gs:=(mu hk).2.2.2.2.2.1
  have n:u.a.toNat≠f:=fun e=>by
   unfold tgt lead2 at gs;rw[e,st0] at gs;simp at gs;omega
  unfold tgt lead2;rw[oth _ n]
 have rl:∀k (h:k<y.regs.length),y.regs[k]=if k=a then ⟨2,0,f⟩ else x.r k:=fun k h=>by
  rw[Hp.r_eq y k h,hy,hf];exact r_regTo (makeH x b c) a _ (by show a<x.regs.length;rw[s.n16];exact ha) k
 have yn:y.regs.length=x.regs.length:=by rw[hy];simp [regTo,makeH]
 rw[←hf] at hy;rw[←hf,←hy];refine⟨fun P c0=>⟨fun i h=>?_,fun k h e=>?_,fun i p h hp e=>?_,fun i p h hp e=>?_⟩,fun P cw i hi h=>?_,fun p hp=>?_,fun i g=>?_,gf,nf,by rw[cf];rfl,oth,fun ns i sp=>?_,yp,?_,by rw[hy];rfl,by rw[hy];rfl,by rw[hy];rfl,by rw[hy];rfl,by rw[hy];rfl,by rw[hy];rfl,by rw[hy];rfl⟩
 ·rcases h with h | h
  ·exact(gg i (c0.g i h)).1
  ·rw[h];exact gf
 ·rw[rl k h] at e ⊢;by_cases q:k=a
  ·rw[if_pos q] at e ⊢
   right
   show lead2 y ((f:Int).toNat)=_;rw[Int.toNat_natCast,lead_no (by rw[cf];show(1:Int)≠2;omega)]
  ·rw[if_neg q] at e ⊢;have l:k<x.regs.length:=by rw[←yn];exact h
   rw[←Hp.r_eq x k l] at e ⊢;rw[tg _ (may_reg s.r2 s.r4 k l) e];exact .inl (c0.rg k l e)
 ·by_cases q:i=f
  ·rw[q,cf] at e hp;have hp':p<c:=by simpa [newC] using hp
   have:(newC (x.born+1) b c (newCol x f)).p p=Pr0:=by simp [newC,Cl.p,hp']
   rw[this] at e;simp [Pr0] at e
  ·rw[oth i q] at e hp ⊢;have h':P i:=h.resolve_right q;rw[tg _ (may_pair s.r2 s.r4 i p (c0.g i h') hp).1 e];exact .inl (c0.ky i p h' hp e)
 ·by_cases q:i=f
  ·rw[q,cf] at e hp;have hp':p<c:=by simpa [newC] using hp
   have:(newC (x.born+1) b c (newCol x f)).p p=Pr0:=by simp [newC,Cl.p,hp']
   rw[this] at e;simp [Pr0] at e
  ·rw[oth i q] at e hp ⊢;have h':P i:=h.resolve_right q;rw[tg _ (may_pair s.r2 s.r4 i p (c0.g i h') hp).2 e];exact .inl (c0.vl i p h' hp e)
 ·by_cases q:i=f
  ·exact .inr q
  ·rw[oth i q] at h;refine .inl (cw i ?_ h);rw[yl] at hi;split at hi <;> omega
 ·have pf:p f=false:=by
   cases e:p f
   ·rfl
   ·exact(nf (hp f e)).elim
  have a1:=sum_new (x:=x) (y:=y) (f:=f) (c:=c) (p:=p) (fun i h=>by rw[oth i h]) (by rw[cf];simp [newC]) pf y.cells.length
  have a2:sumTo x p y.cells.length=sumTo x p x.cells.length:=by
   rw[yl]
   split
   ·rfl
   ·exact sumTo_out (fun i h=>(hp i h).1)
  rw[a2] at a1;refine Nat.le_trans a1 (Nat.add_le_add_left ?_ _)
  split <;> omega
 ·by_cases q:i=f
  ·exact .inr q
  ·refine .inl ⟨?_,by have:=g.2.1;rw[oth i q] at this;exact this,fun d=>g.2.2 ⟨by rw[yp];exact d.1,by rw[yh];exact d.2.1,g.2.1,by rw[oth i q];exact d.2.2.2⟩⟩;have:=g.1;rw[yl] at this;split at this <;> omega
 ·rw[hc] at sp
  split at sp
  ·unfold Speaks newC at sp;rcases sp with e | e <;> simp at e
  ·exact ns i sp
 ·have e2:x.phase=2→sm D2 y.cells≤sm D2 x.cells:=fun e=>by
   have:=sm_new D2 x f 0 (newC (x.born+1) b c (newCol x f));rw[←yc] at this;have z:D2 (newC (x.born+1) b c (newCol x f))=0:=by simp [D2,newC,newCol,e]
   simp only [List.drop_zero] at this;omega
  have e4:sm D4 y.cells≤sm D4 x.cells:=by
   have:=sm_new D4 x f 0 (newC (x.born+1) b c (newCol x f));rw[←yc] at this;have z:D4 (newC (x.born+1) b c (newCol x f))=0:=by simp [D4,newC]
   simp only [List.drop_zero] at this;omega
  have e5:sm D5 (y.cells.drop x.hand.toNat)≤sm D5 (x.cells.drop x.hand.toNat)+(c+1):=by
   have:=sm_new D5 x f x.hand.toNat (newC (x.born+1) b c (newCol x f));rw[←yc] at this;have z:D5 (newC (x.born+1) b c (newCol x f))=c+1:=by simp [D5,newC]
   omega
  have ys:y.sub=x.sub:=by rw[hy];rfl
  have ym:y.room=x.room:=by rw[hy];rfl
  have hs:=s.r1.sub;have hh:=s.r1.hand
  have big2:x.phase=2→part y≤part x:=fun e=>by
   have:=e2 e;unfold part;rw[if_pos (yp.trans e),if_pos e,ys];omega
  have pl:part y≤part x+(1+c):=by
   by_cases q2:x.phase=2
   ·have:=big2 q2;omega
   unfold part;rw[yp,yh,ys,if_neg q2,if_neg q2]
   split
   ·omega
   split
   ·omega
   split
   ·omega
   ·rw[yl];split <;> omega
  unfold phi;rw[yp,ym]
  split <;> omega
theorem Mk.gs{x y:Hp}{f c:Nat}(k:Mk x y f c):gS y≤gS x+(1+c):=by
 refine Nat.le_trans ?_ (k.sum (gdB x) (fun i h=>gdB_iff.1 h));unfold gS;refine sumTo_mono (fun i h=>?_) _;rcases k.gd i (gdB_iff.1 h) with e | e
 ·rw[gdB_iff.2 e];rfl
 ·simp [e]
theorem Mk.jn{x y:Hp}{f c m:Nat}(k:Mk x y f c)(j:Jn x m):Jn y (m+(1+c)):=by
 refine⟨fun h=>?_,fun h=>Nat.le_trans k.gs (Nat.add_le_add_right (j.sw (by rw[←k.ph];exact h)) _)⟩;have mx:Marking x:=by unfold Marking at h ⊢;rw[←k.ph];exact h
 obtain⟨Q,a,b,d⟩:=j.mq mx;have e:(fun i=>Q i=true∨i=f)=fun i=>(Q i || i == f)=true:=by funext i;simp
 refine⟨fun i=>Q i || i == f,?_,?_,Nat.le_trans (k.sum Q a.g) (Nat.add_le_add_right d _)⟩
 ·have:=k.cp _ a;rw[e] at this;exact this
 ·have:=k.cw _ b;rw[e] at this;exact this
theorem Mk.lb{x y:Hp}{f c L:Nat}(k:Mk x y f c)(s:Snd x)(ns:NoSpk x)(h:LB x L):LB y (L+(1+c)):=by
 classical
 obtain⟨p,a,b⟩:=h;refine⟨fun i=>decide (Reached y i),fun i=>by simp,?_⟩;refine Nat.le_trans (Nat.le_trans (sumTo_mono (q:=fun i=>p i || i == f) (fun i h=>?_) _) (k.sum p (fun i h=>Reached.good s.r2 s.r4 ((a i).1 h)))) (Nat.add_le_add_right b _);have r:=(k.cp _ s.cpR).in (k.ns ns) (show Reached y i by simpa using h);rcases r with r | r
 ·simp [(a i).2 r]
 ·simp [r]
def acB(cB cO:Nat→Nat)(i:Nat):Option Addr:=some ⟨cB i,cO i,none⟩
theorem SAt.fw[Inhabited ProtD]{B:Nat}{w:World}{b:Nat}{z:Hp}{ar:Option Addr}{kr:Nat}{v4 v8:Value}{br bn:Nat}{cB cO:Nat→Nat}{pb:Nat→Nat}{pa:Nat→Option Addr}{pk:Nat→Nat}{kn hd:Nat}{vf:Value}{F:List Int}{vk:Value}{K:List Nat}{role:Nat→Nat}(h:SAt B w b z ar kr v4 v8 br cB cO bn pb pa pk kn hd vf F vk K role){x:Hp}(hl:z.cells.length=x.cells.length)(hs:∀q,(z.c q).st=(x.c q).st∧(z.c q).to=(x.c q).to):FwAt w b x (acB cB cO) (some ⟨bn,0,none⟩) kn:=
 ⟨by rw[←hl];exact h.sb.n13,fun i hi=>by
  rw[←hl] at hi;obtain⟨p0,_,_,_,_,_,p6⟩:=h.rw.s i hi;rw[(hs i).1] at p0;rw[(hs i).2] at p6;exact⟨bn,0,cB i,cO i,rfl,rfl,by rw[Nat.zero_add];exact(h.sb.nd i hi).2,p0,p6⟩⟩
theorem SAt.vn[Inhabited ProtD]{B:Nat}{w:World}{b:Nat}{z:Hp}{ar:Option Addr}{kr:Nat}{v4 v8:Value}{br bn:Nat}{cB cO:Nat→Nat}{pb:Nat→Nat}{pa:Nat→Option Addr}{pk:Nat→Nat}{kn hd:Nat}{vf:Value}{F:List Int}{vk:Value}{K:List Nat}{role:Nat→Nat}(h:SAt B w b z ar kr v4 v8 br cB cO bn pb pa pk kn hd vf F vk K role)(hr:z.regs.length≤100)(hp:∀i,i<z.cells.length→(z.c i).prs.length≤200):VNt w b z ar kr (acB cB cO) (some ⟨bn,0,none⟩) kn:=
 ⟨⟨h.sb.bx.2.2.2.1,by omega,fun i hi=>⟨br,0,h.sb.ha (by omega),by rw[Nat.zero_add];exact h.rw.r i hi⟩,fun i hi=>by
  obtain⟨p0,p1,p2,p3,p4,p5,p6⟩:=h.rw.s i hi;refine⟨cB i,cO i,rfl,_,p0,p1,p2,p3,p4,p5,p6,h.rw.p7 i hi,pa i,pk i,rfl,by have:=hp i hi;omega,fun k hk=>?_⟩;refine⟨pb i,0,(h.rw.pl i hi (h.rw.pw hi (by omega))).1,?_⟩;rw[Nat.zero_add,Cl.p_eq _ _ hk];exact h.rw.p i hi k hk⟩,h.sb.n13,fun i hi=>⟨bn,0,cB i,cO i,rfl,rfl,by rw[Nat.zero_add];exact(h.sb.nd i hi).1,by rw[Nat.zero_add];exact(h.sb.nd i hi).2⟩⟩
structure Bxs(w:World)(b r bs bh bx bl bn i:Nat)(Mt:List Nat):Prop where
 s:w.cell? ⟨bs,0,none⟩=some (.pointer (some ⟨b,0,none⟩))
 h:w.cell? ⟨bh,0,none⟩=some (.map (some r))
 n:w.cell? ⟨bx,0,none⟩=some (ndp bn i)
 l:w.cell? ⟨bl,0,none⟩=some (.func (.func 214) #[] #[.pointer (some ⟨bs,0,none⟩),.pointer (some ⟨bh,0,none⟩)])
 m:MapAt w r bn (Mt.map (fun i=>i*2))
 rl:r<w.heap.size
theorem Bxs.blocks{w w':World}{b r bs bh bx bl bn i:Nat}{Mt:List Nat}(h:Bxs w b r bs bh bx bl bn i Mt)(hs:w.heap.size≤w'.heap.size)(e:∀q,q<w.heap.size→q=bs∨q=bh∨q=bx∨q=bl∨q=r→w'.heap[q]?=w.heap[q]?):Bxs w' b r bs bh bx bl bn i Mt:=
 ⟨(World.cell?_of_block (a:=⟨bs,0,none⟩) (e bs (cell_lt h.s) (by simp))).trans h.s,(World.cell?_of_block (a:=⟨bh,0,none⟩) (e bh (cell_lt h.h) (by simp))).trans h.h,(World.cell?_of_block (a:=⟨bx,0,none⟩) (e bx (cell_lt h.n) (by simp))).trans h.n,(World.cell?_of_block (a:=⟨bl,0,none⟩) (e bl (cell_lt h.l) (by simp))).trans h.l,h.m.block (e r h.rl (by simp)),Nat.lt_of_lt_of_le h.rl hs⟩
theorem Bxs.ext{w w':World}{b r bs bh bx bl bn i:Nat}{Mt:List Nat}(h:Bxs w b r bs bh bx bl bn i Mt)(e:Ext w w'):Bxs w' b r bs bh bx bl bn i Mt:=h.blocks e.size fun q hq _=>e.block q hq
theorem GoAt.only{S:Nat→Prop}{w w':World}{b r bs bh bx bl:Nat}{x:Hp}{cB cO:Nat→Nat}{bn kn:Nat}{Mt:List Nat}{i:Nat}(h:GoAt w b r bs bh bx bl x (acB cB cO) bn kn Mt i)(hi:i<x.cells.length)(o:Only S w w')(hS:∀q,q=bs∨q=bh∨q=bx∨q=bl∨q=r∨q=b∨q=bn→¬S q)(hC:∀j,j<x.cells.length→¬S (cB j)):GoAt w' b r bs bh bx bl x (acB cB cO) bn kn Mt i:=by
 refine⟨⟨o.keep (hS bs (by simp)) h.lo.s,o.keep (hS bh (by simp)) h.lo.h,⟨o.keep (hS b (by simp)) h.lo.f.n13,fun j hj=>?_⟩,h.lo.m.block (o.block r h.lo.rl (hS r (by simp))),Nat.lt_of_lt_of_le h.lo.rl o.size⟩,o.keep (hS bx (by simp)) h.n,o.keep (hS bl (by simp)) h.l,?_⟩
 ·obtain⟨b1,o1,b2,o2,e1,e2,p,q,r⟩:=h.lo.f.N j hj;cases e1;cases e2;exact⟨bn,0,cB j,_,rfl,rfl,o.keep (hS bn (by simp)) p,o.keep (hC j hj) q,o.keep (hC j hj) r⟩
 ·obtain⟨b2,o2,e2,p,q⟩:=h.c;cases e2;exact⟨cB i,_,rfl,o.keep (hS bn (by simp)) p,o.keep (hC i hi) q⟩
theorem SAt.rowTo[Inhabited ProtD]{B:Nat}{w:World}{b:Nat}{z:Hp}{ar:Option Addr}{kr:Nat}{v4 v8:Value}{br bn:Nat}{cB cO:Nat→Nat}{pb:Nat→Nat}{pa:Nat→Option Addr}{pk:Nat→Nat}{kn hd:Nat}{vf:Value}{F:List Int}{vk:Value}{K:List Nat}{role:Nat→Nat}{w':World}(h:SAt B w b z ar kr v4 v8 br cB cO bn pb pa pk kn hd vf F vk K role)(i:Nat)(hi:i<z.cells.length)(r0:0<z.regs.length)(L:List Pr)(qb:Nat)(qa:Option Addr)(qk:Nat)(hL:L.length≤qk)(o:Only (fun q=>q=cB i∨(q=pb i∧0<pk i)) w w')(nfc:Nf1 (cB i) w')(hq0:(qb=pb i∧0<pk i)∨w.heap.size≤qb)(hN:0<qk→qa=some ⟨qb,0,none⟩∧Nfp qb qk w')(hBq:B≤qb)(c7:w'.cell? ⟨cB i,cO i+7,none⟩=some (.slice qa L.length qk))(co:∀j,j≠cO i+7→w'.cell? ⟨cB i,j,none⟩=w.cell? ⟨cB i,j,none⟩)(hp:PRow w' qb L):
  SAt B w' b { z with cells:=z.cells.set i { z.c i with prs:=L } } ar kr v4 v8 br cB cO bn (fun q=>if q=i then qb else pb q) (fun q=>if q=i then qa else pa q) (fun q=>if q=i then qk else pk q) kn hd vf F vk K (fun d=>if w.heap.size≤d then 6+i else role d):=by
 have old:∀q,q<w.heap.size→(if w.heap.size≤q then 6+i else role q)=role q:=fun q hq=>if_neg (by omega)
 have far:∀q,q<w.heap.size→role q≠3→role q≠6+i→w'.heap[q]?=w.heap[q]?:=fun q hq hr hr2=>o.block q hq (fun e=>by
  rcases e with e | ⟨e,e2⟩
  ·exact hr (by rw[e];exact h.sp.c i hi)
  ·exact hr2 (by rw[e];exact h.sp.p i hi e2))
 have hl:({ z with cells:=z.cells.set i { z.c i with prs:=L } }:Hp).cells.length=z.cells.length:=by simp
 have hc:=Hp.c_set z i { z.c i with prs:=L } hi;have hne:∀q,q≠i→(({ z with cells:=z.cells.set i { z.c i with prs:=L } }:Hp).c q)=z.c q:=fun q e=>by rw[hc q,if_neg e]
 have hei:(({ z with cells:=z.cells.set i { z.c i with prs:=L } }:Hp).c i)={ z.c i with prs:=L }:=by rw[hc i,if_pos rfl]
 have qne:∀q,q<w.heap.size→role q≠6+i→q≠qb:=fun q hq hr e=>by
  rcases hq0 with⟨e1,e2⟩ | e1
  ·exact hr (by rw[e,e1];exact h.sp.p i hi e2)
  ·omega
 have pf:∀q,q<z.cells.length→q≠i→0<pk q→w'.heap[pb q]?=w.heap[pb q]?:=fun q hq hqi hl=>far (pb q) (h.rw.pl q hq hl).2.1.1 (by rw[h.sp.p q hq hl];omega) (by rw[h.sp.p q hq hl];omega)
 have sb2:=h.sb.same o.size (far b h.sb.nb.1 (by rw[h.sp.b];omega) (by rw[h.sp.b];omega)) (far bn h.sb.lo.2.2.1 (by rw[h.sp.n];omega) (by rw[h.sp.n];omega)) (fun q hq=>far q (h.sb.fr.own.lt q hq).2 (by rw[h.sp.f q hq];omega) (by rw[h.sp.f q hq];omega)) (fun q hq=>far q (h.sb.kp.lt q hq).2 (by rw[h.sp.k q hq];omega) (by rw[h.sp.k q hq];omega))
 have cf:∀q,q<z.cells.length→cB q≠cB i→w'.heap[cB q]?=w.heap[cB q]?:=fun q hq e=>o.block (cB q) (h.rw.nc q hq).1.1 (fun e2=>by
  rcases e2 with e2 | ⟨e2,e3⟩
  ·exact e e2
  ·exact(h.rw.pl i hi e3).2.2.1.2 q hq e2.symm)
 have ck:∀q,q<z.cells.length→q≠i→∀k,k<8→w'.cell? ⟨cB q,cO q+k,none⟩=w.cell? ⟨cB q,cO q+k,none⟩:=fun q hq e k hk=>by
  by_cases e2:cB q=cB i
  ·rw[e2];rcases h.rw.dc q i hq hi e with d | d | d
   ·exact(d e2).elim
   ·exact co _ (by omega)
   ·exact co _ (by omega)
  ·exact World.cell?_of_block (a:=⟨cB q,_,none⟩) (cf q hq e2)
 have cn:∀q,q<z.cells.length→Nf1 (cB q) w':=fun q hq=>by
  by_cases e2:cB q=cB i
  ·rw[e2];exact nfc
  ·exact nf1_block (h.rw.nc q hq).1 (cf q hq e2) o.size
 have fr:0<z.regs.length→w'.heap[br]?=w.heap[br]?:=fun hr=>far br (h.rw.nr hr).1.1 (by rw[h.sp.r hr];omega) (by rw[h.sp.r hr];omega)
 refine⟨⟨sb2.bx,sb2.ha,by rw[hl];exact sb2.n13,fun k hk=>sb2.nd k (by rw[hl] at hk;exact hk),sb2.fr,sb2.rg,sb2.k0,sb2.kp,sb2.nb,sb2.lo⟩,⟨fun j hj=>?_,fun q hq=>?_,fun q hq=>?_,fun q hq j hj=>?_,fun q hq hlq=>?_,fun hr=>⟨nf1_block (h.rw.nr hr).1 (fr hr) o.size,(h.rw.nr hr).2⟩,fun q hq=>⟨cn q (by rw[hl] at hq;exact hq),(h.rw.nc q (by rw[hl] at hq;exact hq)).2⟩,fun q hq=>h.rw.d q (by rw[hl] at hq;exact hq),fun q q' hq hq' hqq h1 h2=>?_,fun q q' hq hq' hne=>h.rw.dc q q' (by rw[hl] at hq;exact hq) (by rw[hl] at hq';exact hq') hne,fun q hq=>?_⟩,⟨by rw[old b h.sb.nb.1];exact h.sp.b,by rw[old bn h.sb.lo.2.2.1];exact h.sp.n,fun hr=>by rw[old br (h.rw.nr hr).1.1];exact h.sp.r hr,fun q hq=>by rw[hl] at hq;rw[old (cB q) (h.rw.nc q hq).1.1];exact h.sp.c q hq,fun q hq=>by rw[old q (h.sb.fr.own.lt q hq).2];exact h.sp.f q hq,fun q hq=>by rw[old q (h.sb.kp.lt q hq).2];exact h.sp.k q hq,fun q hq hlq=>?_⟩,h.pr.of (fun q hq h1=>far q hq (by rw[h1];omega) (by rw[h1];omega)) (fun q hq h1=>by(try dsimp only);rw[old q hq];exact h1)⟩
 ·exact(h.rw.r j hj).of fun m _=>World.cell?_of_block (a:=⟨br,_,none⟩) (fr (by have:j<z.regs.length:=hj;omega))
 ·rw[hl] at hq;by_cases e:q=i
  ·subst e;rw[hei];exact(h.rw.s q hq).of fun m hm=>co _ (by omega)
  ·rw[hne q e];exact(h.rw.s q hq).of fun m hm=>ck q hq e m (by omega)
 ·rw[hl] at hq;by_cases e:q=i
  ·subst e;rw[hei];simp only [if_true];exact c7
  ·rw[hne q e];simp only [if_neg e];rw[ck q hq e 7 (by omega)];exact h.rw.p7 q hq
 ·rw[hl] at hq;by_cases e:q=i
  ·subst e;rw[hei] at hj ⊢;simp only [if_true];have:=hp j hj;rw[Cl.p_eq { z.c q with prs:=L } j hj] at this;exact this
  ·rw[hne q e] at hj ⊢;simp only [if_neg e];exact(h.rw.p q hq j hj).of fun m _=>World.cell?_of_block (a:=⟨pb q,_,none⟩) (pf q hq e (h.rw.pw hq (by omega)))
 ·rw[hl] at hq;by_cases e:q=i
  ·subst e;simp only [if_true] at hlq ⊢;obtain⟨a1,a2⟩:=hN hlq;refine⟨a1,a2,⟨fun e=>?_,fun j hj e=>?_⟩,hBq⟩
   ·exact qne br (h.rw.nr r0).1.1 (by rw[h.sp.r r0];omega) e.symm
   ·rw[hl] at hj;exact qne (cB j) (h.rw.nc j hj).1.1 (by rw[h.sp.c j hj];omega) e.symm
  ·simp only [if_neg e] at hlq ⊢;obtain⟨a1,a2,a3,a4⟩:=h.rw.pl q hq hlq;exact⟨a1,nfp_block a2 (pf q hq e hlq) o.size,⟨a3.1,fun j hj=>a3.2 j (by rw[hl] at hj;exact hj)⟩,a4⟩
 ·rw[hl] at hq hq';by_cases e:q=i
  ·subst e;have e':q'≠q:=fun e=>hqq e.symm
   simp only [if_true,if_neg e'] at h1 h2 ⊢;exact fun u=>qne (pb q') (h.rw.pl q' hq' h2).2.1.1 (by rw[h.sp.p q' hq' h2];omega) u.symm
  ·by_cases e2:q'=i
   ·subst e2;simp only [if_true,if_neg e] at h1 h2 ⊢;exact qne (pb q) (h.rw.pl q hq h1).2.1.1 (by rw[h.sp.p q hq h1];omega)
   ·simp only [if_neg e,if_neg e2] at h1 h2 ⊢;exact h.rw.dp q q' hq hq' hqq h1 h2
 ·rw[hl] at hq;by_cases e:q=i
  ·subst e;rw[hei];simp only [if_true];exact hL
  ·rw[hne q e];simp only [if_neg e];exact h.rw.kp q hq
 ·rw[hl] at hq;by_cases e:q=i
  ·subst e;simp only [if_true] at hlq ⊢;rcases hq0 with⟨e1,e2⟩ | e1
   ·rw[e1,old (pb q) (h.rw.pl q hq e2).2.1.1];exact h.sp.p q hq e2
   ·rw[if_pos e1]
  ·simp only [if_neg e] at hlq ⊢;rw[old (pb q) (h.rw.pl q hq hlq).2.1.1];exact h.sp.p q hq hlq
theorem shadeW_regs(x:Hp)(y:Wd):(shadeW x y).regs=x.regs:=by
 unfold shadeW
 split
 ·exact(shade_same x _).2.2.2.1
 ·rfl
theorem fold_regs:∀(ys:List Wd) (z:Hp),(ys.foldl shadeW z).regs=z.regs
 | [],_=>rfl
 | y::ys,z=>(fold_regs ys (shadeW z y)).trans (shadeW_regs z y)
theorem uregs1(x:Hp):(unit1 x).regs=x.regs:=by
 unfold unit1
 split
 ·rfl
 ·by_cases e:spkB (x.c x.hand.toNat)=true
  ·simp only [if_pos e];exact(shade_same x _).2.2.2.1
  ·simp only [if_neg e]
theorem uregs2(x:Hp):(unit2 x).regs=x.regs:=by
 unfold unit2
 split
 ·split
  ·exact(shadeW_regs _ _).trans (shadeW_regs _ _)
  ·rfl
 ·split
  ·exact fold_regs x.regs x
  ·exact fold_regs x.regs x
theorem uregs3(x:Hp):(unit3 x).regs=x.regs:=by
 unfold unit3
 split
 ·rfl
 ·split <;> rfl
theorem uregs5(x:Hp):(unit5 x).regs=x.regs:=by
 unfold unit5
 split
 ·rfl
 ·split <;> rfl
theorem uregs6(x:Hp):(unit6 x).regs=x.regs:=by
 unfold unit6 dropH
 split
 ·rfl
 ·split <;> rfl
def KpN(x y:Hp)(a:Nat):Prop:=(y.r a).k=2∧(y.c (y.at a)).prs.length=(x.c (x.at a)).prs.length
theorem KpN.same{x y:Hp}{a:Nat}(hr:y.regs=x.regs)(h2:(x.r a).k=2)(hc:(y.c (x.at a)).prs.length=(x.c (x.at a)).prs.length):KpN x y a:=by
 have e:y.r a=x.r a:=by unfold Hp.r;rw[hr]
 unfold KpN Hp.at;rw[e];exact⟨h2,hc⟩
theorem KpN.unit4{x:Hp}(s:Snd x){a:Nat}(ha:a<16)(h2:(x.r a).k=2):KpN x (unit4 x) a:=by
 obtain⟨_,ea,hi,s1,_⟩:=s.at a ha h2;unfold Go.Proofs.YtddkhnclmeikfaaGreat.unit4
 split
 ·exact KpN.same rfl h2 rfl
 ·rename_i hlt;obtain⟨t,et⟩:∃t,t=fstFree x:=⟨_,rfl⟩;have ft:=fstFree_is x;rcases lstUsed_is x x.cells.length with⟨l1,_⟩ | ⟨f,l1,l2,l3,_⟩
  ·omega
  ·rw[l1] at hlt ⊢;rw[←et] at ft hlt ⊢;have e0:((f:Int)).toNat=f:=by omega
   rw[e0];have tl:t<x.cells.length:=by omega
   have t0:=ft.2.2 tl
   have mc:∀q,(moveH x t f).c q=if q=f then mvC t else if q=t then x.c f else x.c q:=fun q=>by
    show({ ({ x with cells:=x.cells.set t (x.c f) }:Hp) with cells:=(x.cells.set t (x.c f)).set f (mvC t) }:Hp).c q=_;rw[Hp.c_set ({ x with cells:=x.cells.set t (x.c f) }:Hp) f (mvC t) (by simp;omega) q,Hp.c_set x t (x.c f) tl q]
   have er:(moveH x t f).r a=mvW t f (x.r a):=by
    have ra:=s.r1.regs;unfold Hp.r;show(x.regs.map (mvW t f)).getD a Wd0=_;rw[List.getD_eq_getElem?_getD,List.getD_eq_getElem?_getD,List.getElem?_map,List.getElem?_eq_getElem (by omega)];rfl
   unfold KpN Hp.at;rw[er];unfold mvW;by_cases e:(x.r a).a=(f:Int)
   ·rw[if_pos ⟨h2,e⟩];refine⟨rfl,?_⟩;show((moveH x t f).c ((t:Int)).toNat).prs.length=_;rw[show((t:Int)).toNat=t by omega,mc t,if_neg (by omega),if_pos rfl,e,e0]
   ·rw[if_neg (fun u=>e u.2)];refine⟨h2,?_⟩;have hx:(x.r a).a.toNat=x.at a:=rfl;rw[hx,mc,if_neg (by omega),if_neg (fun u=>by rw[u] at s1;omega)]
theorem KpN.unit{x:Hp}(s:Snd x){a:Nat}(ha:a<16)(h2:(x.r a).k=2):KpN x (unitH x) a:=by
 obtain⟨_,ea,hi,s1,nd⟩:=s.at a ha h2;unfold unitH
 split
 ·exact KpN.same (uregs1 x) h2 (uprs1 x _)
 split
 ·exact KpN.same (uregs2 x) h2 (uprs2 x _)
 split
 ·rename_i e;exact KpN.same (uregs3 x) h2 (uprs3 x s e _ hi s1 nd)
 split
 ·exact KpN.unit4 s ha h2
 split
 ·exact KpN.same (uregs5 x) h2 (uprs5 x _)
 split
 ·exact KpN.same (uregs6 x) h2 (uprs6 x s _ hi s1)
 ·exact KpN.same rfl h2 rfl
theorem KpN.it{x:Hp}(s:Snd x){a:Nat}(ha:a<16)(h2:(x.r a).k=2):∀k,KpN x (itU k x) a
 | 0=>⟨h2,rfl⟩
 | k+1=>by
  have i:=KpN.it s ha h2 k;have j:=KpN.unit (s.itU k) ha i.1;exact⟨j.1,j.2.trans i.2⟩
theorem KpN.room{x z:Hp}{u:Nat}(s:Snd x){a:Nat}(ha:a<16)(h2:(x.r a).k=2)(h:RoomIs x u z):KpN x z a:=by
 rcases h with h | ⟨_,y,h3,h4⟩
 ·rw[h.2];exact⟨h2,rfl⟩
 ·have sf:=s.forceTo;have sy:=h3.snd sf;obtain⟨k,_,e⟩:=h3;obtain⟨m,_,e2⟩:=h4;have i:KpN (forceTo x) y a:=by rw[e];exact KpN.it sf ha h2 k
  have j:KpN (toPh y 1 0) z a:=by rw[e2];exact KpN.it (sy.1.begin sy.2) ha i.1 m
  exact⟨j.1,j.2.trans i.2⟩
theorem GrowIs.snd{x:Hp}{a c i:Nat}{y:Hp}{cd nm:Int}(s:Snd x)(ha:a<16)(h2:(x.r a).k=2)(hi:i=x.at a)(h:GrowIs x a c i y cd nm):Snd y:=by
 rcases h.2 with h | ⟨hl,z,hz,h | h⟩
 ·rw[h.2.1];exact s
 ·rw[h.2.1];exact hz.snd s
 ·have sz:=hz.snd s;obtain⟨k1,k2⟩:=KpN.room s ha h2 hz;obtain⟨_,_,p3,p4,_⟩:=sz.at a ha k1;have hu:z.used+c≤z.room:=by have e:=h.1;unfold fitsB at e;exact of_decide_eq_true e
  exact h.2.2.snd (sz.grow (z.at a) c p3 p4 (by rw[k2,←hi];exact hl) hu)
theorem HalfIs.nm{x:Hp}{f c:Nat}{y:Hp}{cd nm:Int}{R:Nat→Prop}(h:HalfIs x f c y cd nm R):nm=0:=by
 rcases h with h | h | h
 ·exact h.2.2.2
 ·exact h.2.2.2.2
 ·exact h.2.2.2.2
theorem CellIs.nm{x:Hp}{f:Nat}{y:Hp}{cd nm:Int}{R:Nat→Prop}(h:CellIs x f y cd nm R)(hc:cd≠0)(hR:∀i,R i→cd≠0→nm=0):nm=0:=by
 rcases h with h | h
 ·exact h.2.2.2
 ·exact hR _ h.2 hc
theorem DoR.nm{x:Hp}{a b c:Nat}{n:Int}{y:Hp}{cd nm:Int}{k:Nat}(h:DoR x a b c n y cd nm k)(hc:cd≠0):nm=0:=by
 unfold DoR at h
 split at h
 ·exact h.1
 ·exact absurd h.2.1 hc
 ·exact absurd h.2.1 hc
 ·exact absurd h.2.1 hc
 ·exact h.nm
 ·exact h.nm
 ·exact h.nm
 ·exact h.nm
 ·exact h.nm hc (fun i r _=>r.1)
 ·exact h.nm hc (fun i r q=>absurd r.2.1 q)
 ·exact h.nm hc (fun i r q=>absurd r.2.1 q)
 ·exact h.nm hc (fun i r q=>absurd r.2.1 q)
 ·exact absurd h.2.1 hc
 ·exact absurd h.2.1 hc
 ·rcases h.2 with e | e
  ·exact e.2.2
  ·exact absurd e.2.1 hc
 ·exact h.nm hc (fun i r q=>absurd r.2.1 q)
 ·exact h.nm hc (fun i r q=>absurd r.2.1 q)
 ·exact absurd h.1 hc
 ·exact absurd h.1 hc
 ·exact absurd h.2.1 hc
 ·exact absurd h.2.1 hc
 ·exact absurd h.1 hc
 ·exact absurd h.2.1 hc
 ·exact absurd h.1 hc
 ·exact h.elim
def ansW(w:World)(k:Int)(a q c n:Int):World:=(w.alloc (.cells #[iv k,iv a,iv q,iv c,iv n] 39)).alloc (.cells #[.int .i64 0,.int .i64 0] 41)
theorem ansW_obj(w:World)(k a q c n:Int):(ansW w k a q c n).heap[w.heap.size+1]?=some (.cells #[iv 0,iv 0] 41):=by
 show(((w.heap.push _).push _)[w.heap.size+1]?)=_;rw[←Array.size_push,Array.getElem?_push_size]
theorem ansW_size(w:World)(k a q c n:Int):(ansW w k a q c n).heap.size=w.heap.size+2:=by
 show((w.heap.push _).push _).size=_;rw[Array.size_push,Array.size_push]
theorem frH_snd(n:Int)(h1:1≤n)(h2:n≤4000):Snd (frH n):=by
 have hc:(frH n).cells=[]:=rfl;refine⟨⟨⟨h1,h2⟩,by simp [frH],by simp [frH];omega,by simp [frH],by simp [frH],by simp [frH],by simp [frH],by simp [frH],by simp [frH],by simp [frH],by simp [frH],by simp [frH]⟩,⟨fun i hi=>by simp [hc] at hi,fun i hi=>by simp [hc] at hi⟩,⟨by simp [frH,units],by simp [frH];omega⟩,⟨fun i hi=>?_,fun i hi=>by simp [hc] at hi⟩,⟨fun _=>rfl,fun i hi=>by simp [hc] at hi,fun q hq=>by simp [frH] at hq⟩,⟨fun _=>⟨rfl,rfl⟩,fun e=>by simp [frH] at e,fun e=>by simp [frH] at e,fun _=>rfl⟩,fun _ i hi=>by simp [hc] at hi,fun i hi=>by simp [hc] at hi⟩;have e:(frH n).regs[i]=⟨0,0,0⟩:=List.eq_of_mem_replicate (n:=16) (List.getElem_mem hi);rw[e];exact⟨.inl ⟨rfl,rfl,rfl⟩,fun h=>by cases h⟩
def zw(n:Nat):Array Value:=Array.replicate n (iv 0)
theorem mk16(w:World):(Instr.makeSlice 30 (.int .i64 16) (.int .i64 16)).run Tryz.prog w=.ok (.slice (some ⟨w.heap.size,0,none⟩) 16 16) (w.alloc (.cells (zw 48) 152)):=by kernel_rfl
def Cu(v w:World)(c m:Nat):Prop:=Ext v w∧v.heap.size≤c∧Nf1 c w∧∃(ad:Option Addr) (n k:Nat) (a s:Int),w.cell? ⟨c,0,none⟩=some (.slice ad n k)∧w.cell? ⟨c,1,none⟩=some (iv a)∧w.cell? ⟨c,2,none⟩=some (.int .u64 s)∧0≤a∧a≤m∧n≤1048576∧∀i,i<n→∃b o z,ad=some ⟨b,o,none⟩∧v.cell? ⟨b,o+i,none⟩=some (.int .u8 z)∧0≤z∧z<256
theorem Cu.drew{v w:World}{c m:Nat}(h:Cu v w c m):Cu v w.drew c m:=by
 obtain⟨e,l,nf,ad,n,k,a,s,c0,c1,c2,r⟩:=h;exact⟨e.drew,l,nf,ad,n,k,a,s,c0,c1,c2,r⟩
theorem Cu.put1{v w:World}{c m k:Nat}(h:Cu v w c m){i:Int}(h0:0≤i)(hk:i≤k):Cu v (w.setCell ⟨c,1,none⟩ (iv i)) c k:=by
 obtain⟨e,l,nf,ad,n,k,a,s,c0,c1,c2,_,_,r⟩:=h;exact⟨e.setCell l _,l,nf.set _ _,ad,n,k,i,s,by rw[cell_other _ (.inr (by omega))];exact c0,Open.same ⟨⟨_,c1⟩,nf.2 1⟩ _,by rw[cell_other _ (.inr (by omega))];exact c2,h0,hk,r⟩
theorem Cu.put2{v w:World}{c m:Nat}(h:Cu v w c m)(u:Int):Cu v (w.setCell ⟨c,2,none⟩ (.int .u64 u)) c m:=by
 obtain⟨e,l,nf,ad,n,k,a,s,c0,c1,c2,r⟩:=h;exact⟨e.setCell l _,l,nf.set _ _,ad,n,k,a,u,by rw[cell_other _ (.inr (by omega))];exact c0,by rw[cell_other _ (.inr (by omega))];exact c1,Open.same ⟨⟨_,c2⟩,nf.2 2⟩ _,r⟩
def CuPost(v w:World)(c m:Nat)(n:Int)(e:Ending)(w':World):Prop:=∃r:Int,Hid (e=.returned (iv r))∧0≤r∧r<n∧Hid (Cu v w' c m)∧Hid (Only (fun q=>q=c) w w')
theorem and255(x:Int)(n:Nat):0≤wrap64 (bits .and .u64 (IntKind.u64.wrap x / n) 255)∧wrap64 (bits .and .u64 (IntKind.u64.wrap x / n) 255)<256:=by
 have h0:0≤IntKind.u64.wrap x∧IntKind.u64.wrap x<18446744073709551616:=by rw[IntKind.wrap_u64];omega
 obtain⟨k,hk⟩:∃k:Nat,IntKind.u64.wrap x=k:=⟨(IntKind.u64.wrap x).toNat,by omega⟩;rw[hk] at h0 ⊢;have e:((k:Int) / (n:Int))=((k / n:Nat):Int):=by simp
 have hd:k / n≤k:=Nat.div_le_self _ _;have h2:=bits_and_u64_nat (k / n) 255 (by omega) (by omega);rw[e,show(255:Int)=((255:Nat):Int) from rfl,h2];have h3:k / n &&& 255≤255:=Nat.and_le_right;unfold wrap64;omega
theorem gnext_any(v w:World)(c m:Nat)(h:Cu v w c m)(hm:m≤1000000000):
  Calls Tryz.prog 98 #[.pointer (some ⟨c,0,none⟩)] w fun e w'=>CuPost v w c (m+1) 256 e w':=by
 have H:=hide h;obtain⟨e,l,nf,ad,n,k,a,s,c0,c1,c2,a0,am,hn,hx⟩:=h;have hc:c<w.heap.size:=nf.1;have f1:=nf.2 1;have f2:=nf.2 2;by_cases hl:a<n
 ·obtain⟨b,o,z,rfl,hz,z0,z1⟩:=hx a.toNat (by omega);have hb:=e.keep hz;have hbv:b<v.heap.size:=cell_lt hz;have hbc:¬b=c:=by omega
  obtain⟨i,rfl⟩:∃i:Nat,a=i:=⟨a.toNat,by omega⟩;simp only [Int.toNat_natCast] at hb;have hb2:b<w.heap.size:=cell_lt hb;clear hx hz e;go_enter Tryz.func98,Tryz.ntmps98;go_wp2_with fail
  go_region
  go_wp2_with fail
  go_region
  go_wp2_with fail;go_ret;exact⟨z,rfl,z0,z1,(((unhide H).put1 (by omega) (by omega)).put2 _).drew.drew,(((Only.refl _ w).setCell (by rfl) _).setCell (by rfl) _).drew.drew⟩
 ·have hl2:(a<(n:Int))=False:=by simp;omega
  clear hx e;go_enter Tryz.func98,Tryz.ntmps98;go_wp2_with fail
  go_region
  go_wp2_with fail;have B:=and255 (IntKind.u64.wrap (s*6364136223846793005)+1442695040888963407) 1099511627776;go_ret;exact⟨_,rfl,B.1,B.2,(((unhide H).put2 _).put1 (by omega) (by omega)).drew,(((Only.refl _ w).setCell (by rfl) _).setCell (by rfl) _).drew⟩
theorem Cu.more{v w:World}{c m k:Nat}(h:Cu v w c m)(hk:m≤k):Cu v w c k:=by
 obtain⟨e,l,nf,ad,n,q,a,s,c0,c1,c2,a0,am,r⟩:=h;exact⟨e,l,nf,ad,n,q,a,s,c0,c1,c2,a0,by omega,r⟩
theorem pick_any(v w:World)(c m:Nat)(n:Int)(h:Cu v w c m)(hm:m≤999999999)(hn:n≤1000000)(h1:-1000000≤n):
  Calls Tryz.prog 54 #[.pointer (some ⟨c,0,none⟩),iv n] w fun e w'=>CuPost v w c (m+2) (if n≤1 then 1 else n) e w':=by
 have H:=hide h;have Q:=hide (gnext_any v w c m h (by omega));clear h;by_cases hl:n≤1
 ·rw[if_pos hl];have e1:(n≤1)=True:=by simp [hl]
  go_enter Tryz.func54,Tryz.ntmps54;go_wp2_with fail;go_ret;exact⟨0,rfl,by omega,by omega,(unhide H).more (by omega),Only.refl _ _⟩
 ·rw[if_neg hl];by_cases h2:n > 200
  ·go_enter Tryz.func54,Tryz.ntmps54;go_wp2_with fail;refine(unhide Q).mono ?_;rintro e w1 ⟨r,he,r0,r1,q1,o1⟩;have e2:=unhide he;subst e2;have Q2:=hide (gnext_any v w1 c (m+1) (unhide q1) (by omega));go_wp2_with fail;refine(unhide Q2).mono ?_;rintro e w2 ⟨t,he,t0,t1,q2,o2⟩;have e2:=unhide he;subst e2;go_wp2_with fail;go_ret;exact⟨_,rfl,Int.emod_nonneg _ (by omega),Int.emod_lt_of_pos _ (by omega),unhide q2,(unhide o1).trans (unhide o2)⟩
  ·go_enter Tryz.func54,Tryz.ntmps54;go_wp2_with fail;refine(unhide Q).mono ?_;rintro e w1 ⟨r,he,r0,r1,q1,o1⟩;have e2:=unhide he;subst e2;go_wp2_with fail;go_ret;exact⟨_,rfl,Int.emod_nonneg _ (by omega),Int.emod_lt_of_pos _ (by omega),(unhide q1).more (by omega),unhide o1⟩
theorem pick_n(v w:World)(c m:Nat)(n:Int)(h:Cu v w c m)(hm:m≤999999999)(hn:n≤1000000)(h1:1≤n):
  Calls Tryz.prog 54 #[.pointer (some ⟨c,0,none⟩),iv n] w fun e w'=>CuPost v w c (m+2) n e w':=by
 have:=pick_any v w c m n h hm hn (by omega);have e:(if n≤1 then 1 else n)=n:=by split <;> omega
 rw[e] at this;exact this
def fA(y:Ak):List Value:=[iv y.op,iv y.a,iv y.b,iv y.c,iv y.n]
theorem ownA{w:World}{base:Nat}{v:Value}{L:List Ak}(h:w.ownsRow base 39 5 v L.length (L.flatMap fA))(hl:L.length≤1048576):SlA w v L:=by
 obtain⟨ad,cap,e,_,hx⟩:=own_cells (f:=fA) (fun _=>rfl) h;refine⟨ad,cap,e,by omega,fun i hi=>?_⟩;obtain⟨g,ea,_,_,hc⟩:=hx i hi;exact⟨g,0,ea,by have:=hc 0 (by omega);simpa [fA] using this,by have:=hc 1 (by omega);simpa [fA] using this,by have:=hc 2 (by omega);simpa [fA] using this,by have:=hc 3 (by omega);simpa [fA] using this,by have:=hc 4 (by omega);simpa [fA] using this⟩
def ByAt(w:World)(v:Value):Prop:=∃(ad:Option Addr) (n k:Nat),v=.slice ad n k∧n≤1048576∧∀i,i<n→∃b o z,ad=some ⟨b,o,none⟩∧w.cell? ⟨b,o+i,none⟩=some (.int .u8 z)∧0≤z∧z<256
theorem wByte_any(w:World)(u:Value)(i:Nat)(hi:i<1000)(h:ByAt w u):
  Calls Tryz.prog 29 #[u,iv i] w fun e w'=>∃r:Int,Hid (e=.returned (iv r))∧0≤r∧r<256∧w'=w:=by
 obtain⟨ad,n,k,rfl,hn,hx⟩:=h;by_cases h0:n=0
 ·subst h0;go_enter Tryz.func29,Tryz.ntmps29;go_wp2_with fail;go_ret;exact⟨_,rfl,by omega,by omega,rfl⟩
 ·obtain⟨b,o,z,rfl,c0,z0,z1⟩:=hx (i % n) (Nat.mod_lt _ (by omega));have e0:((n:Int) == 0)=false:=by simp;omega
  have e1:((i:Int) % (n:Int))=((i % n:Nat):Int):=by simp
  obtain⟨j,hj⟩:∃j,j=i % n:=⟨_,rfl⟩;have hm:j<n:=by rw[hj];exact Nat.mod_lt _ (by omega)
  rw[←hj] at c0 e1;have j0:(0:Int)≤(j:Int):=by omega
  have j1:(j:Int)<(n:Int):=by omega
  have hb:b<w.heap.size:=cell_lt c0;clear hx hj;go_enter Tryz.func29,Tryz.ntmps29;go_wp2_with fail;rw[e1];go_wp2_with fail;go_ret;exact⟨_,rfl,z0,z1,rfl⟩
end Go.Proofs.YtddkhnclmeikfaaGreat
namespace Go.Proofs.YtddkhnclmeikfaaGreat
open Go.ChangeShapes Go.WideShapes Go.ChangeAt Go.RowKit
attribute [local go_sem ↓] Go.wp_at_zero Go.wp_at_succ
def ByL(w:World)(v:Value):Prop:=∃(ad:Option Addr) (n k:Nat),v=.slice ad n k∧n≤9223372036854775807∧∀i,i<n→∃b o z,ad=some ⟨b,o,none⟩∧w.cell? ⟨b,o+i,none⟩=some (.int .u8 z)∧0≤z∧z<256
theorem cells5:Tryz.prog.cellsOf 5=1:=by kernel_rfl
theorem rd_bytes{H:Type}{enc:TypeId×Value→H}{w:World}{base:Nat}{r:Reach}{b0:Nat}{held:Bool}{v:Value}{d:DataW H}{p:List MemPlace}(hok:Value.okWide Tryz.prog w r b0 22 v)(h:DataW.Trod enc Tryz.prog w base (fun _=>true) held 22 v d p):ByL w v:=by
 obtain⟨ad,len,cap,rfl⟩:=okWide_slice Tryz.underlying22 hok;obtain⟨fuel,ht⟩:=h;rcases open_ints Tryz.underlying22 Tryz.underlying5 cells5 ht with⟨hcs,_⟩ | ⟨a,len',cap',zs,hcs,_,hl,hm,hz,_,hcell,hwz⟩
 ·have e:Value.slice ad len cap=.slice none 0 0:=by simpa [Value.cells] using hcs
  cases e;exact⟨none,0,0,rfl,by omega,fun i hi=>by omega⟩
 ·have e:Value.slice ad len cap=.slice (some a) len' cap':=by simpa [Value.cells] using hcs
  cases e;simp only [if_true] at hz;refine⟨some a,len,cap,rfl,by unfold maxLen at hm;omega,fun i hi=>?_⟩;have hc:=hcell i (by omega);obtain⟨b,o,spot⟩:=a
  have hspot:spot=none:=by
   have h0:=hcell 0 (by omega)
   simpa [Addr.add] using World.cell?_spot h0
  subst hspot;rw[addr_add] at hc;obtain⟨z,hz2⟩:∃z,z=zs.getD i 0:=⟨_,rfl⟩
  have hw:=hwz z (by
   have:zs.getD i 0=zs[i]'(by omega):=by simp [show i<zs.length by omega]
   rw[hz2,this];exact List.getElem_mem _)
  rw[←hz2] at hc;refine⟨b,o,z,rfl,hc,?_⟩;have hw:IntKind.u8.min≤z∧z≤IntKind.u8.max:=by simpa [Lit.wf] using hw
  have e1:IntKind.u8.min=0:=by decide
  have e2:IntKind.u8.max=255:=by decide
  omega
end Go.Proofs.YtddkhnclmeikfaaGreat
