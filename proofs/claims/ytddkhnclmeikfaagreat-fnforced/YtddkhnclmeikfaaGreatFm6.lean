import Derived.Test.YtddkhnclmeikfaaGreatTa
namespace Go.Proofs.YtddkhnclmeikfaaGreat
open Go.RowKit
theorem Rf.reg{x:Hp}{f n:Nat}(h:Rf x f n)(s:Snd x)(a:Nat)(u:Wd)(ha:a<16)(ne:f≠a):Rf (regTo x a u) f n:=by
 have e:(regTo x a u).r f=x.r f:=by rw[r_regTo x a u (by rw[s.n16];exact ha),if_neg ne]
 unfold Rf Hp.at;rw[e];exact h
theorem F0.reg{x:Hp}(h:F0 x)(s:Snd x)(a:Nat)(u:Wd)(a0:0<a)(a3:a<3):F0 (regTo x a u):=by
 have e:∀k,k≠a→(regTo x a u).r k=x.r k:=fun k n=>by rw[r_regTo x a u (by rw[s.n16];omega),if_neg n]
 refine⟨h.rf.reg s a u (by omega) (by omega),fun p hp=>?_,fun k k1 k2=>by rw[e k (by omega)];exact h.hi k k1 k2⟩;have:(regTo x a u).at 0=x.at 0:=by unfold Hp.at;rw[e 0 (by omega)]
 rw[this];exact h.ky p hp
theorem set_is{x:Hp}(s:Snd x)(f b c:Nat)(hf:f<16)(hb:b<16)(k2:(x.r f).k=2)(hc:c<(x.c (x.at f)).prs.length):
  (∀k,(shadeW (setcH x (x.at f) (valC (x.c (x.at f)) c (x.r b))) (x.r b)).r k=x.r k)∧∀q p,((shadeW (setcH x (x.at f) (valC (x.c (x.at f)) c (x.r b))) (x.r b)).c q).p p=if q=x.at f∧p=c then ⟨((x.c (x.at f)).p c).key,x.r b⟩ else (x.c q).p p:=by
 obtain⟨_,_,i1,i2,i3⟩:=s.at f hf k2;obtain⟨i,hi⟩:∃i,i=x.at f:=⟨_,rfl⟩;rw[←hi] at i1 i2 i3 hc ⊢;obtain⟨z,hz⟩:∃z,z=setcH x i (valC (x.c i) c (x.r b)):=⟨_,rfl⟩;have hq:∀q,z.c q=if q=i then valC (x.c i) c (x.r b) else x.c q:=fun q=>by rw[hz];exact Hp.c_set x i _ i1 q
 have zl:z.cells.length=x.cells.length:=by rw[hz];simp [setcH]
 have gb:Good1 z (x.r b):=fun hk2=>by
  obtain⟨_,_,p3,p4,_⟩:=s.at b hb hk2;refine⟨by rw[zl];exact p3,?_⟩;rw[hq];split
  ·rename_i e;show(x.c i).st=1;rw[←e];exact p4
  ·exact p4
 rw[←hz];have sm:=shadeW_same z (x.r b);have un:=shadeW_un z (x.r b) gb;have rg:(shadeW z (x.r b)).regs=x.regs:=by rw[sm.1,hz];rfl
 refine⟨fun k=>by show(shadeW z (x.r b)).regs.getD k Wd0=x.regs.getD k Wd0;rw[rg],fun q p=>?_⟩;rw[un_p un,hq];by_cases e:q=i
 ·rw[if_pos e,e];unfold valC Cl.p;simp only [List.getD_eq_getElem?_getD,List.getElem?_set];by_cases e2:p=c
  ·subst e2;simp [hc]
  ·rw[if_neg (fun z=>e2 z.symm),if_neg (fun z=>e2 z.2)]
 ·rw[if_neg e,if_neg (fun z=>e z.1)]
theorem Rf.set{x y:Hp}{f n:Nat}(h:Rf x f n)(k:Keep x y)(r:∀k,y.r k=x.r k):Rf y f n:=by
 unfold Rf Hp.at at h ⊢;rw[r,k.prs];exact h
theorem F0.set{x y:Hp}(h:F0 x)(k:Keep x y)(r:∀k,y.r k=x.r k){i c:Nat}{u:Wd}(q:∀j p,(y.c j).p p=if j=i∧p=c then ⟨((x.c i).p c).key,u⟩ else (x.c j).p p):F0 y:=by
 refine⟨h.rf.set k r,fun p hp=>?_,fun k a b=>by rw[r];exact h.hi k a b⟩;have:y.at 0=x.at 0:=by unfold Hp.at;rw[r]
 rw[this,q];by_cases e:x.at 0=i∧p=c
 ·rw[if_pos e,←e.1,←e.2];exact h.ky p hp
 ·rw[if_neg e];exact h.ky p hp
section
variable {R : Nat} {x : Hp} {L mad : Nat} {A : List Ak} {Q : Hp → List Int → Prop}
theorem Bz.wNil(h:Bz R x L mad)(a:Nat)(a0:0<a)(a3:a<3)(k:∀y,y=regTo x a Wd0→Bz R y L mad→Wp y A (fun z M=>Q z (0::M))):Wp x (ak 3 a 0 0::A) Q:=
 Wp.act (ok_of (by omega) (by omega) (by show(a:Int)≤15;omega) (by decide) (by decide)) fun y cd nm d s=>by
  obtain⟨rfl,rfl,rfl⟩:=d;exact⟨rfl,k _ rfl (h.keep (keep_reg a Wd0 (fun e=>by simp [Wd0] at e)) s (h.f0.reg h.s a _ a0 a3))⟩
theorem Bz.wVal(h:Bz R x L mad)(c:Nat)(hc:c<4)(k:∀y,(∃u,y=regTo x 2 u)→Bz R y L mad→Wp y A (fun z M=>Q z (0::M))):Wp x (ak 6 2 0 c::A) Q:=
 Wp.act (ok_of (by omega) (by omega) (by decide) (by decide) (by show(c:Int)≤199;omega)) fun y cd nm d s=>by
  have r0:=h.f0.rf;rcases d with⟨e,_⟩ | ⟨_,e,_⟩ | ⟨_,_,e,rfl,rfl⟩
  ·exact(e r0.1).elim
  ·rw[r0.2] at e;omega
  ·have e':y=regTo x 2 (resW x ((x.c (x.at 0)).p c).val):=e;subst e';have g:=tgt_at h.s (f:=0) (by omega) r0.1;have hl:c<(x.c (x.at 0)).prs.length:=by rw[r0.2];exact hc
   refine⟨rfl,k _ ⟨_,rfl⟩ (h.keep (keep_reg 2 _ (fun e P cp=>?_)) s (h.f0.reg h.s 2 _ (by omega) (by omega)))⟩;have mu:=(may_pair h.s.r2 h.s.r4 (x.at 0) c g.2 hl).2
   have vk:((x.c (x.at 0)).p c).val.k=2:=by
    unfold resW at e
    split at e
    ·rename_i q;exact q.1
    ·exact e
   have p0:P (x.at 0):=by have:=cp.r 0 r0.1;rw[g.1] at this;exact this
   have pv:=cp.vl (x.at 0) c p0 hl vk;have gd:=(mu vk).2.2.2.2
   have tt:tgt x (resW x ((x.c (x.at 0)).p c).val)=tgt x ((x.c (x.at 0)).p c).val:=by
    have st:=gd.2.1;unfold resW
    split
    ·rename_i q
     have e1:tgt x ((x.c (x.at 0)).p c).val=(x.c ((x.c (x.at 0)).p c).val.a.toNat).to.toNat:=by
      unfold tgt lead2;rw[if_pos (by simpa using q.2)]
     rw[e1] at st ⊢;unfold tgt;exact lead_no (by show(x.c (x.c ((x.c (x.at 0)).p c).val.a.toNat).to.toNat).st≠2;omega)
    ·rfl
   rw[tt];exact pv
theorem Bz.wSet(h:Bz R x L mad)(f b c:Nat)(hf:f<16)(hb:b<16){n:Nat}(r:Rf x f n)(hc:c<n)(c9:c<200)(k:∀y,Keep x y→(∀k,y.r k=x.r k)→(∀q p,(y.c q).p p=if q=x.at f∧p=c then ⟨((x.c (x.at f)).p c).key,x.r b⟩ else (x.c q).p p)→Bz R y L mad→Wp y A (fun z M=>Q z (0::M))):Wp x (ak 8 f b c::A) Q:=
 Wp.act (ok_of (by omega) (by omega) (by show(f:Int)≤15;omega) (by show(b:Int)≤15;omega) (by show(c:Int)≤199;omega)) fun y cd nm d s=>by
  have hl:c<(x.c (x.at f)).prs.length:=by rw[r.2];exact hc
  rcases d with⟨e,_⟩ | ⟨_,e,_⟩ | ⟨_,_,e,rfl,rfl⟩
  ·exact(e r.1).elim
  ·omega
  ·have e':y=shadeW (setcH x (x.at f) (valC (x.c (x.at f)) c (x.r b))) (x.r b):=e;subst e';have kp:=keep_set h.s f b c hf hb r.1 hl;have si:=set_is h.s f b c hf hb r.1 hl;exact⟨rfl,k _ kp si.1 si.2 (h.keep kp s (h.f0.set kp si.1 si.2))⟩
theorem Bz.wNew(h:Bz R x L mad)(hR:3000≤R∧R≤4000)(c:Nat)(hc:c<90)(hL:L+(1+c)≤R / 4)(hm:mad≤500000)(k:∀y,Rf y 1 c→Bz R y (L+(1+c)) (mad+(1+c))→Wp y A (fun z M=>Q z (0::M))):Wp x (ak 1 1 0 c::A) Q:=
 Wp.act (ok_of (by omega) (by omega) (by decide) (by decide) (by show(c:Int)≤200;omega)) fun y cd nm d s=>by
  have hb:=h.bn;have hr:=h.rm;have ARn:AR R=R / 4+(14*R+6) / 63+91:=rfl
  have us:x.used+(1+c)≤R:=by
   rcases h.ps with⟨_,b,_⟩ | ⟨_,M,_,b,g,_⟩ <;> omega
  have hz:=h.s.r1.born;obtain⟨h0,⟨e,_⟩ | ⟨_,z,hz,hd⟩⟩:MakeIs x 1 0 c y cd nm:=d
  ·omega
  have ft:fitsB x (1+c)=true:=by unfold fitsB;rw[hr];simp only [decide_eq_true_eq];omega
  rcases hz with⟨_,rfl⟩ | ⟨e,_⟩
  rotate_left
  ·rw[ft] at e;cases e
  rcases hd with⟨e,_⟩ | ⟨_,e,p⟩
  ·rw[ft] at e;cases e
  subst e;obtain⟨s1,s2,s3,s4⟩:=h.s.make ((0:Nat):Int) c (by omega) (by omega) (by omega) (by rw[hr];exact us);have t1:Snd (regTo (makeH z ((0:Nat):Int) c) 1 ⟨2,0,fstFree z⟩):=s1.regTo 1 ⟨2,0,fstFree z⟩ ⟨.inr (.inr ⟨rfl,rfl,by show(0:Int)≤(fstFree z:Nat);omega,by show((fstFree z:Nat):Int)<_;omega⟩),fun _=>.inr ⟨s2,s4⟩⟩;have mk:=mk_is h.s 1 0 c (by omega);obtain⟨x1,hx1⟩:∃x1,x1=regTo (makeH z ((0:Nat):Int) c) 1 ⟨2,0,fstFree z⟩:=⟨_,rfl⟩;have rr:∀q,x1.r q=if q=1 then ⟨2,0,fstFree z⟩ else z.r q:=fun q=>by rw[hx1];exact r_regTo (makeH z ((0:Nat):Int) c) 1 _ (by show 1<z.regs.length;rw[h.s.n16];omega) q
  rw[←hx1] at t1 mk p;have g0:=tgt_at h.s (f:=0) (by omega) h.f0.rf.1;have a0:x1.at 0=z.at 0:=by unfold Hp.at;rw[rr,if_neg (by omega)]
  have c0:x1.c (x1.at 0)=z.c (z.at 0):=by rw[a0];exact mk.oth _ (fun e=>mk.nf (e ▸ g0.2))
  have f1:F0 x1:=⟨⟨by rw[rr,if_neg (by omega)];exact h.f0.rf.1,by rw[c0];exact h.f0.rf.2⟩,fun p hp=>by rw[c0];exact h.f0.ky p hp,fun q a b=>by rw[rr,if_neg (by omega)];exact h.f0.hi q a b⟩
  have r1:Rf x1 1 c:=by
   have e1:x1.r 1=⟨2,0,fstFree z⟩:=by rw[rr,if_pos rfl]
   have e2:x1.at 1=fstFree z:=by unfold Hp.at;rw[e1];simp
   exact⟨by rw[e1],by rw[e2,mk.lf];simp⟩
  have q:=pace_bz h.toBy mk t1 f1 hc hL p;exact⟨rfl,by rw[h0];exact k y (q.2 1 c (by omega) r1) q.1⟩
end
end Go.Proofs.YtddkhnclmeikfaaGreat
