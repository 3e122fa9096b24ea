import Derived.Test.YtnegjhddmfiefaaGreatDoorVh
import Derived.Test.YtnegjhddmfiefaaGreatDoorQb
namespace Go.Proofs.YtnegjhddmfiefaaGreatDoor
open Go.RowKit
structure Thin(x z:Hp):Prop where
 hl:z.cells.length=x.cells.length
 rest:RestH z x
 c:∀q,(z.c q).st=(x.c q).st∧(z.c q).kind=(x.c q).kind∧(z.c q).born=(x.c q).born∧(z.c q).color=(x.c q).color∧(z.c q).to=(x.c q).to
 wk:∀q,(z.c q).weak=(x.c q).weak∨((x.c q).st=1∧0≤(z.c q).weak∧(z.c q).weak≤3)
 la:∀q,(z.c q).last=(x.c q).last∨((x.c q).st=1∧0≤(z.c q).last∧(z.c q).last≤3)
 sp:∀q,Speaks (z.c q)→Speaks (x.c q)
 p:∀q,q<x.cells.length→∀k,k<(z.c q).prs.length→∃j,j<(x.c q).prs.length∧(z.c q).p k=(x.c q).p j∧(scanI x=(q:Int)→((k:Int)<z.sub↔(j:Int)<x.sub))
 le:∀q,q<x.cells.length→(z.c q).prs.length≤(x.c q).prs.length
 us:z.used=(units z.cells:Nat)
 ul:z.used≤x.used
 s0:0≤z.sub∧z.sub≤x.sub
 s1:∀q,q<x.cells.length→scanI x=(q:Int)→z.sub≤(z.c q).prs.length
theorem scan_hand{x:Hp}(hp:x.phase=5)(h:x.hand<x.cells.length):scanI x=x.hand:=by
 unfold scanI;rw[if_neg (by omega),if_pos ⟨hp,h⟩]
theorem scan_gray{x:Hp}(hp:x.phase=2)(h:0<x.gray.length):scanI x=x.gray.getD 0 0:=by
 unfold scanI;rw[if_pos ⟨hp,h⟩]
theorem Snd.thin{x z:Hp}(h:Snd x)(t:Thin x z):Snd z:=by
 obtain⟨e1,e2,e3,e4,e5,e6,e7,e8,e9,e10⟩:=t.rest;have dm:∀q,Doomed z q↔Doomed x q:=fun q=>by unfold Doomed;rw[e4,e5,(t.c q).1,(t.c q).2.2.2.1]
 have ld:∀(y:Wd) (m m':Prop),(m→m')→Leads x y m→Leads z y m':=fun y m m' hm l=>⟨by rw[t.hl];exact l.1,fun hk=>by
  rw[(t.c _).1,dm];rcases l.2 hk with o | o
  ·exact .inl ⟨o.1,hm o.2⟩
  ·exact .inr o⟩
 have wh:∀y:Wd,White z y→White x y:=fun y hy=>⟨hy.1,by rw[←(t.c _).2.2.2.1];exact hy.2⟩
 have mk:Marking z↔Marking x:=by unfold Marking;rw[e4]
 have s0:=t.s0
 have g0r:x.gray.length≠0→0≤x.gray.getD 0 0∧x.gray.getD 0 0<x.cells.length:=fun hg=>by
  refine h.r5.2.2 _ ?_;cases hgr:x.gray with
  | nil=>rw[hgr] at hg;simp at hg
  | cons g G=>simp
 refine⟨?_,⟨fun q hq=>?_,fun q hq h0 k hk=>?_⟩,⟨t.us,?_⟩,⟨fun i hi=>?_,fun q hq=>⟨fun d=>?_,fun k hk=>?_⟩⟩,⟨fun hm=>?_,fun q hq=>?_,fun g hg=>?_⟩,⟨fun hp=>?_,fun hp=>?_,fun hp=>?_,fun hp=>?_⟩,fun hm q hq=>⟨fun hb=>?_,fun k hk=>?_⟩,fun q hq=>?_⟩
 ·have r:=h.r1;exact⟨by rw[e1];exact r.room,by rw[e3];exact r.regs,by rw[t.hl,e1];exact r.cells,by rw[e6,t.hl];exact r.gray,by rw[e2];exact r.born,by rw[e9];exact r.rounds,by rw[e10];exact r.forced,by rw[e7];exact r.per,by rw[e8];exact r.start,by rw[e4];exact r.phase,by rw[e5,t.hl];exact r.hand,by have:=r.sub;omega⟩
 ·rw[t.hl] at hq;have ok:=h.r2.1 q hq;obtain⟨c1,c2,c3,c4,c5⟩:=t.c q;have l:=t.le q hq;have wk:=t.wk q;have la:=t.la q;unfold CellOk;rcases ok with⟨o,b,d⟩ | ⟨o,m⟩ | ⟨o,m⟩
  ·refine .inl ⟨by rw[c1];exact o,?_,by rw[c5];exact d⟩;unfold Bare at b ⊢;omega
  ·refine .inr (.inl ⟨by rw[c1];exact o,?_,by rw[e4];exact m.2.1,by rw[c5];exact m.2.2.1,by rw[c5];exact m.2.2.2.1,by rw[c5,(t.c _).1];exact m.2.2.2.2.1,fun hp k hk=>?_⟩)
   ·have b:=m.1;unfold Bare at b ⊢;omega
   ·rw[(t.c k).1];rw[e4] at hp;rw[c5] at hk;exact m.2.2.2.2.2 hp k hk
  ·refine .inr (.inr ⟨by rw[c1];exact o,?_⟩);unfold UsedOk at m ⊢;rw[e2];omega
 ·rw[t.hl] at hq;rw[(t.c q).1] at h0;rw[(t.c k).1,(t.c k).2.2.1,(t.c k).2.2.2.2,(t.c q).1,(t.c q).2.2.1,(t.c q).2.2.2.2];exact h.r2.2 q hq h0 k hk
 ·rw[e1];have:=h.r3.2;have:=t.ul;omega
 ·have e:z.regs[i]=x.regs[i]'(by rw[←e3];exact hi):=by simp only [e3]
  rw[e];exact ld _ _ _ id (h.r4.1 i (by rw[←e3];exact hi))
 ·rw[t.hl] at hq;exact(h.r4.2 q hq).1 ⟨(dm q).1 d.1,t.sp q d.2⟩
 ·rw[t.hl] at hq;obtain⟨j,hj,ej,hs⟩:=t.p q hq k hk;have ok:=(h.r4.2 q hq).2 j hj;rw[ej]
  have me:Mended z q k→Mended x q j:=fun m=>⟨by rw[←e4];exact m.1,fun hp=>by
   have:=m.2 (by rw[e4];exact hp);rw[e5] at this;rcases this with a | ⟨a,b⟩
   ·exact .inl a
   ·exact .inr ⟨a,(hs (by rw[scan_hand hp (by omega)];exact a.symm)).1 b⟩⟩
  refine⟨fun d=>?_,fun d=>?_⟩
  ·rw[t.hl];exact ok.1 ((dm q).1 d)
  ·have:=ok.2 (fun d2=>d ((dm q).2 d2));exact⟨ld _ _ _ (fun a b=>a (me b)) this.1,ld _ _ _ (fun a b=>a (me b)) this.2⟩
 ·rw[e6];exact h.r5.1 (fun m=>hm (mk.2 m))
 ·rw[t.hl] at hq;have o:=h.r5.2.1 q hq;unfold ColorOk at o ⊢;rw[(t.c q).2.2.2.1,e6,mk,e4,e5];exact o
 ·rw[e6] at hg;rw[t.hl];exact h.r5.2.2 g hg
 ·rw[e4] at hp;have:=h.r6.1 hp;rw[e5];omega
 ·rw[e4] at hp;have r:=h.r6.2.1 hp;rw[e5,e6];refine⟨r.1,fun hg=>by have:=r.2.1 hg;omega,fun hg=>?_⟩;have gr:=g0r hg;have e:z.g0=x.g0:=by unfold Hp.g0;rw[e6]
  rw[e];refine t.s1 x.g0 (by unfold Hp.g0;omega) ?_;rw[scan_gray hp (by omega)];unfold Hp.g0;omega
 ·rw[e4] at hp;have r:=h.r6.2.2.1 hp;have hh:=h.r1.hand;rw[e5,t.hl];refine⟨fun hq=>?_,fun hq=>?_⟩
  ·rw[(t.c _).1] at hq;have:=r.1 hq;omega
  ·refine t.s1 _ (by omega) ?_;rw[scan_hand hp (by omega)];omega
 ·rw[e4] at hp;have:=h.r6.2.2.2 hp;omega
 ·rw[t.hl] at hq;refine(h.r7 (mk.1 hm) q hq).1 ⟨t.sp q hb.1,by rw[←(t.c q).2.2.2.1];exact hb.2.1,?_⟩;have:=hb.2.2;rw[e4,e5] at this;exact this
 ·rw[t.hl] at hq;have o:=(h.r7 (mk.1 hm) q hq).2
  have key:k<(z.c q).prs.length∧∀j:Nat,(scanI x=(q:Int)→((k:Int)<z.sub↔(j:Int)<x.sub))→j<(x.c q).prs.length→j<looked x q:=by
   unfold looked at hk;rw[(t.c q).2.2.2.1,e4,e6] at hk
   split at hk
   ·rename_i hc;refine⟨hk,fun j _ hj=>?_⟩;unfold looked;rw[if_pos hc];exact hj
   ·rename_i hc
    split at hk
    ·rename_i hd;have sc:scanI x=(q:Int):=by rw[scan_gray hd.1 (by omega)];exact hd.2.2
     have:=t.s1 q hq sc;refine⟨by omega,fun j hs _=>?_⟩;unfold looked;rw[if_neg hc,if_pos hd];have:=(hs sc).1 (by omega);omega
    ·omega
  obtain⟨j,hj,ej,hs⟩:=t.p q hq k key.1;rw[ej];have:=o j (key.2 j hs hj);exact⟨fun w=>this.1 (wh _ w),fun w=>this.2 (wh _ w)⟩
 ·rw[t.hl] at hq;rw[e4,e5,(t.c q).1];exact h.r8 q hq
structure Edit(x:Hp)(i:Nat)(c:Cl):Prop where
 hi:i<x.cells.length
 st:(x.c i).st=1
 nd:¬Doomed x i
 e:c.st=(x.c i).st∧c.kind=(x.c i).kind∧c.weak=(x.c i).weak∧c.born=(x.c i).born∧c.color=(x.c i).color∧c.to=(x.c i).to
 la:0≤c.last∧c.last≤3
 ln:c.prs.length=(x.c i).prs.length
 ld:∀k,k<c.prs.length→Leads x (c.p k).key (¬Mended x i k)∧Leads x (c.p k).val (¬Mended x i k)
 lk:Marking x→∀k,k<looked x i→¬White x (c.p k).key∧¬White x (c.p k).val
 sp:Speaks c→Marking x→c.color=0→¬(x.phase=2∨(i:Int)<x.hand)
theorem setcH_c(x:Hp)(i:Nat)(c:Cl)(hi:i<x.cells.length)(q:Nat):(setcH x i c).c q=if q=i then c else x.c q:=Hp.c_set x i c hi q
theorem setcH_len(x:Hp)(i:Nat)(c:Cl):(setcH x i c).cells.length=x.cells.length:=by simp [setcH]
theorem Snd.edit{x:Hp}{i:Nat}{c:Cl}(h:Snd x)(t:Edit x i c):Snd (setcH x i c):=by
 obtain⟨e1,e2,e3,e4,e5,e6⟩:=t.e;have zc:=setcH_c x i c t.hi;have zl:=setcH_len x i c
 have sm:∀q,((setcH x i c).c q).st=(x.c q).st∧((setcH x i c).c q).born=(x.c q).born∧((setcH x i c).c q).color=(x.c q).color∧((setcH x i c).c q).to=(x.c q).to∧((setcH x i c).c q).prs.length=(x.c q).prs.length:=fun q=>by
  rw[zc q];by_cases e:q=i
  ·rw[if_pos e,e];exact⟨e1,e4,e5,e6,t.ln⟩
  ·rw[if_neg e];exact⟨rfl,rfl,rfl,rfl,rfl⟩
 have dm:∀q,Doomed (setcH x i c) q↔Doomed x q:=fun q=>by unfold Doomed;rw[(sm q).1,(sm q).2.2.1];exact Iff.rfl
 have ld:∀(y:Wd) (m:Prop),Leads x y m→Leads (setcH x i c) y m:=fun y m l=>⟨by rw[zl];exact l.1,fun hk=>by rw[(sm _).1,dm];exact l.2 hk⟩
 have wh:∀y:Wd,White (setcH x i c) y→White x y:=fun y hy=>⟨hy.1,by rw[←(sm _).2.2.1];exact hy.2⟩
 refine⟨?_,⟨fun q hq=>?_,fun q hq h0 k hk=>?_⟩,⟨?_,h.r3.2⟩,⟨fun j hj=>ld _ _ (h.r4.1 j hj),fun q hq=>?_⟩,⟨h.r5.1,fun q hq=>?_,fun g hg=>?_⟩,⟨h.r6.1,fun hp=>?_,fun hp=>?_,h.r6.2.2.2⟩,fun hm q hq=>?_,fun q hq=>?_⟩
 ·exact⟨h.r1.room,h.r1.regs,by rw[zl];exact h.r1.cells,by rw[zl];exact h.r1.gray,h.r1.born,h.r1.rounds,h.r1.forced,h.r1.per,h.r1.start,h.r1.phase,by rw[zl];exact h.r1.hand,h.r1.sub⟩
 ·rw[zl] at hq;have ok:=h.r2.1 q hq;by_cases e:q=i
  ·subst e;refine .inr (.inr ⟨by rw[(sm q).1];exact t.st,?_⟩);rw[zc q,if_pos rfl];have la:=t.la;have ln:=t.ln;have s1:=t.st;rcases ok with o | o | ⟨_,o⟩
   ·omega
   ·omega
   ·unfold UsedOk at o ⊢;have:(setcH x q c).born=x.born:=rfl;omega
  ·unfold CellOk;rw[zc q,if_neg e];rcases ok with o | ⟨o,m⟩ | o
   ·exact .inl o
   ·refine .inr (.inl ⟨o,m.1,m.2.1,m.2.2.1,m.2.2.2.1,by rw[(sm _).1];exact m.2.2.2.2.1,fun hp k hk=>by rw[(sm k).1];exact m.2.2.2.2.2 hp k hk⟩)
   ·exact .inr (.inr o)
 ·rw[zl] at hq;rw[(sm q).1] at h0;rw[(sm k).1,(sm k).2.1,(sm k).2.2.2.1,(sm q).1,(sm q).2.1,(sm q).2.2.2.1];exact h.r2.2 q hq h0 k hk
 ·have u:units (setcH x i c).cells=units x.cells:=units_set x.cells i c t.hi (by rw[Hp.c_eq x i t.hi];unfold unitsOf;rw[e1,t.ln]);rw[u];exact h.r3.1
 ·rw[zl] at hq;rw[zc q];by_cases e:q=i
  ·subst e;rw[if_pos rfl];refine⟨fun d=>t.nd ((dm q).1 d.1),fun k hk=>⟨fun d=>absurd ((dm q).1 d) t.nd,fun _=>?_⟩⟩;have:=t.ld k hk;exact⟨ld _ _ this.1,ld _ _ this.2⟩
  ·rw[if_neg e];have o:=h.r4.2 q hq;refine⟨fun d=>o.1 ⟨(dm q).1 d.1,d.2⟩,fun k hk=>?_⟩;have p:=o.2 k hk;refine⟨fun d=>by rw[zl];exact p.1 ((dm q).1 d),fun d=>?_⟩;have:=p.2 (fun d2=>d ((dm q).2 d2));exact⟨ld _ _ this.1,ld _ _ this.2⟩
 ·rw[zl] at hq;have o:=h.r5.2.1 q hq;unfold ColorOk at o ⊢;rw[(sm q).2.2.1];exact o
 ·rw[zl];exact h.r5.2.2 g hg
 ·have r:=h.r6.2.1 hp;refine⟨r.1,r.2.1,fun hg=>?_⟩;rw[(sm _).2.2.2.2];exact r.2.2 hg
 ·have r:=h.r6.2.2.1 hp;rw[zl,(sm _).1,(sm _).2.2.2.2];exact r
 ·rw[zl] at hq;have o:=h.r7 hm q hq
  have lk:looked (setcH x i c) q=looked x q:=by
   unfold looked;rw[(sm q).2.2.1,(sm q).2.2.2.2];rfl
  rw[lk,zc q];by_cases e:q=i
  ·subst e;rw[if_pos rfl];refine⟨fun hb=>t.sp hb.1 hm hb.2.1 hb.2.2,fun k hk=>?_⟩;have:=t.lk hm k hk;exact⟨fun w=>this.1 (wh _ w),fun w=>this.2 (wh _ w)⟩
  ·rw[if_neg e];exact⟨o.1,fun k hk=>⟨fun w=>(o.2 k hk).1 (wh _ w),fun w=>(o.2 k hk).2 (wh _ w)⟩⟩
 ·rw[zl] at hq;rw[(sm q).1];exact h.r8 q hq
theorem shade_setc(x:Hp)(i t:Nat)(c:Cl)(hi:i<x.cells.length)(hs:c.st=(x.c i).st)(hc:c.color=(x.c i).color):shadeH (setcH x i c) t=setcH (shadeH x t) i (if shadeB x t=true∧t=i then grayC c else c):=by
 have zc:=setcH_c x i c hi t
 have eb:shadeB (setcH x i c) t=shadeB x t:=by
  unfold shadeB whB;rw[zc];by_cases e:t=i
  ·rw[if_pos e,e,hs,hc];rfl
  ·rw[if_neg e];rfl
 unfold shadeH;rw[eb];by_cases q:shadeB x t=true
 ·rw[if_pos q,if_pos q,zc];by_cases e:t=i
  ·rw[if_pos e,if_pos ⟨q,e⟩,e];simp [setcH]
  ·rw[if_neg e,if_neg (fun h=>e h.2)];simp only [setcH];rw[List.set_comm _ _ (fun h=>e h.symm)]
 ·rw[if_neg q,if_neg q,if_neg (fun h=>q h.1)]
theorem shade_still{x:Hp}(hm:¬Marking x)(t:Nat):shadeH x t=x:=by
 unfold shadeH;rw[if_neg];intro h;exact hm (shadeB_parts h).1
theorem Leads.shade{x:Hp}{y:Wd}{m:Prop}(h:Leads x y m)(t:Nat)(ht:t<x.cells.length):Leads (shadeH x t) y m:=by
 by_cases hm:Marking x
 ·refine⟨by rw[(shade_same x t).2.2.2.2.1];exact h.1,fun hk=>?_⟩;rw[(un_parts (shade_un x t ht _)).1];rcases h.2 hk with o | o
  ·exact .inl o
  ·refine .inr ⟨o.1,fun d=>?_⟩;have:=d.1;rw[(shade_same x t).2.2.2.2.2.1] at this;unfold Marking at hm;omega
 ·rw[shade_still hm];exact h
theorem Snd.put{x:Hp}(h:Snd x)(i k:Nat)(hi:i<x.cells.length)(s1:(x.c i).st=1)(nd:¬Doomed x i)(hk:k<(x.c i).prs.length)(y:Wd)(hy:Leads x y False)(p:Pr)(hp:(p.key=y∧p.val=((x.c i).p k).val)∨(p.val=y∧p.key=((x.c i).p k).key)):Snd (shadeW (setcH x i { x.c i with prs:=(x.c i).prs.set k p }) y):=by
 have pk:∀j,j<(x.c i).prs.length→({ x.c i with prs:=(x.c i).prs.set k p }:Cl).p j=if j=k then p else (x.c i).p j:=fun j hj=>by
  unfold Cl.p;simp only [List.getD_eq_getElem?_getD,List.getElem?_set];by_cases e:k=j
  ·rw[if_pos e,if_pos e.symm,if_pos (by omega)];rfl
  ·rw[if_neg e,if_neg (fun h=>e h.symm)]
 have key:∀(z:Hp) (c:Cl),Snd z→z.cells.length=x.cells.length→(∀q,(z.c q).st=(x.c q).st)→(z.c i).prs=(x.c i).prs→z.phase=x.phase→z.hand=x.hand→z.sub=x.sub→¬Doomed z i→(∀(u:Wd) (m:Prop),Leads x u m→Leads z u m)→(Marking z→¬White z y)→c={ z.c i with prs:=(x.c i).prs.set k p }→Snd (setcH z i c):=fun z c sz zl zs zp e4 e5 e7 ndz ldz wz ec=>by
  have me:∀j,Mended z i j↔Mended x i j:=fun j=>by unfold Mended;rw[e4,e5,e7]
  have cp:∀j,c.p j=({ x.c i with prs:=(x.c i).prs.set k p }:Cl).p j:=fun j=>by rw[ec];rfl
  have la:0≤(z.c i).last∧(z.c i).last≤3:=by
   have ok:=sz.r2.1 i (by rw[zl];exact hi);have:=zs i;unfold CellOk UsedOk Bare MovedOk Bare at ok;omega
  refine sz.edit ⟨by rw[zl];exact hi,by rw[zs];exact s1,ndz,by rw[ec];exact⟨rfl,rfl,rfl,rfl,rfl,rfl⟩,by rw[ec];exact la,by rw[ec,zp];simp,fun j hj=>?_,fun hm j hj=>?_,fun hsp hm hc=>?_⟩
  ·have hj2:j<(x.c i).prs.length:=by rw[ec] at hj;simpa using hj
   have o:=((h.r4.2 i hi).2 j hj2).2 nd;have em:(¬Mended z i j)=(¬Mended x i j):=propext (not_congr (me j));rw[em,cp j,pk j hj2];have hyl:∀m,Leads x y m:=fun m=>⟨hy.1,fun e=>by rcases hy.2 e with o | o;exact o.2.elim;exact .inr o⟩
   by_cases e:j=k
   ·rw[if_pos e];rw[e] at o;rcases hp with⟨a,b⟩ | ⟨a,b⟩
    ·rw[a,b,e];exact⟨ldz _ _ (hyl _),ldz _ _ o.2⟩
    ·rw[a,b,e];exact⟨ldz _ _ o.1,ldz _ _ (hyl _)⟩
   ·rw[if_neg e];exact⟨ldz _ _ o.1,ldz _ _ o.2⟩
  ·have o:=(sz.r7 hm i (by rw[zl];exact hi)).2 j hj
   have hj2:j<(x.c i).prs.length:=by
    unfold looked at hj;rw[zp] at hj
    split at hj
    ·exact hj
    ·split at hj
     ·rename_i hd;have r:=(sz.r6.2.1 hd.1).2.2 hd.2.1;have eg:z.g0=i:=by unfold Hp.g0;rw[hd.2.2];simp
      rw[eg,zp] at r;omega
     ·omega
   have zpj:(z.c i).p j=(x.c i).p j:=by simp only [Cl.p,zp]
   rw[zpj] at o;rw[cp j,pk j hj2];by_cases e:j=k
   ·rw[if_pos e];rw[e] at o;rcases hp with⟨a,b⟩ | ⟨a,b⟩
    ·rw[a,b];exact⟨wz hm,o.2⟩
    ·rw[a,b];exact⟨o.1,wz hm⟩
   ·rw[if_neg e];exact o
  ·rw[ec] at hsp hc;exact fun hd=>(sz.r7 hm i (by rw[zl];exact hi)).1 ⟨hsp,hc,hd⟩
 unfold shadeW;by_cases e:(y.k == 2)=true
 ·rw[if_pos e];have e2:y.k=2:=by simpa using e
  have ft:y.a.toNat<x.cells.length:=by have:=hy.1;unfold Formed at this;omega
  have st:(x.c y.a.toNat).st=1:=by
   rcases hy.2 e2 with o | o
   ·exact o.2.elim
   ·exact o.1
  rw[shade_setc x i y.a.toNat { x.c i with prs:=(x.c i).prs.set k p } hi rfl rfl];have un:=shade_un x y.a.toNat ft;refine key (shadeH x y.a.toNat) _ (h.shade _ ft) (shade_same x _).2.2.2.2.1 (fun q=>(un_parts (un q)).1) (un_parts (un i)).2.2.2.2.2.2 (shade_same x _).2.2.2.2.2.1 (shade_same x _).2.2.2.2.2.2.1 (shade_same x _).2.2.2.2.2.2.2.1 (fun d=>?_) (fun u m l=>l.shade _ ft) (fun hm w=>?_) ?_
  ·by_cases hm:Marking x
   ·have:=d.1;rw[(shade_same x _).2.2.2.2.2.1] at this;unfold Marking at hm;omega
   ·rw[shade_still hm] at d;exact nd d
  ·have hm2:Marking x:=by unfold Marking at hm ⊢;rw[(shade_same x _).2.2.2.2.2.1] at hm;exact hm
   exact not_white_shade x _ ft hm2 st w.2
  ·rw[shade_c x _ ft i];by_cases q:shadeB x y.a.toNat=true∧y.a.toNat=i
   ·rw[if_pos q,if_pos ⟨q.1,q.2.symm⟩,q.2];rfl
   ·rw[if_neg q,if_neg (fun h=>q ⟨h.1,h.2.symm⟩)]
 ·rw[if_neg e];have e2:y.k≠2:=by simpa using e
  exact key x _ h rfl (fun _=>rfl) rfl rfl rfl rfl nd (fun _ _ l=>l) (fun _ w=>e2 w.1) rfl
theorem Snd.want{x:Hp}(h:Snd x)(i:Nat)(hi:i<x.cells.length)(s1:(x.c i).st=1)(nd:¬Doomed x i):Snd (shadeH (setcH x i (lastC (x.c i) 1)) i):=by
 rw[shade_setc x i i (lastC (x.c i) 1) hi rfl rfl];have un:=shade_un x i hi i;have hc:=shade_c x i hi i;have sz:=h.shade i hi;have zl:=(shade_same x i).2.2.2.2.1
 have ec:(if shadeB x i=true∧i=i then grayC (lastC (x.c i) 1) else lastC (x.c i) 1)=lastC ((shadeH x i).c i) 1:=by
  rw[hc];by_cases q:shadeB x i=true
  ·rw[if_pos ⟨q,rfl⟩,if_pos ⟨q,rfl⟩];rfl
  ·rw[if_neg (fun h=>q h.1),if_neg (fun h=>q h.1)]
 rw[ec];have s2:((shadeH x i).c i).st=1:=by rw[(un_parts un).1];exact s1
 have nd2:¬Doomed (shadeH x i) i:=fun d=>by
  by_cases hm:Marking x
  ·have:=d.1;rw[(shade_same x _).2.2.2.2.2.1] at this;unfold Marking at hm;omega
  ·rw[shade_still hm] at d;exact nd d
 refine sz.edit ⟨by rw[zl];exact hi,s2,nd2,⟨rfl,rfl,rfl,rfl,rfl,rfl⟩,⟨by simp [lastC],by simp [lastC]⟩,rfl,fun k hk=>((sz.r4.2 i (by rw[zl];exact hi)).2 k hk).2 nd2,fun hm k hk=>(sz.r7 hm i (by rw[zl];exact hi)).2 k hk,fun _ hm hcol=>?_⟩;have hm2:Marking x:=by unfold Marking at hm ⊢;rw[(shade_same x _).2.2.2.2.2.1] at hm;exact hm
 exact absurd hcol (not_white_shade x i hi hm2 s1)
theorem unitH_room(x:Hp):(unitH x).room=x.room:=by
 unfold unitH
 repeat (first | (split) | exact uroom1 x | exact uroom2 x | exact uroom3 x | exact uroom4 x | exact uroom5 x | exact uroom6 x | rfl)
theorem itU_room:∀(k:Nat) (x:Hp),(itU k x).room=x.room
 | 0,_=>rfl
 | k+1,x=>by
  first
   | exact(itU_room k (unitH x)).trans (unitH_room x)
   | exact(unitH_room (itU k x)).trans (itU_room k x)
theorem endH_room{x y:Hp}(h:endH x y):y.room=x.room:=by
 obtain⟨k,_,e⟩:=h;rw[e];exact itU_room k x
theorem RdIs.room{x y:Hp}(h:RdIs x y):y.room=x.room:=by
 obtain⟨z,a,b⟩:=h;exact(endH_room b).trans (show z.room=x.room from endH_room a)
theorem RoomIs.room{x y:Hp}{u:Nat}(h:RoomIs x u y):y.room=x.room:=by
 rcases h with h | h
 ·rw[h.2]
 ·exact h.2.room
theorem stepH_room(x:Hp)(n:Nat):(stepH x n).room=x.room:=by unfold stepH;split <;> rfl
theorem PaceIs.room{x y:Hp}{u:Nat}(h:PaceIs x u y):y.room=x.room:=by
 rcases h with h | ⟨_,k,_,h⟩
 ·rw[h.2]
 ·rw[h];exact(itU_room k _).trans (stepH_room x _)
theorem cutTo_room(x:Hp)(H:Nat→Bool):∀k,(cutTo x H k).room=x.room
 | 0=>rfl
 | k+1=>by
  unfold cutTo
  split
  ·exact cutTo_room x H k
  ·exact cutTo_room x H k
theorem dueTo_room(x z:Hp)(H:Nat→Bool):∀k,(dueTo x z H k).room=z.room
 | 0=>rfl
 | k+1=>by
  unfold dueTo
  split
  ·exact dueTo_room x z H k
  ·exact dueTo_room x z H k
theorem HalfIs.room{x:Hp}{f c:Nat}{y:Hp}{cd nm:Int}{R:Nat→Prop}(h:HalfIs x f c y cd nm R)(hR:∀i,R i→y.room=x.room):y.room=x.room:=by
 rcases h with h | h | h
 ·rw[h.2.1]
 ·rw[h.2.2.1]
 ·exact hR _ h.2.2.1
theorem CellIs.room{x:Hp}{f:Nat}{y:Hp}{cd nm:Int}{R:Nat→Prop}(h:CellIs x f y cd nm R)(hR:∀i,R i→y.room=x.room):y.room=x.room:=by
 rcases h with h | h
 ·rw[h.2.1]
 ·exact hR _ h.2
theorem DoR.room{x:Hp}{a b c:Nat}{n:Int}{y:Hp}{cd nm:Int}{k:Nat}(h:DoR x a b c n y cd nm k):y.room=x.room:=by
 unfold DoR at h
 split at h
 ·rcases h.2 with h | ⟨_,z,hz,h | h⟩
  ·rw[h.2.1]
  ·rw[h.2.1];exact hz.room
  ·exact(PaceIs.room h.2.2).trans (show z.room=x.room from hz.room)
 ·rw[h.1];rfl
 ·rw[h.1];rfl
 ·rw[h.1];rfl
 ·exact h.room (fun i r=>by rw[r];rfl)
 ·exact h.room (fun i r=>by rw[r];rfl)
 ·exact h.room (fun i r=>by rw[r,shadeW_room];rfl)
 ·exact h.room (fun i r=>by rw[r,shadeW_room];rfl)
 ·refine h.room (fun i r=>?_);rcases r.2 with h | ⟨_,z,hz,h | h⟩
  ·rw[h.2.1]
  ·rw[h.2.1];exact hz.room
  ·exact(PaceIs.room h.2.2).trans (show z.room=x.room from hz.room)
 ·exact h.room (fun i r=>by rw[r.1];rfl)
 ·exact h.room (fun i r=>by rw[r.1];rfl)
 ·refine h.room (fun i r=>?_);rw[r.1]
  split
  ·rw[(shade_same _ _).1];rfl
  ·rfl
 ·rw[h.1]
 ·rw[h.1]
 ·rw[h.1]
 ·exact h.room (fun i r=>by rw[r.1])
 ·exact h.room (fun i r=>by rw[r.1])
 ·obtain⟨_,H,_,e,_⟩:=h;rw[e];exact(dueTo_room _ _ _ _).trans (cutTo_room _ _ _)
 ·rcases h.2 with h | ⟨i,h⟩
  ·rw[h.2.1];rfl
  ·rw[h.2.1];rfl
 ·rw[h.1]
 ·rw[h.1]
 ·obtain⟨_,_,k,_,e⟩:=h;rw[e];exact(itU_room k _).trans (stepH_room x _)
 ·rw[h.1];rfl
 ·exact h.2.2.room
 ·exact h.elim
theorem Snd.scan{x:Hp}(h:Snd x)(q:Nat)(hs:scanI x=(q:Int)):x.sub≤(x.c q).prs.length:=by
 have h8:=h.r6;unfold scanI at hs
 split at hs
 ·rename_i e;have e8:=(h8.2.1 e.1).2.2 (by omega);have:x.g0=q:=by unfold Hp.g0;rw[hs];rfl
  rw[this] at e8;exact e8
 ·split at hs
  ·rename_i e;have a:=h8.2.2.1 e.1;have hq:x.hand.toNat=q:=by omega
   by_cases hc:(x.c x.hand.toNat).st=1
   ·have:=a.2 ⟨by omega,hc⟩;rw[hq] at this;exact this
   ·have:=a.1 (.inr hc);omega
  ·omega
theorem Thin.self{x:Hp}(h:Snd x)(i:Nat)(c:Cl)(hi:i<x.cells.length)(s1:(x.c i).st=1)(e:c.st=(x.c i).st∧c.kind=(x.c i).kind∧c.born=(x.c i).born∧c.color=(x.c i).color∧c.to=(x.c i).to)(hp:c.prs=(x.c i).prs)(wk:c.weak=(x.c i).weak∨(0≤c.weak∧c.weak≤3))(la:c.last=(x.c i).last∨(0≤c.last∧c.last≤3))(sp:Speaks c→Speaks (x.c i)):Thin x (setcH x i c) where
 hl:=setcH_len x i c
 rest:=RestH.refl _
 c:=fun q=>by rw[setcH_c x i c hi q];split;(· rename_i t;rw[t];exact e);(· exact⟨rfl,rfl,rfl,rfl,rfl⟩)
 wk:=fun q=>by rw[setcH_c x i c hi q];split;(· rename_i t;rw[t];exact wk.imp id (fun u=>⟨s1,u⟩));(· exact .inl rfl)
 la:=fun q=>by rw[setcH_c x i c hi q];split;(· rename_i t;rw[t];exact la.imp id (fun u=>⟨s1,u⟩));(· exact .inl rfl)
 sp:=fun q=>by rw[setcH_c x i c hi q];split;(· rename_i t;rw[t];exact sp);(· exact id)
 p:=fun q hq k hk=>by
  rw[setcH_c x i c hi q] at hk ⊢
  split at hk
  ·rename_i t;rw[if_pos t,t];exact⟨k,by rw[←hp];exact hk,by unfold Cl.p;rw[hp],fun _=>Iff.rfl⟩
  ·rename_i t;rw[if_neg t];exact⟨k,hk,rfl,fun _=>Iff.rfl⟩
 le:=fun q hq=>by rw[setcH_c x i c hi q];split;(· rename_i t;rw[t,hp];exact Nat.le_refl _);(· exact Nat.le_refl _)
 us:=by
  have u:units (setcH x i c).cells=units x.cells:=units_set x.cells i c hi (by rw[Hp.c_eq x i hi];unfold unitsOf;rw[e.1,hp]);rw[u];exact h.r3.1
 ul:=Int.le_refl _
 s0:=⟨h.r1.sub.1,Int.le_refl _⟩
 s1:=fun q hq hs=>by
  have k:=h.scan q hs;rw[setcH_c x i c hi q];split
  ·rename_i t;rw[hp,←t];exact k
  ·exact k
theorem Snd.weakT{x:Hp}(h:Snd x)(i:Nat)(hi:i<x.cells.length)(s1:(x.c i).st=1)(n:Int)(hn:0≤n∧n≤3):Snd (setcH x i (weakC (x.c i) n)):=
 h.thin (Thin.self h i _ hi s1 ⟨rfl,rfl,rfl,rfl,rfl⟩ rfl (.inr hn) (.inl rfl) id)
theorem Snd.lastT{x:Hp}(h:Snd x)(i:Nat)(hi:i<x.cells.length)(s1:(x.c i).st=1)(n:Int)(hn:n=0∨n=3):Snd (setcH x i (lastC (x.c i) n)):=
 h.thin (Thin.self h i _ hi s1 ⟨rfl,rfl,rfl,rfl,rfl⟩ rfl (.inl rfl) (.inr ⟨by show 0≤n;omega,by show n≤3;omega⟩) (fun s=>by have s2:n=1∨n=2:=s;omega))
theorem shortHc(x:Hp)(i n:Nat)(hi:i<x.cells.length)(q:Nat):(shortH x i n).c q=if q=i then shortC (x.c i) n else x.c q:=Hp.c_set x i (shortC (x.c i) n) hi q
theorem shortC_p(c:Cl)(n k:Nat)(hk:k<(shortC c n).prs.length):(shortC c n).p k=c.p k∧k<n∧k<c.prs.length:=by
 have e:(shortC c n).prs=c.prs.take n:=rfl;rw[e,List.length_take] at hk;refine⟨?_,by omega,by omega⟩;unfold Cl.p;rw[e];simp [show k<n by omega]
theorem Thin.short{x:Hp}(h:Snd x)(i n:Nat)(hi:i<x.cells.length)(s1:(x.c i).st=1):Thin x (shortH x i n) where
 hl:=by simp [shortH]
 rest:=RestH.refl _
 c:=fun q=>by rw[shortHc x i n hi q];split;(· rename_i t;rw[t];exact⟨rfl,rfl,rfl,rfl,rfl⟩);(· exact⟨rfl,rfl,rfl,rfl,rfl⟩)
 wk:=fun q=>by rw[shortHc x i n hi q];split;(· rename_i t;rw[t];exact .inl rfl);(· exact .inl rfl)
 la:=fun q=>by rw[shortHc x i n hi q];split;(· rename_i t;rw[t];exact .inl rfl);(· exact .inl rfl)
 sp:=fun q=>by rw[shortHc x i n hi q];split;(· rename_i t;rw[t];exact id);(· exact id)
 p:=fun q hq k hk=>by
  rw[shortHc x i n hi q] at hk ⊢
  split at hk
  ·rename_i t;rw[if_pos t,t];obtain⟨a,b,c⟩:=shortC_p _ _ _ hk;refine⟨k,c,a,fun hs=>?_⟩;show(k:Int)<(if scanI x=(i:Int)∧(n:Int)<x.sub then (n:Int) else x.sub)↔_
   split <;> omega
  ·rename_i t;rw[if_neg t];refine⟨k,hk,rfl,fun hs=>?_⟩;show(k:Int)<(if scanI x=(i:Int)∧(n:Int)<x.sub then (n:Int) else x.sub)↔_;rw[if_neg (fun u=>by omega)]
 le:=fun q hq=>by
  rw[shortHc x i n hi q];split
  ·rename_i t;rw[t];show((x.c i).prs.take n).length≤_;rw[List.length_take];omega
  ·exact Nat.le_refl _
 us:=by
  have u:=units_set2 x.cells i (shortC (x.c i) n) hi;rw[Hp.c_eq x i hi] at u;have e1:unitsOf (x.c i)=1+(x.c i).prs.length:=by unfold unitsOf;rw[if_pos s1]
  have e2:unitsOf (shortC (x.c i) n)=1+min n (x.c i).prs.length:=by
   unfold unitsOf;show(if (x.c i).st=1 then 1+((x.c i).prs.take n).length else 0)=_;rw[if_pos s1,List.length_take]
  have h3:=h.r3.1;show x.used-(((x.c i).prs.length-n:Nat):Int)=(units (x.cells.set i (shortC (x.c i) n)):Nat);rw[e1,e2] at u;omega
 ul:=by show x.used-(((x.c i).prs.length-n:Nat):Int)≤x.used;omega
 s0:=by
  have:=h.r1.sub;show 0≤(if scanI x=(i:Int)∧(n:Int)<x.sub then (n:Int) else x.sub)∧(if scanI x=(i:Int)∧(n:Int)<x.sub then (n:Int) else x.sub)≤x.sub
  split <;> omega
 s1:=fun q hq hs=>by
  have k:=h.scan q hs;show(if scanI x=(i:Int)∧(n:Int)<x.sub then (n:Int) else x.sub)≤_;rw[shortHc x i n hi q];by_cases t:q=i
  ·rw[if_pos t];have e:(shortC (x.c i) n).prs.length=min n (x.c i).prs.length:=List.length_take;rw[e];rw[t] at k hs
   split <;> omega
  ·rw[if_neg t,if_neg (fun u=>by omega)];exact k
theorem Snd.short{x:Hp}(h:Snd x)(i n:Nat)(hi:i<x.cells.length)(s1:(x.c i).st=1):Snd (shortH x i n):=h.thin (Thin.short h i n hi s1)
theorem Snd.res{x:Hp}(h:Snd x){u:Wd}{m:Prop}(hl:Leads x u m):Leads x (resW x u) False:=by
 unfold resW
 split
 ·rename_i e;have hlt:u.a.toNat<x.cells.length:=by rcases hl.1 with f | f | f <;> omega
  rcases h.r2.1 _ hlt with⟨a,_⟩ | ⟨_,b⟩ | ⟨a,_⟩
  ·have:=e.2;omega
  ·obtain⟨b1,b2,b3,b4,b5,_⟩:=b;exact⟨.inr (.inr ⟨rfl,rfl,b3,show(x.c u.a.toNat).to<_ by omega⟩),fun _=>.inr ⟨b5,fun d=>by have:=d.1;omega⟩⟩
  ·have:=e.2;omega
 ·rename_i e;refine⟨hl.1,fun hk=>?_⟩;rcases hl.2 hk with⟨a,_⟩ | ⟨a,b⟩
  ·exact(e ⟨hk,a⟩).elim
  ·exact .inr ⟨a,b⟩
theorem Snd.half{x:Hp}(h:Snd x)(i k:Nat)(hi:i<x.cells.length)(nd:¬Doomed x i)(hk:k<(x.c i).prs.length):Leads x (resW x ((x.c i).p k).key) False∧Leads x (resW x ((x.c i).p k).val) False:=
 let q:=((h.r4.2 i hi).2 k hk).2 nd
 ⟨h.res q.1,h.res q.2⟩
theorem DoR.sndA{x:Hp}{a b c:Nat}{n:Int}{y:Hp}{cd nm:Int}{k:Nat}(s:Snd x)(ha:a<16)(hb:k≠1→k≠23→b<16)(h23:k=23→b≤64∧c≤4000)(h11:k=11→c≤3)(h12:k=12→c≤1)(hk:k≠1∧k≠9∧k≠18)(h:DoR x a b c n y cd nm k):Snd y:=by
 unfold DoR at h
 split at h
 ·exact absurd rfl hk.1
 ·rw[h.1];exact s.regTo a _ ⟨.inr (.inl ⟨rfl,rfl⟩),fun e=>by cases e⟩
 ·rw[h.1];exact s.regTo a _ ⟨.inl ⟨rfl,rfl,rfl⟩,fun e=>by cases e⟩
 ·rw[h.1];exact s.regTo a _ (s.reg b (hb (by omega) (by omega)))
 ·have b16:=hb (by omega) (by omega);rcases h with h | h | h
  ·rw[h.2.1];exact s
  ·rw[h.2.2.1];exact s
  ·obtain⟨_,_,p3,_,p5⟩:=s.at b b16 h.1;rw[h.2.2.1];exact s.regTo a _ (s.half _ c p3 p5 h.2.1).1
 ·have b16:=hb (by omega) (by omega);rcases h with h | h | h
  ·rw[h.2.1];exact s
  ·rw[h.2.2.1];exact s
  ·obtain⟨_,_,p3,_,p5⟩:=s.at b b16 h.1;rw[h.2.2.1];exact s.regTo a _ (s.half _ c p3 p5 h.2.1).2
 ·have b16:=hb (by omega) (by omega);rcases h with h | h | h
  ·rw[h.2.1];exact s
  ·rw[h.2.2.1];exact s
  ·obtain⟨_,_,p3,p4,p5⟩:=s.at a ha h.1;rw[h.2.2.1];exact s.put _ c p3 p4 p5 h.2.1 _ (s.reg b b16) ⟨x.r b,((x.c (x.at a)).p c).val⟩ (.inl ⟨rfl,rfl⟩)
 ·have b16:=hb (by omega) (by omega);rcases h with h | h | h
  ·rw[h.2.1];exact s
  ·rw[h.2.2.1];exact s
  ·obtain⟨_,_,p3,p4,p5⟩:=s.at a ha h.1;rw[h.2.2.1];exact s.put _ c p3 p4 p5 h.2.1 _ (s.reg b b16) ⟨((x.c (x.at a)).p c).key,x.r b⟩ (.inr ⟨rfl,rfl⟩)
 ·exact absurd rfl hk.2.1
 ·rcases h with h | h
  ·rw[h.2.1];exact s
  ·obtain⟨_,_,p3,p4,p5⟩:=s.at a ha h.1;rw[h.2.1];exact s.short _ c p3 p4
 ·rcases h with h | h
  ·rw[h.2.1];exact s
  ·obtain⟨_,_,p3,p4,p5⟩:=s.at a ha h.1;have:=h11 rfl;rw[h.2.1];exact s.weakT _ p3 p4 c (by omega)
 ·rcases h with h | h
  ·rw[h.2.1];exact s
  ·obtain⟨_,_,p3,p4,p5⟩:=s.at a ha h.1;have:=h12 rfl;rw[h.2.1]
   split
   ·rename_i e;rw[e];exact s.want _ p3 p4 p5
   ·rename_i e;exact s.lastT _ p3 p4 c (.inl (by omega))
 ·rw[h.1];exact s
 ·rw[h.1];exact s
 ·rw[h.1];exact s
 ·rcases h with h | h
  ·rw[h.2.1];exact s
  ·rw[h.2.1];exact s
 ·rcases h with h | h
  ·rw[h.2.1];exact s
  ·rw[h.2.1];exact s
 ·exact absurd rfl hk.2.2
 ·rcases h.2 with h | ⟨i,h⟩
  ·rw[h.2.1];exact s.regTo a _ ⟨.inl ⟨rfl,rfl,rfl⟩,fun e=>by cases e⟩
  ·obtain⟨hi,l2⟩:i<x.cells.length∧(x.c i).last=2:=by
    rcases h.1 with d | ⟨j,e,hj,hl,_⟩
    ·have:=d.1;omega
    ·have e2:i=j:=by omega
     rw[e2];exact⟨hj,hl⟩
   have s1:=speaks_used s.r2 i hi (.inr l2);have nd:¬Doomed x i:=fun d=>(s.r4.2 i hi).1 ⟨d,.inr l2⟩
   have s2:=s.lastT i hi s1 3 (.inr rfl);rw[h.2.1];refine s2.regTo a _ ⟨.inr (.inr ⟨rfl,rfl,by show(0:Int)≤(i:Int);omega,by show(i:Int)<((setcH x i (lastC (x.c i) 3)).cells.length:Nat);rw[setcH_len];omega⟩),fun _=>.inr ?_⟩;show((setcH x i (lastC (x.c i) 3)).c i).st=1∧¬Doomed (setcH x i (lastC (x.c i) 3)) i;unfold Doomed;rw[setcH_c x i _ hi i,if_pos rfl];exact⟨s1,nd⟩
 ·rw[h.1];exact s
 ·rw[h.1];exact s
 ·obtain⟨_,_,k,_,e⟩:=h;rw[e];exact(s.stepH _).itU k
 ·have:=h23 rfl;rw[h.1];exact s.paceTo _ _ (by omega) (by omega)
 ·exact h.2.2.snd s
 ·exact h.elim
theorem shadeW_born(x:Hp)(y:Wd):(shadeW x y).born=x.born:=by
 unfold shadeW
 split
 ·exact(shade_same x _).2.2.1
 ·rfl
theorem fold_born:∀(ys:List Wd) (z:Hp),(ys.foldl shadeW z).born=z.born
 | [],_=>rfl
 | y::ys,z=>(fold_born ys (shadeW z y)).trans (shadeW_born z y)
theorem uborn1(x:Hp):(unit1 x).born=x.born:=by
 unfold unit1
 split
 ·rfl
 ·by_cases e:spkB (x.c x.hand.toNat)=true
  ·simp only [if_pos e];exact(shade_same x _).2.2.1
  ·simp only [if_neg e]
theorem uborn2(x:Hp):(unit2 x).born=x.born:=by
 unfold unit2
 split
 ·split
  ·exact(shadeW_born _ _).trans (shadeW_born _ _)
  ·rfl
 ·split
  ·exact fold_born x.regs x
  ·exact fold_born x.regs x
theorem uborn3(x:Hp):(unit3 x).born=x.born:=by
 unfold unit3
 split
 ·rfl
 ·split <;> rfl
theorem uborn4(x:Hp):(unit4 x).born=x.born:=by
 unfold unit4
 split <;> rfl
theorem uborn5(x:Hp):(unit5 x).born=x.born:=by
 unfold unit5
 split
 ·rfl
 ·split <;> rfl
theorem uborn6(x:Hp):(unit6 x).born=x.born:=by
 unfold unit6 dropH
 split
 ·rfl
 ·split <;> rfl
theorem unitH_born(x:Hp):(unitH x).born=x.born:=by
 unfold unitH
 repeat (first | (split) | exact uborn1 x | exact uborn2 x | exact uborn3 x | exact uborn4 x | exact uborn5 x | exact uborn6 x | rfl)
theorem itU_born:∀(k:Nat) (x:Hp),(itU k x).born=x.born
 | 0,_=>rfl
 | k+1,x=>by
  first
   | exact(itU_born k (unitH x)).trans (unitH_born x)
   | exact(unitH_born (itU k x)).trans (itU_born k x)
theorem endH_born{x y:Hp}(h:endH x y):y.born=x.born:=by
 obtain⟨k,_,e⟩:=h;rw[e];exact itU_born k x
theorem RdIs.bornE{x y:Hp}(h:RdIs x y):y.born=x.born:=by
 obtain⟨z,a,b⟩:=h;exact(endH_born b).trans (show z.born=x.born from endH_born a)
theorem RoomIs.bornE{x y:Hp}{u:Nat}(h:RoomIs x u y):y.born=x.born:=by
 rcases h with h | h
 ·rw[h.2]
 ·exact h.2.bornE
theorem MakeIs.snd{x:Hp}{a b c:Nat}{y:Hp}{cd nm:Int}(s:Snd x)(hb:b≤255)(hc:c≤200)(h:MakeIs x a b c y cd nm):Snd y:=by
 rcases h.2 with h | ⟨nb,z,hz,h | h⟩
 ·rw[h.2.1];exact s
 ·rw[h.2.1];exact hz.snd s
 ·have sz:=hz.snd s;have eb:=hz.bornE;have b1:=s.r1.born;have hu:z.used+(1+c)≤z.room:=by have e:=h.1;unfold fitsB at e;have:=of_decide_eq_true e;omega
  obtain⟨s1,s2,s3,s4⟩:=sz.make b c (by omega) hc (by omega) hu;refine h.2.2.snd (s1.regTo a ⟨2,0,fstFree z⟩ ⟨.inr (.inr ⟨rfl,rfl,by show(0:Int)≤(fstFree z:Nat);omega,by show((fstFree z:Nat):Int)<_;omega⟩),fun _=>.inr ⟨s2,s4⟩⟩)
theorem filter_at{α:Type}(f:α→Bool)(d:α):∀(l:List α) (k:Nat),k<(l.filter f).length→∃j,j<l.length∧(l.filter f).getD k d=l.getD j d∧∀s,(k<((l.take s).filter f).length↔j<s)
 | [],k,h=>by simp at h
 | a::l,k,h=>by
  cases fa:f a
  ·rw[List.filter_cons_of_neg (by simp [fa])] at h ⊢;obtain⟨j,h1,h2,h3⟩:=filter_at f d l k h;refine⟨j+1,by simp;omega,by rw[h2];rfl,fun s=>?_⟩;cases s with
   | zero=>simp
   | succ s=>
    rw[List.take_succ_cons,List.filter_cons_of_neg (by simp [fa]),h3 s];omega
  ·rw[List.filter_cons_of_pos fa] at h ⊢;cases k with
   | zero=>
    refine⟨0,by simp,rfl,fun s=>?_⟩;cases s with
    | zero=>simp
    | succ s=>rw[List.take_succ_cons,List.filter_cons_of_pos fa];simp
   | succ k=>
    obtain⟨j,h1,h2,h3⟩:=filter_at f d l k (by simp at h;exact h);refine⟨j+1,by simp;omega,by exact h2,fun s=>?_⟩;cases s with
    | zero=>simp
    | succ s=>
     rw[List.take_succ_cons,List.filter_cons_of_pos fa,List.length_cons];have:=h3 s;omega
def fltC(c:Cl)(f:Pr→Bool):Cl:={ c with prs:=c.prs.filter f }
def fltH(x:Hp)(i:Nat)(f:Pr→Bool)(g:Nat)(t:Int):Hp:={ x with cells:=x.cells.set i (fltC (x.c i) f),used:=x.used-g,sub:=t }
theorem fltH_c(x:Hp)(i:Nat)(f:Pr→Bool)(g:Nat)(t:Int)(hi:i<x.cells.length)(q:Nat):(fltH x i f g t).c q=if q=i then fltC (x.c i) f else x.c q:=Hp.c_set x i (fltC (x.c i) f) hi q
theorem flt_len(f:Pr→Bool)(l:List Pr)(n:Nat):((l.take n).filter f).length≤(l.filter f).length∧((l.take n).filter f).length≤n:=by
 constructor
 ·have e:(l.filter f)=((l.take n).filter f)++((l.drop n).filter f):=by rw[←List.filter_append,List.take_append_drop]
  rw[e,List.length_append];omega
 ·have:=List.length_filter_le f (l.take n);rw[List.length_take] at this;omega
theorem Thin.flt{x:Hp}(h:Snd x)(i:Nat)(hi:i<x.cells.length)(f:Pr→Bool)(g:Nat)(t:Int)(hg:((x.c i).prs.filter f).length+g=(x.c i).prs.length)(ht:t=if scanI x=(i:Int) then ((((x.c i).prs.take x.sub.toNat).filter f).length:Int) else x.sub):Thin x (fltH x i f g t) where
 hl:=by simp [fltH]
 rest:=RestH.refl _
 c:=fun q=>by rw[fltH_c x i f g t hi q];split;(· rename_i t;rw[t];exact⟨rfl,rfl,rfl,rfl,rfl⟩);(· exact⟨rfl,rfl,rfl,rfl,rfl⟩)
 wk:=fun q=>by rw[fltH_c x i f g t hi q];split;(· rename_i t;rw[t];exact .inl rfl);(· exact .inl rfl)
 la:=fun q=>by rw[fltH_c x i f g t hi q];split;(· rename_i t;rw[t];exact .inl rfl);(· exact .inl rfl)
 sp:=fun q=>by rw[fltH_c x i f g t hi q];split;(· rename_i t;rw[t];exact id);(· exact id)
 p:=fun q hq k hk=>by
  rw[fltH_c x i f g t hi q] at hk ⊢;by_cases e:q=i
  ·rw[if_pos e] at hk ⊢;rw[e];obtain⟨j,h1,h2,h3⟩:=filter_at f Pr0 (x.c i).prs k hk;refine⟨j,h1,h2,fun hs=>?_⟩;show(k:Int)<t↔_;rw[ht,if_pos hs];have:=h3 x.sub.toNat;have:=h.r1.sub;omega
  ·rw[if_neg e] at hk ⊢;refine⟨k,hk,rfl,fun hs=>?_⟩;show(k:Int)<t↔_;rw[ht,if_neg (fun u=>by omega)]
 le:=fun q hq=>by
  rw[fltH_c x i f g t hi q];split
  ·rename_i e;rw[e];exact List.length_filter_le _ _
  ·exact Nat.le_refl _
 us:=by
  have u:=units_set2 x.cells i (fltC (x.c i) f) hi;rw[Hp.c_eq x i hi] at u;have h3:=h.r3.1;show x.used-(g:Int)=(units (x.cells.set i (fltC (x.c i) f)):Nat);by_cases s1:(x.c i).st=1
  ·have e1:unitsOf (x.c i)=1+(x.c i).prs.length:=by unfold unitsOf;rw[if_pos s1]
   have e2:unitsOf (fltC (x.c i) f)=1+((x.c i).prs.filter f).length:=by
    unfold unitsOf;show(if (x.c i).st=1 then 1+((x.c i).prs.filter f).length else 0)=_;rw[if_pos s1]
   rw[e1,e2] at u;omega
  ·have e1:unitsOf (x.c i)=0:=by unfold unitsOf;rw[if_neg s1]
   have e2:unitsOf (fltC (x.c i) f)=0:=by
    unfold unitsOf;show(if (x.c i).st=1 then 1+((x.c i).prs.filter f).length else 0)=_;rw[if_neg s1]
   have e3:(x.c i).prs.length=0:=by
    rcases h.r2.1 i hi with z | z | z
    ·exact z.2.1.2.2.2.2.2
    ·exact z.2.1.2.2.2.2.2
    ·exact absurd z.1 s1
   rw[e1,e2] at u;omega
 ul:=by show x.used-(g:Int)≤x.used;omega
 s0:=by
  have:=h.r1.sub;have:=(flt_len f (x.c i).prs x.sub.toNat).2;show 0≤t∧t≤x.sub;rw[ht]
  split <;> omega
 s1:=fun q hq hs=>by
  have k:=h.scan q hs;show t≤_;rw[fltH_c x i f g t hi q,ht];by_cases e:q=i
  ·rw[if_pos e,if_pos (by rw[←e];exact hs)];have:=(flt_len f (x.c i).prs x.sub.toNat).1;show _≤((((x.c i).prs.filter f).length:Nat):Int);omega
  ·rw[if_neg e,if_neg (fun u=>by omega)];exact k
end Go.Proofs.YtnegjhddmfiefaaGreatDoor
