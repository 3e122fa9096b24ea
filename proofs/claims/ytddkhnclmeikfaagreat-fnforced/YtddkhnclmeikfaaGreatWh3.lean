import Derived.Test.YtddkhnclmeikfaaGreatDn1
set_option maxRecDepth 100000
set_option maxHeartbeats 8000000
namespace Go.Proofs.YtddkhnclmeikfaaGreat
open Go.RowKit
attribute [local go_sem ↓] Go.wp_at_zero Go.wp_at_succ
theorem move_end[Inhabited ProtD]{B:Nat}{w:World}{b:Nat}{x:Hp}{ar:Option Addr}{kr:Nat}{v4 v8:Value}{br bn:Nat}{cB cO:Nat→Nat}{pb:Nat→Nat}{pa:Nat→Option Addr}{pk:Nat→Nat}{kn hd:Nat}{vf:Value}{F:List Int}{vk:Value}{K:List Nat}{role:Nat→Nat}(h:SAt B w b x ar kr v4 v8 br cB cO bn pb pa pk kn hd vf F vk K role)(hp:x.phase=4)(a:World)(ha:a.heap.size≤B)(hx:Ext a w):
  Calls Tryz.prog 143 #[.pointer (some ⟨b,0,none⟩)] (w.setCell ⟨b,4017,none⟩ (.slice none 0 0)) fun e w'=>e=.returned (nowV 5 b)∧Hid (SAt B w' b (toPh x 5 0) ar kr v4 v8 br cB cO bn pb pa pk kn hd vf F (.slice none 0 0) [] role)∧Ext a w':=by
 have h2:=h.keptAs (vk':=.slice none 0 0) (K':=[]) (World.ownsRow_nil _ _ _ _) (fun q hq=>by simp [Value.ownBlock] at hq);exact turn_low h2 4 hp rfl rfl (by omega) a ha (hx.setCell (p:=⟨b,4017,none⟩) (Nat.le_trans ha h.sb.lo.1) _)
theorem move_any[Inhabited ProtD]{C:Nat}{B:Nat}{w:World}{b:Nat}{x:Hp}{ar:Option Addr}{kr:Nat}{v4 v8:Value}{br bn:Nat}{cB cO:Nat→Nat}{pb:Nat→Nat}{pa:Nat→Option Addr}{pk:Nat→Nat}{kn hd:Nat}{vf:Value}{F:List Int}{vk:Value}{K:List Nat}{role:Nat→Nat}(h:SAt B w b x ar kr v4 v8 br cB cO bn pb pa pk kn hd vf F vk K role)(i:SInv C x F K)(hC:C≤1000000000)(s:Snd x)(hp:x.phase=4)(a:World)(ha:a.heap.size≤B)(hx:Ext a w):
  Calls Tryz.prog 333 #[.agg #[.pointer (some ⟨b,0,none⟩)]] w fun e w'=>e=.returned (nowV (unit4 x).phase b)∧Hid (∃pb' pa' pk' vf' F' vk' K' role',SAt B w' b (unit4 x) ar kr v4 v8 br cB cO bn pb' pa' pk' kn hd vf' F' vk' K' role'∧SInv C (unit4 x) F' K')∧Ext a w':=by
 have XA:=(Ext.refl w).alloc (.cells #[.pointer (some ⟨b,0,none⟩)] 236);have GP:=hide (gap_any (h.ext XA) i.ho (by have:=i.le;omega) i.nn);have H:=hide (h.ext XA);have S:=hide s;have I:=hide i;have HP:=hide hp;have XS:=hide (hx.trans XA);have m0:(w.alloc (.cells #[.pointer (some ⟨b,0,none⟩)] 236)).cell? ⟨w.heap.size,0,none⟩=some (.pointer (some ⟨b,0,none⟩)):=by simp [go_sem]
 have hbw:b<w.heap.size:=h.sb.nb.1;have lo:=h.sb.lo.1
 have hK:K.length≤8000:=by
  have k4:=i.k4 hp;have:=nd_len x.cells.length K (k4.1.imp (fun h=>Nat.ne_of_lt h)) (fun i hi=>(k4.2.1 i hi).1);have:=s.ok.n8;omega
 have FARB:=hide (show ∀q,vf.ownBlock=some q→q<w.heap.size from fun q hq=>(h.sb.fr.own.lt q hq).2);have nsb:¬w.heap.size=b:=by omega
 have BRC:=hide (show br<w.heap.size∧(∀j,j<x.cells.length→cB j<w.heap.size) from⟨(h.rw.nr (by have:=s.r1.regs;omega)).1.1,fun j hn=>(h.rw.nc j hn).1.1⟩);clear h s i hp XA;go_enter Tryz.func333,Tryz.ntmps333;go_wp2_with fail;refine(unhide GP).mono ?_;rintro e w1 ⟨t,vf',F',rfl,lq,gl⟩;have q1:=(unhide lq).2;have NF:Nf1 b w1:=⟨Nat.lt_of_lt_of_le (unhide H).sb.nb.1 q1.size,fun j=>(q1.hfr j).trans ((unhide H).sb.nb.2 j)⟩;obtain⟨role1,h1⟩:=(unhide H).freed (unhide lq).1 q1 NF;have H1:=hide h1;have X1:=hide (q1.ext (unhide XS) (show a.heap.size≤b by omega) (fun k hk=>by have:=((unhide H).sb.fr.own.lt k hk).1;omega));have m1:w1.cell? ⟨w.heap.size,0,none⟩=some (.pointer (some ⟨b,0,none⟩)):=q1.cells m0 nsb (fun e=>by have:=unhide FARB _ e;omega);have k17:=h1.sb.k0;have f17:=h1.sb.nb.2 4017;obtain⟨avk,kvk,hvk⟩:∃a k,vk=.slice a K.length k:=⟨_,_,(own_form h1.sb.kp).1⟩;subst hvk;have hb1:b<w1.heap.size:=h1.sb.nb.1;have hs1:w.heap.size<w1.heap.size:=cell_lt m1
 have ME:=hide (show ∀W,Ext w1 W→unit4 x=toPh x 5 0→Calls Tryz.prog 143 #[.pointer (some ⟨b,0,none⟩)] (W.setCell ⟨b,4017,none⟩ (.slice none 0 0)) fun e w'=>e=.returned (nowV (unit4 x).phase b)∧Hid (∃pb' pa' pk' vf' F' vk' K' role',SAt B w' b (unit4 x) ar kr v4 v8 br cB cO bn pb' pa' pk' kn hd vf' F' vk' K' role'∧SInv C (unit4 x) F' K')∧Ext a w' from fun W xw e4=>by
  refine(move_end (h1.ext xw) (unhide HP) a ha ((unhide X1).trans xw)).mono ?_;rintro e w2 ⟨rfl,h2,x2⟩;rw[e4];exact⟨rfl,⟨_,_,_,_,_,_,_,_,unhide h2,inv4_end (unhide I) (unhide HP) (unhide gl).1⟩,x2⟩)
 clear h1 q1 lq NF m0 H XS;have nbs:¬b=w.heap.size:=by omega
 rcases t with _ | j
 ·have E4:=hide (done_none (unhide I) (unhide gl).1 (unhide gl).2);simp only [gapV];go_wp2_with fail;go_quiet (fail);obtain⟨d1,hd1⟩:∃m,m=nq:=⟨_,rfl⟩;go_wp2_with fail;refine(unhide ME _ ((Ext.refl _).drewN _) (unhide E4)).mono ?_;rintro e w2 ⟨rfl,h2,x2⟩;go_wp2_with fail;go_ret;exact⟨rfl,h2,x2⟩
 ·simp only [gapV];have GT:=hide (show j<x.cells.length∧(x.c j).st=0∧∀v,v∈F'→(j:Int)≤v from(unhide gl).2);have hjn:j<x.cells.length:=(unhide GT).1;rcases List.eq_nil_or_concat K with hK0 | ⟨K0,l,hK0⟩
  ·subst hK0;have E4:=hide (done_nil (unhide I) (unhide HP));simp only [List.length_nil] at k17;go_wp2_with fail;go_quiet (fail);obtain⟨d1,hd1⟩:∃m,m=nq:=⟨_,rfl⟩;go_wp2_with fail;refine(unhide ME _ ((Ext.refl _).drewN _) (unhide E4)).mono ?_;rintro e w2 ⟨rfl,h2,x2⟩;go_wp2_with fail;go_ret;exact⟨rfl,h2,x2⟩
  ·rw[List.concat_eq_append] at hK0;subst hK0;obtain⟨m,hm⟩:∃m,m=K0.length:=⟨_,rfl⟩;have hlen:(K0++[l]).length=m+1:=by simp [hm]
   obtain⟨g,cap,hv,_,_⟩:=(unhide H1).sb.kp.form (by rw[hlen];omega)
   injection hv with hv1 hv2 hv3
   subst hv1 hv3;have ow:=(unhide H1).sb.kp
   have kc:w1.cell? ⟨g,m,none⟩=some (ndp bn l):=by
    rw[ow.cellAt m (by rw[hlen];omega)];simp [hm]
   have LL:=hide (((unhide I).k4 (unhide HP)).2.1 l (by simp));have hln:l<x.cells.length:=(unhide LL).1;have nj0:=((unhide H1).sb.nd j hjn).1;have nl0:=((unhide H1).sb.nd l hln).1;rw[hlen] at k17 hK;have HL:=hide hlen;have HM:=hide hm;have hm0:(0:Int)≤(m:Int):=by omega
   have hm1:(m:Int)<(m:Int)+1:=by omega
   have mc:(m:Int)≤(kvk:Int):=by
    rcases ow.2 with⟨e,_⟩ | ⟨g',cap',cur,e1,_,_,e4,_⟩
    ·simp at e
    ·injection e1 with _ _ e1
     rw[hlen] at e4;omega
   clear hm hlen hv2 ow;by_cases hlj:l<j
   ·have E4:=hide (done_past (unhide I) (unhide HP) (unhide gl).1 (unhide gl).2 hlj);have gt:(j:Int) > (l:Int):=by omega
    go_wp2_with fail;go_quiet (fail);obtain⟨d1,hd1⟩:∃m,m=nq:=⟨_,rfl⟩;go_wp2_with fail;refine(unhide ME _ ((Ext.refl _).drewN _) (unhide E4)).mono ?_;rintro e w2 ⟨rfl,h2,x2⟩;go_wp2_with fail;go_ret;exact⟨rfl,h2,x2⟩
   ·have gt:¬(j:Int) > (l:Int):=by omega
    have GM:=hide (go_move (unhide I) (unhide HP) (unhide gl).1 (unhide gl).2 hlj);have EP:=hide (show(unit4 x).phase=4 by rw[(unhide GM).2.2.1];exact unhide HP)
    have FIN:=hide (show ∀w3,(∃pb' pa' pk' role',SAt B w3 b (moveH x j l) ar kr v4 v8 br cB cO bn pb' pa' pk' kn hd vf' F' (.slice (some ⟨g,0,none⟩) (K0++[l]).length kvk) (K0++[l]) role')→Ext a w3→∀W',Ext w3 W'→Hid (∃pb' pa' pk' vf' F' vk' K' role',SAt B (W'.setCell ⟨b,4017,none⟩ (.slice (some ⟨g,0,none⟩) m kvk)) b (unit4 x) ar kr v4 v8 br cB cO bn pb' pa' pk' kn hd vf' F' vk' K' role'∧SInv C (unit4 x) F' K')∧Ext a (W'.setCell ⟨b,4017,none⟩ (.slice (some ⟨g,0,none⟩) m kvk)) from fun w3 h3 x3 W' xw=>by
     obtain⟨pb',pa',pk',role',h3⟩:=h3;have h4:=h3.ext xw;have ow:=own_short1 h4.sb.kp;rw[←unhide HM] at ow;rw[(unhide GM).2.2.1];refine⟨⟨pb',pa',pk',vf',F',_,K0,role',h4.keptAs (by rw[←unhide HM];exact ow) (fun q hq=>hq),(unhide GM).2.2.2⟩,(x3.trans xw).setCell (p:=⟨b,4017,none⟩) (show a.heap.size≤b by omega) _⟩)
    go_wp2_with fail;go_quiet (fail);obtain⟨d1,hd1⟩:∃m,m=nq:=⟨_,rfl⟩;go_wp2_with fail;go_region_with (go_at_call 334;refine(carry_any ((unhide H1).ext (((Ext.refl w1).drewN _).drew)) (unhide S) j l (unhide GM).2.1 hjn hln a ha ((unhide X1).trans (((Ext.refl w1).drewN _).drew))).mono ?_;rintro e w3 ⟨rfl,h3,x3⟩)
    all_goals
     have Y3:=hide (show ∃pb' pa' pk' role',SAt B w3 b (moveH x j l) ar kr v4 v8 br cB cO bn pb' pa' pk' kn hd vf' F' (.slice (some ⟨g,0,none⟩) (K0++[l]).length kvk) (K0++[l]) role' by obtain⟨pb',pa',pk',role',q3,_⟩:=unhide h3;exact⟨_,_,_,_,q3⟩)
     have t17:w3.cell? ⟨b,4017,none⟩=some (.slice (some ⟨g,0,none⟩) (m+1) kvk):=by
      obtain⟨pb',pa',pk',role',q3⟩:=unhide Y3;have:=q3.sb.k0;rw[unhide HL] at this;exact this
     have u17:w3.frozen? ⟨b,4017,none⟩=false:=by
      obtain⟨pb',pa',pk',role',q3⟩:=unhide Y3;exact q3.sb.nb.2 4017
     have t0:w3.cell? ⟨w.heap.size,0,none⟩=some (.pointer (some ⟨b,0,none⟩)):=by
      obtain⟨pb',pa',pk',role',_,q3⟩:=unhide h3;exact(World.cell?_of_block (a:=⟨w.heap.size,0,none⟩) (q3 w.heap.size (by simpa using hs1) (fun e=>by have:=(unhide BRC).1;omega) (fun j hj e=>by have:=(unhide BRC).2 j hj;omega))).trans m1
     have hb3:b<w3.heap.size:=cell_lt t17;have hs3:w.heap.size<w3.heap.size:=cell_lt t0;have FN:=hide (unhide FIN w3 (unhide Y3) x3);clear h3 k17 f17 kc nj0 nl0;go_wp2_with fail
     go_region
     all_goals
      go_wp2_with fail;go_ret;exact⟨by rw[unhide EP];rfl,(unhide FN w3.drew (Ext.refl w3).drew).1,(unhide FN w3.drew (Ext.refl w3).drew).2⟩
abbrev Nd.v(x:Nd)(vp:Value):Value:=.agg #[iv x.kind,iv x.weak,iv x.last,iv x.rank,vp]
def NdAt(w:World)(b o:Nat)(x:Nd):Prop:=∃vp,w.cell? ⟨b,o,none⟩=some (iv x.kind)∧w.cell? ⟨b,o+1,none⟩=some (iv x.weak)∧w.cell? ⟨b,o+2,none⟩=some (iv x.last)∧w.cell? ⟨b,o+3,none⟩=some (iv x.rank)∧w.cell? ⟨b,o+4,none⟩=some vp∧SlP w vp x.prs
abbrev SlN(w:World)(v:Value)(xs:List Nd):Prop:=SlOf (NdAt w) 5 v xs
theorem NdAt.ext{w w':World}(h:Ext w w'){b o:Nat}{x:Nd}(hx:NdAt w b o x):NdAt w' b o x:=by
 obtain⟨vp,h0,h1,h2,h3,h4,h5⟩:=hx;exact⟨vp,h.keep h0,h.keep h1,h.keep h2,h.keep h3,h.keep h4,SlP.ext h h5⟩
theorem SlN.ext{w w':World}(h:Ext w w'){v:Value}{xs:List Nd}(hx:SlN w v xs):SlN w' v xs:=hx.mono fun _ _ _ k=>k.ext h
def Bes(o1 o2:Option Nat)(Mt Mt' St St':List Nat)(g g':Nat→List (Option Nat)):Prop:=
 ((o1=none∨∃k,o1=some k∧k∈Mt)∧Grow (fun i=>o2=some i) Mt Mt' St St'∧(∀i,o2=some i→i∈Mt')∧g'=g)∨(∃k,o1=some k∧¬k∈Mt∧Mt'=Mt∧St'=St∧g'=fun q=>if q=k then g k++[o2] else g q)
structure BRow(w:World)(bs n k:Nat)(p:Nat→Bool):Prop where
 lt:bs<w.heap.size
 s:∀i,i<n→∃u,w.cell? ⟨bs,i,none⟩=some (.bool u)∧(i<k→u=p i)
 f:∀i,i<n→w.frozen? ⟨bs,i,none⟩=false
theorem BRow.ext{w w':World}{bs n k:Nat}{p:Nat→Bool}(h:BRow w bs n k p)(e:Ext w w'):BRow w' bs n k p:=
 ⟨Nat.lt_of_lt_of_le h.lt e.size,fun i hi=>let ⟨u,hu,hk⟩:=h.s i hi;⟨u,e.keep hu,hk⟩,fun i hi=>by rw[e.frozen (p:=⟨bs,i,none⟩) h.lt];exact h.f i hi⟩
theorem newC_p(b k:Int)(n:Nat)(col:Int)(j:Nat):(newC b k n col).p j=Pr0:=by
 unfold Cl.p newC;simp only [List.getD_eq_getElem?_getD];by_cases h:j<n
 ·simp [h]
 ·simp [h]
theorem Snd.make{x:Hp}(h:Snd x)(k:Int)(n:Nat)(hk:0≤k∧k≤255)(hn:n≤200)(hb:x.born<1000000000)(hu:x.used+(1+n)≤x.room):Snd (makeH x k n)∧((makeH x k n).c (fstFree x)).st=1∧fstFree x<(makeH x k n).cells.length∧¬Doomed (makeH x k n) (fstFree x):=by
 obtain⟨f1,f2,f3⟩:=fstFree_is x;obtain⟨t,ht⟩:∃t,t=fstFree x:=⟨_,rfl⟩;obtain⟨c,hc⟩:∃c,c=newC (x.born+1) k n (newCol x t):=⟨_,rfl⟩;obtain⟨z,hz⟩:∃z,z=makeH x k n:=⟨_,rfl⟩;rw[←ht] at f1 f2 f3 ⊢;have zcs:z.cells=newCs x t c:=by rw[hz,hc,ht];rfl
 have zc:∀q,z.c q=if q=t then c else x.c q:=newCs_c x z t c f1 zcs
 have zl:z.cells.length=if t<x.cells.length then x.cells.length else x.cells.length+1:=by rw[zcs];exact newCs_len x t c
 have zle:x.cells.length≤z.cells.length:=by rw[zl];split <;> omega
 have zq:∀q,q<z.cells.length→q=t∨(q≠t∧q<x.cells.length):=fun q hq=>by
  rw[zl] at hq;by_cases e:q=t
  ·exact .inl e
  ·refine .inr ⟨e,?_⟩
   split at hq <;> omega
 have tl:t<z.cells.length:=by rw[zl];split <;> omega
 have zne:∀q,q≠t→z.c q=x.c q:=fun q e=>by rw[zc q,if_neg e]
 have ze:z.c t=c:=by rw[zc t,if_pos rfl]
 have free:∀q,q<x.cells.length→(x.c q).st≠0→q≠t:=fun q hq hs e=>by subst e;exact hs (f3 hq)
 have zro:z.room=x.room:=by rw[hz];rfl
 have zus:z.used=x.used+(1+n):=by rw[hz];rfl
 have zbo:z.born=x.born+1:=by rw[hz];rfl
 have zre:z.regs=x.regs:=by rw[hz];rfl
 have zph:z.phase=x.phase:=by rw[hz];rfl
 have zha:z.hand=x.hand:=by rw[hz];rfl
 have zsu:z.sub=x.sub:=by rw[hz];rfl
 have zgr:z.gray=x.gray:=by rw[hz];rfl
 have zrest:z.per=x.per∧z.start=x.start∧z.rounds=x.rounds∧z.forced=x.forced:=by rw[hz];exact⟨rfl,rfl,rfl,rfl⟩
 have cst:c.st=1:=by rw[hc];rfl
 have cbo:c.born=x.born+1:=by rw[hc];rfl
 have cto:c.to=0:=by rw[hc];rfl
 have cla:c.last=0:=by rw[hc];rfl
 have cco:c.color=newCol x t:=by rw[hc];rfl
 have cpl:c.prs.length=n:=by rw[hc];simp [newC]
 have cp:∀j,c.p j=Pr0:=fun j=>by rw[hc];exact newC_p _ _ _ _ j
 have ncd:¬Doomed z t:=fun d=>by
  have d4:=d.2.2.2;rw[ze,cco] at d4;unfold newCol at d4;have d1:=d.1;have d2:=d.2.1;rw[zph] at d1;rw[zha] at d2;rw[if_pos (.inr (.inr ⟨d1,d2⟩))] at d4;omega
 have dm:∀q,q≠t→(Doomed z q↔Doomed x q):=fun q e=>by unfold Doomed;rw[zph,zha,zne q e]
 have fm:∀y:Wd,Formed y x.cells.length→Formed y z.cells.length:=fun y f=>by unfold Formed at f ⊢;omega
 have ld:∀(y:Wd) (m:Prop),Leads x y m→Leads z y m:=fun y m l=>⟨fm y l.1,fun hk=>by
  have hf:=l.1;unfold Formed at hf;have hy:y.a.toNat<x.cells.length:=by omega
  rcases l.2 hk with o | o
  ·have e:=free _ hy (by rw[o.1];omega);rw[zne _ e];exact .inl o
  ·have e:=free _ hy (by rw[o.1];omega);rw[zne _ e];exact .inr ⟨o.1,fun d=>o.2 ((dm _ e).1 d)⟩⟩
 have nl:∀m:Prop,Leads z ⟨0,0,0⟩ m:=fun m=>⟨.inl ⟨rfl,rfl,rfl⟩,fun h=>by simp at h⟩
 have us:x.used=(units x.cells:Nat):=h.r3.1;rw[←hz];refine⟨⟨?_,?_,?_,?_,?_,?_,?_,?_⟩,by rw[ze];exact cst,tl,ncd⟩
 ·have rc:=h.r1.cells;have rr:=h.r1.room;refine⟨by rw[zro];exact rr,by rw[zre];exact h.r1.regs,?_,by rw[zgr];exact Nat.le_trans h.r1.gray zle,by rw[zbo];have:=h.r1.born;omega,by rw[zrest.2.2.1];exact h.r1.rounds,by rw[zrest.2.2.2];exact h.r1.forced,by rw[zrest.1];exact h.r1.per,by rw[zrest.2.1];exact h.r1.start,by rw[zph];exact h.r1.phase,by rw[zha];have:=h.r1.hand;omega,by rw[zsu];exact h.r1.sub⟩;rw[zro,zl];by_cases e:t<x.cells.length
  ·rw[if_pos e];exact rc
  ·rw[if_neg e];have:=h.crowd (fun i hi=>f2 i (by omega));omega
 ·refine⟨fun q hq=>?_,fun q hq h0 j hj hb2=>?_⟩
  ·rcases zq q hq with e | ⟨e,hqx⟩
   ·subst e;refine .inr (.inr ⟨by rw[ze];exact cst,?_⟩);rw[ze];have cc:0≤c.color∧c.color≤2:=by rw[cco];unfold newCol;split <;> omega
    have ck:c.kind=k:=by rw[hc];rfl
    have cw:c.weak=0:=by rw[hc];rfl
    have:=h.r1.born;exact⟨by rw[ck];exact hk,by omega,by omega,by rw[zbo];omega,cc,cto,by omega⟩
   ·have ok:=h.r2.1 q hqx;unfold CellOk;rw[zne q e];rcases ok with o | ⟨o,m⟩ | ⟨o,m⟩
    ·exact .inl o
    ·have mt:=m.2.2.2.2.1;have tt:=m.2.2.2.1;have t0:=m.2.2.1;have e2:=free (x.c q).to.toNat (by omega) (by rw[mt];omega);refine .inr (.inl ⟨o,m.1,by rw[zph];exact m.2.1,t0,tt,by rw[zne _ e2];exact mt,fun hp j hj=>?_⟩);rw[zph] at hp;have:=m.2.2.2.2.2 hp j hj;by_cases ej:j=t
     ·rw[ej,ze];omega
     ·rw[zne j ej];exact this
    ·refine .inr (.inr ⟨o,?_⟩);unfold UsedOk at m ⊢;rw[zbo];omega
  ·have key:∀a,a≠t→a<x.cells.length→(x.c a).st=1→(x.c a).born≤x.born:=fun a _ ha hs=>by
    have:=h.r2.1 a ha;unfold CellOk UsedOk at this;omega
   rcases zq q hq with e | ⟨e,hqx⟩
   ·subst e;rcases zq j (by omega) with e2 | ⟨e2,hjx⟩
    ·omega
    ·rw[zne j e2,ze] at hb2;have:=key j e2 hjx (by omega);omega
   ·rcases zq j (by omega) with e2 | ⟨e2,hjx⟩
    ·subst e2;rw[ze,zne q e] at hb2;have:=key q e hqx (by omega);omega
    ·rw[zne j e2,zne q e] at hb2;rw[zne q e] at h0;exact h.r2.2 q hqx h0 j hj hb2
 ·refine⟨?_,by rw[zus,zro];exact hu⟩;rw[zus,zcs];have uc:unitsOf c=1+n:=by unfold unitsOf;rw[if_pos cst,cpl]
  unfold newCs;by_cases e:t<x.cells.length
  ·rw[if_pos e];have u:=units_set2 x.cells t c e;rw[Hp.c_eq x t e] at u;have u0:unitsOf (x.c t)=0:=by unfold unitsOf;rw[if_neg (by rw[f3 e];omega)]
   omega
  ·rw[if_neg e];have:units (x.cells++[c])=units x.cells+unitsOf c:=by simp [units]
   omega
 ·refine⟨fun i hi=>?_,fun q hq=>?_⟩
  ·have e:z.regs[i]=x.regs[i]'(by rw[←zre];exact hi):=by simp only [zre]
   rw[e];exact ld _ _ (h.r4.1 i (by rw[←zre];exact hi))
  ·rcases zq q hq with e | ⟨e,hqx⟩
   ·subst e;refine⟨fun d=>ncd d.1,fun j hj=>?_⟩;rw[ze,cp j];exact⟨fun d=>(ncd d).elim,fun _=>⟨nl _,nl _⟩⟩
   ·have o:=h.r4.2 q hqx;have md:∀j,Mended z q j↔Mended x q j:=fun j=>by unfold Mended;rw[zph,zha,zsu]
    rw[zne q e];refine⟨fun d=>o.1 ⟨(dm q e).1 d.1,d.2⟩,fun j hj=>?_⟩;have p:=o.2 j hj;refine⟨fun d=>?_,fun d=>?_⟩
    ·have:=p.1 ((dm q e).1 d);exact⟨fm _ this.1,fm _ this.2⟩
    ·have:=p.2 (fun d2=>d ((dm q e).2 d2));have em:(¬Mended z q j)=(¬Mended x q j):=propext (not_congr (md j));rw[em];exact⟨ld _ _ this.1,ld _ _ this.2⟩
 ·refine⟨fun hm=>by rw[zgr];exact h.r5.1 (fun m=>hm (by unfold Marking at m ⊢;rw[zph];exact m)),fun q hq=>?_,fun g hg=>?_⟩
  ·rcases zq q hq with e | ⟨e,hqx⟩
   ·subst e
    have c0:cnt x.gray q=0:=by
     by_cases e:q<x.cells.length
     ·have ok:=h.r2.1 q e;have s0:=f3 e;have:(x.c q).color≠1:=by unfold CellOk Bare at ok;omega
      exact(h.r5.2.1 q e).2.1 this
     ·unfold cnt;rw[List.count_eq_zero];intro hg;have:=h.r5.2.2 _ hg;omega
    unfold ColorOk;rw[ze,zgr,zph,zha,cco];refine⟨fun e1=>?_,fun _=>c0,fun e2=>?_⟩
    ·unfold newCol at e1;split at e1 <;> omega
    ·unfold newCol at e2
     split at e2
     ·rename_i hh;rcases hh with hh | hh | hh
      ·exact .inl (by unfold Marking;rw[zph];exact .inl hh)
      ·exact .inl (by unfold Marking;rw[zph];exact .inr hh)
      ·exact .inr hh
     ·omega
   ·have o:=h.r5.2.1 q hqx;unfold ColorOk at o ⊢;rw[zne q e,zgr,zph,zha]
    exact⟨o.1,o.2.1,fun e2=>by
     rcases o.2.2 e2 with m | m
     ·exact .inl (by unfold Marking at m ⊢;rw[zph];exact m)
     ·exact .inr m⟩
  ·rw[zgr] at hg;have:=h.r5.2.2 g hg;omega
 ·obtain⟨a,b,d,e⟩:=h.r6;refine⟨fun hp=>by rw[zph] at hp;rw[zha,zsu];exact a hp,fun hp=>?_,fun hp=>?_,fun hp=>by rw[zph] at hp;rw[zsu];exact e hp⟩
  ·rw[zph] at hp;have b2:=b hp;have eg:z.g0=x.g0:=by unfold Hp.g0;rw[zgr]
   rw[zha,zgr,zsu,eg];refine⟨b2.1,b2.2.1,fun hg=>?_⟩;have hs:=b2.2.2 hg
   have gl:(x.gray.getD 0 0)∈x.gray:=by
    cases hgr:x.gray with
    | nil=>rw[hgr] at hg;simp at hg
    | cons g G=>simp
   have gr:=h.r5.2.2 _ gl;have g0l:x.g0<x.cells.length:=by unfold Hp.g0;omega
   by_cases e2:x.g0=t
   ·have s0:=f3 (by omega);rw[←e2] at s0;have ok:=h.r2.1 x.g0 g0l;have p0:(x.c x.g0).prs.length=0:=by unfold CellOk Bare at ok;omega
    rw[e2,ze,cpl];omega
   ·rw[zne _ e2];exact hs
  ·rw[zph] at hp;have d2:=d hp;have hh:=h.r1.hand;rw[zha,zsu];have hcase:x.hand.toNat=t∨x.hand.toNat≠t:=by omega
   refine⟨fun hq=>?_,fun hq=>?_⟩
   ·rcases hcase with e2 | e2
    ·rcases hq with hq | hq
     ·exfalso;rw[zl] at hq
      split at hq <;> omega
     ·rw[e2,ze] at hq;omega
    ·rcases hq with hq | hq
     ·refine d2.1 (.inl ?_);rw[zl] at hq
      split at hq <;> omega
     ·rw[zne _ e2] at hq;exact d2.1 (.inr hq)
   ·rcases hcase with e2 | e2
    ·have s0:x.sub=0:=by
      by_cases e3:t<x.cells.length
      ·refine d2.1 (.inr ?_);rw[e2,f3 e3];omega
      ·exact d2.1 (.inl (by omega))
     rw[s0];omega
    ·rw[zne _ e2] at hq ⊢;refine d2.2 ⟨fun e3=>?_,hq.2⟩;have h1:=hq.1;have h2:=hq.2;rw[zl] at h1
     split at h1
     ·omega
     ·omega
 ·intro hm q hq;have hm2:Marking x:=by unfold Marking at hm ⊢;rw[zph] at hm;exact hm
  have wh:∀y:Wd,White z y→White x y:=fun y hy=>⟨hy.1,by
   have h2:=hy.2;by_cases e:y.a.toNat=t
   ·rw[e,ze,cco] at h2;unfold newCol at h2;unfold Marking at hm2;rw[if_pos (by omega)] at h2;omega
   ·rw[zne _ e] at h2;exact h2⟩
  rcases zq q hq with e | ⟨e,hqx⟩
  ·subst e;rw[ze];refine⟨fun s=>?_,fun j _=>?_⟩
   ·have:=s.1;unfold Speaks at this;omega
   ·rw[cp j];exact⟨fun w=>by have:=w.1;simp [Pr0] at this,fun w=>by have:=w.1;simp [Pr0] at this⟩
  ·have o:=h.r7 hm2 q hqx;rw[zne q e,zph,zha];refine⟨o.1,fun j hj=>?_⟩;have lk:looked z q=looked x q:=by unfold looked;rw[zne q e,zph,zgr,zsu]
   rw[lk] at hj;exact⟨fun w=>(o.2 j hj).1 (wh _ w),fun w=>(o.2 j hj).2 (wh _ w)⟩
 ·intro q hq;rw[zph,zha];rcases zq q hq with e | ⟨e,hqx⟩
  ·subst e;rw[ze];intro hb2;omega
  ·rw[zne q e];exact h.r8 q hqx
theorem l2reach_ordW(x:Hp)(b:Nat)(w:World){ar:Option Addr}{kr:Nat}{ac:Option Addr}{kc:Nat}{ag:Option Addr}{kg:Nat}(h:HAt w b x ar kr ac kc ag kg)(r2:R2w x)(r4:R4 x)(hn8:x.cells.length≤8000):
  Calls Tryz.prog 134 #[.pointer (some ⟨b,0,none⟩)] w fun e w'=>∃v O N,Hid (e=.returned (.tuple #[.slice (some ⟨w.heap.size,0,none⟩) x.cells.length x.cells.length,v]))∧Sn w' w.heap.size w.heap.size x.cells.length v (zs O)∧Hid (O=ordO x N∧IsW x N∧∀i,i∈O→Reached x i)∧Ext w w':=by
 have c4:=h.c4;have c3:=h.c3;have lr:=h.lr;have hb:b<w.heap.size:=cell_lt c4;have HH:=hide h;have Q2:=hide r2;have Q4:=hide r4;clear h r2 r4;obtain⟨z,hmk,hz⟩:=mkBools x.cells.length (by omega) w;have S0:=hide (Sn.start w x.cells.length 4);rw[←hz] at S0;clear hz;go_enter Tryz.func134,Tryz.ntmps134;go_wp2_with fail;go_loopw [5,24] (fun v i wr=>∃(k:Nat) (L:List Int),k≤x.regs.length∧i=.int .i64 k∧Sn wr w.heap.size w.heap.size x.cells.length v L∧Hid (OnlyR x L∧L=zs (regO x k))∧Ext w wr) (fun _ i _=>x.regs.length-(intOf i).toNat)
 case atStart=>exact⟨0,[],Nat.zero_le _,rfl,unhide S0,⟨(fun z hz=>by cases hz),rfl⟩,(Ext.refl w).alloc _⟩
 case round=>
  clear S0 hmk c4 c3;obtain⟨k,L,hk,rfl,hs,hinv,hbl⟩:=hrel;have HS:=hide hs;clear hs;by_cases hlt:k<x.regs.length
  ·have hh:=(unhide HH).ext hbl;obtain⟨b',o,e1,p0,p1,p2⟩:=hh.R k hlt;have d3:=hh.c3;rw[e1] at d3;have hk0:(0:Int)≤(k:Int):=by omega
   have hk1:(k:Int)<(x.regs.length:Int):=by omega
   have xa:=(Ext.refl wr).alloc (.cells #[iv x.regs[k].k,iv x.regs[k].n,iv x.regs[k].a] 152);subst e1;clear hh;go_wp2_with fail;refine(l2mark_any x x.regs[k] b w.heap.size w.heap.size _ L _ ((unhide HH).ext (hbl.trans xa)) (may_regW (unhide Q2) (unhide Q4) k hlt) ((unhide HS).ext xa) (hbl.trans xa).size hn8).mono ?_;rintro e w2 ⟨v',L',rfl,hs',ha,hm⟩
   have R:=hide (show Sn w2 w.heap.size w.heap.size x.cells.length v' L'∧(OnlyR x L'∧L'=zs (regO x (k+1)))∧Ext w w2 from
    ⟨hs',⟨(unhide hinv).1.add (unhide ha) (fun e=>Reached.reg k hlt e),by
     have h1:=unhide ha;rw[(unhide hinv).2] at h1;rw[add_ad h1,regO_step k hlt]⟩,((unhide HS).ext xa).mext hm (hbl.trans xa)⟩)
   clear hs' ha hm xa;go_wp2_with fail;go_roundw
   case rel=>exact⟨k+1,L',by omega,by go_num,(unhide R).1,(unhide R).2.1,(unhide R).2.2⟩
   case measure=>simp [intOf];omega
  ·have hk2:k=x.regs.length:=by omega
   subst hk2;go_wp2_with fail;refine(l2wants_ord x b _ ((unhide HH).ext hbl) hn8).mono ?_;rintro e w3 ⟨vw,M,rfl,hrw,⟨hpm,hsr⟩,hq⟩;have hx3:=hbl.trans hq;obtain⟨BW,hBW⟩:∃n,n=wr.heap.size:=⟨_,rfl⟩;rw[←hBW] at hrw;obtain⟨adw,capw,rfl,hgw⟩:=hrw.form;have hMl:M.length≤8000:=by have:=hpm.length_eq;have:=valsTo_len (wantB x) castI x.cells.length;unfold wants at *;omega
   have WM:=hide (show ∀j,j<M.length→∃q:Nat,it M j=(q:Int)∧q<x.cells.length∧(x.c q).st=1∧Speaks (x.c q) from fun j hj=>by
    obtain⟨q,hq1,hq2,e⟩:=(valsTo_mem _ _ _ _).1 (hpm.mem_iff.1 (it_mem M j hj));exact⟨q,e.symm,hq1,wantB_iff.1 hq2⟩)
   have WA:=hide (show ∀i,i<x.cells.length→(x.c i).st=1→Speaks (x.c i)→(i:Int)∈M from fun i hi h1 h2=>hpm.mem_iff.2 ((valsTo_mem _ _ _ _).2 ⟨i,hi,wantB_iff.2 ⟨h1,h2⟩,rfl⟩));obtain⟨N,hMN,hWN⟩:=wants_natW (unhide Q2) hpm hsr;have WN:=hide (And.intro hMN hWN);clear hMN hWN hsr;have S3:=hide ((unhide HS).ext hq)
   have AP:=hide (show ∀q,(Value.slice adw M.length capw).ownBlock=some q→¬(Value.ownBlock (Value.slice adw M.length capw)=some w.heap.size) from fun q _ e=>by
    have:=(hrw.own.lt _ e).1;have:=(unhide HS).hb.2;omega)
   have AP2:=hide (fun q (e:(Value.slice adw M.length capw).ownBlock=some q)=>(show ∀u:Value,Sn wr w.heap.size w.heap.size x.cells.length u L→u.ownBlock≠some q from fun u hu f=>by
    have:=(hu.own.lt q f).2;have:=(hrw.own.lt q e).1;omega))
   have APU:=hide (fun q e=>unhide AP2 q e _ (unhide HS));have RW:=hide hrw;have HI:=hide (unhide hinv);clear hrw hpm hq hlt hk AP2 hinv HS hBW;go_wp2_with fail;go_loopw [5,37] (fun v i wx=>∃(k:Nat) (K:List Int),k≤M.length∧i=.int .i64 k∧Sn wx w.heap.size w.heap.size x.cells.length v K∧Rw1 wx BW (.slice adw M.length capw) M∧Hid (∀q,(Value.slice adw M.length capw).ownBlock=some q→v.ownBlock≠some q)∧Hid (OnlyR x K∧K=zs (wantO x N k))∧Ext w wx) (fun _ i _=>M.length-(intOf i).toNat)
   case atStart=>exact⟨0,L,Nat.zero_le _,rfl,unhide S3,unhide RW,unhide APU,⟨(unhide HI).1,(unhide HI).2⟩,hx3⟩
   case round=>
    clear S3 RW APU HI hbl hx3;obtain⟨k,K,hk,rfl,hs,hrw,hap,hinv,hbl⟩:=hrel;have HS:=hide hs;have RW:=hide hrw;by_cases hlt:k<M.length
    ·obtain⟨g,rfl⟩:=hgw (by omega);obtain⟨a1,a2,a3⟩:=hrw.cell k hlt;obtain⟨q,eq,hq1,hq2,hq3⟩:=unhide WM k hlt;rw[eq] at a1;have EQ:=hide eq;have hk0:(0:Int)≤(k:Int):=by omega
     have hk1:(k:Int)<(M.length:Int):=by omega
     have et:tgt x ⟨2,0,(q:Int)⟩=q:=by unfold tgt lead2;simp [hq2]
     have MY:MayMark x ⟨2,0,(q:Int)⟩:=fun _=>⟨rfl,by simp,by simpa using hq1,(fun h=>by simp [hq2] at h),by rw[et];exact good_want (unhide Q4) q hq1 hq2 hq3⟩
     have MYH:=hide MY;have RQ:=hide (show Reached x (tgt x ⟨2,0,(q:Int)⟩) by rw[et];exact Reached.last q hq1 hq2 hq3);have ET:=hide et;have hvb:=hide (show(Value.slice (some ⟨g,0,none⟩) M.length capw).ownBlock≠some w.heap.size from fun e=>unhide AP _ rfl e);clear hs hrw a3 eq et MY hq2 hq3;go_wp2_with fail;refine(l2mark_any x ⟨2,0,(q:Int)⟩ b w.heap.size w.heap.size _ K _ ((unhide HH).ext hbl) (unhide MYH) (unhide HS) hbl.size hn8).mono ?_;rintro e w2 ⟨v',L',rfl,hs',ha,hm⟩
     have R:=hide (show Sn w2 w.heap.size w.heap.size x.cells.length v' L'∧Rw1 w2 BW (.slice (some ⟨g,0,none⟩) M.length capw) M∧(∀q,(Value.slice (some ⟨g,0,none⟩) M.length capw).ownBlock=some q→v'.ownBlock≠some q)∧(OnlyR x L'∧L'=zs (wantO x N (k+1)))∧Ext w w2 from
      ⟨hs',(unhide RW).mfr hm (unhide hvb) (unhide hap),mfr_apart (unhide RW) hm (unhide hap),⟨(unhide hinv).1.add (unhide ha) (fun _=>unhide RQ),by
       have h1:=unhide ha;rw[(unhide hinv).2] at h1;rw[add_ad h1,wantO_step k (by have:=(unhide WN).1;rw[this] at hlt;simpa [zs] using hlt)]
       congr 2
       have h2:=unhide EQ;rw[(unhide WN).1,it_zs (by have:=(unhide WN).1;rw[this] at hlt;simpa [zs] using hlt)] at h2;have h3:=unhide ET;unfold wq;rw[if_pos rfl,h3]
       congr 1;omega⟩,(unhide HS).mext hm hbl⟩)
     clear hs' ha hm;go_wp2_with fail;go_roundw
     case rel=>exact⟨k+1,L',by omega,by go_num,(unhide R).1,(unhide R).2.1,(unhide R).2.2.1,(unhide R).2.2.2.1,(unhide R).2.2.2.2⟩
     case measure=>simp [intOf];omega
    ·have G0:=hide (show OnlyR x K∧∃O,K=zs O∧clO x (x.cells.length+1-0) 0 O=ordO x N from⟨(unhide hinv).1,wantO x N N.length,by
      have h1:=(unhide hinv).2
      have h2:k=N.length:=by
       have h3:=(unhide WN).1;have h4:M.length=N.length:=by rw[h3];simp [zs]
       omega
      rw[h2] at h1;exact h1,rfl⟩)
     clear hs hrw RW hap hinv WM WA AP hgw;go_wp2_with fail;go_loopw [5,10] (fun v i wy=>∃(c:Nat) (J:List Int),c≤J.length∧i=.int .i64 c∧Sn wy w.heap.size w.heap.size x.cells.length v J∧Hid (OnlyR x J∧∃O,J=zs O∧clO x (x.cells.length+1-c) c O=ordO x N)∧Ext w wy) (fun _ i _=>x.cells.length-(intOf i).toNat)
     case atStart=>exact⟨0,K,Nat.zero_le _,rfl,unhide HS,unhide G0,hbl⟩
     case round=>
      clear G0 HS hbl;obtain⟨c,J,hc,rfl,hs,hgo,hbl⟩:=hrel;have HS:=hide hs;obtain⟨ad,cap,rfl,hgl⟩:=hs.form;have hJn:=hs.len;by_cases hlt:c<J.length
      ·obtain⟨g,rfl⟩:=hgl (by omega);obtain⟨a1,a2,a3⟩:=(Rw1.mk hs.own).cell c hlt;obtain⟨j,ej,hrj⟩:=(unhide hgo).1 _ (it_mem J c hlt);rw[ej] at a1;have hgj:=hrj.goodW (unhide Q2) (unhide Q4);have hh:=(unhide HH).ext hbl;obtain⟨b',o,ap,kp,e1,C⟩:=(unhide HH).cell j hgj.1;have d4:=hh.c4;rw[e1] at d4;have p7:=hbl.keep C.p7;have lp:=C.lp;have HP:=hide C.P;have EJ:=hide ej;have RJ:=hide hrj;have GJ:=hide hgj;have hjn:=hgj.1;have c0:(0:Int)≤(c:Int):=by omega
       have c1:(c:Int)<(J.length:Int):=by omega
       have j0:(0:Int)≤(j:Int):=by omega
       have j1:(j:Int)<(x.cells.length:Int):=by omega
       clear hs C hh e1 ej hrj hgj a3 a2;go_wp2_with fail;go_quiet (fail);go_wp2_with fail;go_loopw [5,66] (fun v i wz=>∃(p:Nat) (T:List Int),p≤(x.c j).prs.length∧i=.int .i64 p∧Sn wz w.heap.size w.heap.size x.cells.length v T∧Hid (OnlyR x T∧∃O,T=zs (prO x j p O)∧c<O.length∧(∀h:c<O.length,O[c]=j)∧clO x (x.cells.length+1-c) c O=ordO x N)∧Ext w wz) (fun _ i _=>(x.c j).prs.length-(intOf i).toNat)
       case atStart=>exact⟨0,J,Nat.zero_le _,rfl,(unhide HS).ext ((Ext.refl _).drewN _),⟨(unhide hgo).1,by
        obtain⟨O,h1,h2⟩:=(unhide hgo).2;have h3:c<O.length:=by rw[h1] at hlt;simpa [zs] using hlt
        refine⟨O,h1,h3,fun h=>?_,h2⟩;have h4:=unhide EJ;rw[h1,it_zs h] at h4;omega⟩,hbl.drewN _⟩
       case round=>
        clear HS hgo a1 d4 p7 hbl;obtain⟨p,T,hp,rfl,hs,hinv,hbl2⟩:=hrel;have HS:=hide hs;have hTn:=hs.len;by_cases hpl:p<(x.c j).prs.length
        ·obtain⟨b2,o2,rfl,q0,q1,q2,q3,q4,q5⟩:=unhide HP p hpl;have e0:=hbl2.keep q0;have e1:=hbl2.keep q1;have e2:=hbl2.keep q2;have e3:=hbl2.keep q3;have e4:=hbl2.keep q4;have e5:=hbl2.keep q5;have hb2:b2<wr.heap.size:=cell_lt e0;clear q0 q1 q2 q3 q4 q5 hs;have hp0:(0:Int)≤(p:Int):=by omega
         have hp1:(p:Int)<((x.c j).prs.length:Int):=by omega
         have xa:=(Ext.refl wr).alloc (.cells #[.int .i64 ((x.c j).p p).key.k,.int .i64 ((x.c j).p p).key.n,.int .i64 ((x.c j).p p).key.a,.int .i64 ((x.c j).p p).val.k,.int .i64 ((x.c j).p p).val.n,.int .i64 ((x.c j).p p).val.a] 154);have hMM:=hide (may_pairW (unhide Q2) (unhide Q4) j p (unhide GJ) hpl);have wW:Ext w wr:=hbl2;go_wp2_with fail;refine(l2mark_any x ((x.c j).p p).key b w.heap.size w.heap.size _ T _ ((unhide HH).ext (wW.trans xa)) (unhide hMM).1 ((unhide HS).ext xa) (wW.trans xa).size hn8).mono ?_;rintro e w5 ⟨v5,T5,rfl,hs5,ha5,hm5⟩;have x5:Ext w w5:=((unhide HS).ext xa).mext hm5 (wW.trans xa);have hvl:=((unhide HS).ext xa).own.lt;have u:=fun(o:Nat) (v:Value) (hc:(wr.alloc (.cells #[.int .i64 ((x.c j).p p).key.k,.int .i64 ((x.c j).p p).key.n,.int .i64 ((x.c j).p p).key.a,.int .i64 ((x.c j).p p).val.k,.int .i64 ((x.c j).p p).val.n,.int .i64 ((x.c j).p p).val.a] 154)).cell? ⟨wr.heap.size,o,none⟩=some v)=>(World.cell?_of_block (w':=w5) (a:=⟨wr.heap.size,o,none⟩) (hm5.block wr.heap.size (by simp) (by have:=(unhide HS).hb.2;omega) (fun f=>by have:=((unhide HS).own.lt _ f).2;omega))).trans hc
         have u3:=u 3 _ (by simp [go_sem];rfl);have u4:=u 4 _ (by simp [go_sem];rfl);have u5:=u 5 _ (by simp [go_sem];rfl);have hb5:wr.heap.size<w5.heap.size:=by have:=hm5.size;simp at this;omega
         have S5:=hide hs5;have A5:=hide (unhide ha5);clear u hm5 hs5 ha5 e0 e1 e2 e3 e4 e5 hvl xa;go_wp2_with fail;refine(l2mark_any x ((x.c j).p p).val b w.heap.size w.heap.size _ T5 _ ((unhide HH).ext x5) (unhide hMM).2 (unhide S5) x5.size hn8).mono ?_;rintro e w6 ⟨v6,T6,rfl,hs6,ha6,hm6⟩
         have R:=hide (show Sn w6 w.heap.size w.heap.size x.cells.length v6 T6∧(OnlyR x T6∧∃O,T6=zs (prO x j (p+1) O)∧c<O.length∧(∀h:c<O.length,O[c]=j)∧clO x (x.cells.length+1-c) c O=ordO x N)∧Ext w w6 by
          obtain⟨i1,O,i2,i3,i4,i5⟩:=unhide hinv;have h5:=unhide A5;rw[i2] at h5;have f5:=add_ad h5;have h6:=unhide ha6;rw[f5] at h6;have f6:=add_ad h6;exact⟨hs6,⟨(i1.add (unhide A5) (fun e=>Reached.key j p (unhide RJ) hpl e)).add (unhide ha6) (fun e=>Reached.val j p (unhide RJ) hpl e),O,by rw[f6,prO_step p hpl],i3,i4,i5⟩,(unhide S5).mext hm6 x5⟩)
         clear hs6 ha6 hm6;go_wp2_with fail;go_roundw
         case rel=>exact⟨p+1,T6,by omega,by go_num,(unhide R).1,(unhide R).2.1,(unhide R).2.2⟩
         case measure=>simp [intOf];omega
        ·have hpe:p=(x.c j).prs.length:=by omega
         have R:=hide (show(OnlyR x T∧∃O,T=zs O∧clO x (x.cells.length+1-(c+1)) (c+1) O=ordO x N)∧c+1≤T.length by
          obtain⟨i1,O,i2,i3,i4,i5⟩:=unhide hinv;rw[hpe] at i2;have l1:=prO_len x j (x.c j).prs.length O;refine⟨⟨i1,_,i2,?_⟩,by rw[i2];simp [zs];omega⟩;rw[←i5,clO_step (x:=x) (f:=x.cells.length+1-(c+1)) i3 (i4 i3),show x.cells.length+1-(c+1)+1=x.cells.length+1-c by omega])
         clear hs hpe;go_wp2_with fail;go_roundw
         case rel=>exact⟨c+1,T,(unhide R).2,by go_num,unhide HS,(unhide R).1,hbl2⟩
         case measure=>simp [intOf];omega
      ·have hce:c=J.length:=by omega
       obtain⟨O,h1,h2⟩:=(unhide hgo).2
       have D:=hide (show O=ordO x N∧IsW x N∧∀i,i∈O→Reached x i from⟨by rw[←h2];exact(clO_end (by rw[hce,h1];simp [zs])).symm,(unhide WN).2,fun i hi=>by
        obtain⟨q,e,hq⟩:=(unhide hgo).1 (i:Int) (by rw[h1];exact List.mem_map.2 ⟨i,hi,rfl⟩);have:i=q:=by omega
        rw[this];exact hq⟩)
       have HS2:=hide (show Sn _ w.heap.size w.heap.size x.cells.length (Value.slice ad J.length cap) (zs O) by have h5:=unhide HS;generalize J.length=jl at h5 ⊢;rw[h1] at h5;exact h5);clear hs hce h1 h2;go_wp2_with fail;go_ret2;exact⟨_,O,N,rfl,unhide HS2,unhide D,hbl⟩
def BSl(B:Nat)(w:World)(v:Value)(n:Nat)(p:Nat→Bool):Prop:=(v=.slice none 0 0∧n=0)∨∃bs,v=.slice (some ⟨bs,0,none⟩) n n∧B≤bs∧BRow w bs n n p
theorem BSl.ext{B:Nat}{w w':World}{v:Value}{n:Nat}{p:Nat→Bool}(h:BSl B w v n p)(e:Ext w w'):BSl B w' v n p:=by
 rcases h with h | ⟨bs,h1,h2,h3⟩
 ·exact .inl h
 ·exact .inr ⟨bs,h1,h2,h3.ext e⟩
theorem BRow.only{S:Nat→Prop}{w w':World}{bs n k:Nat}{p:Nat→Bool}(h:BRow w bs n k p)(o:Only S w w')(hs:¬S bs):BRow w' bs n k p:=
 ⟨Nat.lt_of_lt_of_le h.lt o.size,fun i hi=>let ⟨u,hu,hk⟩:=h.s i hi;⟨u,o.keep hs hu,hk⟩,fun i hi=>by rw[o.frozen h.lt hs];exact h.f i hi⟩
theorem BSl.only{S:Nat→Prop}{B:Nat}{w w':World}{v:Value}{n:Nat}{p:Nat→Bool}(h:BSl B w v n p)(o:Only S w w')(hs:∀bs,B≤bs→bs<w.heap.size→v.ownBlock=some bs→¬S bs):BSl B w' v n p:=by
 rcases h with h | ⟨bs,h1,h2,h3⟩
 ·exact .inl h
 ·exact .inr ⟨bs,h1,h2,h3.only o (hs bs h2 h3.lt (by rw[h1];rfl))⟩
theorem BSl.own{B:Nat}{w:World}{v:Value}{n:Nat}{p:Nat→Bool}(h:BSl B w v n p)(bs:Nat)(e:v.ownBlock=some bs):B≤bs∧bs<w.heap.size:=by
 rcases h with⟨h,_⟩ | ⟨b2,h1,h2,h3⟩
 ·rw[h] at e;simp [Value.ownBlock] at e
 ·rw[h1] at e;simp [Value.ownBlock] at e;subst e;exact⟨h2,h3.lt⟩
theorem BSl.form{B:Nat}{w:World}{v:Value}{n:Nat}{p:Nat→Bool}(h:BSl B w v n p):∃ad c,v=.slice ad n c:=by
 rcases h with⟨h,e⟩ | ⟨bs,h1,_⟩
 ·exact⟨none,0,by rw[h,e]⟩
 ·exact⟨_,_,h1⟩
theorem roots_cell[Inhabited ProtD]{B:Nat}{w:World}{b:Nat}{x:Hp}{ar:Option Addr}{kr:Nat}{v4 v8:Value}{br bn:Nat}{cB cO:Nat→Nat}{pb:Nat→Nat}{pa:Nat→Option Addr}{pk:Nat→Nat}{kn hd:Nat}{vf:Value}{F:List Int}{vk:Value}{K:List Nat}{role:Nat→Nat}(h:SAt B w b x ar kr v4 v8 br cB cO bn pb pa pk kn hd vf F vk K role)(s:Snd x)(hp:x.phase=1)(i:Nat)(hi:x.hand=(i:Int))(hin:i<x.cells.length)(a:World)(ha:a.heap.size≤B)(hx:Ext a w):
  Calls Tryz.prog 328 #[.agg #[.pointer (some ⟨b,0,none⟩)]] w fun e w'=>e=.returned (nowV (unit1 x).phase b)∧Hid (SAt B w' b (unit1 x) ar kr v4 v8 br cB cO bn pb pa pk kn hd vf F vk K role)∧Ext a w':=by
 have ei:x.hand.toNat=i:=by omega
 have EU:=hide (show unit1 x={ (if spkB (x.c i)=true then shadeH x i else x) with hand:=(i:Int)+1 } by unfold unit1;rw[if_neg (by omega),ei,hi]);have H:=hide h;have EP:=hide (show(unit1 x).phase=1 by rw[unhide EU];split;exact((shade_same x i).2.2.2.2.2.1).trans hp;exact hp);have n8:=s.ok.n8;have XA:=(Ext.refl w).alloc (.cells #[.pointer (some ⟨b,0,none⟩)] 233);have c6:=h.sb.bx.2.2.2.2.2.2.1;rw[hi] at c6;have QA:=hide (atHand_some b x.cells.length kn bn i _ (XA.keep c6) (XA.keep h.sb.n13) hin);have GF:=hide ((gray_fit s.ok).2 i hin);have XA2:=hide XA;have hbw:b<w.heap.size:=h.sb.nb.1;have lo:=h.sb.lo.1;have HI:=hide hi;clear h hp XA s ei hi c6;go_enter Tryz.func328,Tryz.ntmps328;go_wp2_with fail;refine(unhide QA).mono ?_;rintro e w1 ⟨rfl,x1⟩;have r0:w1.cell? ⟨w.heap.size,0,none⟩=some (.pointer (some ⟨b,0,none⟩)):=x1.keep (by simp [go_sem]);have X1:=hide ((unhide XA2).trans x1);have H1:=hide ((unhide H).ext (unhide X1));have QS:=hide (sspeaks_any (x.c i) bn i (cB i) (cO i) w1 ((unhide H1).sb.nd i hin).2 ((unhide H1).rw.s i hin));clear x1 XA2 QA;go_wp2_with fail;refine(unhide QS).mono ?_;rintro e w2 ⟨rfl,hw2⟩;subst hw2;cases q:spkB (x.c i)
 ·have E:=hide (show unit1 x={ x with hand:=(i:Int)+1 } by rw[unhide EU,q];rfl);have c6:w2.cell? ⟨b,6,none⟩=some (iv i):=by have:=(unhide H1).sb.bx.2.2.2.2.2.2.1;rw[unhide HI] at this;exact this
  have f6:=(unhide H1).sb.nb.2 6;have hb1:b<w2.heap.size:=cell_lt c6;have hb2:w.heap.size<w2.heap.size:=cell_lt r0;have FN:=hide ((unhide H1).hand ((i:Int)+1));have XN:=hide ((hx.trans (unhide X1)).setCell (p:=⟨b,6,none⟩) (show a.heap.size≤b by omega) (iv ((i:Int)+1)));go_wp2_with fail;go_ret;exact⟨by rw[unhide EP];rfl,by rw[unhide E];exact unhide FN,unhide XN⟩
 ·have E:=hide (show unit1 x={ shadeH x i with hand:=(i:Int)+1 } by rw[unhide EU,q];rfl);go_wp2_with fail;refine(sshade_fr i _ (unhide H1) hin (unhide GF) a ha (hx.trans (unhide X1))).mono ?_;rintro e w3 ⟨rfl,h3,x3,fr⟩;have hb2:w.heap.size<w2.heap.size:=cell_lt r0;have hbc:cB i<w.heap.size:=((unhide H).rw.nc i hin).1.1;have r3:w3.cell? ⟨w.heap.size,0,none⟩=some (.pointer (some ⟨b,0,none⟩)):=(World.cell?_of_block (a:=⟨w.heap.size,0,none⟩) (unhide fr w.heap.size hb2 (by omega) (by omega))).trans r0;have c6:w3.cell? ⟨b,6,none⟩=some (iv i):=by have:=(unhide h3).sb.bx.2.2.2.2.2.2.1;rw[(shade_same x i).2.2.2.2.2.2.1,unhide HI] at this;exact this
  have f6:=(unhide h3).sb.nb.2 6;have hb1:b<w3.heap.size:=cell_lt c6;have hb3:w.heap.size<w3.heap.size:=cell_lt r3;have FN:=hide ((unhide h3).hand ((i:Int)+1));have XN:=hide (x3.setCell (p:=⟨b,6,none⟩) (show a.heap.size≤b by omega) (iv ((i:Int)+1)));clear r0 fr;go_wp2_with fail;go_ret;exact⟨by rw[unhide EP];rfl,by rw[unhide E];exact unhide FN,unhide XN⟩
def Pend(Mt St:List Nat)(pre:Option Nat)(k:Nat):Prop:=¬k∈Mt∨k∈St∨pre=some k
def ClsTo(x:Hp)(Mt St:List Nat)(g:Nat→List (Option Nat))(pre:Option Nat)(i l:Nat):Prop:=∀p,p<(x.c i).prs.length→p<l→(SK (x.c i)→((x.c i).p p).key.k=2→tgt x ((x.c i).p p).key∈Mt)∧
 (SV (x.c i)→((x.c i).p p).val.k=2→(((x.c i).p p).key.k≠2→tgt x ((x.c i).p p).val∈Mt)∧(((x.c i).p p).key.k=2→tgt x ((x.c i).p p).val∈Mt∨(some (tgt x ((x.c i).p p).val)∈g (tgt x ((x.c i).p p).key)∧Pend Mt St pre (tgt x ((x.c i).p p).key))))
structure InvH(x:Hp)(Mt St:List Nat)(g:Nat→List (Option Nat))(pre cur:Option Nat):Prop where
 only:∀i,i∈Mt→Held x i
 regs:RegsN x x.regs.length Mt
 due:∀i,i<x.cells.length→(x.c i).last=2→i∈Mt
 wh:∀k i,some i∈g k→Held x k→Held x i
 wl:∀k i,some i∈g k→i<x.cells.length
 part:∀i,i∈Mt→i∈St∨cur=some i∨ClsTo x Mt St g pre i (x.c i).prs.length
theorem ClsTo.more{x:Hp}{Mt St:List Nat}{g g':Nat→List (Option Nat)}{pre:Option Nat}{i l:Nat}(h:ClsTo x Mt St g pre i l)(hg:∀k o,o∈g k→o∈g' k):ClsTo x Mt St g' pre i l:=fun p h1 h2=>
 ⟨(h p h1 h2).1,fun a b=>⟨((h p h1 h2).2 a b).1,fun c=>by
  rcases ((h p h1 h2).2 a b).2 c with q | ⟨q,r⟩
  ·exact .inl q
  ·exact .inr ⟨hg _ _ q,r⟩⟩⟩
theorem InvH.take{x:Hp}{Mt St:List Nat}{g:Nat→List (Option Nat)}{j:Nat}(h:InvH x Mt (St++[j]) g none none):InvH x Mt St g (some j) (some j):=
 ⟨h.only,h.regs,h.due,h.wh,h.wl,fun i hi=>by
  rcases h.part i hi with r | r | r
  ·rcases List.mem_append.1 r with q | q
   ·exact .inl q
   ·simp at q;exact .inr (.inl (by rw[q]))
  ·cases r
  ·refine .inr (.inr fun p h1 h2=>⟨(r p h1 h2).1,fun a b=>⟨((r p h1 h2).2 a b).1,fun c=>?_⟩⟩);rcases ((r p h1 h2).2 a b).2 c with q | ⟨q,s⟩
   ·exact .inl q
   ·refine .inr ⟨q,?_⟩;rcases s with s | s | s
    ·exact .inl s
    ·rcases List.mem_append.1 s with t | t
     ·exact .inr (.inl t)
     ·simp at t;exact .inr (.inr (by rw[t]))
    ·cases s⟩
theorem InvH.freed{x:Hp}{Mt St:List Nat}{g:Nat→List (Option Nat)}{j:Nat}(h:InvH x Mt St g (some j) (some j))(f:∀i,some i∈g j→i∈Mt):InvH x Mt St g none (some j):=
 ⟨h.only,h.regs,h.due,h.wh,h.wl,fun i hi=>by
  rcases h.part i hi with r | r | r
  ·exact .inl r
  ·exact .inr (.inl r)
  ·refine .inr (.inr fun p h1 h2=>⟨(r p h1 h2).1,fun a b=>⟨((r p h1 h2).2 a b).1,fun c=>?_⟩⟩);rcases ((r p h1 h2).2 a b).2 c with q | ⟨q,s⟩
   ·exact .inl q
   ·rcases s with s | s | s
    ·exact .inr ⟨q,.inl s⟩
    ·exact .inr ⟨q,.inr (.inl s)⟩
    ·cases s;exact .inl (f _ q)⟩
theorem Bes.len{o1 o2:Option Nat}{M M' S S':List Nat}{g g':Nat→List (Option Nat)}(h:Bes o1 o2 M M' S S' g g')(k:Nat):(g' k).length≤(g k).length+1:=by
 rcases h with⟨_,_,_,e⟩ | ⟨q,_,_,_,_,e⟩
 ·rw[e];omega
 ·rw[e];by_cases z:k=q
  ·subst z;simp
  ·simp [z]
end Go.Proofs.YtddkhnclmeikfaaGreat
