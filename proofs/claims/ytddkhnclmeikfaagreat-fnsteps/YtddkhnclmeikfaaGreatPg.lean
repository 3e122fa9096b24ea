import Derived.Test.YtddkhnclmeikfaaGreatPy
set_option maxRecDepth 100000
set_option maxHeartbeats 1000000
namespace Go.Proofs.YtddkhnclmeikfaaGreat
open Go.RowKit
attribute [local go_sem ↓] Go.wp_at_zero Go.wp_at_succ
variable{K:List Nat}{x:Hp}{F F':List Int}{B bn b kr br kn hd C l j:Nat}{w:World}{ar:Option Addr}{v4 v8 vf vk:Value}{cB cO pb pk role:Nat->Nat}{pa:Nat->Option Addr}
theorem SAt.keptAs[Inhabited uN](h:SAt B w b x ar kr v4 v8 br cB cO bn pb pa pk kn hd vf F vk K role){vk':Value}{K':List Nat}(ow:w.ownsRow B 126 1 vk' K'.length (K'.map (ndp bn)))(hb:∀q,vk'.ownBlock=some q->vk.ownBlock=some q):
  SAt B (w.setCell ⟨b,4017,none⟩ vk') b x ar kr v4 v8 br cB cO bn pb pa pk kn hd vf F vk' K' role:=by
 have far:∀q,q≠b->(w.setCell ⟨b,4017,none⟩ vk').heap[q]?=w.heap[q]?:=λq hne=>Below.heap_setCell _ _ _ _ hne
 have cb:∀o,o≠4017->(w.setCell ⟨b,4017,none⟩ vk').cell? ⟨b,o,none⟩=w.cell? ⟨b,o,none⟩:=λo ho=>uC _ (.inr (λe=>ho e.symm))
 have ne:∀q,role q≠0->q≠b:=λq hq e=>hq (by rw[e];exact h.sp.b)
 have hsz:w.heap.size<=(w.setCell ⟨b,4017,none⟩ vk').heap.size:=by simp [World.setCell]
 have fn:=far bn (ne bn (by rw[h.sp.n];omega));refine⟨⟨h.sb.bx.of λo ho=>cb o (by omega),h.sb.ha,(cb 13 (by omega)).trans h.sb.n13,λk hk=>⟨(World.cell?_of_block (a:=⟨bn,_,none⟩) fn).trans (h.sb.nd k hk).1,(World.cell?_of_block (a:=⟨bn,_,none⟩) fn).trans (h.sb.nd k hk).2⟩,⟨(cb 14 (by omega)).trans h.sb.fr.hd,?_,uQ h.sb.fr.own (λq hq=>far q (ne q (by rw[h.sp.f q hq];omega))),h.sb.fr.apart⟩,h.sb.rg.of λo _ h2=>cb o (by omega),?_,?_,h.sb.nb.set _ _,⟨h.sb.lo.1,h.sb.lo.2.1,h.sb.lo.2.2.of fn hsz⟩⟩,?_,?_,h.pr.of (λq hq h1=>far q (ne q (by rw[h1];omega))) (λ_ _ h=>h)⟩
 ·rw[World.frozen?_setCell];exact h.sb.fr.hf
 ·exact World.cell?_setCell_same _ _ _ h.sb.k0
 ·exact uQ ow (λq hq=>far q (ne q (by rw[h.sp.k q (hb q hq)];omega)))
 ·exact h.rw.same hsz (λhl=>far br (ne br (by rw[h.sp.r hl];omega))) (λq hq=>far (cB q) (ne (cB q) (by rw[h.sp.c q hq];omega))) (λq hq hl=>far (pb q) (ne (pb q) (by rw[h.sp.p q hq hl];omega)))
 ·exact⟨h.sp.b,h.sp.n,h.sp.r,h.sp.c,h.sp.f,λq hq=>h.sp.k q (hb q hq),h.sp.p⟩
theorem c0e{e:TypeId}{a:Option Addr}{k:Nat}(h:w.ownsRow B e 1 (.slice a (K++[l]).length k) (K++[l]).length ((K++[l]).map (ndp bn))):w.ownsRow B e 1 (.slice a K.length k) K.length (K.map (ndp bn)):=by
 obtain⟨_,h2⟩:=h;refine⟨by simp,?_⟩;rcases h2 with⟨_,h0⟩ | ⟨g,cap,cur,e1,e2,e3,e4,e5,e6,e7⟩
 ·simp at h0
 ·injection e1 with e1 e1b e1c
  subst e1 e1c;refine .inr ⟨g,_,cur,rfl,e2,e3,by simp at e4;omega,e5,e6,?_⟩;have:=congrArg (List.take K.length) e7;rw[List.take_take] at this;simp at this
  simpa using this
theorem a8b(x:Hp)(hd:∀i j,i<x.cells.length->j<x.cells.length->(x.c i).st=1->(x.c j).st=0->i<j):unit4 x=dD x 5 0:=by
 unfold unit4;obtain⟨a,b,c⟩:=a0z x;rw[if_pos];rcases a1w x x.cells.length with⟨e,_⟩ | ⟨f,e,hf,h1,_⟩
 ·rw[e];omega
 ·rw[e];rcases Nat.lt_or_ge (cD x) x.cells.length with l | l
  ·have:=hd f _ hf l h1 (c l);omega
  ·omega
theorem c7n(x:Hp)(j l:Nat)(hj:j<x.cells.length)(h0:(x.c j).st=0)(hm:∀q,q<j->(x.c q).st≠0)(hl:l<x.cells.length)(h1:(x.c l).st=1)(hx:∀i,l<i->i<x.cells.length->(x.c i).st≠1)(hjl:j<l):unit4 x=zN x j l:=by
 have e1:=b1v x j hj hm h0
 have e2:a1s x x.cells.length=(l:Int):=by
  rcases a1w x x.cells.length with⟨_,h⟩ | ⟨f,e,hf,h2,h3⟩
  ·exact absurd h1 (h l hl)
  ·rcases Nat.lt_trichotomy f l with q | q | q
   ·exact absurd h1 (h3 l q hl)
   ·rw[e,q]
   ·exact absurd h2 (hx f q hf)
 unfold unit4;rw[e1,e2,if_neg (by omega)];rfl
theorem c7o(h:zJ C x F K)(hp:x.phase=4)(g:b2z x F F'):zJ C (dD x 5 0) F' [] where
 ho:=g.1
 al:=λi hi hs=>g.2.2.2 i hi hs (h.al i hi hs)
 nn:=λv hv=>h.nn v (g.2.2.1 v hv)
 le:=by
  have h1:=h.le;have h2:=g.2.1;have e1:yN x=8000:=by unfold yN;rw[if_neg (by omega),if_neg (by omega),if_pos (by omega)]
  have e2:yN (dD x 5 0)=8000:=rfl;omega
 k3:=λe=>by simp [dD] at e
 k4:=λe=>by simp [dD] at e
 k0:=λ_ _=>rfl
theorem c3u(h:zJ C x F K)(g:b2z x F F')(t:GapT x F' none):unit4 x=dD x 5 0:=a8b x λi j hi hj h1 h0=>by
 have:=g.2.2.2 j hj h0 (h.al j hj h0);have t':F'=[]:=t;rw[t'] at this;exact absurd this (by simp)
theorem c7p(h:zJ C x F [])(hp:x.phase=4):unit4 x=dD x 5 0:=a8b x λi j hi hj h1 h0=>(h.k4 hp).2.2 i hi h1 (by simp) j hj h0
theorem b5u(h:(K++[l]).Pairwise (· < ·)):∀i,i∈K->i<l:=λi hi=>(List.pairwise_append.1 h).2.2 i hi l (by simp)
theorem c3v(h:zJ C x F (K++[l]))(hp:x.phase=4)(g:b2z x F F')(t:GapT x F' (some j))(hl:l<j):unit4 x=dD x 5 0:=a8b x λi q hi hq h1 h0=>by
 have k4:=h.k4 hp;by_cases e:i∈K++[l]
 ·have hil:i<=l:=by
   rcases List.mem_append.1 e with e | e
   ·have:=b5u k4.1 i e;omega
   ·simp at e;omega
  have:=t.2.2 q (g.2.2.2 q hq h0 (h.al q hq h0));omega
 ·exact k4.2.2 i hi h1 e q hq h0
theorem c3w(h:zJ C x F K)(g:b2z x F F')(t:GapT x F' (some j)):∀q,q<x.cells.length->(x.c q).st=0->j<=q:=λq hq h0=>by
 have:=t.2.2 q (g.2.2.2 q hq h0 (h.al q hq h0));omega
theorem moveH_c(x:Hp)(t f:Nat)(ht:t<x.cells.length)(hf:f<x.cells.length)(q:Nat):(zN x t f).c q=if q=f then mvC t else if q=t then x.c f else x.c q:=mvd_c x t f ht hf q
theorem go_move(h:zJ C x F (K++[l]))(hp:x.phase=4)(g:b2z x F F')(t:GapT x F' (some j))(hl:¬l<j):l<x.cells.length/\j≠l/\unit4 x=zN x j l/\zJ C (zN x j l) F' K:=by
 have k4:=h.k4 hp;obtain⟨hll,hl1⟩:=k4.2.1 l (by simp);have hjl:j≠l:=λe=>by have:=t.2.1;rw[e,hl1] at this;omega
 have lt:=c3w h g t;have c:=moveH_c x j l t.1 hll;refine⟨hll,hjl,c7n x j l t.1 t.2.1 (λq hq e=>by have:=lt q (by have:=t.1;omega) e;omega) hll hl1 (λi h1 h2 h3=>?_) (by omega),?_⟩
 ·by_cases e:i∈K++[l]
  ·rcases List.mem_append.1 e with e | e
   ·have:=b5u k4.1 i e;omega
   ·simp at e;omega
  ·have:=k4.2.2 i h2 h3 e j t.1 t.2.1;omega
 ·have len:(zN x j l).cells.length=x.cells.length:=by simp [zN]
  have free:∀i,((zN x j l).c i).st=0->(x.c i).st=0/\i≠j/\i≠l:=λi hi=>by
   rw[c i] at hi;by_cases e1:i=l
   ·rw[if_pos e1] at hi;simp [mvC] at hi
   ·rw[if_neg e1] at hi;by_cases e2:i=j
    ·rw[if_pos e2,hl1] at hi;omega
    ·rw[if_neg e2] at hi;exact⟨hi,e2,e1⟩
  refine⟨g.1,λi hi hs=>?_,λv hv=>h.nn v (g.2.2.1 v hv),?_,λe=>?_,λ_=>⟨?_,λi hi=>?_,λi hi h1 hn q hq h0=>?_⟩,λ_ e=>absurd hp e⟩
  ·rw[len] at hi;exact g.2.2.2 i hi (free i hs).1 (h.al i hi (free i hs).1)
  ·have h1:=h.le;have h2:=g.2.1;have e1:yN x=8000:=by unfold yN;rw[if_neg (by omega),if_neg (by omega),if_pos (by omega)]
   have hp2:(zN x j l).phase=4:=hp;have e2:yN (zN x j l)=8000:=by unfold yN;rw[if_neg (by omega),if_neg (by omega),if_pos (by omega)]
   omega
  ·have hp2:(zN x j l).phase=4:=hp;omega
  ·exact(List.pairwise_append.1 k4.1).1
  ·have:=b5u k4.1 i hi;obtain⟨a1,a2⟩:=k4.2.1 i (List.mem_append_left _ hi);refine⟨by rw[len];exact a1,?_⟩;rw[c i,if_neg (by omega),if_neg (λe=>by have:=t.2.1;rw[<-e,a2] at this;omega)];exact a2
  ·rw[len] at hi hq;obtain⟨f1,f2,f3⟩:=free q h0;rw[c i] at h1;by_cases e1:i=l
   ·rw[if_pos e1] at h1;simp [mvC] at h1
   ·rw[if_neg e1] at h1;by_cases e2:i=j
    ·have:=lt q hq f1;omega
    ·rw[if_neg e2] at h1;exact k4.2.2 i hi h1 (λe=>by rcases List.mem_append.1 e with e | e;exact hn e;simp at e;exact e1 e) q hq f1
theorem c7q[Inhabited uN](h:SAt B w b x ar kr v4 v8 br cB cO bn pb pa pk kn hd vf F vk K role)(hp:x.phase=4)(a:World)(ha:a.heap.size<=B)(hx:Ext a w):
  Calls Tryz.prog 143 #[.pointer (some ⟨b,0,none⟩)] (w.setCell ⟨b,4017,none⟩ (.slice none 0 0)) λe w'=>e=.returned (zV 5 b)/\Hid (SAt B w' b (dD x 5 0) ar kr v4 v8 br cB cO bn pb pa pk kn hd vf F (.slice none 0 0) [] role)/\Ext a w':=by
 have h2:=h.keptAs (vk':=.slice none 0 0) (K':=[]) (World.ownsRow_nil _ _ _ _) (λq hq=>by simp [Value.ownBlock] at hq);exact a6n h2 4 hp rfl rfl (by omega) a ha (hx.setCell (p:=⟨b,4017,none⟩) (Nat.le_trans ha h.sb.lo.1) _)
theorem c7r[Inhabited uN](h:SAt B w b x ar kr v4 v8 br cB cO bn pb pa pk kn hd vf F vk K role)(i:zJ C x F K)(hC:C<=1000000000)(s:Snd x)(hp:x.phase=4)(a:World)(ha:a.heap.size<=B)(hx:Ext a w):
  Calls Tryz.prog 333 #[.agg #[.pointer (some ⟨b,0,none⟩)]] w λe w'=>e=.returned (zV (unit4 x).phase b)/\Hid (∃pb' pa' pk' vf' F' vk' K' role',SAt B w' b (unit4 x) ar kr v4 v8 br cB cO bn pb' pa' pk' kn hd vf' F' vk' K' role'/\zJ C (unit4 x) F' K')/\Ext a w':=by
 have XA:=(Ext.refl w).alloc (.cells #[.pointer (some ⟨b,0,none⟩)] 236);have GP:=uU (gap_any (h.ext XA) i.ho (by have:=i.le;omega) i.nn);have H:=uU (h.ext XA);have S:=uU s;have I:=uU i;have HP:=uU hp;have XS:=uU (hx.trans XA);have m0:(w.alloc (.cells #[.pointer (some ⟨b,0,none⟩)] 236)).cell? ⟨w.heap.size,0,none⟩=some (.pointer (some ⟨b,0,none⟩)):=by simp [go_sem]
 have hbw:b<w.heap.size:=h.sb.nb.1;have lo:=h.sb.lo.1
 have hK:K.length<=8000:=by
  have k4:=i.k4 hp;have:=b1o x.cells.length K (k4.1.imp (λh=>Nat.ne_of_lt h)) (λi hi=>(k4.2.1 i hi).1);have:=s.ok.n8;omega
 have FARB:=uU (show ∀q,vf.ownBlock=some q->q<w.heap.size from λq hq=>(h.sb.fr.own.lt q hq).2);have nsb:¬w.heap.size=b:=by omega
 have BRC:=uU (show br<w.heap.size/\(∀j,j<x.cells.length->cB j<w.heap.size) from⟨(h.rw.nr (by have:=s.r1.regs;omega)).1.1,λj hn=>(h.rw.nc j hn).1.1⟩);clear h s i hp XA;go_enter Tryz.func333,Tryz.ntmps333;go_wp2_with fail;refine GP.mono ?_;rintro e w1 ⟨t,vf',F',rfl,lq,gl⟩;have q1:=lq.2;have NF:Nf1 b w1:=⟨Nat.lt_of_lt_of_le H.sb.nb.1 q1.size,λj=>(q1.hfr j).trans (H.sb.nb.2 j)⟩;obtain⟨role1,h1⟩:=H.freed lq.1 q1 NF;have H1:=uU h1;have X1:=uU (q1.ext XS (show a.heap.size<=b by omega) (λk hk=>by have:=(H.sb.fr.own.lt k hk).1;omega));have m1:w1.cell? ⟨w.heap.size,0,none⟩=some (.pointer (some ⟨b,0,none⟩)):=q1.cells m0 nsb (λe=>by have:=uH FARB _ e;omega);have k17:=h1.sb.k0;have f17:=h1.sb.nb.2 4017;obtain⟨avk,kvk,hvk⟩:∃a k,vk=.slice a K.length k:=⟨_,_,(a0k h1.sb.kp).1⟩;subst hvk;have hb1:b<w1.heap.size:=h1.sb.nb.1;have hs1:w.heap.size<w1.heap.size:=uL m1
 have ME:=uU (show ∀W,Ext w1 W->unit4 x=dD x 5 0->Calls Tryz.prog 143 #[.pointer (some ⟨b,0,none⟩)] (W.setCell ⟨b,4017,none⟩ (.slice none 0 0)) λe w'=>e=.returned (zV (unit4 x).phase b)/\Hid (∃pb' pa' pk' vf' F' vk' K' role',SAt B w' b (unit4 x) ar kr v4 v8 br cB cO bn pb' pa' pk' kn hd vf' F' vk' K' role'/\zJ C (unit4 x) F' K')/\Ext a w' from λW xw e4=>by
  refine(c7q (h1.ext xw) HP a ha (X1.trans xw)).mono ?_;rintro e w2 ⟨rfl,h2,x2⟩;rw[e4];exact⟨rfl,⟨_,_,_,_,_,_,_,_,h2,c7o I HP gl.1⟩,x2⟩)
 clear h1 q1 lq NF m0 H XS;have nbs:¬b=w.heap.size:=by omega
 rcases t with _ | j
 ·have E4:=uU (c3u I gl.1 gl.2);simp only [gapV];go_wp2_with fail;go_quiet (fail);obtain⟨d1,hd1⟩:∃m,m=nq:=⟨_,rfl⟩;go_wp2_with fail;refine(ME _ ((Ext.refl _).drewN _) E4).mono ?_;rintro e w2 ⟨rfl,h2,x2⟩;go_wp2_with fail;go_ret;exact⟨rfl,h2,x2⟩
 ·simp only [gapV];have GT:=uU (show j<x.cells.length/\(x.c j).st=0/\∀v,v∈F'->(j:Int)<=v from gl.2);have hjn:j<x.cells.length:=GT.1;rcases List.eq_nil_or_concat K with hK0 | ⟨K0,l,hK0⟩
  ·subst hK0;have E4:=uU (c7p I HP);simp only [List.length_nil] at k17;go_wp2_with fail;go_quiet (fail);obtain⟨d1,hd1⟩:∃m,m=nq:=⟨_,rfl⟩;go_wp2_with fail;refine(ME _ ((Ext.refl _).drewN _) E4).mono ?_;rintro e w2 ⟨rfl,h2,x2⟩;go_wp2_with fail;go_ret;exact⟨rfl,h2,x2⟩
  ·rw[List.concat_eq_append] at hK0;subst hK0;obtain⟨m,hm⟩:∃m,m=K0.length:=⟨_,rfl⟩;have hlen:(K0++[l]).length=m+1:=by simp [hm]
   obtain⟨g,cap,hv,_,_⟩:=H1.sb.kp.form (by rw[hlen];omega)
   injection hv with hv1 hv2 hv3
   subst hv1 hv3;have ow:=H1.sb.kp
   have kc:w1.cell? ⟨g,m,none⟩=some (ndp bn l):=by
    rw[ow.cellAt m (by rw[hlen];omega)];simp [hm]
   have LL:=uU ((I.k4 HP).2.1 l (by simp));have hln:l<x.cells.length:=LL.1;have nj0:=(H1.sb.nd j hjn).1;have nl0:=(H1.sb.nd l hln).1;rw[hlen] at k17 hK;have HL:=uU hlen;have HM:=uU hm;have hm0:(0:Int)<=(m:Int):=by omega
   have hm1:(m:Int)<(m:Int)+1:=by omega
   have mc:(m:Int)<=(kvk:Int):=by
    rcases ow.2 with⟨e,_⟩ | ⟨g',cap',cur,e1,_,_,e4,_⟩
    ·simp at e
    ·injection e1 with _ _ e1
     rw[hlen] at e4;omega
   clear hm hlen hv2 ow;by_cases hlj:l<j
   ·have E4:=uU (c3v I HP gl.1 gl.2 hlj);have gt:(j:Int) > (l:Int):=by omega
    go_wp2_with fail;go_quiet (fail);obtain⟨d1,hd1⟩:∃m,m=nq:=⟨_,rfl⟩;go_wp2_with fail;refine(ME _ ((Ext.refl _).drewN _) E4).mono ?_;rintro e w2 ⟨rfl,h2,x2⟩;go_wp2_with fail;go_ret;exact⟨rfl,h2,x2⟩
   ·have gt:¬(j:Int) > (l:Int):=by omega
    have GM:=uU (go_move I HP gl.1 gl.2 hlj);have EP:=uU (show(unit4 x).phase=4 by rw[GM.2.2.1];exact HP)
    have FIN:=uU (show ∀w3,(∃pb' pa' pk' role',SAt B w3 b (zN x j l) ar kr v4 v8 br cB cO bn pb' pa' pk' kn hd vf' F' (.slice (some ⟨g,0,none⟩) (K0++[l]).length kvk) (K0++[l]) role')->Ext a w3->∀W',Ext w3 W'->Hid (∃pb' pa' pk' vf' F' vk' K' role',SAt B (W'.setCell ⟨b,4017,none⟩ (.slice (some ⟨g,0,none⟩) m kvk)) b (unit4 x) ar kr v4 v8 br cB cO bn pb' pa' pk' kn hd vf' F' vk' K' role'/\zJ C (unit4 x) F' K')/\Ext a (W'.setCell ⟨b,4017,none⟩ (.slice (some ⟨g,0,none⟩) m kvk)) from λw3 h3 x3 W' xw=>by
     obtain⟨pb',pa',pk',role',h3⟩:=h3;have h4:=h3.ext xw;have ow:=c0e h4.sb.kp;rw[<-uH HM] at ow;rw[GM.2.2.1];refine⟨⟨pb',pa',pk',vf',F',_,K0,role',h4.keptAs (by rw[<-uH HM];exact ow) (λq hq=>hq),GM.2.2.2⟩,(x3.trans xw).setCell (p:=⟨b,4017,none⟩) (show a.heap.size<=b by omega) _⟩)
    go_wp2_with fail;go_quiet (fail);obtain⟨d1,hd1⟩:∃m,m=nq:=⟨_,rfl⟩;go_wp2_with fail;go_region_with (go_at_call 334;refine(c3t (H1.ext (((Ext.refl w1).drewN _).drew)) S j l GM.2.1 hjn hln a ha (X1.trans (((Ext.refl w1).drewN _).drew))).mono ?_;rintro e w3 ⟨rfl,h3,x3⟩)
    all_goals
     have Y3:=uU (show ∃pb' pa' pk' role',SAt B w3 b (zN x j l) ar kr v4 v8 br cB cO bn pb' pa' pk' kn hd vf' F' (.slice (some ⟨g,0,none⟩) (K0++[l]).length kvk) (K0++[l]) role' by obtain⟨pb',pa',pk',role',q3,_⟩:=uH h3;exact⟨_,_,_,_,q3⟩)
     have t17:w3.cell? ⟨b,4017,none⟩=some (.slice (some ⟨g,0,none⟩) (m+1) kvk):=by
      obtain⟨pb',pa',pk',role',q3⟩:=Y3;have:=q3.sb.k0;rw[uH HL] at this;exact this
     have u17:w3.frozen? ⟨b,4017,none⟩=false:=by
      obtain⟨pb',pa',pk',role',q3⟩:=Y3;exact q3.sb.nb.2 4017
     have t0:w3.cell? ⟨w.heap.size,0,none⟩=some (.pointer (some ⟨b,0,none⟩)):=by
      obtain⟨pb',pa',pk',role',_,q3⟩:=h3;exact(World.cell?_of_block (a:=⟨w.heap.size,0,none⟩) (q3 w.heap.size (by simpa using hs1) (λe=>by have:=BRC.1;omega) (λj hj e=>by have:=BRC.2 j hj;omega))).trans m1
     have hb3:b<w3.heap.size:=uL t17;have hs3:w.heap.size<w3.heap.size:=uL t0;have FN:=uU (FIN w3 Y3 x3);clear h3 k17 f17 kc nj0 nl0;go_wp2_with fail
     go_region
     all_goals
      go_wp2_with fail;go_ret;exact⟨by rw[uH EP];rfl,(FN w3.drew (Ext.refl w3).drew).1,(FN w3.drew (Ext.refl w3).drew).2⟩
theorem SAt.usedTo[Inhabited uN](h:SAt B w b x ar kr v4 v8 br cB cO bn pb pa pk kn hd vf F vk K role)(u:Int):
  SAt B (w.setCell ⟨b,1,none⟩ (iv u)) b { x with used:=u } ar kr v4 v8 br cB cO bn pb pa pk kn hd vf F vk K role:=by
 refine h.boxed (x':={ x with used:=u }) (uX.setCell (S:=λq=>q=b) (uX.refl _ w) (p:=⟨b,1,none⟩) rfl _) (h.sb.nb.set _ _) rfl rfl rfl (h.sb.bx.set1 u) (λk hk=>uC _ (.inr (by omega)))
theorem SAt.subs[Inhabited uN](h:SAt B w b x ar kr v4 v8 br cB cO bn pb pa pk kn hd vf F vk K role)(v:Int):
  SAt B (w.setCell ⟨b,7,none⟩ (iv v)) b { x with sub:=v } ar kr v4 v8 br cB cO bn pb pa pk kn hd vf F vk K role:=by
 refine h.boxed (x':={ x with sub:=v }) (uX.setCell (S:=λq=>q=b) (uX.refl _ w) (p:=⟨b,7,none⟩) rfl _) (h.sb.nb.set _ _) rfl rfl rfl (h.sb.bx.set7 v) (λk hk=>uC _ (.inr (by omega)))
theorem SAt.setp[Inhabited uN]{w':World}(h:SAt B w b x ar kr v4 v8 br cB cO bn pb pa pk kn hd vf F vk K role)(i:Nat)(hi:i<x.cells.length)(k:Nat)(hk:k<(x.c i).prs.length)(p':Pr)(o:uX (λq=>q=pb i) w w')(nf:Nf1 (pb i) w')(hp:tL w' (pb i) (k*6) p')(ho:∀j,(j<k*6\/k*6+6<=j)->w'.cell? ⟨pb i,j,none⟩=w.cell? ⟨pb i,j,none⟩):
  SAt B w' b { x with cells:=x.cells.set i { x.c i with prs:=(x.c i).prs.set k p' } } ar kr v4 v8 br cB cO bn pb pa pk kn hd vf F vk K role:=by
 have hl0:0<(x.c i).prs.length:=by omega
 have ri:=h.sp.p i hi (h.rw.pw hi hl0);have far:∀q,q<w.heap.size->role q≠6+i->w'.heap[q]?=w.heap[q]?:=λq hq hr=>o.block q hq (λe=>hr (by rw[e];exact ri))
 have hl:({ x with cells:=x.cells.set i { x.c i with prs:=(x.c i).prs.set k p' } }:Hp).cells.length=x.cells.length:=by simp
 have hc:=Hp.c_set x i { x.c i with prs:=(x.c i).prs.set k p' } hi;have hne:∀q,q≠i->(({ x with cells:=x.cells.set i { x.c i with prs:=(x.c i).prs.set k p' } }:Hp).c q)=x.c q:=λq e=>by rw[hc q,if_neg e]
 have hei:(({ x with cells:=x.cells.set i { x.c i with prs:=(x.c i).prs.set k p' } }:Hp).c i)={ x.c i with prs:=(x.c i).prs.set k p' }:=by rw[hc i,if_pos rfl]
 have hpl:∀q,(({ x with cells:=x.cells.set i { x.c i with prs:=(x.c i).prs.set k p' } }:Hp).c q).prs.length=(x.c q).prs.length:=λq=>by
  by_cases e:q=i
  ·rw[e,hei];simp
  ·rw[hne q e]
 have fc:∀q,q<x.cells.length->w'.heap[cB q]?=w.heap[cB q]?:=λq hq=>far (cB q) (h.rw.nc q hq).1.1 (by rw[h.sp.c q hq];omega)
 have pf:∀q,q<x.cells.length->q≠i->0<pk q->w'.heap[pb q]?=w.heap[pb q]?:=λq hq hqi hl=>far (pb q) (h.rw.pl q hq hl).2.1.1 (by rw[h.sp.p q hq hl];omega)
 have sb2:=h.sb.same o.size (far b h.sb.nb.1 (by rw[h.sp.b];omega)) (far bn h.sb.lo.2.2.1 (by rw[h.sp.n];omega)) (λq hq=>far q (h.sb.fr.own.lt q hq).2 (by rw[h.sp.f q hq];omega)) (λq hq=>far q (h.sb.kp.lt q hq).2 (by rw[h.sp.k q hq];omega));refine⟨⟨sb2.bx,sb2.ha,by rw[hl];exact sb2.n13,λk hk=>sb2.nd k (by rw[hl] at hk;exact hk),sb2.fr,sb2.rg,sb2.k0,sb2.kp,sb2.nb,sb2.lo⟩,⟨λj hj=>?_,λq hq=>?_,λq hq=>?_,λq hq j hj=>?_,λq hq hlq=>?_,λhr=>⟨hY (h.rw.nr hr).1 (far br (h.rw.nr hr).1.1 (by rw[h.sp.r hr];omega)) o.size,(h.rw.nr hr).2⟩,λq hq=>⟨hY (h.rw.nc q (by rw[hl] at hq;exact hq)).1 (fc q (by rw[hl] at hq;exact hq)) o.size,(h.rw.nc q (by rw[hl] at hq;exact hq)).2⟩,λq hq=>h.rw.d q (by rw[hl] at hq;exact hq),λq q' hq hq' hne h1 h2=>?_,λq q' hq hq' hne=>h.rw.dc q q' (by rw[hl] at hq;exact hq) (by rw[hl] at hq';exact hq') hne,λq hq=>?_⟩,⟨h.sp.b,h.sp.n,h.sp.r,λq hq=>h.sp.c q (by rw[hl] at hq;exact hq),h.sp.f,h.sp.k,λq hq hlq=>?_⟩,h.pr.of (λq hq h1=>far q hq (by rw[h1];omega)) (λ_ _ h=>h)⟩
 ·exact(h.rw.r j hj).of λm _=>World.cell?_of_block (a:=⟨br,_,none⟩) (far br (h.rw.nr (by have:j<x.regs.length:=hj;omega)).1.1 (by rw[h.sp.r (by have:j<x.regs.length:=hj;omega)];omega))
 ·rw[hl] at hq;have key:S7 w' (cB q) (cO q) (x.c q):=(h.rw.s q hq).of λm _=>World.cell?_of_block (a:=⟨cB q,_,none⟩) (fc q hq)
  by_cases e:q=i
  ·subst e;rw[hei];exact key
  ·rw[hne q e];exact key
 ·rw[hl] at hq;rw[hpl q,World.cell?_of_block (a:=⟨cB q,_,none⟩) (fc q hq)];exact h.rw.p7 q hq
 ·rw[hl] at hq;rw[hpl q] at hj;by_cases e:q=i
  ·subst e;rw[hei];by_cases ej:j=k
   ·subst ej;have:({ x.c q with prs:=(x.c q).prs.set j p' }:Cl).p j=p':=by simp [Cl.p,hj]
    rw[this];exact hp
   ·have:({ x.c q with prs:=(x.c q).prs.set k p' }:Cl).p j=(x.c q).p j:=by
     have hkj:k≠j:=λe=>ej e.symm
     simp [Cl.p,List.getElem?_set_ne hkj]
    rw[this];exact(h.rw.p q hq j hj).of λm hm=>ho _ (by omega)
  ·rw[hne q e];exact(h.rw.p q hq j hj).of λm _=>World.cell?_of_block (a:=⟨pb q,_,none⟩) (pf q hq e (h.rw.pw hq (by omega)))
 ·rw[hl] at hq;obtain⟨a1,a2,a3,a4⟩:=h.rw.pl q hq hlq;have a5:pb q≠br/\∀j,j<({ x with cells:=x.cells.set i { x.c i with prs:=(x.c i).prs.set k p' } }:Hp).cells.length->pb q≠cB j:=⟨a3.1,λj hj=>a3.2 j (by rw[hl] at hj;exact hj)⟩;by_cases e:q=i
  ·subst e;exact⟨a1,b6f a2 nf hp ho,a5,a4⟩
  ·exact⟨a1,a0f a2 (pf q hq e hlq) o.size,a5,a4⟩
 ·rw[hl] at hq hq';exact h.rw.dp q q' hq hq' hne h1 h2
 ·rw[hl] at hq;rw[hpl q];exact h.rw.kp q hq
 ·rw[hl] at hq;exact h.sp.p q hq hlq
theorem c7s[Inhabited uN](h:SAt B w b x ar kr v4 v8 br cB cO bn pb pa pk kn hd vf F vk K role)(hp:x.phase=5)(he:x.hand=x.cells.length)(a:World)(ha:a.heap.size<=B)(hx:Ext a w):
  Calls Tryz.prog 335 #[.agg #[.pointer (some ⟨b,0,none⟩)]] w λe w'=>e=.returned (zV (eK x).phase b)/\Hid (SAt B w' b (eK x) ar kr v4 v8 br cB cO bn pb pa pk kn hd vf F vk K role)/\Ext a w':=by
 have E:=uU (show eK x=dD x 6 x.cells.length by unfold eK;rw[if_pos he]);have H:=uU h;have HP:=uU hp;have XA:=(Ext.refl w).alloc (.cells #[.pointer (some ⟨b,0,none⟩)] 237);have QA:=uU (a6k x.hand b x.cells.length kn (some ⟨bn,0,none⟩) _ (XA.keep h.sb.bx.2.2.2.2.2.2.1) (XA.keep h.sb.n13) (by simpa using he));have XA2:=uU XA;have hbw:b<w.heap.size:=h.sb.nb.1;clear h hp he XA;go_enter Tryz.func335,Tryz.ntmps335;go_wp2_with fail;refine QA.mono ?_;rintro e w1 ⟨rfl,x1⟩;have r0:w1.cell? ⟨w.heap.size,0,none⟩=some (.pointer (some ⟨b,0,none⟩)):=x1.keep (by simp [go_sem]);have X1:=uU (XA2.trans x1);go_wp2_with fail;refine(turn_5 (H.ext X1) HP a ha (hx.trans X1)).mono ?_;rintro e w2 ⟨rfl,h2,x2⟩;go_wp2_with fail;go_ret;exact⟨by rw[uH E];rfl,by rw[uH E];exact uH h2,x2⟩
theorem c3x[Inhabited uN](h:SAt B w b x ar kr v4 v8 br cB cO bn pb pa pk kn hd vf F vk K role)(n8:x.cells.length<=8000)(hp:x.phase=5)(i:Nat)(hi:x.hand=(i:Int))(hin:i<x.cells.length)(k:Nat)(hk:x.sub=(k:Int))(hkl:¬k<(x.c i).prs.length)(a:World)(ha:a.heap.size<=B)(hx:Ext a w):
  Calls Tryz.prog 335 #[.agg #[.pointer (some ⟨b,0,none⟩)]] w λe w'=>e=.returned (zV (eK x).phase b)/\Hid (SAt B w' b (eK x) ar kr v4 v8 br cB cO bn pb pa pk kn hd vf F vk K role)/\Ext a w':=by
 have ei:x.hand.toNat=i:=by omega
 have E:=uU (show eK x={ x with hand:=(i:Int)+1,sub:=0 } by unfold eK;rw[if_neg (by omega),ei,if_neg (by omega),hi]);have EP:=uU (show(eK x).phase=5 by rw[uH E];exact hp);have H:=uU h;have XA:=(Ext.refl w).alloc (.cells #[.pointer (some ⟨b,0,none⟩)] 237);have c6:=h.sb.bx.2.2.2.2.2.2.1;rw[hi] at c6;have QA:=uU (a1k b x.cells.length kn bn i _ (XA.keep c6) (XA.keep h.sb.n13) hin);have XA2:=uU XA;have hbw:b<w.heap.size:=h.sb.nb.1;have lo:=h.sb.lo.1;have HI:=uU (And.intro hi hk);have kk:¬(k:Int)<((x.c i).prs.length:Int):=by omega
 clear h hp XA ei hi c6 hk;go_enter Tryz.func335,Tryz.ntmps335;go_wp2_with fail;refine QA.mono ?_;rintro e w1 ⟨rfl,x1⟩;have r0:w1.cell? ⟨w.heap.size,0,none⟩=some (.pointer (some ⟨b,0,none⟩)):=x1.keep (by simp [go_sem]);have X1:=uU (XA2.trans x1);have H1:=uU (H.ext X1);have m1:=(H1.sb.nd i hin).2;have p7:=H1.rw.p7 i hin;have c6:w1.cell? ⟨b,6,none⟩=some (iv i):=by have:=H1.sb.bx.2.2.2.2.2.2.1;rw[HI.1] at this;exact this
 have c7:w1.cell? ⟨b,7,none⟩=some (iv k):=by have:=H1.sb.bx.2.2.2.2.2.2.2.1;rw[HI.2] at this;exact this
 have f6:=H1.sb.nb.2 6;have f7:=H1.sb.nb.2 7;have hb1:b<w1.heap.size:=uL c6;have hb2:w.heap.size<w1.heap.size:=uL r0;have nbw:¬b=w.heap.size:=by omega
 have nwb:¬w.heap.size=b:=by omega
 have FN:=uU (show ∀W,Ext w1 W->SAt B ((W.setCell ⟨b,6,none⟩ (iv ((i:Int)+1))).setCell ⟨b,7,none⟩ (iv 0)) b { x with hand:=(i:Int)+1,sub:=0 } ar kr v4 v8 br cB cO bn pb pa pk kn hd vf F vk K role/\Ext a ((W.setCell ⟨b,6,none⟩ (iv ((i:Int)+1))).setCell ⟨b,7,none⟩ (iv 0)) from λW xw=>⟨((H1.ext xw).hand _).subs 0,(((hx.trans X1).trans xw).setCell (p:=⟨b,6,none⟩) (show a.heap.size<=b by omega) _).setCell (p:=⟨b,7,none⟩) (show a.heap.size<=b by omega) _⟩);clear x1 XA2 QA;go_wp2_with fail;go_quiet (fail);go_wp2_with fail;go_ret;exact⟨by rw[uH EP];rfl,by rw[uH E];exact(FN _ ((Ext.refl w1).drewN _)).1,(FN _ ((Ext.refl w1).drewN _)).2⟩
end Go.Proofs.YtddkhnclmeikfaaGreat
