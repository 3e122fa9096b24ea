import Derived.Test.YtddkhnclmeikfaaGreatLz
import Derived.Test.YtddkhnclmeikfaaGreatPz
set_option maxRecDepth 100000
set_option maxHeartbeats 1000000
namespace Go.Proofs.YtddkhnclmeikfaaGreat
open Go.RowKit
attribute [local go_sem ↓] Go.wp_at_zero Go.wp_at_succ
variable{w w':World}{b bn hd B kr br kn:Nat}{x:Hp}{ar:Option Addr}{v4 v8 vf vk:Value}{cB cO pb pk role:Nat->Nat}{pa:Nat->Option Addr}{F G:List Int}{K:List Nat}
theorem c9z[Inhabited uQ](h:SAt B w b x ar kr v4 v8 br cB cO bn pb pa pk kn hd vf F vk K role)(hp:x.E=4)(a:World)(ha:a.heap.size<=B)(hx:Ext a w):
  Calls Tryz.prog 143 #[.pointer (some ⟨b,0,none⟩)] (w.setCell ⟨b,4017,none⟩ (.slice none 0 0)) λe w'=>e=.returned (zK 5 b)/\Hid (SAt B w' b (dN x 5 0) ar kr v4 v8 br cB cO bn pb pa pk kn hd vf F (.slice none 0 0) [] role)/\Ext a w':=by
 have h2:=h.keptAs (vk':=.slice none 0 0) (K':=[]) (World.ownsRow_nil _ _ _ _) (λq hq=>by simp [Value.ownBlock] at hq);exact a6v h2 4 hp rfl rfl (by omega) a ha (hx.setCell (p:=⟨b,4017,none⟩) (Nat.le_trans ha h.sb.lo.1) _)
theorem d0a[Inhabited uQ]{C:Nat}(h:SAt B w b x ar kr v4 v8 br cB cO bn pb pa pk kn hd vf F vk K role)(i:tN C x F K)(hC:C<=1000000000)(s:Snd x)(hp:x.E=4)(a:World)(ha:a.heap.size<=B)(hx:Ext a w):
  Calls Tryz.prog 333 #[.agg #[.pointer (some ⟨b,0,none⟩)]] w λe w'=>e=.returned (zK (unit4 x).E b)/\Hid (∃pb' pa' pk' vf' F' vk' K' role',SAt B w' b (unit4 x) ar kr v4 v8 br cB cO bn pb' pa' pk' kn hd vf' F' vk' K' role'/\tN C (unit4 x) F' K')/\Ext a w':=by
 have XA:=(Ext.refl w).alloc (.cells #[.pointer (some ⟨b,0,none⟩)] 236);have GP:=uU (gap_any (h.ext XA) i.ho (by have:=i.le;omega) i.nn);have H:=uU (h.ext XA);have S:=uU s;have I:=uU i;have HP:=uU hp;have XS:=uU (hx.trans XA);have m0:(w.alloc (.cells #[.pointer (some ⟨b,0,none⟩)] 236)).cell? ⟨w.heap.size,0,none⟩=some (.pointer (some ⟨b,0,none⟩)):=by simp [go_sem]
 have hbw:b<w.heap.size:=h.sb.nb.1;have lo:=h.sb.lo.1
 have hK:K.length<=8000:=by
  have k4:=i.k4 hp;have:=b2g x.A.length K (k4.1.imp (λh=>Nat.ne_of_lt h)) (λi hi=>(k4.2.1 i hi).1);have:=s.ok.n8;omega
 have FARB:=uU (show ∀q,vf.ownBlock=some q->q<w.heap.size from λq hq=>(h.sb.fr.own.lt q hq).2);have nsb:¬w.heap.size=b:=by omega
 have BRC:=uU (show br<w.heap.size/\(∀j,j<x.A.length->cB j<w.heap.size) from⟨(h.rw.nr (by have:=s.r1.B;omega)).1.1,λj hn=>(h.rw.nc j hn).1.1⟩);clear h s i hp XA;go_enter Tryz.func333,Tryz.ntmps333;go_wp2_with fail;refine GP.mono ?_;rintro e w1 ⟨t,vf',F',rfl,lq,gl⟩;have q1:=lq.2;have NF:Nf1 b w1:=⟨Nat.lt_of_lt_of_le H.sb.nb.1 q1.size,λj=>(q1.hfr j).trans (H.sb.nb.2 j)⟩;obtain⟨role1,h1⟩:=H.freed lq.1 q1 NF;have H1:=uU h1;have X1:=uU (q1.ext XS (show a.heap.size<=b by omega) (λk hk=>by have:=(H.sb.fr.own.lt k hk).1;omega));have m1:w1.cell? ⟨w.heap.size,0,none⟩=some (.pointer (some ⟨b,0,none⟩)):=q1.A m0 nsb (λe=>by have:=uH FARB _ e;omega);have k17:=h1.sb.k0;have f17:=h1.sb.nb.2 4017;obtain⟨avk,kvk,hvk⟩:∃a k,vk=.slice a K.length k:=⟨_,_,(a0k h1.sb.kp).1⟩;subst hvk;have hb1:b<w1.heap.size:=h1.sb.nb.1;have hs1:w.heap.size<w1.heap.size:=uL m1
 have ME:=uU (show ∀W,Ext w1 W->unit4 x=dN x 5 0->Calls Tryz.prog 143 #[.pointer (some ⟨b,0,none⟩)] (W.setCell ⟨b,4017,none⟩ (.slice none 0 0)) λe w'=>e=.returned (zK (unit4 x).E b)/\Hid (∃pb' pa' pk' vf' F' vk' K' role',SAt B w' b (unit4 x) ar kr v4 v8 br cB cO bn pb' pa' pk' kn hd vf' F' vk' K' role'/\tN C (unit4 x) F' K')/\Ext a w' from λW xw e4=>by
  refine(c9z (h1.ext xw) HP a ha (X1.trans xw)).mono ?_;rintro e w2 ⟨rfl,h2,x2⟩;rw[e4];exact⟨rfl,⟨_,_,_,_,_,_,_,_,h2,c9x I HP gl.1⟩,x2⟩)
 clear h1 q1 lq NF m0 H XS;have nbs:¬b=w.heap.size:=by omega
 rcases t with _ | j
 ·have E4:=uU (c5p I gl.1 gl.2);simp only [gapV];go_wp2_with fail;go_quiet (fail);obtain⟨d1,hd1⟩:∃m,m=nq:=⟨_,rfl⟩;go_wp2_with fail;refine(ME _ ((Ext.refl _).drewN _) E4).mono ?_;rintro e w2 ⟨rfl,h2,x2⟩;go_wp2_with fail;go_ret;exact⟨rfl,h2,x2⟩
 ·simp only [gapV];have GT:=uU (show j<x.A.length/\(x.c j).st=0/\∀v,v∈F'->(j:Int)<=v from gl.2);have hjn:j<x.A.length:=GT.1;rcases List.eq_nil_or_concat K with hK0 | ⟨K0,l,hK0⟩
  ·subst hK0;have E4:=uU (c9y I HP);simp only [List.length_nil] at k17;go_wp2_with fail;go_quiet (fail);obtain⟨d1,hd1⟩:∃m,m=nq:=⟨_,rfl⟩;go_wp2_with fail;refine(ME _ ((Ext.refl _).drewN _) E4).mono ?_;rintro e w2 ⟨rfl,h2,x2⟩;go_wp2_with fail;go_ret;exact⟨rfl,h2,x2⟩
  ·rw[List.concat_eq_append] at hK0;subst hK0;obtain⟨m,hm⟩:∃m,m=K0.length:=⟨_,rfl⟩;have hlen:(K0++[l]).length=m+1:=by simp [hm]
   obtain⟨g,cap,hv,_,_⟩:=H1.sb.kp.form (by rw[hlen];omega)
   injection hv with hv1 hv2 hv3
   subst hv1 hv3;have ow:=H1.sb.kp
   have kc:w1.cell? ⟨g,m,none⟩=some (ndp bn l):=by
    rw[ow.cellAt m (by rw[hlen];omega)];simp [hm]
   have LL:=uU ((I.k4 HP).2.1 l (by simp));have hln:l<x.A.length:=LL.1;have nj0:=(H1.sb.nd j hjn).1;have nl0:=(H1.sb.nd l hln).1;rw[hlen] at k17 hK;have HL:=uU hlen;have HM:=uU hm;have hm0:(0:Int)<=(m:Int):=by omega
   have hm1:(m:Int)<(m:Int)+1:=by omega
   have mc:(m:Int)<=(kvk:Int):=by
    rcases ow.2 with⟨e,_⟩ | ⟨g',cap',cur,e1,_,_,e4,_⟩
    ·simp at e
    ·injection e1 with _ _ e1
     rw[hlen] at e4;omega
   clear hm hlen hv2 ow;by_cases hlj:l<j
   ·have E4:=uU (c5q I HP gl.1 gl.2 hlj);have gt:(j:Int) > (l:Int):=by omega
    go_wp2_with fail;go_quiet (fail);obtain⟨d1,hd1⟩:∃m,m=nq:=⟨_,rfl⟩;go_wp2_with fail;refine(ME _ ((Ext.refl _).drewN _) E4).mono ?_;rintro e w2 ⟨rfl,h2,x2⟩;go_wp2_with fail;go_ret;exact⟨rfl,h2,x2⟩
   ·have gt:¬(j:Int) > (l:Int):=by omega
    have GM:=uU (go_move I HP gl.1 gl.2 hlj);have EP:=uU (show(unit4 x).E=4 by rw[GM.2.2.1];exact HP)
    have FIN:=uU (show ∀w3,(∃pb' pa' pk' role',SAt B w3 b (eU x j l) ar kr v4 v8 br cB cO bn pb' pa' pk' kn hd vf' F' (.slice (some ⟨g,0,none⟩) (K0++[l]).length kvk) (K0++[l]) role')->Ext a w3->∀W',Ext w3 W'->Hid (∃pb' pa' pk' vf' F' vk' K' role',SAt B (W'.setCell ⟨b,4017,none⟩ (.slice (some ⟨g,0,none⟩) m kvk)) b (unit4 x) ar kr v4 v8 br cB cO bn pb' pa' pk' kn hd vf' F' vk' K' role'/\tN C (unit4 x) F' K')/\Ext a (W'.setCell ⟨b,4017,none⟩ (.slice (some ⟨g,0,none⟩) m kvk)) from λw3 h3 x3 W' xw=>by
     obtain⟨pb',pa',pk',role',h3⟩:=h3;have h4:=h3.ext xw;have ow:=c2b h4.sb.kp;rw[<-uH HM] at ow;rw[GM.2.2.1];refine⟨⟨pb',pa',pk',vf',F',_,K0,role',h4.keptAs (by rw[<-uH HM];exact ow) (λq hq=>hq),GM.2.2.2⟩,(x3.trans xw).setCell (p:=⟨b,4017,none⟩) (show a.heap.size<=b by omega) _⟩)
    go_wp2_with fail;go_quiet (fail);obtain⟨d1,hd1⟩:∃m,m=nq:=⟨_,rfl⟩;go_wp2_with fail;go_region_with (go_at_call 334;refine(c5o (H1.ext (((Ext.refl w1).drewN _).drew)) S j l GM.2.1 hjn hln a ha (X1.trans (((Ext.refl w1).drewN _).drew))).mono ?_;rintro e w3 ⟨rfl,h3,x3⟩)
    all_goals
     have Y3:=uU (show ∃pb' pa' pk' role',SAt B w3 b (eU x j l) ar kr v4 v8 br cB cO bn pb' pa' pk' kn hd vf' F' (.slice (some ⟨g,0,none⟩) (K0++[l]).length kvk) (K0++[l]) role' by obtain⟨pb',pa',pk',role',q3,_⟩:=uH h3;exact⟨_,_,_,_,q3⟩)
     have t17:w3.cell? ⟨b,4017,none⟩=some (.slice (some ⟨g,0,none⟩) (m+1) kvk):=by
      obtain⟨pb',pa',pk',role',q3⟩:=Y3;have:=q3.sb.k0;rw[uH HL] at this;exact this
     have u17:w3.frozen? ⟨b,4017,none⟩=false:=by
      obtain⟨pb',pa',pk',role',q3⟩:=Y3;exact q3.sb.nb.2 4017
     have t0:w3.cell? ⟨w.heap.size,0,none⟩=some (.pointer (some ⟨b,0,none⟩)):=by
      obtain⟨pb',pa',pk',role',_,q3⟩:=h3;exact(World.cell?_of_block (a:=⟨w.heap.size,0,none⟩) (q3 w.heap.size (by simpa using hs1) (λe=>by have:=BRC.1;omega) (λj hj e=>by have:=BRC.2 j hj;omega))).trans m1
     have hb3:b<w3.heap.size:=uL t17;have hs3:w.heap.size<w3.heap.size:=uL t0;have FN:=uU (FIN w3 Y3 x3);clear h3 k17 f17 kc nj0 nl0;go_wp2_with fail
     go_region
     all_goals
      go_wp2_with fail;go_ret;exact⟨by rw[uH EP];rfl,(FN w3.drew (Ext.refl w3).drew).1,(FN w3.drew (Ext.refl w3).drew).2⟩
theorem SAt.usedTo[Inhabited uQ](h:SAt B w b x ar kr v4 v8 br cB cO bn pb pa pk kn hd vf F vk K role)(u:Int):
  SAt B (w.setCell ⟨b,1,none⟩ (iv u)) b { x with K:=u } ar kr v4 v8 br cB cO bn pb pa pk kn hd vf F vk K role:=by
 refine h.boxed (x':={ x with K:=u }) (uZ.setCell (S:=λq=>q=b) (uZ.refl _ w) (p:=⟨b,1,none⟩) rfl _) (h.sb.nb.set _ _) rfl rfl rfl (h.sb.bx.set1 u) (λk hk=>uC _ (.inr (by omega)))
theorem SAt.subs[Inhabited uQ](h:SAt B w b x ar kr v4 v8 br cB cO bn pb pa pk kn hd vf F vk K role)(v:Int):
  SAt B (w.setCell ⟨b,7,none⟩ (iv v)) b { x with sub:=v } ar kr v4 v8 br cB cO bn pb pa pk kn hd vf F vk K role:=by
 refine h.boxed (x':={ x with sub:=v }) (uZ.setCell (S:=λq=>q=b) (uZ.refl _ w) (p:=⟨b,7,none⟩) rfl _) (h.sb.nb.set _ _) rfl rfl rfl (h.sb.bx.set7 v) (λk hk=>uC _ (.inr (by omega)))
theorem SAt.setp[Inhabited uQ](h:SAt B w b x ar kr v4 v8 br cB cO bn pb pa pk kn hd vf F vk K role)(i:Nat)(hi:i<x.A.length)(k:Nat)(hk:k<(x.c i).F.length)(p':Pr)(o:uZ (λq=>q=pb i) w w')(nf:Nf1 (pb i) w')(hp:tQ w' (pb i) (k*6) p')(ho:∀j,(j<k*6\/k*6+6<=j)->w'.cell? ⟨pb i,j,none⟩=w.cell? ⟨pb i,j,none⟩):
  SAt B w' b { x with A:=x.A.set i { x.c i with F:=(x.c i).F.set k p' } } ar kr v4 v8 br cB cO bn pb pa pk kn hd vf F vk K role:=by
 have hl0:0<(x.c i).F.length:=by omega
 have ri:=h.sp.p i hi (h.rw.pw hi hl0);have far:∀q,q<w.heap.size->role q≠6+i->w'.heap[q]?=w.heap[q]?:=λq hq hr=>o.block q hq (λe=>hr (by rw[e];exact ri))
 have hl:({ x with A:=x.A.set i { x.c i with F:=(x.c i).F.set k p' } }:Hp).A.length=x.A.length:=by simp
 have hc:=Hp.c_set x i { x.c i with F:=(x.c i).F.set k p' } hi;have hne:∀q,q≠i->(({ x with A:=x.A.set i { x.c i with F:=(x.c i).F.set k p' } }:Hp).c q)=x.c q:=λq e=>by rw[hc q,if_neg e]
 have hei:(({ x with A:=x.A.set i { x.c i with F:=(x.c i).F.set k p' } }:Hp).c i)={ x.c i with F:=(x.c i).F.set k p' }:=by rw[hc i,if_pos rfl]
 have hpl:∀q,(({ x with A:=x.A.set i { x.c i with F:=(x.c i).F.set k p' } }:Hp).c q).F.length=(x.c q).F.length:=λq=>by
  by_cases e:q=i
  ·rw[e,hei];simp
  ·rw[hne q e]
 have fc:∀q,q<x.A.length->w'.heap[cB q]?=w.heap[cB q]?:=λq hq=>far (cB q) (h.rw.nc q hq).1.1 (by rw[h.sp.c q hq];omega)
 have pf:∀q,q<x.A.length->q≠i->0<pk q->w'.heap[pb q]?=w.heap[pb q]?:=λq hq hqi hl=>far (pb q) (h.rw.pl q hq hl).2.1.1 (by rw[h.sp.p q hq hl];omega)
 have sb2:=h.sb.same o.size (far b h.sb.nb.1 (by rw[h.sp.b];omega)) (far bn h.sb.lo.2.2.1 (by rw[h.sp.n];omega)) (λq hq=>far q (h.sb.fr.own.lt q hq).2 (by rw[h.sp.f q hq];omega)) (λq hq=>far q (h.sb.kp.lt q hq).2 (by rw[h.sp.k q hq];omega));refine⟨⟨sb2.bx,sb2.ha,by rw[hl];exact sb2.n13,λk hk=>sb2.nd k (by rw[hl] at hk;exact hk),sb2.fr,sb2.rg,sb2.k0,sb2.kp,sb2.nb,sb2.lo⟩,⟨λj hj=>?_,λq hq=>?_,λq hq=>?_,λq hq j hj=>?_,λq hq hlq=>?_,λhr=>⟨uV (h.rw.nr hr).1 (far br (h.rw.nr hr).1.1 (by rw[h.sp.r hr];omega)) o.size,(h.rw.nr hr).2⟩,λq hq=>⟨uV (h.rw.nc q (by rw[hl] at hq;exact hq)).1 (fc q (by rw[hl] at hq;exact hq)) o.size,(h.rw.nc q (by rw[hl] at hq;exact hq)).2⟩,λq hq=>h.rw.d q (by rw[hl] at hq;exact hq),λq q' hq hq' hne h1 h2=>?_,λq q' hq hq' hne=>h.rw.dc q q' (by rw[hl] at hq;exact hq) (by rw[hl] at hq';exact hq') hne,λq hq=>?_⟩,⟨h.sp.b,h.sp.n,h.sp.r,λq hq=>h.sp.c q (by rw[hl] at hq;exact hq),h.sp.f,h.sp.k,λq hq hlq=>?_⟩,h.pr.of (λq hq h1=>far q hq (by rw[h1];omega)) (λ_ _ h=>h)⟩
 ·exact(h.rw.r j hj).of λm _=>World.cell?_of_block (a:=⟨br,_,none⟩) (far br (h.rw.nr (by have:j<x.B.length:=hj;omega)).1.1 (by rw[h.sp.r (by have:j<x.B.length:=hj;omega)];omega))
 ·rw[hl] at hq;have key:S7 w' (cB q) (cO q) (x.c q):=(h.rw.s q hq).of λm _=>World.cell?_of_block (a:=⟨cB q,_,none⟩) (fc q hq)
  by_cases e:q=i
  ·subst e;rw[hei];exact key
  ·rw[hne q e];exact key
 ·rw[hl] at hq;rw[hpl q,World.cell?_of_block (a:=⟨cB q,_,none⟩) (fc q hq)];exact h.rw.p7 q hq
 ·rw[hl] at hq;rw[hpl q] at hj;by_cases e:q=i
  ·subst e;rw[hei];by_cases ej:j=k
   ·subst ej;have:({ x.c q with F:=(x.c q).F.set j p' }:Cl).p j=p':=by simp [Cl.p,hj]
    rw[this];exact hp
   ·have:({ x.c q with F:=(x.c q).F.set k p' }:Cl).p j=(x.c q).p j:=by
     have hkj:k≠j:=λe=>ej e.symm
     simp [Cl.p,List.getElem?_set_ne hkj]
    rw[this];exact(h.rw.p q hq j hj).of λm hm=>ho _ (by omega)
  ·rw[hne q e];exact(h.rw.p q hq j hj).of λm _=>World.cell?_of_block (a:=⟨pb q,_,none⟩) (pf q hq e (h.rw.pw hq (by omega)))
 ·rw[hl] at hq;obtain⟨a1,a2,a3,a4⟩:=h.rw.pl q hq hlq;have a5:pb q≠br/\∀j,j<({ x with A:=x.A.set i { x.c i with F:=(x.c i).F.set k p' } }:Hp).A.length->pb q≠cB j:=⟨a3.1,λj hj=>a3.2 j (by rw[hl] at hj;exact hj)⟩;by_cases e:q=i
  ·subst e;exact⟨a1,b8g a2 nf hp ho,a5,a4⟩
  ·exact⟨a1,a0f a2 (pf q hq e hlq) o.size,a5,a4⟩
 ·rw[hl] at hq hq';exact h.rw.dp q q' hq hq' hne h1 h2
 ·rw[hl] at hq;rw[hpl q];exact h.rw.kp q hq
 ·rw[hl] at hq;exact h.sp.p q hq hlq
theorem d0b[Inhabited uQ](h:SAt B w b x ar kr v4 v8 br cB cO bn pb pa pk kn hd vf F vk K role)(hp:x.E=5)(he:x.I=x.A.length)(a:World)(ha:a.heap.size<=B)(hx:Ext a w):
  Calls Tryz.prog 335 #[.agg #[.pointer (some ⟨b,0,none⟩)]] w λe w'=>e=.returned (zK (eH x).E b)/\Hid (SAt B w' b (eH x) ar kr v4 v8 br cB cO bn pb pa pk kn hd vf F vk K role)/\Ext a w':=by
 have E:=uU (show eH x=dN x 6 x.A.length by unfold eH;rw[if_pos he]);have H:=uU h;have HP:=uU hp;have XA:=(Ext.refl w).alloc (.cells #[.pointer (some ⟨b,0,none⟩)] 237);have QA:=uU (a6t x.I b x.A.length kn (some ⟨bn,0,none⟩) _ (XA.keep h.sb.bx.2.2.2.2.2.2.1) (XA.keep h.sb.n13) (by simpa using he));have XA2:=uU XA;have hbw:b<w.heap.size:=h.sb.nb.1;clear h hp he XA;go_enter Tryz.func335,Tryz.ntmps335;go_wp2_with fail;refine QA.mono ?_;rintro e w1 ⟨rfl,x1⟩;have r0:w1.cell? ⟨w.heap.size,0,none⟩=some (.pointer (some ⟨b,0,none⟩)):=x1.keep (by simp [go_sem]);have X1:=uU (XA2.trans x1);go_wp2_with fail;refine(turn_5 (H.ext X1) HP a ha (hx.trans X1)).mono ?_;rintro e w2 ⟨rfl,h2,x2⟩;go_wp2_with fail;go_ret;exact⟨by rw[uH E];rfl,by rw[uH E];exact uH h2,x2⟩
theorem c5s[Inhabited uQ](h:SAt B w b x ar kr v4 v8 br cB cO bn pb pa pk kn hd vf F vk K role)(n8:x.A.length<=8000)(hp:x.E=5)(i:Nat)(hi:x.I=(i:Int))(hin:i<x.A.length)(k:Nat)(hk:x.sub=(k:Int))(hkl:¬k<(x.c i).F.length)(a:World)(ha:a.heap.size<=B)(hx:Ext a w):
  Calls Tryz.prog 335 #[.agg #[.pointer (some ⟨b,0,none⟩)]] w λe w'=>e=.returned (zK (eH x).E b)/\Hid (SAt B w' b (eH x) ar kr v4 v8 br cB cO bn pb pa pk kn hd vf F vk K role)/\Ext a w':=by
 have ei:x.I.toNat=i:=by omega
 have E:=uU (show eH x={ x with I:=(i:Int)+1,sub:=0 } by unfold eH;rw[if_neg (by omega),ei,if_neg (by omega),hi]);have EP:=uU (show(eH x).E=5 by rw[uH E];exact hp);have H:=uU h;have XA:=(Ext.refl w).alloc (.cells #[.pointer (some ⟨b,0,none⟩)] 237);have c6:=h.sb.bx.2.2.2.2.2.2.1;rw[hi] at c6;have QA:=uU (a1q b x.A.length kn bn i _ (XA.keep c6) (XA.keep h.sb.n13) hin);have XA2:=uU XA;have hbw:b<w.heap.size:=h.sb.nb.1;have lo:=h.sb.lo.1;have HI:=uU (And.intro hi hk);have kk:¬(k:Int)<((x.c i).F.length:Int):=by omega
 clear h hp XA ei hi c6 hk;go_enter Tryz.func335,Tryz.ntmps335;go_wp2_with fail;refine QA.mono ?_;rintro e w1 ⟨rfl,x1⟩;have r0:w1.cell? ⟨w.heap.size,0,none⟩=some (.pointer (some ⟨b,0,none⟩)):=x1.keep (by simp [go_sem]);have X1:=uU (XA2.trans x1);have H1:=uU (H.ext X1);have m1:=(H1.sb.nd i hin).2;have p7:=H1.rw.p7 i hin;have c6:w1.cell? ⟨b,6,none⟩=some (iv i):=by have:=H1.sb.bx.2.2.2.2.2.2.1;rw[HI.1] at this;exact this
 have c7:w1.cell? ⟨b,7,none⟩=some (iv k):=by have:=H1.sb.bx.2.2.2.2.2.2.2.1;rw[HI.2] at this;exact this
 have f6:=H1.sb.nb.2 6;have f7:=H1.sb.nb.2 7;have hb1:b<w1.heap.size:=uL c6;have hb2:w.heap.size<w1.heap.size:=uL r0;have nbw:¬b=w.heap.size:=by omega
 have nwb:¬w.heap.size=b:=by omega
 have FN:=uU (show ∀W,Ext w1 W->SAt B ((W.setCell ⟨b,6,none⟩ (iv ((i:Int)+1))).setCell ⟨b,7,none⟩ (iv 0)) b { x with I:=(i:Int)+1,sub:=0 } ar kr v4 v8 br cB cO bn pb pa pk kn hd vf F vk K role/\Ext a ((W.setCell ⟨b,6,none⟩ (iv ((i:Int)+1))).setCell ⟨b,7,none⟩ (iv 0)) from λW xw=>⟨((H1.ext xw).I _).subs 0,(((hx.trans X1).trans xw).setCell (p:=⟨b,6,none⟩) (show a.heap.size<=b by omega) _).setCell (p:=⟨b,7,none⟩) (show a.heap.size<=b by omega) _⟩);clear x1 XA2 QA;go_wp2_with fail;go_quiet (fail);go_wp2_with fail;go_ret;exact⟨by rw[uH EP];rfl,by rw[uH E];exact(FN _ ((Ext.refl w1).drewN _)).1,(FN _ ((Ext.refl w1).drewN _)).2⟩
theorem b1h(b bn hd:Nat)(w:World)(h:RAt w b bn hd []):
  Calls Tryz.prog 235 #[.pointer (some ⟨b,15,none⟩)] w λe w'=>e=.returned (.pointer none)/\Ext w w':=by
 have r1:=h.r1;simp only [List.length_nil] at r1;clear h;go_enter Tryz.func235,Tryz.ntmps235;go_wp2_with fail;go_ret;exact⟨rfl,Ext.refl _⟩
theorem a6y(b bn hd:Nat)(g:Int)(G:List Int)(w:World)(h:RAt w b bn hd (g::G)):
  Calls Tryz.prog 235 #[.pointer (some ⟨b,15,none⟩)] w λe w'=>e=.returned (ndp bn g.toNat)/\Ext w w':=by
 have r0:=h.r0;have r1:=h.r1;have hl:=h.hl;have h0:=h.h0;have rg:=h.rg 0 (by simp);have e:(hd+0) % 4000=hd:=by omega
 rw[e] at rg;simp only [List.getElem_cons_zero] at rg;have c0:(((g::G).length:Nat):Int)=(G.length:Int)+1:=by simp
 rw[c0] at r1;have nz:(((G.length:Int)+1) == 0)=false:=by simp;omega
 have d0:(0:Int)<=(hd:Int):=by omega
 have d1:(hd:Int)<4000:=by omega
 clear h e c0 hl;go_enter Tryz.func235,Tryz.ntmps235;go_wp2_with fail;go_quiet (fail);go_wp2_with fail;go_ret;exact⟨rfl,(Ext.refl _).drewN _⟩
theorem RAt.dropped{m:Nat}{g:Int}(h:RAt w b bn hd (g::G))(hm:m=(hd+1) % 4000):
  RAt ((w.setCell ⟨b,4015,none⟩ (iv m)).setCell ⟨b,4016,none⟩ (iv G.length)) b bn m G:=by
 have hl:=h.hl;simp at hl;refine⟨by rw[hm];exact Nat.mod_lt _ (by omega),by omega,?_,?_,λk hk=>?_,λj hj=>?_⟩
 ·rw[uC _ (.inr (by omega))];exact World.cell?_setCell_same _ _ _ h.r0
 ·have:(w.setCell ⟨b,4015,none⟩ (iv m)).cell? ⟨b,4016,none⟩=some (iv (g::G).length):=by rw[uC _ (.inr (by omega))];exact h.r1
  exact World.cell?_setCell_same _ _ _ this
 ·have hk2:(m+k) % 4000<4000:=Nat.mod_lt _ (by omega);rw[uC _ (.inr (by omega)),uC _ (.inr (by omega))];have:=h.rg (k+1) (by simpa using hk);have e:(hd+(k+1)) % 4000=(m+k) % 4000:=by rw[hm];omega
  rw[e] at this
  simpa using this
 ·obtain⟨v,hv⟩:=h.ro j hj;exact⟨v,by rw[uC _ (.inr (by omega)),uC _ (.inr (by omega))];exact hv⟩
theorem c5u(b bn hd:Nat)(g:Int)(G:List Int)(w:World)(h:RAt w b bn hd (g::G))(hn:Nf1 b w):
  Calls Tryz.prog 327 #[.pointer (some ⟨b,15,none⟩)] w λe w'=>e=.returned (.tuple #[])/\Hid (RAt w' b bn ((hd+1) % 4000) G/\uZ (λq=>q=b) w w'/\Nf1 b w'/\∀o,(o<15\/o=4017)->w'.cell? ⟨b,o,none⟩=w.cell? ⟨b,o,none⟩):=by
 have r0:=h.r0;have r1:=h.r1;have hl:=h.hl;have h0:=h.h0;have c0:(((g::G).length:Nat):Int)=(G.length:Int)+1:=by simp
 rw[c0] at r1;have hl2:G.length+1<=4000:=by simpa using hl
 have f0:=hn.2 4015;have f1:=hn.2 4016;obtain⟨m,hm⟩:∃m,m=(hd+1) % 4000:=⟨_,rfl⟩;have hr:((hd:Int)+1).tmod 4000=(m:Int):=by have:=b3u (hd+1);rw[<-hm] at this;simpa using this
 have FN:=uU (show RAt ((w.setCell ⟨b,4015,none⟩ (iv m)).setCell ⟨b,4016,none⟩ (iv G.length)) b bn m G/\uZ (λq=>q=b) w ((w.setCell ⟨b,4015,none⟩ (iv m)).setCell ⟨b,4016,none⟩ (iv G.length))/\Nf1 b ((w.setCell ⟨b,4015,none⟩ (iv m)).setCell ⟨b,4016,none⟩ (iv G.length))/\∀o,(o<15\/o=4017)->((w.setCell ⟨b,4015,none⟩ (iv m)).setCell ⟨b,4016,none⟩ (iv G.length)).cell? ⟨b,o,none⟩=w.cell? ⟨b,o,none⟩ from
  ⟨h.dropped hm,uZ.setCell (S:=λq=>q=b) (uZ.setCell (S:=λq=>q=b) (uZ.refl _ w) (p:=⟨b,4015,none⟩) rfl _) (p:=⟨b,4016,none⟩) rfl _,(hn.set _ _).set _ _,λo ho=>by rw[uC _ (.inr (by omega)),uC _ (.inr (by omega))]⟩)
 rw[<-hm];clear h c0 hl hm hn;go_enter Tryz.func327,Tryz.ntmps327;go_wp2_with fail
 go_end0
 exact⟨rfl,FN⟩
theorem SAt.rdrop[Inhabited uQ](h:SAt B w b x ar kr v4 v8 br cB cO bn pb pa pk kn hd vf F vk K role){hd':Nat}(r:RAt w' b bn hd' G/\uZ (λq=>q=b) w w'/\Nf1 b w'/\∀o,(o<15\/o=4017)->w'.cell? ⟨b,o,none⟩=w.cell? ⟨b,o,none⟩):SAt B w' b { x with D:=G } ar kr v4 v8 br cB cO bn pb pa pk kn hd' vf F vk K role:=h.ring r.1 r.2.1 r.2.2.1 r.2.2.2
theorem SAt.black[Inhabited uQ](h:SAt B w b x ar kr v4 v8 br cB cO bn pb pa pk kn hd vf F vk K role)(i:Nat)(hi:i<x.A.length):SAt B (w.setCell ⟨cB i,cO i+5,none⟩ (iv 2)) b { x with A:=x.A.set i (qV (x.c i)) } ar kr v4 v8 br cB cO bn pb pa pk kn hd vf F vk K role:=by
 have hn:0<x.A.length:=by omega
 refine h.setc hi rfl (uZ.setCell (S:=λq=>q=cB i) (uZ.refl _ w) (p:=⟨cB i,cO i+5,none⟩) rfl _) ?_ (λk hk=>uC _ (.inr (by omega))) ((h.rw.nc i hi).1.set _ _);obtain⟨a0,a1,a2,a3,a4,a5,a6⟩:=h.rw.s i hi;refine⟨?_,?_,?_,?_,?_,World.cell?_setCell_same _ _ _ a5,?_⟩
 ·rw[uC _ (.inr (by omega))];exact a0
 ·rw[uC _ (.inr (by omega))];exact a1
 ·rw[uC _ (.inr (by omega))];exact a2
 ·rw[uC _ (.inr (by omega))];exact a3
 ·rw[uC _ (.inr (by omega))];exact a4
 ·rw[uC _ (.inr (by omega))];exact a6
theorem c2c[Inhabited uQ](h:SAt B w b x ar kr v4 v8 br cB cO bn pb pa pk kn hd vf F vk K role)(n8:x.A.length<=8000)(hp:x.E=2)(i:Nat)(G:List Int)(hg:x.D=(i:Int)::G)(hin:i<x.A.length)(hks:¬x.sub<((x.c i).F.length:Int))(a:World)(ha:a.heap.size<=B)(hx:Ext a w):
  Calls Tryz.prog 329 #[.agg #[.pointer (some ⟨b,0,none⟩)]] w λe w'=>e=.returned (zK (dY x).E b)/\Hid (SAt B w' b (dY x) ar kr v4 v8 br cB cO bn pb pa pk kn ((hd+1) % 4000) vf F vk K role)/\Ext a w':=by
 have ei:((i:Int)).toNat=i:=by omega
 have E:=uU (show dY x={ x with A:=x.A.set i (qV (x.c i)),D:=G,sub:=0 } by
  unfold dY;rw[hg];simp only [ei,if_neg hks])
 have EP:=uU (show(dY x).E=2 by rw[uH E];exact hp);have H:=uU h;have XA:=(Ext.refl w).alloc (.cells #[.pointer (some ⟨b,0,none⟩)] 234);have RG:=uU (show RAt w b bn hd ((i:Int)::G) by have:=h.sb.rg;rw[hg] at this;exact this);have QA:=uU (a6y b bn hd i G _ (RG.block (XA.block b h.sb.nb.1)));have XA2:=uU XA;have hbw:b<w.heap.size:=h.sb.nb.1;have lo:=h.sb.lo.1;have HG:=uU hg;have hn:0<x.A.length:=by omega
 clear h hp XA hg;go_enter Tryz.func329,Tryz.ntmps329;go_wp2_with fail;refine QA.mono ?_;rintro e w1 ⟨rfl,x1⟩;rw[ei];have r0:w1.cell? ⟨w.heap.size,0,none⟩=some (.pointer (some ⟨b,0,none⟩)):=x1.keep (by simp [go_sem]);have X1:=uU (XA2.trans x1);have H1:=uU (H.ext X1);have m1:=(H1.sb.nd i hin).2;have p5:=(H1.rw.s i hin).2.2.2.2.2.1;have p7:=H1.rw.p7 i hin;have c7:=H1.sb.bx.2.2.2.2.2.2.2.1;have f7:=H1.sb.nb.2 7;have fc:=(H1.rw.nc i hin).1.2 (cO i+5);have hb1:b<w1.heap.size:=uL c7;have hb2:w.heap.size<w1.heap.size:=uL r0;have hbc:cB i<w1.heap.size:=uL p5;have nbw:¬b=w.heap.size:=by omega
 have nwb:¬w.heap.size=b:=by omega
 have HBC:=uU (H.rw.nc i hin);have NBC:=uU (show ¬b=cB i from λe=>by have h1:=H1.sp.b;have h2:=H1.sp.c i hin;rw[e] at h1;omega);clear x1 XA2 QA ei;go_wp2_with fail;go_quiet (fail);have G2:=uU ((H1.ext ((Ext.refl w1).drewN nq)).black i hin);obtain⟨W2,hW2⟩:∃W,W=(w1.drewN nq).setCell ⟨cB i,cO i+5,none⟩ (iv 2):=⟨_,rfl⟩;rw[<-hW2] at G2;have X2:=uU (show Ext a W2 by rw[hW2];exact((hx.trans X1).drewN _).setCell (p:=⟨cB i,cO i+5,none⟩) (Nat.le_trans ha HBC.2) _)
 have s0:W2.cell? ⟨w.heap.size,0,none⟩=some (.pointer (some ⟨b,0,none⟩)):=by
  rw[hW2,uC _ (.inl (by have:=HBC.1.1;omega))];exact((Ext.refl w1).drewN nq).keep r0
 have RG2:=uU (show RAt W2 b bn hd ((i:Int)::G) by have:=G2.sb.rg;rw[<-uH HG];exact this);go_wp2_with fail;rw[<-hW2];refine(c5u b bn hd i G _ RG2 G2.sb.nb).mono ?_;rintro e w3 ⟨rfl,hr3⟩;have G3:=uU (G2.rdrop hr3);have o3:=hr3.2.1;have hs2:w.heap.size<W2.heap.size:=uL s0;have t0:w3.cell? ⟨w.heap.size,0,none⟩=some (.pointer (some ⟨b,0,none⟩)):=(World.cell?_of_block (a:=⟨w.heap.size,0,none⟩) (o3.block w.heap.size hs2 (by omega))).trans s0;have X3:=uU (o3.ext X2 (λq hq e=>by omega));have d7:=G3.sb.bx.2.2.2.2.2.2.2.1;have g7:=G3.sb.nb.2 7;have hb3:b<w3.heap.size:=uL d7;have hs3:w.heap.size<w3.heap.size:=uL t0;have FN:=uU (G3.subs 0);have XN:=uU (X3.setCell (p:=⟨b,7,none⟩) (show a.heap.size<=b by omega) (iv 0));clear hW2 o3 hr3 m1 p5 p7 c7 f7 fc r0 s0 hb1 hb2 hbc hs2;go_wp2_with fail;go_ret;exact⟨by rw[uH EP];rfl,by rw[uH E];exact uH FN,XN⟩
def fptr(bn:Nat)(y:Wd):Value:=if (y.k == 2)=true then ndp bn y.a.toNat else .pointer none
theorem a6z[Inhabited uQ](h:SAt B w b x ar kr v4 v8 br cB cO bn pb pa pk kn hd vf F vk K role)(r2:R2 x)(y:Wd)(hy:eE x y)(hf:uE y x.A.length):
  Calls Tryz.prog 123 #[.pointer (some ⟨b,0,none⟩),y.v] w λe w'=>e=.returned (fptr bn y)/\Ext w w':=by
 unfold fptr;cases q:(y.k == 2)
 ·rw[if_neg (by simp)];exact a6x y b w q
 ·rw[if_pos rfl];have hk:y.k=2:=by simpa using q
  have g:=hy hk;obtain⟨k,n,a⟩:=y;simp only at hk g;subst hk;unfold uE at hf;simp only at hf;obtain⟨i,rfl⟩:∃i:Nat,a=(i:Int):=⟨a.toNat,by omega⟩;obtain rfl:n=0:=by omega
  have ei:((i:Int)).toNat=i:=by omega
  simp only [ei] at g ⊢;have L:eY x i=i:=by unfold eY;rw[if_neg (by rw[g.2];simp)]
  have:=a9w h r2 i g.1;rw[L] at this;exact this
theorem c2d(b:Nat)(w:World):Calls Tryz.prog 82 #[.pointer (some ⟨b,0,none⟩),.pointer none] w λe w'=>e=.returned (.tuple #[])/\w'=w:=by
 go_enter Tryz.func82,Tryz.ntmps82;go_wp2_with fail
 try simp only [Exit.inBlock,Exit.then]
 refine bodyPost_ret (results_none rfl _ _ _) rfl ?_;exact⟨rfl,rfl⟩
theorem a8q[Inhabited uQ](h:SAt B w b x ar kr v4 v8 br cB cO bn pb pa pk kn hd vf F vk K role)(y:Wd)(hy:eE x y)(gf:∀i,i<x.A.length->eJ x i=true->x.D.length<4000)(a:World)(ha:a.heap.size<=B)(hx:Ext a w):
  Calls Tryz.prog 82 #[.pointer (some ⟨b,0,none⟩),fptr bn y] w λe w'=>e=.returned (.tuple #[])/\Hid (SAt B w' b (shadeW x y) ar kr v4 v8 br cB cO bn pb pa pk kn hd vf F vk K role)/\Ext a w'/\Hid (∀q,q<w.heap.size->q≠b->(∀j,j<x.A.length->q≠cB j)->w'.heap[q]?=w.heap[q]?):=by
 unfold fptr shadeW;cases q:(y.k == 2)
 ·rw[if_neg (by simp),if_neg (by simp)];refine(c2d b w).mono ?_;rintro e w' ⟨rfl,rfl⟩;exact⟨rfl,h,hx,λ_ _ _ _=>rfl⟩
 ·rw[if_pos rfl,if_pos rfl];have hk:y.k=2:=by simpa using q
  have g:=(hy hk).1;refine(b5n y.a.toNat w h g (gf _ g) a ha hx).mono ?_;rintro e w' ⟨h1,h2,h3,h4⟩;exact⟨h1,h2,h3,λq hq hb hc=>uH h4 q hq hb (hc _ g)⟩
theorem d0c[Inhabited uQ]{B:Nat}{w:World}{b:Nat}{x:Hp}{ar:Option Addr}{kr:Nat}{v4 v8:Value}{br bn:Nat}{cB cO:Nat->Nat}{pb:Nat->Nat}{pa:Nat->Option Addr}{pk:Nat->Nat}{kn hd:Nat}{vf:Value}{F:List Int}{vk:Value}{K:List Nat}{role:Nat->Nat}(h:SAt B w b x ar kr v4 v8 br cB cO bn pb pa pk kn hd vf F vk K role)(s:Snd x)(hp:x.E=2)(hg:x.D=[])(a:World)(ha:a.heap.size<=B)(hx:Ext a w):
  Calls Tryz.prog 330 #[.agg #[.pointer (some ⟨b,0,none⟩)]] w λe w'=>e=.returned (zK (dY x).E b)/\Hid (SAt B w' b (dY x) ar kr v4 v8 br cB cO bn pb pa pk kn hd vf F vk K role)/\Ext a w':=by
 have EU:=uU (show dY x=if (qC x).D=[] then dN (qC x) 3 0 else qC x by unfold dY;rw[hg]);have H:=uU h;have S:=uU s;have SH:=uU (c3a s hp);have HP:=uU hp;have XA:=(Ext.refl w).alloc (.cells #[.pointer (some ⟨b,0,none⟩)] 234);have r0:0<x.B.length:=by have:=s.r1.B;omega
 have r16:x.B.length<=16:=by have:=s.r1.B;omega
 have n8:=s.ok.n8;have c3:=h.sb.bx.2.2.2.1;rw[h.sb.ha r0] at c3;have hbw:b<w.heap.size:=h.sb.nb.1;have lo:=h.sb.lo.1;have HS:=uU (h.ext XA);have XS:=uU (hx.trans XA);have d3:=XA.keep c3;have NWC:=uU (show ∀j,j<x.A.length->w.heap.size≠cB j from λj hl e=>by have:=(h.rw.nc j hl).1.1;omega);have M0:=uU (show(w.alloc (.cells #[.pointer (some ⟨b,0,none⟩)] 234)).cell? ⟨w.heap.size,0,none⟩=some (.pointer (some ⟨b,0,none⟩)) by simp [go_sem]);clear h hp hg s c3 XA;go_enter Tryz.func330,Tryz.ntmps330;go_wp2_with fail;go_loopw [13] (λi wr=>∃j:Nat,j<=x.B.length/\i=.int .i64 j/\Hid (SAt B wr b (lkH x j) ar kr v4 v8 br cB cO bn pb pa pk kn hd vf F vk K role)/\Hid (Ext a wr)/\Hid (wr.cell? ⟨w.heap.size,0,none⟩=some (.pointer (some ⟨b,0,none⟩)))) (λi _=>x.B.length-(intOf i).toNat)
 case atStart=>exact⟨0,Nat.zero_le _,rfl,HS,XS,M0⟩
 case round=>
  clear HS XS d3;obtain⟨j,hj,rfl,hG,hxr,hm0⟩:=hrel;by_cases hlt:j<x.B.length
  ·have er:(lkH x j).B=x.B:=(SH j).B;obtain⟨e0,e1,e2⟩:=hG.rw.r j (by rw[er];exact hlt);have eq:(lkH x j).B[j]'(by rw[er];exact hlt)=x.B[j]:=by simp [er]
   rw[eq] at e0 e1 e2;have hbr:br<wr.heap.size:=uL e0
   have N1:=uU (show Snd (lkH x j)/\eE (lkH x j) x.B[j]/\uE x.B[j] (lkH x j).A.length by
    have hs:=(SH j).s;refine⟨hs,?_,?_⟩
    ·have:=hs.good_reg j (by rw[er];exact hlt);rw[eq] at this;exact this
    ·have:=(hs.r4.1 j (by rw[er];exact hlt)).1;rw[eq] at this;exact this)
   have NX:=uU (b8o x j hlt);have hj0:(0:Int)<=(j:Int):=by omega
   have hj1:(j:Int)<(x.B.length:Int):=by omega
   have XA:=(Ext.refl wr).alloc (.cells #[iv x.B[j].k,iv x.B[j].n,iv x.B[j].a] 152);have H2:=uU (hG.ext XA);have X2:=uU (hxr.trans XA);have s0:=XA.keep hm0;have BCW:=uU (show ∀j,j<x.A.length->w.heap.size≠cB j from uH NWC);clear er eq hG hxr hm0 XA;go_wp2_with fail;go_region_with (first | (have _:=LA;go_at_call 82;refine(a8q H3 x.B[j] N1.2.1 (λq hq=>(a4n N1.1.ok).2 q hq) a ha X3).mono ?_;rintro e w4 ⟨rfl,h4,x4,fr⟩;rw[<-uH NX] at h4;have H4:=uU h4;have X4:=uU x4;have FR:=uU (show ∀q,q<w3.heap.size->q≠b->(∀j,j<x.A.length->q≠cB j)->w4.heap[q]?=w3.heap[q]? from λq h1 h2 h3=>uH fr q h1 h2 (λm h4=>h3 m (by rw[(uH SH j).len] at h4;exact h4)));clear h4 x4 fr) | (go_at_call 123;refine(a6z (H2.ext (Ext.refl _).drew) N1.1.r2 x.B[j] N1.2.1 N1.2.2).mono ?_;rintro e w3 ⟨rfl,x3⟩;have LA:=True.intro;have x23:=Ext.trans (Ext.refl _).drew x3;have H3:=uU (H2.ext x23);have X3:=uU (X2.trans x23);have t0:=x23.keep s0;have ht1:w.heap.size<w3.heap.size:=uL t0;clear x3 x23))
   all_goals
    have CL:=uU (show w4.cell? ⟨w.heap.size,0,none⟩=some (.pointer (some ⟨b,0,none⟩)) from(World.cell?_of_block (a:=⟨w.heap.size,0,none⟩) (FR w.heap.size ht1 (by omega) BCW)).trans t0);go_wp2_with fail;go_roundw
    case rel=>exact⟨j+1,by omega,by go_num,H4,X4,CL⟩
    case measure=>simp [intOf];omega
  ·have je:j=x.B.length:=by omega
   subst je;rw[b6j] at hG;have g0:=uH hm0
   have SL:=uU (show Snd (qC x)/\(qC x).E=2 by
    have:=uH SH x.B.length;rw[b6j] at this;exact⟨this.s,this.E.trans HP⟩)
   have hs0:w.heap.size<wr.heap.size:=uL g0;cases hgr:(qC x).D with
   | nil=>
    have EF:=uU (show dY x=dN (qC x) (2+1) 0 by rw[uH EU,if_pos hgr];rfl);have RG:=uU (show RAt wr b bn hd [] by have:=hG.sb.rg;rw[hgr] at this;exact this);clear hgr;go_wp2_with fail;refine(b1h b bn hd _ RG).mono ?_;rintro e w3 ⟨rfl,x3⟩;have k0:=x3.keep g0;have H3:=uU (hG.ext x3);have X3:=uU (hxr.trans x3);clear x3 g0 hs0;go_wp2_with fail;refine(a6v H3 2 SL.2 rfl rfl (by omega) a ha X3).mono ?_;rintro e w4 ⟨rfl,h4,x4⟩;go_wp2_with fail;go_ret;exact⟨by rw[uH EF];rfl,by rw[uH EF];exact uH h4,x4⟩
   | cons g G=>
    have EF:=uU (show dY x=qC x by rw[uH EU,if_neg (by rw[hgr];simp)]);have EP:=uU (show(dY x).E=2 by rw[uH EF];exact SL.2);have RG:=uU (show RAt wr b bn hd (g::G) by have:=hG.sb.rg;rw[hgr] at this;exact this);clear hgr;go_wp2_with fail;refine(a6y b bn hd g G _ RG).mono ?_;rintro e w3 ⟨rfl,x3⟩;have k0:=x3.keep g0;have H3:=uU (hG.ext x3);have X3:=uU (hxr.trans x3);have hs3:w.heap.size<w3.heap.size:=uL k0;clear x3 g0 hs0;go_wp2_with fail;go_ret;exact⟨by rw[uH EP];rfl,by rw[uH EF];exact uH H3,X3⟩
theorem c5w[Inhabited uQ](h:SAt B w b x ar kr v4 v8 br cB cO bn pb pa pk kn hd vf F vk K role)(s:Snd x)(hp:x.E=2)(hg:x.D=[])(a:World)(ha:a.heap.size<=B)(hx:Ext a w):
  Calls Tryz.prog 329 #[.agg #[.pointer (some ⟨b,0,none⟩)]] w λe w'=>e=.returned (zK (dY x).E b)/\Hid (SAt B w' b (dY x) ar kr v4 v8 br cB cO bn pb pa pk kn hd vf F vk K role)/\Ext a w':=by
 have H:=uU h;have XA:=(Ext.refl w).alloc (.cells #[.pointer (some ⟨b,0,none⟩)] 234);have RG:=uU (show RAt w b bn hd [] by have:=h.sb.rg;rw[hg] at this;exact this);have QA:=uU (b1h b bn hd _ (RG.block (XA.block b h.sb.nb.1)));have QL:=uU (λW (e:Ext w W)=>d0c (h.ext e) s hp hg a ha (hx.trans e));have XA2:=uU XA;have hbw:b<w.heap.size:=h.sb.nb.1;clear h hp hg XA s;go_enter Tryz.func329,Tryz.ntmps329;go_wp2_with fail;refine QA.mono ?_;rintro e w1 ⟨rfl,x1⟩;have r0:w1.cell? ⟨w.heap.size,0,none⟩=some (.pointer (some ⟨b,0,none⟩)):=x1.keep (by simp [go_sem]);have X1:=uU (XA2.trans x1);go_wp2_with fail;refine(QL _ X1).mono ?_;rintro e w2 ⟨rfl,h2,x2⟩;go_wp2_with fail;go_ret;exact⟨rfl,h2,x2⟩
def Gave[Inhabited uQ](B:Nat)(w w':World)(b:Nat)(y:Hp)(ar:Option Addr)(kr:Nat)(v4 v8:Value)(br:Nat)(cB cO:Nat->Nat)(bn:Nat)(pb:Nat->Nat)(kn hd:Nat)(vf:Value)(F:List Int)(vk:Value)(K:List Nat)(i:Nat):Prop:=
 (∃pa' pk' vf' F' role',SAt B w' b y ar kr v4 v8 br cB cO bn pb pa' pk' kn hd vf' F' vk K role'/\Ho F'/\F'.Perm ((i:Int)::F))/\∀q,q<w.heap.size->q≠b->q≠cB i->vf.ownBlock≠some q->w'.heap[q]?=w.heap[q]?
theorem a9x[Inhabited uQ](h:SAt B w b x ar kr v4 v8 br cB cO bn pb pa pk kn hd vf F vk K role)(i:Nat)(hi:i<x.A.length)(ho:Ho F)(hl:F.length<=1000000000)(a:World)(ha:a.heap.size<=B)(hx:Ext a w):
  Calls Tryz.prog 332 #[.pointer (some ⟨b,0,none⟩),ndp bn i] w λe w'=>e=.returned (.tuple #[])/\Gave B w w' b { x with A:=x.A.set i Cl0 } ar kr v4 v8 br cB cO bn pb kn hd vf F vk K i/\Ext a w':=by
 have H:=uU h;obtain⟨m0,m1⟩:=h.sb.nd i hi;obtain⟨e0,e1,e2,e3,e4,e5,e6⟩:=h.rw.s i hi;have e7:=h.rw.p7 i hi;have fc:=(h.rw.nc i hi).1.2;have NBC:=uU (show ¬bn=cB i from λe=>by have h1:=h.sp.n;have h2:=h.sp.c i hi;rw[e] at h1;omega);have nbc:¬bn=cB i:=uH NBC;have ncb:¬cB i=bn:=λe=>uH NBC e.symm
 have hbc:cB i<w.heap.size:=uL e0;have hbn:bn<w.heap.size:=uL m0;have G2:=uU (h.wiped i hi 0 0);have X2:=uU ((a0g w (cB i) (cO i) 0 0).ext hx (λq hq e=>by have:=(h.rw.nc i hi).2;omega));have HO:=uU (And.intro ho hl);have M0:=uU ((World.cell?_of_block (a:=⟨bn,i*2,none⟩) ((a0g w (cB i) (cO i) 0 0).block bn hbn nbc)).trans m0);obtain⟨W2,hW2⟩:∃W,W=zZ w (cB i) (cO i) 0 0:=⟨_,rfl⟩;rw[<-hW2] at G2 X2 M0;have O2:=uU (show uZ (λq=>q=cB i) w W2 by rw[hW2];exact a0g w (cB i) (cO i) 0 0);unfold zZ at hW2;clear h ho hl;go_enter Tryz.func332,Tryz.ntmps332;go_wp2_with fail;rw[<-hW2];clear hW2 m0 m1 e0 e1 e2 e3 e4 e5 e6 e7 fc;have k0:=uH M0;have hB:B<=W2.heap.size:=by have:=G2.sb.lo.2.1;have:=G2.sb.lo.2.2.1;omega
 go_region_with (go_at_call 107;refine(b3h _ B b 14 vf F i (G2.sb.fr.ext (Ext.refl W2).drew) (by simpa using hB) HO.1 HO.2).mono ?_;rintro e w3 ⟨rfl,v3,L3,l3,o3,p3,q3⟩;have Q3:=uU q3;have R3:=uU (And.intro l3 (And.intro o3 p3));clear l3 o3 p3 q3)
 all_goals
  have NF:=uU (show Nf1 b w3 from⟨Nat.lt_of_lt_of_le G2.sb.nb.1 (by have:=Q3.size;simpa using this),λj=>(Q3.hfr j).trans ((G2.sb.nb.ext (Ext.refl W2).drew).2 j)⟩);have G3:=uU ((G2.ext (Ext.refl W2).drew).freed R3.1 Q3 NF)
  have FN:=uU (show Gave B w w3 b { x with A:=x.A.set i Cl0 } ar kr v4 v8 br cB cO bn pb kn hd vf F vk K i by
   obtain⟨role',g⟩:=G3;refine⟨⟨_,_,v3,L3,role',g,R3.2.1,R3.2.2⟩,λq hq h1 h2 h3=>?_⟩;have hq2:q<W2.heap.size:=Nat.lt_of_lt_of_le hq O2.size;exact(Q3.block q (by simpa using hq2) h1 h3).trans (O2.block q hq h2))
  have XN:=uU (Q3.ext X2.drew (by have:=G2.sb.lo.1;omega) (λk hk=>by have:=(G2.sb.fr.own.lt k hk).1;omega));go_wp2_with fail
  go_end0
  exact⟨rfl,FN,XN⟩
theorem c5x[Inhabited uQ](h:SAt B w b x ar kr v4 v8 br cB cO bn pb pa pk kn hd vf F vk K role)(hp:x.E=3)(he:x.I=x.A.length)(a:World)(ha:a.heap.size<=B)(hx:Ext a w):
  Calls Tryz.prog 331 #[.agg #[.pointer (some ⟨b,0,none⟩)]] w λe w'=>e=.returned (zK (dQ x).E b)/\Hid (SAt B w' b (dQ x) ar kr v4 v8 br cB cO bn pb pa pk kn hd vf F vk K role)/\Ext a w':=by
 have E:=uU (show dQ x=dN x (3+1) 0 by unfold dQ;rw[if_pos he];rfl);have H:=uU h;have HP:=uU hp;have XA:=(Ext.refl w).alloc (.cells #[.pointer (some ⟨b,0,none⟩)] 235);have QA:=uU (a6t x.I b x.A.length kn (some ⟨bn,0,none⟩) _ (XA.keep h.sb.bx.2.2.2.2.2.2.1) (XA.keep h.sb.n13) (by simpa using he));have XA2:=uU XA;have hbw:b<w.heap.size:=h.sb.nb.1;clear h hp he XA;go_enter Tryz.func331,Tryz.ntmps331;go_wp2_with fail;refine QA.mono ?_;rintro e w1 ⟨rfl,x1⟩;have r0:w1.cell? ⟨w.heap.size,0,none⟩=some (.pointer (some ⟨b,0,none⟩)):=x1.keep (by simp [go_sem]);have X1:=uU (XA2.trans x1);go_wp2_with fail;refine(a6v (H.ext X1) 3 HP rfl rfl (by omega) a ha (hx.trans X1)).mono ?_;rintro e w2 ⟨rfl,h2,x2⟩;go_wp2_with fail;go_ret;exact⟨by rw[uH E];rfl,by rw[uH E];exact uH h2,x2⟩
theorem b3x(s:Snd x)(i:Nat)(hi:x.I=(i:Int))(hin:i<x.A.length)(hs:(x.c i).st≠1):dQ x={ x with I:=(i:Int)+1 }:=by
 have ei:x.I.toNat=i:=by omega
 have h0:a1i (x.c i)=x.c i:=by
  have hc:(x.c i).J=0:=by
   rcases s.r2.1 i hin with⟨_,b,_⟩ | ⟨_,b⟩ | ⟨a,_⟩
   ·exact b.2.2.2.2.1
   ·exact b.1.2.2.2.2.1
   ·exact absurd a hs
  unfold a1i;rw[<-hc]
 have h1:x.A.set i (x.c i)=x.A:=by
  rw[<-Hp.c_eq x i hin];simp
 unfold dQ;rw[if_neg (by omega),ei,if_neg (by simp [whB];intro e;exact absurd e hs),h0,h1,hi]
theorem c2e[Inhabited uQ](h:SAt B w b x ar kr v4 v8 br cB cO bn pb pa pk kn hd vf F vk K role)(s:Snd x)(hp:x.E=3)(i:Nat)(hi:x.I=(i:Int))(hin:i<x.A.length)(hs:((x.c i).st == 1)=false)(a:World)(ha:a.heap.size<=B)(hx:Ext a w):
  Calls Tryz.prog 331 #[.agg #[.pointer (some ⟨b,0,none⟩)]] w λe w'=>e=.returned (zK (dQ x).E b)/\Hid (SAt B w' b (dQ x) ar kr v4 v8 br cB cO bn pb pa pk kn hd vf F vk K role)/\Ext a w':=by
 have E:=uU (b3x s i hi hin (by simpa using hs));have EP:=uU (show(dQ x).E=3 by rw[uH E];exact hp);have H:=uU h;have n8:=s.ok.n8;have XA:=(Ext.refl w).alloc (.cells #[.pointer (some ⟨b,0,none⟩)] 235);have c6:=h.sb.bx.2.2.2.2.2.2.1;rw[hi] at c6;have QA:=uU (a1q b x.A.length kn bn i _ (XA.keep c6) (XA.keep h.sb.n13) hin);have XA2:=uU XA;have hbw:b<w.heap.size:=h.sb.nb.1;have lo:=h.sb.lo.1;have HI:=uU hi;have WH:=uU (show whB (x.c i)=false by simp [whB,hs]);clear h hp XA s hi c6;go_enter Tryz.func331,Tryz.ntmps331;go_wp2_with fail;refine QA.mono ?_;rintro e w1 ⟨rfl,x1⟩;have r0:w1.cell? ⟨w.heap.size,0,none⟩=some (.pointer (some ⟨b,0,none⟩)):=x1.keep (by simp [go_sem]);have X1:=uU (XA2.trans x1);have H1:=uU (H.ext X1);have m1:=(H1.sb.nd i hin).2;have p0:=(H1.rw.s i hin).1;have QS:=uU (a5o (x.c i) bn i (cB i) (cO i) w1 m1 (H1.rw.s i hin));rw[uH WH] at QS;clear x1 XA2 QA;go_wp2_with fail;refine QS.mono ?_;rintro e w2 ⟨rfl,hw2⟩;subst hw2;have c6:w2.cell? ⟨b,6,none⟩=some (iv i):=by have:=H1.sb.bx.2.2.2.2.2.2.1;rw[uH HI] at this;exact this
 have f6:=H1.sb.nb.2 6;have hb1:b<w2.heap.size:=uL c6;have hb2:w.heap.size<w2.heap.size:=uL r0;have FN:=uU (H1.I ((i:Int)+1));have XN:=uU ((hx.trans X1).setCell (p:=⟨b,6,none⟩) (show a.heap.size<=b by omega) (iv ((i:Int)+1)));go_wp2_with fail;go_ret;exact⟨by rw[uH EP];rfl,by rw[uH E];exact uH FN,XN⟩
end Go.Proofs.YtddkhnclmeikfaaGreat
