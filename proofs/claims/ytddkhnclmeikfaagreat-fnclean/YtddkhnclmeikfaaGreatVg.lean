import Derived.Test.YtddkhnclmeikfaaGreatDm
set_option maxRecDepth 100000
set_option maxHeartbeats 8000000
namespace Go.Proofs.YtddkhnclmeikfaaGreat
open Go.RowKit
attribute [local go_sem ↓] Go.wp_at_zero Go.wp_at_succ
variable{w w' W w1 W':World}{g kr bc kc br bs j k kg i:Nat}{x y z:Hp}{ar ac ag:Option Addr}{v vg v':Value}{op n a b c wk:Int}{pb pk role:Nat->Nat}{pa:Nat->Option Addr}{T L:List Int}{p:Pr}{l:List Pr}
structure GReg[Inhabited uQ](B:Nat)(w:World)(g:Nat)(x:Hp)(br kr:Nat):Prop where
 c3:w.cell? ⟨g,3,none⟩=some (.slice (some ⟨br,0,none⟩) 16 kr)
 r:∀i,i<16->yQ w br (i*3) (x.r i)
 f:∀j,w.frozen? ⟨br,j,none⟩=false
 lo:B<=br/\br<w.heap.size/\br≠g
 set:∀(W:World) (i:Nat) (y:Wd),Ext w W->i<16->GOk B (dV W br (i*3) y) g (regTo x i y)
theorem GOk.B[Inhabited uQ]{B:Nat}(h:GOk B w g x)(r16:x.B.length=16):∃br kr,GReg B w g x br kr:=by
 obtain⟨ar,kr,ac,kc,vg,br,bc,pb,pa,pk,role,h⟩:=h;have h0:0<x.B.length:=by omega
 refine⟨br,kr,?_,λi hi=>?_,(h.rw.nr h0).1.2,⟨(h.rw.nr h0).2,(h.rw.nr h0).1.1,λe=>?_⟩,λW i y e hi=>?_⟩
 ·have:=h.bx.2.2.2.1;rw[h.ha h0,r16] at this;exact this
 ·have:=h.rw.r i (by omega);rw[Hp.r_eq] at this;exact this
 ·have h1:=h.sp.r h0;have h2:=h.sp.g;rw[e] at h1;omega
 ·have g1:=h.ext e;exact⟨ar,kr,ac,kc,vg,br,bc,pb,pa,pk,role,g1.setr i (by omega) y (a0e _ _ _ _) (b2w (g1.rw.nr h0).1 _ _) (a6g _ _ _ _ _ (g1.rw.r i (by omega))) (λm hm=>a0u _ _ _ _ m hm)⟩
theorem GReg.ext[Inhabited uQ]{B:Nat}(h:GReg B w g x br kr)(e:Ext w w'):GReg B w' g x br kr:=
 ⟨e.keep h.c3,λi hi=>(h.r i hi).ext e,λj=>((cD e).2 br j h.lo.2.1).trans (h.f j),⟨h.lo.1,Nat.lt_of_lt_of_le h.lo.2.1 e.size,h.lo.2.2⟩,λW i y e2 hi=>h.set W i y (e.trans e2) hi⟩
abbrev doW(w:World)(op a b c n:Int):World:=(w.alloc (.cells #[iv op,iv a,iv b,iv c,iv n] 39)).alloc (.cells #[iv 0,iv 0] 41)
structure tL(w W:World)(op a b c n:Int):Prop where
 a0:W.cell? ⟨w.heap.size,0,none⟩=some (iv op)
 a1:W.cell? ⟨w.heap.size,1,none⟩=some (iv a)
 a2:W.cell? ⟨w.heap.size,2,none⟩=some (iv b)
 a3:W.cell? ⟨w.heap.size,3,none⟩=some (iv c)
 a4:W.cell? ⟨w.heap.size,4,none⟩=some (iv n)
 r0:W.cell? ⟨w.heap.size+1,0,none⟩=some (iv 0)
 r1:W.cell? ⟨w.heap.size+1,1,none⟩=some (iv 0)
 rf:∀j,W.frozen? ⟨w.heap.size+1,j,none⟩=false
theorem tL.new(w:World)(op a b c n:Int):tL w (doW w op a b c n) op a b c n:=
 ⟨by simp [go_sem],by simp [go_sem],by simp [go_sem],by simp [go_sem],by simp [go_sem],by simp [go_sem],by simp [go_sem],λj=>by simp [go_sem]⟩
theorem tL.of(h:tL w W op a b c n)(e:∀q,w.heap.size<=q->q<w.heap.size+2->W'.heap[q]?=W.heap[q]?):tL w W' op a b c n:=by
 have e0:=λj=>World.cell?_of_block (a:=⟨w.heap.size,j,none⟩) (e w.heap.size (Nat.le_refl _) (by omega))
 have e1:=λj=>World.cell?_of_block (a:=⟨w.heap.size+1,j,none⟩) (e (w.heap.size+1) (by omega) (by omega))
 exact⟨(e0 0).trans h.a0,(e0 1).trans h.a1,(e0 2).trans h.a2,(e0 3).trans h.a3,(e0 4).trans h.a4,(e1 0).trans h.r0,(e1 1).trans h.r1,λj=>(World.frozen?_of_block (a:=⟨w.heap.size+1,j,none⟩) (e (w.heap.size+1) (by omega) (by omega))).trans (h.rf j)⟩
theorem tL.ext(h:tL w W op a b c n)(e:Ext W W'):tL w W' op a b c n:=by
 have l0:=uL h.a0;have l1:=uL h.r0
 exact h.of λq h1 h2=>e.block q (by
  have l0:w.heap.size<W.heap.size:=l0;have l1:w.heap.size+1<W.heap.size:=l1;omega)
theorem a6o(w:World)(op a b c n:Int):(doW w op a b c n).heap.size=w.heap.size+2:=by simp [doW]
theorem GOk.boxes{p p1:Inhabited uQ}{B:Nat}(o:Own p w.heap.size (doW w op a b c n).heap.size (doW w op a b c n) p1)(h:@GOk p1 B W g y):tL w W op a b c n:=
 (tL.new w op a b c n).of λq h1 h2=>GOk.own o h q h1 (by rw[a6o];exact h2)
abbrev putA(W:World)(r:Nat)(cd nm:Int):World:=(W.setCell ⟨r,0,none⟩ (iv cd)).setCell ⟨r,1,none⟩ (iv nm)
theorem GOk.done{p p1:Inhabited uQ}{B:Nat}(o:Own p w.heap.size (doW w op a b c n).heap.size (doW w op a b c n) p1)(h:@GOk p1 B W g y)(cd nm:Int):@GOk p B (putA W (w.heap.size+1) cd nm) g y:=
 GOk.leave o h (uZ.setCell (uZ.setCell (uZ.refl _ W) (p:=⟨w.heap.size+1,0,none⟩) ⟨by show w.heap.size<=w.heap.size+1;omega,by rw[a6o];show w.heap.size+1<w.heap.size+2;omega⟩ _) (p:=⟨w.heap.size+1,1,none⟩) ⟨by show w.heap.size<=w.heap.size+1;omega,by rw[a6o];show w.heap.size+1<w.heap.size+2;omega⟩ _)
theorem GOk.doneD{p p1:Inhabited uQ}{B:Nat}(o:Own p w.heap.size (doW w op a b c n).heap.size (doW w op a b c n) p1)(h:@GOk p1 B W g y)(cd nm:Int):@GOk p B (putA W (w.heap.size+1) cd nm).drew g y:=
 GOk.leave o h (uZ.drew (uZ.setCell (uZ.setCell (uZ.refl _ W) (p:=⟨w.heap.size+1,0,none⟩) ⟨by show w.heap.size<=w.heap.size+1;omega,by rw[a6o];show w.heap.size+1<w.heap.size+2;omega⟩ _) (p:=⟨w.heap.size+1,1,none⟩) ⟨by show w.heap.size<=w.heap.size+1;omega,by rw[a6o];show w.heap.size+1<w.heap.size+2;omega⟩ _))
theorem dZ{v:World}{r:Nat}(h:Ext v W)(hr:v.heap.size<=r)(cd nm:Int):Ext v (putA W r cd nm):=(h.setCell (p:=⟨r,0,none⟩) hr _).setCell (p:=⟨r,1,none⟩) hr _
abbrev zQ[Inhabited uQ](B g:Nat)(x:Hp)(a b c:Nat)(n:Int)(k:Nat)(v:World)(e:Ending)(w':World):Prop:=∃(y:Hp) (cd nm:Int),Hid (e=.returned (qU cd nm))/\Hid (DoR x a b c n y cd nm k)/\Hid (GOk B w' g y)/\Ext v w'
theorem a1e{p p1:Inhabited uQ}{B:Nat}{a b c:Nat}{v:World}{cd nm:Int}(o:Own p w.heap.size (doW w op a b c n).heap.size (doW w op a b c n) p1)(h:@GOk p1 B W g y)(e:Ext v W)(l:v.heap.size<=w.heap.size+1)(d:DoR x a b c n y cd nm k):@zQ p B g x a b c n k v (.returned (qU cd nm)) (putA W (w.heap.size+1) cd nm):=
 ⟨y,cd,nm,rfl,d,GOk.done o h cd nm,dZ e l cd nm⟩
theorem wd_eq0(a b:Wd)(w:World):(Op.equalIn 10000 152 (.agg #[iv a.k,iv a.n,iv a.a]) (.agg #[iv b.k,iv b.n,iv b.a])).run Tryz.prog w=.ok (wdB a b) w:=by
 rw[run_equalIn_struct w 9999 _ _ _ (by kernel_rfl) (by kernel_rfl)];simp [go_sem,wdB]
 repeat' split
 all_goals simp_all
theorem wd_eq(a b:Wd)(w:World):(binOp .eql 152 (.agg #[iv a.k,iv a.n,iv a.a]) (.agg #[iv b.k,iv b.n,iv b.a])).run Tryz.prog w=.ok (.bool (wdB a b)) w:=by
 rw[run_eql_struct,wd_eq0];rfl
theorem GAt.prow[Inhabited uQ]{B:Nat}(h:GAt B w g x ar kr ac kc vg br bc pb pa pk role)(i:Nat)(hi:i<x.A.length)(r0:0<x.B.length)(L:List Pr)(qb:Nat)(qa:Option Addr)(qk:Nat)(o:uZ (λq=>q=bc) w w')(nfc:Nf1 bc w')(c7:w'.cell? ⟨bc,i*8+7,none⟩=some (.slice qa L.length qk))(co:∀j,j≠i*8+7->w'.cell? ⟨bc,j,none⟩=w.cell? ⟨bc,j,none⟩)
  (hp:∀k,k<L.length->tQ w' qb (k*6) (L.getD k Pr0)) (hkL:L.length<=qk) (hN:0<qk->qa=some ⟨qb,0,none⟩/\Nfp qb qk w'/\w.heap.size<=qb/\B<=qb) :
  GAt B w' g { x with A:=x.A.set i { x.c i with F:=L } } ar kr ac kc vg br bc (λq=>if q=i then qb else pb q) (λq=>if q=i then qa else pa q) (λq=>if q=i then qk else pk q) (λd=>if w.heap.size<=d then 6+i else role d):=by
 have hn:0<x.A.length:=by omega
 have far:∀q,q<w.heap.size->role q≠3->w'.heap[q]?=w.heap[q]?:=λq hq hr=>o.block q hq (λe=>hr (by rw[e];exact h.sp.c hn))
 have old:∀q,q<w.heap.size->(if w.heap.size<=q then 6+i else role q)=role q:=λq hq=>if_neg (by omega)
 have hl:({ x with A:=x.A.set i { x.c i with F:=L } }:Hp).A.length=x.A.length:=by simp
 have hc:=Hp.c_set x i { x.c i with F:=L } hi;have hne:∀q,q≠i->(({ x with A:=x.A.set i { x.c i with F:=L } }:Hp).c q)=x.c q:=λq e=>by rw[hc q,if_neg e]
 have hei:(({ x with A:=x.A.set i { x.c i with F:=L } }:Hp).c i)={ x.c i with F:=L }:=by rw[hc i,if_pos rfl]
 have fg:=far g h.nf.1 (by rw[h.sp.g];omega);have pf:∀q,q<x.A.length->0<pk q->w'.heap[pb q]?=w.heap[pb q]?:=λq hq hl=>far (pb q) (h.rw.pl q hq hl).2.1.1 (by rw[h.sp.p q hq hl];omega)
 have fr:0<x.B.length->w'.heap[br]?=w.heap[br]?:=λhr=>far br (h.rw.nr hr).1.1 (by rw[h.sp.r hr];omega)
 refine⟨?_,uV h.nf fg o.size,h.lo,h.ha,λ_=>h.hc hn,⟨λj hj=>?_,λq hq=>?_,λq hq=>?_,λq hq j hj=>?_,λq hq hlq=>?_,λhr=>⟨uV (h.rw.nr hr).1 (fr hr) o.size,(h.rw.nr hr).2⟩,λ_=>⟨nfc,(h.rw.nc hn).2⟩,λ_=>h.rw.d hn,λq q' hq hq' hqq h1 h2=>?_,λq hq=>?_⟩,h.gr.block (λq hq=>far q (h.gr.lt q hq).2 (by rw[h.sp.y q hq];omega)),⟨?_,λhr=>?_,λ_=>?_,λq hq=>?_,λq hq hlq=>?_⟩,by rw[hl];exact h.kl,h.pr.of (λq hq h1=>far q hq (by rw[h1];omega)) (λq hq h1=>by(try dsimp only);rw[if_neg (by omega)];exact h1),λhk=>(h.cc hk).A (old bc (h.cc hk).nf.1) nfc (λj v _ hv=>?_)⟩
 ·rw[hl];exact h.bx.block fg
 ·exact(h.rw.r j hj).of λm _=>World.cell?_of_block (a:=⟨br,_,none⟩) (fr (by have:j<x.B.length:=hj;omega))
 ·rw[hl] at hq;have key:S7 w' bc (q*8) (x.c q):=(h.rw.s q hq).of λm hm=>co _ (by omega)
  by_cases e:q=i
  ·subst e;rw[hei];exact key
  ·rw[hne q e];exact key
 ·rw[hl] at hq;by_cases e:q=i
  ·subst e;rw[hei];simp only [if_true];exact c7
  ·rw[hne q e];simp only [if_neg e];rw[co _ (by omega)];exact h.rw.p7 q hq
 ·rw[hl] at hq;by_cases e:q=i
  ·subst e;rw[hei] at hj ⊢;simp only [if_true];exact hp j hj
  ·rw[hne q e] at hj ⊢;simp only [if_neg e];exact(h.rw.p q hq j hj).of λm _=>World.cell?_of_block (a:=⟨pb q,_,none⟩) (pf q hq (h.rw.pw hq (by omega)))
 ·rw[hl] at hq;by_cases e:q=i
  ·subst e;simp only [if_true] at hlq ⊢;obtain⟨a1,a2,a3,a4⟩:=hN hlq;refine⟨a1,a2,⟨λe=>?_,λe=>?_⟩,a4⟩
   ·have:=(h.rw.nr r0).1.1;omega
   ·have:=(h.rw.nc hn).1.1;omega
  ·simp only [if_neg e] at hlq ⊢;obtain⟨a1,a2,a3,a4⟩:=h.rw.pl q hq hlq;exact⟨a1,a0f a2 (pf q hq hlq) o.size,a3,a4⟩
 ·rw[hl] at hq hq';by_cases e:q=i
  ·subst e;have e':q'≠q:=λe=>hqq e.symm
   simp only [if_true,if_neg e'] at h1 h2 ⊢;have:=(h.rw.pl q' hq' h2).2.1.1;have:=(hN h1).2.2.1;omega
  ·by_cases e2:q'=i
   ·subst e2;simp only [if_true,if_neg e] at h1 h2 ⊢;have:=(h.rw.pl q hq h1).2.1.1;have:=(hN h2).2.2.1;omega
   ·simp only [if_neg e,if_neg e2] at h1 h2 ⊢;exact h.rw.dp q q' hq hq' hqq h1 h2
 ·rw[hl] at hq;by_cases e:q=i
  ·subst e;rw[hei];simp only [if_true];exact hkL
  ·rw[hne q e];simp only [if_neg e];exact h.rw.kp q hq
 ·rw[old g h.nf.1];exact h.sp.g
 ·rw[old br (h.rw.nr hr).1.1];exact h.sp.r hr
 ·rw[old bc (h.rw.nc hn).1.1];exact h.sp.c hn
 ·rw[old q (h.gr.lt q hq).2];exact h.sp.y q hq
 ·rw[hl] at hq;by_cases e:q=i
  ·subst e;simp only [if_true] at hlq ⊢;rw[if_pos (hN hlq).2.2.1]
  ·simp only [if_neg e] at hlq ⊢;rw[old (pb q) (h.rw.pl q hq hlq).2.1.1];exact h.sp.p q hq hlq
 ·by_cases e:j=i*8+7
  ·rw[e];exact⟨_,c7⟩
  ·exact⟨v,(co j e).trans hv⟩
theorem b4k[Inhabited uQ]{B:Nat}(h:GAt B w g x ar kr ac kc vg br bc pb pa pk role):
  Calls Tryz.prog 218 #[.pointer (some ⟨g,0,none⟩)] w λe w'=>e=.returned (.int .i64 (dC x))/\Ext w w':=by
 obtain⟨ag,kg,hvg⟩:=h.gr.form;subst hvg;have c4:=h.bx.2.2.2.2.1;have c5:=h.bx.2.2.2.2.2.1;have c6:=h.bx.2.2.2.2.2.2.1;have c8:=h.bx.2.2.2.2.2.2.2.2.1;have GA:=uU (λi hi=>h.gr.at i hi);clear h;cases q2:(x.E == 2)
 ·cases q5:(x.E == 5)
  ·have E:=uU (show dC x = -1 by unfold dC;rw[if_neg (λh=>by simp [h.1] at q2),if_neg (λh=>by simp [h.1] at q5)]);go_enter Tryz.func218,Tryz.ntmps218;go_wp2_with fail;go_quiet (fail);go_wp2_with fail;go_ret;exact⟨by rw[uH E];rfl,by repeat (first | exact Ext.refl _ | refine Ext.drewN ?_ _ | refine Ext.drew ?_)⟩
  ·by_cases hl:x.I<x.A.length
   ·have E:=uU (show dC x=x.I by unfold dC;rw[if_neg (λh=>by simp [h.1] at q2),if_pos ⟨by simpa using q5,hl⟩]);go_enter Tryz.func218,Tryz.ntmps218;go_wp2_with fail;go_quiet (fail);go_wp2_with fail;go_ret;exact⟨by rw[uH E];rfl,by repeat (first | exact Ext.refl _ | refine Ext.drewN ?_ _ | refine Ext.drew ?_)⟩
   ·have E:=uU (show dC x = -1 by unfold dC;rw[if_neg (λh=>by simp [h.1] at q2),if_neg (λh=>hl h.2)]);go_enter Tryz.func218,Tryz.ntmps218;go_wp2_with fail;go_quiet (fail);go_wp2_with fail;go_ret;exact⟨by rw[uH E];rfl,by repeat (first | exact Ext.refl _ | refine Ext.drewN ?_ _ | refine Ext.drew ?_)⟩
 ·have q5:(x.E == 5)=false:=by simp at q2 ⊢;omega
  by_cases hl:0<x.D.length
  ·obtain⟨gb,go,rfl,gc,_⟩:=uH GA 0 hl;have E:=uU (show dC x=x.D[0] by unfold dC;rw[if_pos ⟨by simpa using q2,hl⟩];simp [hl]);have g0:(x.D.length:Int) > 0:=by omega
   have g1:(0:Int)<(x.D.length:Int):=by omega
   rw[Nat.add_zero] at gc;go_enter Tryz.func218,Tryz.ntmps218;go_wp2_with fail;go_ret;exact⟨by rw[uH E];rfl,by repeat (first | exact Ext.refl _ | refine Ext.drewN ?_ _ | refine Ext.drew ?_)⟩
  ·have E:=uU (show dC x = -1 by unfold dC;rw[if_neg (λh=>hl h.2),if_neg (λh=>by simp [h.1] at q5)]);have g0:¬(x.D.length:Int) > 0:=by omega
   go_enter Tryz.func218,Tryz.ntmps218;go_wp2_with fail;go_quiet (fail);go_wp2_with fail;go_ret;exact⟨by rw[uH E];rfl,by repeat (first | exact Ext.refl _ | refine Ext.drewN ?_ _ | refine Ext.drew ?_)⟩
theorem c1p[Inhabited uQ]{B:Nat}(h:GAt B w g x ar kr ac kc vg br bc pb pa pk role)(H:Nat->Bool)(bs:Nat)(hs:∀j,j<x.A.length->w.cell? ⟨bs,j,none⟩=some (.bool (H j)))(y:Wd)(hy:uE y x.A.length)(hr:(qX x y).k=2->0<=(qX x y).a/\(qX x y).a<x.A.length):
  Calls Tryz.prog 148 #[.pointer (some ⟨g,0,none⟩),.slice (some ⟨bs,0,none⟩) x.A.length x.A.length,y.v] w λe w'=>e=.returned (.bool (tD x H y))/\Ext w w':=by
 have XA:=(Ext.refl w).alloc (.cells #[iv y.k,iv y.n,iv y.a] 152);have QR:=uU (a4q y _ (h.ext XA) hy);have HS:=uU (show ∀W,Ext w W->∀j,j<x.A.length->W.cell? ⟨bs,j,none⟩=some (.bool (H j)) from λW e j hj=>e.keep (hs j hj));have XA2:=uU XA;obtain⟨r,hrr⟩:∃r,r=qX x y:=⟨_,rfl⟩;have LB:=uU (show tD x H y=(r.k == 2 && !H r.a.toNat) by unfold tD;rw[hrr]);rw[<-hrr] at QR hr;clear h hs XA hrr;go_enter Tryz.func148,Tryz.ntmps148;go_wp2_with fail;refine QR.mono ?_;rintro e w1 ⟨rfl,q1⟩;have X1:=uU (XA2.trans q1);cases q:(r.k == 2)
 ·have E:=uU (show tD x H y=false by rw[uH LB,q];rfl);go_wp2_with fail;go_ret;exact⟨by rw[uH E];rfl,by repeat (first | exact X1 | refine Ext.drewN ?_ _ | refine Ext.drew ?_ | refine Ext.alloc ?_ _)⟩
 ·obtain⟨a0,a1⟩:=hr (by simpa using q);obtain⟨j,hj⟩:∃j:Nat,r.a=(j:Int):=⟨r.a.toNat,by omega⟩;have hjl:j<x.A.length:=by omega
  have c0:=uH HS w1 X1 j hjl;have j0:(0:Int)<=(j:Int):=by omega
  have j1:(j:Int)<(x.A.length:Int):=by omega
  have hb:bs<w1.heap.size:=uL c0;have E:=uU (show tD x H y = !H j by rw[uH LB,q,hj];rfl);cases hH:H j
  all_goals
   rw[hH] at c0;have E2:=uU E;rw[hH] at E2;go_wp2_with fail;go_ret;exact⟨by rw[uH E2];rfl,by repeat (first | exact X1 | refine Ext.drewN ?_ _ | refine Ext.drew ?_ | refine Ext.alloc ?_ _)⟩
theorem a7n(n:Int)(h0:-4000000<=n)(h1:n<=4000000):wrap64 n=n:=by unfold wrap64;omega
def b1p(x:Hp)(i k:Nat):Hp:={ x with A:=x.A.set i { x.c i with F:=(x.c i).F.eraseIdx k },K:=x.K-1,sub:=if (k:Int)<x.sub/\dC x=(i:Int) then x.sub-1 else x.sub }
theorem b3n(l:List Pr)(k j:Nat)(h:j<l.length):(l.take (j+1)).eraseIdx k=if j=k then l.take j else (l.take j).eraseIdx k++[l[j]]:=by
 rw[List.take_succ_eq_append_getElem h];have hl:(l.take j).length=j:=by simp;omega
 by_cases e:j=k
 ·rw[if_pos e,List.eraseIdx_append_of_length_le (by omega),hl,show k-j=0 by omega];simp
 ·rw[if_neg e];rcases Nat.lt_or_ge k j with q | q
  ·rw[List.eraseIdx_append_of_lt_length (by omega)]
  ·rw[List.eraseIdx_append_of_length_le (by omega),hl,List.eraseIdx_of_length_le (l:=l.take j) (by omega)]
   congr 1
   rw[List.eraseIdx_of_length_le];simp;omega
theorem cut_no{B:Nat}(h:Hid (w.ownsRow B 154 6 v ((l.take j).eraseIdx k).length (((l.take j).eraseIdx k).flatMap fP)))(hj:j<l.length)(e:j=k):Hid (w.ownsRow B 154 6 v ((l.take (j+1)).eraseIdx k).length (((l.take (j+1)).eraseIdx k).flatMap fP)):=by
 rw[b3n l k j hj,if_pos e];have:(l.take j).eraseIdx k=l.take j:=List.eraseIdx_of_length_le (by simp;omega);rw[this] at h;exact h
theorem cut_all{B:Nat}(h:Hid (w.ownsRow B 154 6 v ((l.take j).eraseIdx k).length (((l.take j).eraseIdx k).flatMap fP)))(hj:l.length<=j):Hid (w.ownsRow B 154 6 v (l.eraseIdx k).length ((l.eraseIdx k).flatMap fP)):=by
 rw[List.take_of_length_le hj] at h;exact h
theorem c4t{B:Nat}{n:Nat}{l:List Value}(h:Hid (w.ownsRow B 154 6 v n l))(e:Ext w w'):Hid (w'.ownsRow B 154 6 v n l):=uN h (λq hq=>e.block q (h.lt q hq).2)
def GK[Inhabited uQ](B:Nat)(w:World)(g:Nat)(x:Hp)(ar:Option Addr)(kr:Nat)(ac:Option Addr)(kc:Nat)(vg:Value)(br bc:Nat):Prop:=∃pb pa pk role,GAt B w g x ar kr ac kc vg br bc pb pa pk role
theorem GK.ext[Inhabited uQ]{B:Nat}(h:GK B w g x ar kr ac kc vg br bc)(e:Ext w w'):GK B w' g x ar kr ac kc vg br bc:=let ⟨pb,pa,pk,role,h⟩:=h;⟨pb,pa,pk,role,h.ext e⟩
theorem GK.ok[Inhabited uQ]{B:Nat}(h:GK B w g x ar kr ac kc vg br bc):GOk B w g x:=let ⟨pb,pa,pk,role,h⟩:=h;⟨_,_,_,_,_,_,_,pb,pa,pk,role,h⟩
theorem GK.set1[Inhabited uQ]{B:Nat}(h:GK B w g x ar kr ac kc vg br bc)(v:Int):GK B (w.setCell ⟨g,1,none⟩ (iv v)) g { x with K:=v } ar kr ac kc vg br bc:=let ⟨_,_,_,_,h⟩:=h;⟨_,_,_,_,h.boxed (x':={ x with K:=v }) (uZ.setCell (S:=λq=>q=g) (uZ.refl _ w) (p:=⟨g,1,none⟩) rfl _) (h.nf.set _ _) rfl rfl rfl (h.bx.set1 v)⟩
theorem GK.set7[Inhabited uQ]{B:Nat}(h:GK B w g x ar kr ac kc vg br bc)(v:Int):GK B (w.setCell ⟨g,7,none⟩ (iv v)) g { x with sub:=v } ar kr ac kc vg br bc:=let ⟨_,_,_,_,h⟩:=h;⟨_,_,_,_,h.boxed (x':={ x with sub:=v }) (uZ.setCell (S:=λq=>q=g) (uZ.refl _ w) (p:=⟨g,7,none⟩) rfl _) (h.nf.set _ _) rfl rfl rfl (h.bx.set7 v)⟩
def Fr2(g bc:Nat)(w w':World):Prop:=w.heap.size<=w'.heap.size/\∀q,q<w.heap.size->q≠g->q≠bc->w'.heap[q]?=w.heap[q]?
theorem Fr2.ext{w2:World}(h:Fr2 g bc w w1)(e:Ext w1 w2):Fr2 g bc w w2:=⟨Nat.le_trans h.1 e.size,λq h1 h2 h3=>(e.block q (Nat.lt_of_lt_of_le h1 h.1)).trans (h.2 q h1 h2 h3)⟩
theorem Fr2.of(e:Ext w w1):Fr2 g bc w w1:=⟨e.size,λq h1 _ _=>e.block q h1⟩
theorem Fr2.set(h:Fr2 g bc w w1)(p:Addr)(hp:p.block=g\/p.block=bc)(u:Value):Fr2 g bc w (w1.setCell p u):=⟨by have:=h.1;simpa [World.setCell] using this,λq h1 h2 h3=>(Below.heap_setCell _ _ _ _ (by rcases hp with e | e <;> rw[e] <;> assumption)).trans (h.2 q h1 h2 h3)⟩
theorem Fr2.trans{a b c:World}(h:Fr2 g bc a b)(k:Fr2 g bc b c):Fr2 g bc a c:=⟨Nat.le_trans h.1 k.1,λq h1 h2 h3=>(k.2 q (Nat.lt_of_lt_of_le h1 h.1) h2 h3).trans (h.2 q h1 h2 h3)⟩
theorem c8f{B:Nat}{T:TypeId}{c n:Nat}{xs:List Value}(h:w.ownsRow B T c v n xs):∃va vq,v=.slice va n vq:=⟨_,_,(a0k h).1⟩
theorem b8y[Inhabited uQ]{B:Nat}{wr:World}(h:GAt B w g x ar kr ac kc vg br bc pb pa pk role)(i:Nat)(hi:i<x.A.length)(r0:0<x.B.length)(L:List Pr)(va:Option Addr)(vq:Nat)(e:Ext w wr)(ow:wr.ownsRow w.heap.size 154 6 (.slice va L.length vq) L.length (L.flatMap fP)):
  GK B (wr.setCell ⟨bc,i*8+7,none⟩ (.slice va L.length vq)) g { x with A:=x.A.set i { x.c i with F:=L } } ar kr ac kc vg br bc:=by
 have hn:0<x.A.length:=by omega
 have hBg:B<=w.heap.size:=Nat.le_trans h.lo (Nat.le_of_lt h.nf.1);have hbc:=(h.rw.nc hn).1;obtain⟨ad,cap,e1,e2,hc⟩:=b4y (f:=fP) (λ_=>rfl) ow
 injection e1 with e1 _ e3
 subst e1 e3
 have hq:∀qb,va=some ⟨qb,0,none⟩->w.heap.size<=qb/\qb<wr.heap.size/\qb≠bc:=λqb hv=>by
  have:=ow.lt qb (by rw[hv];rfl);have:=hbc.1;omega
 have c7:(wr.setCell ⟨bc,i*8+7,none⟩ (.slice va L.length vq)).cell? ⟨bc,i*8+7,none⟩=some (.slice va L.length vq):=World.cell?_setCell_same _ _ _ (e.keep (h.rw.p7 i hi));refine⟨_,_,_,_,h.prow i hi r0 L (qN (.slice va L.length vq)) va vq (uZ.setCell (S:=λq=>q=bc) (uZ.of_ext e) (p:=⟨bc,i*8+7,none⟩) rfl _) ((hbc.ext e).set _ _) c7 (λj hj=>?_) (λk hk=>?_) (b6e ow) (λhl=>?_)⟩
 ·rw[uC _ (.inr (λe=>hj e.symm))];exact(cD e).1 bc j hbc.1
 ·obtain⟨qb,rfl⟩:=e2 (by omega);obtain⟨q2,e4,_,_,hcc⟩:=hc k hk
  injection e4 with e4
  injection e4 with e4
  subst e4;have el:L.getD k Pr0=L[k]:=by simp [hk]
  rw[el]
  have key:∀m,m<6->(wr.setCell ⟨bc,i*8+7,none⟩ (.slice (some ⟨qb,0,none⟩) L.length vq)).cell? ⟨qb,k*6+m,none⟩=(fP L[k])[m]?:=λm hm=>by
   rw[uC _ (.inl (λe=>(hq qb rfl).2.2 e.symm))];have:=hcc m hm
   rwa [Nat.zero_add] at this
  exact⟨key 0 (by omega),key 1 (by omega),key 2 (by omega),key 3 (by omega),key 4 (by omega),key 5 (by omega)⟩
 ·obtain⟨o1,_,o3,_⟩:=b6f ow hl;have hb:=hq _ o1;exact⟨o1,a0f o3 (Below.heap_setCell _ _ _ _ hb.2.2) (by simp [World.setCell]),hb.1,Nat.le_trans hBg hb.1⟩
theorem b5f[Inhabited uQ]{B:Nat}{w:World}{g:Nat}{x:Hp}{ar:Option Addr}{kr:Nat}{ac:Option Addr}{kc:Nat}{vg:Value}{br bc:Nat}(h:GK B w g x ar kr ac kc vg br bc)(i k:Nat)(hi:i<x.A.length)(hk:k<(x.c i).F.length)(r0:0<x.B.length)(h200:(x.c i).F.length<=200)(hu:-3000000<=x.K/\x.K<=1000000)(hsb:-3000000<=x.sub/\x.sub<=1000000)(n8:x.A.length<=8000)(a:World)(ha:a.heap.size<=B)(hx:Ext a w):
  Calls Tryz.prog 149 #[.pointer (some ⟨g,0,none⟩),.int .i64 i,.int .i64 k] w λe w'=>e=.returned (.tuple #[])/\GK B w' g (b1p x i k) ar kr ac kc vg br bc/\Fr2 g bc w w'/\Ext a w':=by
 obtain⟨pb,pa,pk,role,h⟩:=h;have hn:0<x.A.length:=by omega
 have HH:=uU h;have c4:=h.bx.2.2.2.2.1;rw[h.hc hn] at c4;have p7:=h.rw.p7 i hi;have PL:=uU (h.rw.pl i hi (h.rw.pw hi (by omega)));obtain⟨i0,hi0,hz0,hz1,hz2⟩:=info_parts a4m;have j0:(0:Int)<=(i:Int):=by omega
 have j1:(i:Int)<(x.A.length:Int):=by omega
 rw[(uH PL).1] at p7;have hgw:g<w.heap.size:=uL c4;have hbw:bc<w.heap.size:=uL p7;have XS:=uU hx;clear h;go_enter Tryz.func149,Tryz.ntmps149;go_wp2_with fail;obtain⟨l,hl⟩:∃l,l=(x.c i).F:=⟨_,rfl⟩;rw[<-hl] at p7 hk h200
 have PP:=uU (show ∀j (hj:j<l.length),tQ w (pb i) (j*6) l[j] from λj hj=>by
  have h1:=(uH HH).rw.p i hi j (by rw[<-hl];exact hj);have h2:(x.c i).p j=l[j]:=by simp [Cl.p,<-hl,hj]
  rw[h2] at h1;exact h1)
 have HL:=uU hl;have C4:=uU c4;have P7:=uU p7;rw[<-hl];clear hl;go_loopw [6,18] (λv s wr=>∃j:Nat,j<=l.length/\s=.int .i64 j/\Hid (wr.ownsRow w.heap.size 154 6 v ((l.take j).eraseIdx k).length (((l.take j).eraseIdx k).flatMap fP))/\Ext w wr) (λ_ s _=>l.length-(intOf s).toNat)
 case atStart=>exact⟨0,Nat.zero_le _,rfl,World.ownsRow_nil _ _ _ _,Ext.refl _⟩
 case round=>
  clear c4 p7;obtain⟨j,hj,rfl,hown,hbl⟩:=hrel;by_cases hlt:j<l.length
  ·obtain⟨e0,e1,e2,e3,e4,e5⟩:=(uH PP j hlt).ext hbl;have hb':pb i<wr.heap.size:=uL e0;have k0:(0:Int)<=(j:Int):=by omega
   have k1:(j:Int)<(l.length:Int):=by omega
   have NO:=uU (λq=>cut_no hown hlt q);have YES:=uU (b3n l k j hlt);have LE:=uU (show((l.take j).eraseIdx k).length<=j by have:=List.length_eraseIdx_le (l.take j) k;simp at this;omega);obtain⟨y,hy⟩:∃y,y=l[j]:=⟨_,rfl⟩;rw[<-hy] at e0 e1 e2 e3 e4 e5 YES;clear hy;obtain⟨L,hL⟩:∃L,L=(l.take j).eraseIdx k:=⟨_,rfl⟩;rw[<-hL] at hown YES LE;clear hL;have xa:=(Ext.refl wr).alloc (.cells #[iv y.key.k,iv y.key.n,iv y.key.a,iv y.val.k,iv y.val.n,iv y.val.a] 154);by_cases e:j=k
   ·have eb:((j:Int) != (k:Int))=false:=by simp [e]
    have N:=uU (uH (c4t (uH NO e) xa));clear NO YES e;go_wp2_with fail;go_roundw
    case rel=>exact⟨j+1,by omega,by go_num,uH N,hbl.trans xa⟩
    case measure=>simp [intOf];omega
   ·have eb:((j:Int) != (k:Int))=true:=by simp;omega
    have Y:=uU (show(l.take (j+1)).eraseIdx k=L++[y] by rw[uH YES,if_neg e]);clear NO YES e;go_wp2_with (at_builtin;refine wpList_append_lies _ rfl _ _ 60 rfl w.heap.size 154 i0 (.agg #[iv 0,iv 0,iv 0,iv 0,iv 0,iv 0]) 6 48 Tryz.underlying60 hi0 hz0 hz1 hz2 rfl (by decide) _ L.length (L.flatMap fP) rfl (((uH hown).alloc _).alloc _) _ 1 1 (fP y) rfl rfl ?c1 ?c2 (by decide) ?c3 ?c4 ?c5 _ rfl ?_)
    case c1=>
     intro q u hk
     match q,hk with
     | 0,hk=>simp [fP] at hk;subst hk;simp [Addr.add,go_sem]
     | 1,hk=>simp [fP] at hk;subst hk;simp [Addr.add,go_sem]
     | 2,hk=>simp [fP] at hk;subst hk;simp [Addr.add,go_sem]
     | 3,hk=>simp [fP] at hk;subst hk;simp [Addr.add,go_sem]
     | 4,hk=>simp [fP] at hk;subst hk;simp [Addr.add,go_sem]
     | 5,hk=>simp [fP] at hk;subst hk;simp [Addr.add,go_sem]
     | q+6,hk=>simp [fP] at hk
    case c2=>intro u hu;simp [fP] at hu;rcases hu with e | e | e | e | e | e <;> subst e <;> rfl
    case c3=>have:=uH LE;unfold maxLen;omega
    case c4=>have:=uH LE;omega
    case c5=>have:=hbl.size;simp;omega
    intro gq cap' w2 hown2 hgrow hat hglt
    have R:=uU (show w2.ownsRow w.heap.size 154 6 (.slice (some ⟨gq,0,none⟩) (L.length+1) cap') ((l.take (j+1)).eraseIdx k).length (((l.take (j+1)).eraseIdx k).flatMap fP) by
     rw[uH Y,List.flatMap_append]
     simpa using hown2)
    have X2:=uU (a2s ((hbl.alloc _).alloc _) (((uH hown).alloc _).alloc _) (Nat.le_refl _) hgrow);clear hown2 hgrow hat Y;go_wp2_with fail;go_roundw
    case rel=>exact⟨j+1,by omega,by go_num,uH R,uH X2⟩
    case measure=>simp [intOf];omega
  ·have OW:=uU (uH (cut_all hown (by omega)));obtain⟨va,vq,hv⟩:=c8f (uH OW);subst hv;have G1:=uU (b8y (uH HH) i hi r0 (l.eraseIdx k) va vq hbl (uH OW));have d4:=hbl.keep (uH C4);have d7:=hbl.keep (uH P7);have hgr:g<wr.heap.size:=uL d4;have hbr:bc<wr.heap.size:=uL d7;have fc:=(((uH HH).ext hbl).rw.nc hn).1.2 (i*8+7);have X1:=uU (show Ext a (wr.setCell ⟨bc,i*8+7,none⟩ (.slice va (l.eraseIdx k).length vq)) from((uH XS).trans hbl).setCell (p:=⟨bc,i*8+7,none⟩) (Nat.le_trans ha ((uH HH).rw.nc hn).2) _);have ngc:¬g=bc:=λe=>by have h1:=(uH HH).sp.g;have h2:=(uH HH).sp.c hn;rw[e] at h1;omega
   have ncg:¬bc=g:=λe=>ngc e.symm
   have b1:=hbl.keep (uH HH).bx.2.1;have b7:=hbl.keep (uH HH).bx.2.2.2.2.2.2.2.1;have f1:=((uH HH).ext hbl).nf.2 1;have f7:=((uH HH).ext hbl).nf.2 7;have wu:wrap64 (x.K-1)=x.K-1:=a7n _ (by omega) (by omega);have G2:=uU ((uH G1).set1 (x.K-1));have LO:=uU (uH HH).lo;have FR:=uU (((Fr2.of (g:=g) (bc:=bc) hbl).set ⟨bc,i*8+7,none⟩ (.inr rfl) (.slice va (l.eraseIdx k).length vq)).set ⟨g,1,none⟩ (.inl rfl) (iv (x.K-1)));have X2:=uU ((uH X1).setCell (p:=⟨g,1,none⟩) (Nat.le_trans ha (uH HH).lo) (iv (x.K-1)));clear hown OW;obtain⟨z,hz⟩:∃z:Hp,z={ ({ x with A:=x.A.set i { x.c i with F:=l.eraseIdx k } }:Hp) with K:=x.K-1 }:=⟨_,rfl⟩;have HZ:=uU hz;have SZ:=uU (show dC z=dC x by rw[hz];unfold dC;simp);have ZS:=uU (show z.sub=x.sub by rw[hz]);have G2:=uU (show GK B ((wr.setCell ⟨bc,i*8+7,none⟩ (.slice va (l.eraseIdx k).length vq)).setCell ⟨g,1,none⟩ (iv (x.K-1))) g z ar kr ac kc vg br bc by rw[hz];exact uH G2);clear hz;by_cases hks:(k:Int)<x.sub
   ·obtain⟨pb2,pa2,pk2,role2,g2⟩:=uH G2;have QS:=uU (b4k g2);rw[uH SZ] at QS;clear g2;go_wp2_with fail;refine(uH QS).mono ?_;rintro e w3 ⟨rfl,q3⟩;have G3:=uU ((uH G2).ext q3);have X3:=uU ((uH X2).trans q3);have d1:w3.cell? ⟨g,7,none⟩=some (iv x.sub):=by have:=(uH G3).ok.box;exact this.2.1.trans (by rw[uH ZS])
    have d2:w3.frozen? ⟨g,7,none⟩=false:=by obtain⟨_,_,_,_,g3⟩:=uH G3;exact g3.nf.2 7
    have hg3:g<w3.heap.size:=uL d1;have ws:wrap64 (x.sub-1)=x.sub-1:=a7n _ (by omega) (by omega);cases q:(dC x == (i:Int))
    ·have E:=uU (show b1p x i k=z by rw[uH HZ];unfold b1p;rw[if_neg (λh=>by simp [h.2] at q),uH HL]);go_wp2_with fail
     go_end0
     exact⟨rfl,by rw[uH E];exact uH G3,(uH FR).ext q3,uH X3⟩
    ·have E:=uU (show b1p x i k={ z with sub:=x.sub-1 } by rw[uH HZ];unfold b1p;rw[if_pos ⟨hks,by simpa using q⟩,uH HL]);have G4:=uU ((uH G3).set7 (x.sub-1));have X4:=uU ((uH X3).setCell (p:=⟨g,7,none⟩) (Nat.le_trans ha (uH LO)) (iv (x.sub-1)));go_wp2_with fail
     go_end0
     exact⟨rfl,by rw[uH E];exact uH G4,((uH FR).ext q3).set ⟨g,7,none⟩ (.inl rfl) _,uH X4⟩
   ·have E:=uU (show b1p x i k=z by rw[uH HZ];unfold b1p;rw[if_neg (λh=>hks h.1),uH HL]);go_wp2_with fail
    go_end0
    exact⟨rfl,by rw[uH E];exact uH G2,uH FR,uH X2⟩
def inH(x:Hp)(H:Nat->Bool)(b:Hp)(i k:Nat):Hp:={ b with A:=b.A.set i { x.c i with F:=(x.c i).F.take k++yV x H (x.c i) ((x.c i).F.drop k) },K:=b.K-tW x H (x.c i) ((x.c i).F.drop k),sub:=if dC x=(i:Int) then b.sub-tW x H (x.c i) (((x.c i).F.take b.sub.toNat).drop k) else b.sub }
theorem b5g(x:Hp)(H:Nat->Bool)(c:Cl)(p:Pr)(l:List Pr):yV x H c (p::l)=if goB x H c p=true then yV x H c l else p::yV x H c l:=by
 unfold yV;cases h:goB x H c p <;> simp [h]
theorem a3m(x:Hp)(H:Nat->Bool)(c:Cl)(p:Pr)(l:List Pr):tW x H c (p::l)=if goB x H c p=true then tW x H c l+1 else tW x H c l:=by
 unfold tW;cases h:goB x H c p <;> simp [h]
theorem a7o(x:Hp)(H:Nat->Bool)(c:Cl)(l:List Pr):tW x H c l<=l.length:=by
 have:=a7m x H c l;omega
theorem a4x(l:List Pr)(k:Nat)(h:k<l.length):l.drop k=l[k]::l.drop (k+1):=List.drop_eq_getElem_cons h
theorem b8z(l:List Pr)(s k:Nat)(h:k<s)(hs:s<=l.length):(l.take s).drop k=(l[k]'(by omega))::(l.take s).drop (k+1):=by
 rw[List.drop_eq_getElem_cons (by simp;omega)];simp
theorem inH_top(x:Hp)(H:Nat->Bool)(b:Hp)(i:Nat)(hi:i<b.A.length)(hb:b.c i=x.c i):inH x H b i (x.c i).F.length=b:=by
 have e1:(x.c i).F.drop (x.c i).F.length=[]:=List.drop_length;have e2:((x.c i).F.take b.sub.toNat).drop (x.c i).F.length=[]:=List.drop_eq_nil_of_le (by simp;omega);unfold inH;rw[e1,e2,List.take_length]
 have e3:b.A.set i { x.c i with F:=(x.c i).F++yV x H (x.c i) [] }=b.A:=by
  have:({ x.c i with F:=(x.c i).F++yV x H (x.c i) [] }:Cl)=b.A[i]:=by rw[Hp.c_eq b i hi,hb];simp [yV]
  rw[this];simp
 rw[e3];simp [tW]
theorem c8g(x:Hp)(H:Nat->Bool)(b:Hp)(i k:Nat)(hk:k<(x.c i).F.length)(q:goB x H (x.c i) (x.c i).F[k]=false)(hs:dC x=(i:Int)->b.sub<=(x.c i).F.length):inH x H b i k=inH x H b i (k+1):=by
 unfold inH;rw[a4x _ k hk,b5g,a3m,if_neg (by simp [q]),if_neg (by simp [q]),List.take_succ_eq_append_getElem hk,List.append_assoc,List.singleton_append]
 congr 1
 by_cases e:dC x=(i:Int)
 ·rw[if_pos e,if_pos e];have hs:=hs e;by_cases hlt:k<b.sub.toNat
  ·rw[b8z _ _ k hlt (by omega),a3m,if_neg (by simp [q])]
  ·rw[List.drop_eq_nil_of_le (by simp;omega),List.drop_eq_nil_of_le (by simp;omega)]
 ·rw[if_neg e,if_neg e]
theorem c8h(x:Hp)(H:Nat->Bool)(b:Hp)(i k:Nat)(hsc:dC b=dC x):dC (inH x H b i k)=dC x:=by
 rw[<-hsc];unfold dC inH;simp
theorem inH_len(x:Hp)(H:Nat->Bool)(b:Hp)(i k:Nat):(inH x H b i k).A.length=b.A.length:=by simp [inH]
theorem inH_c(x:Hp)(H:Nat->Bool)(b:Hp)(i k:Nat)(hi:i<b.A.length):(inH x H b i k).c i={ x.c i with F:=(x.c i).F.take k++yV x H (x.c i) ((x.c i).F.drop k) }:=by
 have:=Hp.c_set b i { x.c i with F:=(x.c i).F.take k++yV x H (x.c i) ((x.c i).F.drop k) } hi i;rw[if_pos rfl] at this;exact this
theorem inH_cut(x:Hp)(H:Nat->Bool)(b:Hp)(i k:Nat)(hi:i<b.A.length)(hk:k<(x.c i).F.length)(q:goB x H (x.c i) (x.c i).F[k]=true)(hs:dC x=(i:Int)->0<=b.sub/\b.sub<=(x.c i).F.length)(hsc:dC b=dC x):b1p (inH x H b i (k+1)) i k=inH x H b i k:=by
 have ec:=inH_c x H b i (k+1) hi;have hl:((x.c i).F.take k).length=k:=by simp;omega
 have e1:(((x.c i).F.take (k+1)++yV x H (x.c i) ((x.c i).F.drop (k+1))).eraseIdx k)=(x.c i).F.take k++yV x H (x.c i) ((x.c i).F.drop k):=by
  rw[a4x _ k hk,b5g,if_pos q,List.take_succ_eq_append_getElem hk,List.append_assoc,List.eraseIdx_append_of_length_le (by omega),hl,Nat.sub_self];simp
 have e2:tW x H (x.c i) ((x.c i).F.drop k)=tW x H (x.c i) ((x.c i).F.drop (k+1))+1:=by rw[a4x _ k hk,a3m,if_pos q]
 have e3:(if (k:Int)<(inH x H b i (k+1)).sub/\dC (inH x H b i (k+1))=(i:Int) then (inH x H b i (k+1)).sub-1 else (inH x H b i (k+1)).sub)=(inH x H b i k).sub:=by
  rw[c8h x H b i (k+1) hsc];by_cases e:dC x=(i:Int)
  ·have hs:=hs e;simp only [inH,if_pos e];by_cases hlt:k<b.sub.toNat
   ·have h1:=b8z (x.c i).F b.sub.toNat k hlt (by omega);have h2:=a7o x H (x.c i) (((x.c i).F.take b.sub.toNat).drop (k+1));have h3:(((x.c i).F.take b.sub.toNat).drop (k+1)).length=b.sub.toNat-(k+1):=by simp;omega
    rw[if_pos ⟨by omega,e⟩,h1,a3m,if_pos q];omega
   ·rw[List.drop_eq_nil_of_le (by simp;omega),List.drop_eq_nil_of_le (by simp;omega)];rw[if_neg (λh=>by have:=h.1;simp [tW] at this;omega)]
  ·rw[if_neg (λh=>e h.2)];simp only [inH,if_neg e]
 unfold b1p;rw[e3,ec];simp only [e1];unfold inH;simp only [e2,List.set_set]
 congr 1
 omega
theorem a4j(x:Hp)(y:Wd)(b:Nat)(w:World)(h:HAt w b x ar kr ac kc ag kg)(hy:a1w x y):
  Calls Tryz.prog 138 #[.pointer (some ⟨b,0,none⟩),y.v] w λe w'=>∃t:Wd,Hid (e=.returned t.v)/\Hid ((y.k≠2/\t=y)\/(y.k=2/\t=⟨2,0,(tgt x y:Int)⟩))/\Ext w w':=by
 cases k2:(y.k == 2)
 ·exact(a7v y b w k2).mono λ_ _ ⟨he,hx⟩=>⟨y,he,.inl ⟨by simpa using k2,rfl⟩,hx⟩
 ·have hk:y.k=2:=by simpa using k2
  obtain⟨n0,a0,a1,ht,hg⟩:=hy hk;obtain⟨i,hi⟩:∃i:Nat,y.a=(i:Int):=⟨y.a.toNat,by omega⟩;have et:tgt x y=zH x i:=by unfold tgt;rw[hi];simp
  have ev:(.agg #[iv 2,iv 0,iv i]:Value)=y.v:=by rw[<-hi,<-n0,<-hk]
  have ei:y.a.toNat=i:=by omega
  rw[ei] at ht;have:=a8z x b i w h (by omega) ht;rw[ev] at this;exact this.mono λ_ _ ⟨he,hx⟩=>⟨⟨2,0,(tgt x y:Int)⟩,by rw[he,et];rfl,.inr ⟨hk,rfl⟩,hx⟩
def b4m(w:World)(B bs:Nat)(v:Value)(wk:Int):Prop:=w.cell? ⟨B,2,none⟩=some (iv wk)/\B≠bs/\v.ownBlock≠some B
theorem b4m.ext{B:Nat}(h:b4m w B bs v wk)(e:Ext w w'):b4m w' B bs v wk:=⟨e.keep h.1,h.2⟩
theorem Mfr.apart(m:Mfr bs v v' w w'){B:Nat}(hB:B<w.heap.size)(hv:v.ownBlock≠some B):v'.ownBlock≠some B:=λe=>by
 rcases m.own with q | ⟨g,q,hg⟩
 ·rw[q] at e;exact hv e
 ·rw[q] at e;cases e;omega
theorem b4m.mfr{B:Nat}(h:b4m w B bs v wk)(m:Mfr bs v v' w w'):b4m w' B bs v' wk:=
 have hB:=uL h.1
 ⟨(World.cell?_of_block (a:=⟨B,2,none⟩) (m.block B hB h.2.1 h.2.2)).trans h.1,h.2.1,m.apart hB h.2.2⟩
structure PBx(w:World)(B bs:Nat)(v:Value)(p:Pr):Prop where
 c:w.cell? ⟨B,0,none⟩=some (.int .i64 p.key.k)/\w.cell? ⟨B,1,none⟩=some (.int .i64 p.key.n)/\w.cell? ⟨B,2,none⟩=some (.int .i64 p.key.a)/\w.cell? ⟨B,3,none⟩=some (.int .i64 p.val.k)/\w.cell? ⟨B,4,none⟩=some (.int .i64 p.val.n)/\w.cell? ⟨B,5,none⟩=some (.int .i64 p.val.a)
 n:B≠bs
 o:v.ownBlock≠some B
theorem PBx.ext{B:Nat}(h:PBx w B bs v p)(e:Ext w w'):PBx w' B bs v p:=⟨⟨e.keep h.c.1,e.keep h.c.2.1,e.keep h.c.2.2.1,e.keep h.c.2.2.2.1,e.keep h.c.2.2.2.2.1,e.keep h.c.2.2.2.2.2⟩,h.n,h.o⟩
theorem PBx.mfr{B:Nat}(h:PBx w B bs v p)(m:Mfr bs v v' w w'):PBx w' B bs v' p:=by
 have hB:B<w.heap.size:=uL h.c.1;have k:=λo=>World.cell?_of_block (w:=w) (w':=w') (a:=⟨B,o,none⟩) (m.block B hB h.n h.o)
 exact⟨⟨(k 0).trans h.c.1,(k 1).trans h.c.2.1,(k 2).trans h.c.2.2.1,(k 3).trans h.c.2.2.2.1,(k 4).trans h.c.2.2.2.2.1,(k 5).trans h.c.2.2.2.2.2⟩,h.n,m.apart hB h.o⟩
theorem PBx.new{base n:Nat}{t:TypeId}(h:Sn w base bs n v T):PBx (w.alloc (.cells #[.int .i64 p.key.k,.int .i64 p.key.n,.int .i64 p.key.a,.int .i64 p.val.k,.int .i64 p.val.n,.int .i64 p.val.a] t)) w.heap.size bs v p:=
 ⟨by simp [go_sem],by have:=h.hb.2;omega,λe=>by have:=(h.own.lt _ e).2;omega⟩
theorem qK.more{L0:List Int}{p:Nat}(h:qK x L0 j p T)(hk:SK (x.c j)->((x.c j).p p).key.k=2->(tgt x ((x.c j).p p).key:Int)∈T)(hv:SV (x.c j)->(((x.c j).p p).key.k=2->(tgt x ((x.c j).p p).key:Int)∈L0)->((x.c j).p p).val.k=2->(tgt x ((x.c j).p p).val:Int)∈T):qK x L0 j (p+1) T:=λq hq=>by
 by_cases e:q=p
 ·subst e;exact⟨hk,hv⟩
 ·exact h q (by omega)
abbrev AtC(x:Hp)(L:List Int)(c j p:Nat)(T:List Int):Prop:=yH x L c T/\it T c=(j:Int)/\c<T.length/\qK x L j p T
theorem AtC.mark{c p:Nat}{T5:List Int}(h:AtC x L c j p T)(a:Add x ((x.c j).p p).key T T5)(hy:((x.c j).p p).key.k=2->tU x (tgt x ((x.c j).p p).key)):yH x L c T5/\it T5 c=(j:Int)/\c<T5.length/\qK x L j p T5/\(SK (x.c j)->((x.c j).p p).key.k=2->(tgt x ((x.c j).p p).key:Int)∈T5):=by
 obtain⟨i1,i2,i3,i4⟩:=h;obtain⟨R,r⟩:=a.pre;have l5:T.length<=T5.length:=by rw[r];simp
 refine⟨i1.add a (by omega) hy,?_,by omega,i4.mono (λz hz=>a.sub hz),λ_ e=>a.has e⟩;rw[r,a9z i3];exact i2
theorem yH.val{c p:Nat}{T8:List Int}(h:yH x L c T/\it T c=(j:Int)/\c<T.length/\qK x L j p T/\(SK (x.c j)->((x.c j).p p).key.k=2->(tgt x ((x.c j).p p).key:Int)∈T))(a:Add x ((x.c j).p p).val T T8)(hy:((x.c j).p p).val.k=2->tU x (tgt x ((x.c j).p p).val)):yH x L c T8/\it T8 c=(j:Int)/\c<T8.length/\qK x L j (p+1) T8:=by
 obtain⟨i1,i2,i3,i4,i5⟩:=h;obtain⟨R,r⟩:=a.pre;have l5:T.length<=T8.length:=by rw[r];simp
 refine⟨i1.add a (by omega) hy,?_,by omega,(i4.mono (λz hz=>a.sub hz)).more (λs e=>a.sub (i5 s e)) (λ_ _ e=>a.has e)⟩;rw[r,a9z i3];exact i2
theorem b1g(x:Hp)(b:Nat)(w:World)(h:HAt w b x ar kr ac kc ag kg)(r2:R2 x)(r4:R4 x)(hn8:x.A.length<=8000):
  Calls Tryz.prog 77 #[.pointer (some ⟨b,0,none⟩)] w λe w'=>∃v L,Hid (e=.returned (.slice (some ⟨w.heap.size,0,none⟩) x.A.length x.A.length))/\Sn w' w.heap.size w.heap.size x.A.length v L/\Hid (∀i:Nat,(i:Int)∈L↔tU x i)/\Ext w w':=by
 have c4:=h.c4;have c3:=h.c3;have lr:=h.lr;have hb:b<w.heap.size:=uL c4;have HH:=uU h;have Q2:=uU r2;have Q4:=uU r4;clear h r2 r4;obtain⟨z,hmk,hz⟩:=b6b x.A.length (by omega) w;have S0:=uU (Sn.V w x.A.length 4);rw[<-hz] at S0;clear hz;go_enter Tryz.func77,Tryz.ntmps77;go_wp2_with fail;go_loopw [4,26] (λv i wr=>∃(k:Nat) (L:List Int),k<=x.B.length/\i=.int .i64 k/\Sn wr w.heap.size w.heap.size x.A.length v L/\Hid (a9r x L/\a3t x k L)/\Ext w wr) (λ_ i _=>x.B.length-(intOf i).toNat)
 case atStart=>exact⟨0,[],Nat.zero_le _,rfl,S0,⟨(λz hz=>by cases hz),λj _ hj=>by omega⟩,(Ext.refl w).alloc _⟩
 case round=>
  clear S0 hmk c4 c3;obtain⟨k,L,hk,rfl,hs,hinv,hbl⟩:=hrel;have HS:=uU hs;clear hs;by_cases hlt:k<x.B.length
  ·have hh:=HH.ext hbl;obtain⟨b',o,e1,p0,p1,p2⟩:=hh.R k hlt;have d3:=hh.c3;rw[e1] at d3;have hk0:(0:Int)<=(k:Int):=by omega
   have hk1:(k:Int)<(x.B.length:Int):=by omega
   have xa:=(Ext.refl wr).alloc (.cells #[iv x.B[k].k,iv x.B[k].n,iv x.B[k].a] 152);subst e1;clear hh;go_wp2_with fail;refine(a0v x x.B[k] b w.heap.size w.heap.size _ L _ (HH.ext (hbl.trans xa)) (a7c Q2 Q4 k hlt) (HS.ext xa) (hbl.trans xa).size hn8).mono ?_;rintro e w2 ⟨v',L',rfl,hs',ha,hm⟩
   have R:=uU (show Sn w2 w.heap.size w.heap.size x.A.length v' L'/\(a9r x L'/\a3t x (k+1) L')/\Ext w w2 from
    ⟨hs',⟨hinv.1.add ha (λe=>tU.reg k hlt e),λj hj hjk e=>by
     by_cases q:j=k
     ·subst q;exact ha.has e
     ·exact ha.sub (hinv.2 j hj (by omega) e)⟩,(HS.ext xa).mext hm (hbl.trans xa)⟩)
   clear hs' ha hm xa;go_wp2_with fail;go_roundw
   case rel=>exact⟨k+1,L',by omega,by go_num,R.1,R.2.1,R.2.2⟩
   case measure=>simp [intOf];omega
  ·have hk2:k=x.B.length:=by omega
   subst hk2;have c4:=(HH.ext hbl).c4;have B0:=uU hbl;clear hlt hk;go_wp2_with fail;clear hbl;go_loopw [4,41] (λv i wr=>∃(k:Nat) (L:List Int),k<=x.A.length/\i=.int .i64 k/\Sn wr w.heap.size w.heap.size x.A.length v L/\Hid (a9r x L/\a3t x x.B.length L/\b8v x k L)/\Ext w wr) (λ_ i _=>x.A.length-(intOf i).toNat)
   case atStart=>exact⟨0,L,Nat.zero_le _,rfl,HS,⟨hinv.1,hinv.2,λi hi=>by omega⟩,B0⟩
   case round=>
    clear HS hinv B0 c4 L;obtain⟨k,L,hk,rfl,hs,hinv,hbl⟩:=hrel;have HS:=uU hs;clear hs;by_cases hlt:k<x.A.length
    ·have hh:=HH.ext hbl;obtain⟨b',o,ap,kp,e1,p0,p1,p2,p3,p4,p5,p6,p7,lp,P⟩:=hh.cell k hlt;have hb':b'<wr.heap.size:=uL p0;have d4:=hh.c4;rw[e1] at d4;have hk0:(0:Int)<=(k:Int):=by omega
     have hk1:(k:Int)<(x.A.length:Int):=by omega
     have xa:=(Ext.refl wr).alloc (.cells #[iv (x.c k).st,iv (x.c k).kind,iv (x.c k).T,iv (x.c k).U,iv (x.c k).born,iv (x.c k).J,iv (x.c k).to,.slice ap (x.c k).F.length kp] 62);subst e1;clear P hh;cases tl:((x.c k).U == 2)
     ·have R:=uU (show b8v x (k+1) L from λi hi hn e=>by
       by_cases q:i=k
       ·subst q;simp at tl;exact(tl e).elim
       ·exact hinv.2.2 i (by omega) hn e)
      have A:=uU (And.intro (HS.ext xa) (hbl.trans xa));clear xa;go_wp2_with fail;go_roundw
      case rel=>exact⟨k+1,L,by omega,by go_num,A.1,⟨hinv.1,hinv.2.1,R⟩,A.2⟩
      case measure=>simp [intOf];omega
     ·have hl2:(x.c k).U=2:=by simpa using tl
      have HL:=uU hl2;have hst:=a1b Q2 k hlt (.inr hl2);have et:tgt x ⟨2,0,(k:Int)⟩=k:=by unfold tgt zH;simp [hst]
      have MY:=uU (show a1w x ⟨2,0,(k:Int)⟩ from λ_=>⟨rfl,by simp,by simpa using hlt,(λh=>by simp [hst] at h),by rw[et];exact a4k Q4 k hlt hst (.inr hl2)⟩);have ET:=uU et;clear hl2 hst et;go_wp2_with fail;refine(a0v x ⟨2,0,(k:Int)⟩ b w.heap.size w.heap.size _ L _ (HH.ext (hbl.trans xa)) MY (HS.ext xa) (hbl.trans xa).size hn8).mono ?_;rintro e w2 ⟨v',L',rfl,hs',ha,hm⟩
      have R:=uU (show Sn w2 w.heap.size w.heap.size x.A.length v' L'/\(a9r x L'/\a3t x x.B.length L'/\b8v x (k+1) L')/\Ext w w2 from
       ⟨hs',⟨hinv.1.add ha (λ_=>by rw[uH ET];exact tU.due k hlt HL),λj hj hjk e=>ha.sub (hinv.2.1 j hj hjk e),λi hi hn e=>by
        by_cases q:i=k
        ·subst q;have:=ha.has rfl;rw[uH ET] at this;exact this
        ·exact ha.sub (hinv.2.2 i (by omega) hn e)⟩,(HS.ext xa).mext hm (hbl.trans xa)⟩)
      clear hs' ha hm xa;go_wp2_with fail;go_roundw
      case rel=>exact⟨k+1,L',by omega,by go_num,R.1,R.2.1,R.2.2⟩
      case measure=>simp [intOf];omega
    ·have hk2:k=x.A.length:=by omega
     subst hk2;have B0:=uU hbl;have R0:=uU (show b8w x (-1) L from⟨hinv.1,hinv.2.1,hinv.2.2,⟨by omega,by omega⟩,λe=>by omega⟩);clear hlt hk hinv hbl;go_wp2_with fail;go_loopw [4,9] (λv n wr=>∃(m:Int) (L:List Int),n=.int .i64 m/\Sn wr w.heap.size w.heap.size x.A.length v L/\Hid (b8w x m L)/\Ext w wr) (λ_ n _=>((x.A.length:Int)-intOf n).toNat)
     case atStart=>exact⟨-1,L,rfl,HS,R0,B0⟩
     case round=>
      clear HS R0 B0 L;obtain⟨m,L,rfl,hs,hre,hbl⟩:=hrel;have HS:=uU hs;have hLn:=hs.len;have hmb:=hre.b;obtain⟨ad,cap,rfl,hgl⟩:=hs.form;clear hs hgl;by_cases hml:m=(L.length:Int)
      ·have D:=uU (show ∀i:Nat,(i:Int)∈L↔tU x i by have:=uH hre;rw[hml] at this;exact this.done);have hnn:(m != (L.length:Int))=false:=by simp [hml]
       clear hre;go_wp2_with fail;go_ret;exact⟨_,L,rfl,HS,D,hbl⟩
      ·have hnn:(m != (L.length:Int))=true:=by simp [hml]
       have P0:=uU hre.begin;have B0:=uU hbl;have hm2:m<(L.length:Int):=by omega
       clear hre hbl hml;go_wp2_with fail;go_loopw [4,10] (λv i wr=>∃(c:Nat) (T:List Int),c<=T.length/\i=.int .i64 c/\Sn wr w.heap.size w.heap.size x.A.length v T/\Hid (yH x L c T)/\Ext w wr) (λ_ i _=>x.A.length-(intOf i).toNat)
       case atStart=>exact⟨0,L,Nat.zero_le _,rfl,HS,P0,B0⟩
       case round=>
        clear HS P0 B0;obtain⟨c,T,hc,rfl,hs,hpa,hbl⟩:=hrel;have HS:=uU hs;obtain⟨ad,cap,rfl,hgl⟩:=hs.form;have hTn:=hs.len;by_cases hlt:c<T.length
        ·obtain⟨g,rfl⟩:=hgl (by omega);obtain⟨a1,a2,a3⟩:=(Rw1.mk hs.own).cell c hlt;obtain⟨j,ej,hrj⟩:=hpa.o _ (a2n T c hlt);rw[ej] at a1;have hgj:=hrj.good Q2 Q4;have hh:=HH.ext hbl;obtain⟨b',o,ap,kp,e1,C⟩:=HH.cell j hgj.1;have d4:=hh.c4;rw[e1] at d4;have q0:=hbl.keep C.p0;have q1:=hbl.keep C.p1;have q2:=hbl.keep C.p2;have q3:=hbl.keep C.p3;have q4:=hbl.keep C.p4;have q5:=hbl.keep C.p5;have q6:=hbl.keep C.p6;have q7:=hbl.keep C.p7;have hbq:b'<wr.heap.size:=uL q0;have hbd:b<wr.heap.size:=uL d4;have hbg:g<wr.heap.size:=uL a1;have lp:=C.lp;have HP:=uU C.P;have EJ:=uU ej;have RJ:=uU hrj;have GJ:=uU hgj;have hjn:=hgj.1;have c0:(0:Int)<=(c:Int):=by omega
         have c1:(c:Int)<(T.length:Int):=by omega
         have j0:(0:Int)<=(j:Int):=by omega
         have j1:(j:Int)<(x.A.length:Int):=by omega
         clear hs C hh e1 ej hrj hgj a3 a2;obtain⟨WR,hWR⟩:∃W,W=wr:=⟨_,rfl⟩;subst hWR
         have hwk:(x.c j).T=0\/(x.c j).T=1\/(x.c j).T=2\/(x.c j).T=3:=by
          have h2:=GJ.2.1;rcases Q2.1 j hjn with z | z | z
          ·omega
          ·omega
          ·have:=z.2.2.1;omega
         have OB:=uU (show ∀q,WR.heap.size<=q->(Value.slice (some ⟨g,0,none⟩) T.length cap).ownBlock≠some q from λq hq e=>by have:=(HS.own.lt _ e).2;omega);have PA:=uU hpa;clear hpa;go_wp2_with fail;go_cut [11] (λs11 wx=>∃B:Nat,s11=.pointer (some ⟨B,0,none⟩)/\Hid (wx.cell? ⟨B,2,none⟩=some (iv (x.c j).T)/\wx.cell? ⟨B,7,none⟩=some (.slice ap (x.c j).F.length kp)/\WR.heap.size<=B)/\Ext WR wx)
         case first=>
          go_region_with (fail)
          all_goals
           go_wp2_with fail;go_meet;exact⟨_,rfl,⟨by simp [go_sem],by simp [go_sem],Nat.le_refl _⟩,((Ext.refl WR).alloc _).drew⟩
         case rest=>
          obtain⟨B,rfl,hbx,xB⟩:=hcut;have b7:=hbx.2.1;have X0:=uU (hbl.trans xB);have S0:=uU (HS.ext xB);have B0:=uU (show b4m wc B w.heap.size (.slice (some ⟨g,0,none⟩) T.length cap) (x.c j).T from⟨hbx.1,by have:=hbl.size;have:=hbx.2.2;have:=HS.hb.2;omega,uH OB B hbx.2.2⟩);clear hbx xB hbl HS OB q0 q1 q2 q3 q4 q5 q6 q7 d4 a1 hbq hbd hbg;go_wp2_with fail;go_loopw [4,81] (λv i wz=>∃(p:Nat) (T':List Int),p<=(x.c j).F.length/\i=.int .i64 p/\Sn wz w.heap.size w.heap.size x.A.length v T'/\Hid (yH x L c T'/\it T' c=(j:Int)/\c<T'.length/\qK x L j p T')/\Hid (b4m wz B w.heap.size v (x.c j).T)/\Ext w wz) (λ_ i _=>(x.c j).F.length-(intOf i).toNat)
          case atStart=>exact⟨0,T,Nat.zero_le _,rfl,S0,⟨PA,EJ,hlt,λp hp=>by omega⟩,B0,X0⟩
          case round=>
           clear S0 PA B0 X0 b7;obtain⟨p,T,hp,rfl,hs,hinv,hbo,hbl⟩:=hrel;have HS:=uU hs;have hTn:=hs.len;by_cases hpl:p<(x.c j).F.length
           ·obtain⟨b2,o2,rfl,q0,q1,q2,q3,q4,q5⟩:=uH HP p hpl;have e0:=hbl.keep q0;have e1:=hbl.keep q1;have e2:=hbl.keep q2;have e3:=hbl.keep q3;have e4:=hbl.keep q4;have e5:=hbl.keep q5;have hb2:b2<wr.heap.size:=uL e0;have hBl:B<wr.heap.size:=uL hbo.1;clear q0 q1 q2 q3 q4 q5 hs;have hp0:(0:Int)<=(p:Int):=by omega
            have hp1:(p:Int)<((x.c j).F.length:Int):=by omega
            have xa:=(Ext.refl wr).alloc (.cells #[.int .i64 ((x.c j).p p).key.k,.int .i64 ((x.c j).p p).key.n,.int .i64 ((x.c j).p p).key.a,.int .i64 ((x.c j).p p).val.k,.int .i64 ((x.c j).p p).val.n,.int .i64 ((x.c j).p p).val.a] 154);have hMM:=uU (a1u Q2 Q4 j p GJ hpl);have bx:=hbo.1;have HSA:=uU (HS.ext xa);have BXA:=uU (hbo.ext xa);have XA:=hbl.trans xa;have PB:=uU (show PBx (wr.alloc (.cells #[.int .i64 ((x.c j).p p).key.k,.int .i64 ((x.c j).p p).key.n,.int .i64 ((x.c j).p p).key.a,.int .i64 ((x.c j).p p).val.k,.int .i64 ((x.c j).p p).val.n,.int .i64 ((x.c j).p p).val.a] 154)) wr.heap.size w.heap.size _ ((x.c j).p p) from PBx.new HS);rcases hwk with hwk | hwk | hwk | hwk
            rotate_left 2
            ·have bx2:=bx;rw[hwk] at bx2;go_wp2_with fail;refine(a0v x ((x.c j).p p).key b w.heap.size w.heap.size _ T _ (HH.ext XA) hMM.1 HSA XA.size hn8).mono ?_;rintro e w5 ⟨v5,T5,rfl,hs5,ha5,hm5⟩;have X5:=HSA.mext hm5 XA;have S5:=uU hs5;have A5:=uU ha5;have B5:=uU (BXA.mfr hm5);have P5:=uU (PB.mfr hm5);have bx5:=B5.1;rw[hwk] at bx5;have G5:=uU (show yH x L c T5/\it T5 c=(j:Int)/\c<T5.length/\qK x L j p T5/\(SK (x.c j)->((x.c j).p p).key.k=2->(tgt x ((x.c j).p p).key:Int)∈T5) from AtC.mark hinv A5 (λe=>tU.key j p RJ hpl ⟨by omega,by omega⟩ e));obtain⟨u0,u1,u2,u3,u4,u5⟩:=P5.c;clear hm5 hs5 ha5 e0 e1 e2 e3 e4 e5 bx2;go_wp2_with fail;refine(a4j x ((x.c j).p p).key b _ (HH.ext X5) hMM.1).mono ?_;rintro e w6 ⟨t,rfl,ht,hq6⟩;have X6:=X5.trans hq6;have S6:=uU (S5.ext hq6);have B6:=uU (B5.ext hq6);have P6:=uU (P5.ext hq6);have bx6:=B6.1;rw[hwk] at bx6;have hB6:B<w6.heap.size:=uL bx6;obtain⟨z0,z1,z2,z3,z4,z5⟩:=P6.c;have hp6:wr.heap.size<w6.heap.size:=uL z0;have hs6:w.heap.size<w6.heap.size:=S6.hb.2;have xk:=(Ext.refl w6).alloc (.cells #[iv t.k,iv t.n,iv t.a] 152);have X7:=X6.trans xk;have S7:=uU (S6.ext xk);have B7:=uU (B6.ext xk);clear hq6 u0 u1 u2 u3 u4 u5 bx5;have R:=uU (show qK x L j (p+1) T5 from G5.2.2.2.1.more G5.2.2.2.2 (λs=>by unfold SV at s;omega));go_wp2_with fail;go_roundw
             case rel=>exact⟨p+1,T5,by omega,by go_num,S7,⟨G5.1,G5.2.1,G5.2.2.1,R⟩,B7,X7⟩
             case measure=>simp [intOf];omega
            ·have bx2:=bx;rw[hwk] at bx2;go_wp2_with fail;have X5:=XA;have S5:=uU HSA;have B5:=uU BXA;have P5:=uU PB;have G5:=uU (show yH x L c T/\it T c=(j:Int)/\c<T.length/\qK x L j p T/\(SK (x.c j)->((x.c j).p p).key.k=2->(tgt x ((x.c j).p p).key:Int)∈T) from⟨hinv.1,hinv.2.1,hinv.2.2.1,hinv.2.2.2,λs=>by unfold SK at s;omega⟩);refine(a4j x ((x.c j).p p).key b _ (HH.ext X5) hMM.1).mono ?_;rintro e w6 ⟨t,rfl,ht,hq6⟩;have X6:=X5.trans hq6;have S6:=uU (S5.ext hq6);have B6:=uU (B5.ext hq6);have P6:=uU (P5.ext hq6);have bx6:=B6.1;rw[hwk] at bx6;have hB6:B<w6.heap.size:=uL bx6;obtain⟨z0,z1,z2,z3,z4,z5⟩:=P6.c;have hp6:wr.heap.size<w6.heap.size:=uL z0;have hs6:w.heap.size<w6.heap.size:=S6.hb.2;have xk:=(Ext.refl w6).alloc (.cells #[iv t.k,iv t.n,iv t.a] 152);have X7:=X6.trans xk;have S7:=uU (S6.ext xk);have B7:=uU (B6.ext xk);clear hq6 e0 e1 e2 e3 e4 e5 bx2;have R:=uU (show qK x L j (p+1) T from G5.2.2.2.1.more G5.2.2.2.2 (λs=>by unfold SV at s;omega));go_wp2_with fail;go_roundw
             case rel=>exact⟨p+1,T,by omega,by go_num,S7,⟨G5.1,G5.2.1,G5.2.2.1,R⟩,B7,X7⟩
             case measure=>simp [intOf];omega
            have bx2:=bx;rw[hwk] at bx2;go_wp2_with fail;refine(a0v x ((x.c j).p p).key b w.heap.size w.heap.size _ T _ (HH.ext XA) hMM.1 HSA XA.size hn8).mono ?_;rintro e w5 ⟨v5,T5,rfl,hs5,ha5,hm5⟩;have X5:=HSA.mext hm5 XA;have S5:=uU hs5;have A5:=uU ha5;have B5:=uU (BXA.mfr hm5);have P5:=uU (PB.mfr hm5);have bx5:=B5.1;rw[hwk] at bx5;have G5:=uU (show yH x L c T5/\it T5 c=(j:Int)/\c<T5.length/\qK x L j p T5/\(SK (x.c j)->((x.c j).p p).key.k=2->(tgt x ((x.c j).p p).key:Int)∈T5) from AtC.mark hinv A5 (λe=>tU.key j p RJ hpl ⟨by omega,by omega⟩ e));obtain⟨u0,u1,u2,u3,u4,u5⟩:=P5.c;clear hm5 hs5 ha5 e0 e1 e2 e3 e4 e5 bx2;go_wp2_with fail;clear u0 u1 u2 u3 u4 u5 bx5;rotate_left;have bx2:=bx;rw[hwk] at bx2;go_wp2_with fail;have X5:=XA;have S5:=uU HSA;have B5:=uU BXA;have P5:=uU PB;have G5:=uU (show yH x L c T/\it T c=(j:Int)/\c<T.length/\qK x L j p T/\(SK (x.c j)->((x.c j).p p).key.k=2->(tgt x ((x.c j).p p).key:Int)∈T) from⟨hinv.1,hinv.2.1,hinv.2.2.1,hinv.2.2.2,λs=>by unfold SK at s;omega⟩);clear e0 e1 e2 e3 e4 e5 bx2;obtain⟨T5,hT5⟩:∃q,q=T:=⟨_,rfl⟩;subst hT5
            all_goals
             refine(a4j x ((x.c j).p p).key b _ (HH.ext X5) hMM.1).mono ?_;rintro e w6 ⟨t,rfl,ht,hq6⟩;have X6:=X5.trans hq6;have S6:=uU (S5.ext hq6);have B6:=uU (B5.ext hq6);have P6:=uU (P5.ext hq6);have bx6:=B6.1;rw[hwk] at bx6;have hB6:B<w6.heap.size:=uL bx6;obtain⟨z0,z1,z2,z3,z4,z5⟩:=P6.c;have hp6:wr.heap.size<w6.heap.size:=uL z0;have hs6:w.heap.size<w6.heap.size:=S6.hb.2;have xk:=(Ext.refl w6).alloc (.cells #[iv t.k,iv t.n,iv t.a] 152);have X7:=X6.trans xk;have S7:=uU (S6.ext xk);have B7:=uU (B6.ext xk);clear hq6;rcases uH ht with⟨hk,rfl⟩ | ⟨hk,rfl⟩
             ·have hkb:(((x.c j).p p).key.k != 2)=true:=by simp [hk]
              go_wp2_with fail;refine(a0v x ((x.c j).p p).val b w.heap.size w.heap.size _ T5 _ (HH.ext X7) hMM.2 S7 X7.size hn8).mono ?_;rintro e w8 ⟨v8,T8,rfl,hs8,ha8,hm8⟩
              have R:=uU (show Sn w8 w.heap.size w.heap.size x.A.length v8 T8/\(yH x L c T8/\it T8 c=(j:Int)/\c<T8.length/\qK x L j (p+1) T8)/\b4m w8 B w.heap.size v8 (x.c j).T/\Ext w w8 from
               ⟨hs8,yH.val G5 ha8 (λe=>tU.val j p RJ hpl ⟨by omega,by omega⟩ (λe=>(hk e).elim) e),B7.mfr hm8,S7.mext hm8 X7⟩)
              clear hs8 ha8 hm8;go_wp2_with fail;go_roundw
              case rel=>exact⟨p+1,T8,by omega,by go_num,R.1,R.2.1,R.2.2.1,R.2.2.2⟩
              case measure=>simp [intOf];omega
             ·have htl:tgt x ((x.c j).p p).key<x.A.length:=(hMM.1 hk).2.2.2.2.1;have sn:=S7.s _ htl;obtain⟨tg,etg⟩:∃q,q=tgt x ((x.c j).p p).key:=⟨_,rfl⟩;rw[<-etg] at sn htl xk S7 B7 X7 ⊢;have ETG:=uU etg;clear etg;have t0:(0:Int)<=(tg:Int):=by omega
              have t1:(tg:Int)<(x.A.length:Int):=by omega
              by_cases hm:(tg:Int)∈T5
              ·have E:decide ((tg:Int)∈T5)=true:=decide_eq_true hm;rw[E] at sn;clear E;go_wp2_with fail;refine(a0v x ((x.c j).p p).val b w.heap.size w.heap.size _ T5 _ (HH.ext X7) hMM.2 S7 X7.size hn8).mono ?_;rintro e w8 ⟨v8,T8,rfl,hs8,ha8,hm8⟩
               have R:=uU (show Sn w8 w.heap.size w.heap.size x.A.length v8 T8/\(yH x L c T8/\it T8 c=(j:Int)/\c<T8.length/\qK x L j (p+1) T8)/\b4m w8 B w.heap.size v8 (x.c j).T/\Ext w w8 from
                ⟨hs8,yH.val G5 ha8 (λe=>tU.val j p RJ hpl ⟨by omega,by omega⟩ (λ_=>by rw[<-uH ETG];obtain⟨q,eq,hq⟩:=G5.1.o _ hm;have e3:tg=q:=(by omega);rw[e3];exact hq) e),B7.mfr hm8,S7.mext hm8 X7⟩)
               clear hs8 ha8 hm8;go_wp2_with fail;go_roundw
               case rel=>exact⟨p+1,T8,by omega,by go_num,R.1,R.2.1,R.2.2.1,R.2.2.2⟩
               case measure=>simp [intOf];omega
              ·have E:decide ((tg:Int)∈T5)=false:=decide_eq_false hm;rw[E] at sn;clear E;have R:=uU (show qK x L j (p+1) T5 from G5.2.2.2.1.more G5.2.2.2.2 (λ_ hh=>(hm (by obtain⟨R,e⟩:=G5.1.e;rw[e];exact List.mem_append_left _ (by rw[uH ETG];exact hh hk))).elim));go_wp2_with fail;go_roundw
               case rel=>exact⟨p+1,T5,by omega,by go_num,S7,⟨G5.1,G5.2.1,G5.2.2.1,R⟩,B7,X7⟩
               case measure=>simp [intOf];omega
           ·have hpe:p=(x.c j).F.length:=by omega
            have R:=uU (show yH x L (c+1) T/\c+1<=T.length by
             obtain⟨i1,i2,i3,i4⟩:=hinv;rw[hpe] at i4;exact⟨i1.step i2 i4,i3⟩)
            clear hs hpe;go_wp2_with fail;go_roundw
            case rel=>exact⟨c+1,T,R.2,by go_num,HS,R.1,hbl⟩
            case measure=>simp [intOf];omega
        ·have hce:c=T.length:=by omega
         have R:=uU (show b8w x (L.length:Int) T by have:=uH hpa;rw[hce] at this;exact this.rest);clear hs hce hgl hpa;go_wp2_with fail;go_roundw
         case rel=>exact⟨_,T,rfl,HS,R,hbl⟩
         case measure=>simp [intOf];omega
theorem GAt.hat[Inhabited uQ]{B:Nat}(h:GAt B w g x ar kr ac kc vg br bc pb pa pk role)(s:Snd x):∃ag kg,HAt w g x ar kr ac kc ag kg:=by
 obtain⟨ag,kg,hvg⟩:=h.gr.form;subst hvg;have n8:=s.ok.n8;have ng:=s.r1.D;obtain⟨⟨ar',kr',e1,_,hr⟩,⟨ac',kc',e2,_,hc⟩,⟨ag',kg',e3,_,hg⟩⟩:=h.rd (by rw[s.r1.B];omega) (by omega) (λq hq=>s.ok.p200 q hq) (by omega)
 injection e1 with e1;injection e2 with e2;injection e3 with e3
 subst e1 e2 e3;obtain⟨b0,b1,b2,b3,b4,b5,b6,b7,b8,b9,b10,b11,b12⟩:=h.bx;exact⟨ag,kg,b0,b1,b2,b3,b4,b5,b6,b7,b8,b9,b10,b11,b12,by rw[s.r1.B];omega,by omega,by omega,hr,λi hi=>by obtain⟨b',o,e,q⟩:=hc i hi;rw[Hp.c_eq x i hi] at q;exact⟨b',o,e,q⟩,hg⟩
theorem res_in(r2:R2 x){y:Wd}(hy:uE y x.A.length):(qX x y).k=2->0<=(qX x y).a/\(qX x y).a<x.A.length:=λhk=>by
 unfold uE at hy;unfold qX at hk ⊢
 split
 ·rename_i h;have hi:y.a.toNat<x.A.length:=by omega
  have:=r2.1 y.a.toNat hi;unfold cQ eX at this;show 0<=(x.c y.a.toNat).to/\(x.c y.a.toNat).to<x.A.length;omega
 ·rename_i h;rw[if_neg h] at hk;omega
theorem b9a(h:∀q,(z.c q).st=(x.c q).st/\(z.c q).to=(x.c q).to)(y:Wd):qX z y=qX x y:=by
 unfold qX;rw[(h _).1,(h _).2]
theorem c4u(h:∀q,(z.c q).st=(x.c q).st/\(z.c q).to=(x.c q).to)(H:Nat->Bool)(y:Wd):tD z H y=tD x H y:=by
 unfold tD;rw[b9a h]
theorem c4v(s:Snd x)(h:tU x i)(k:Nat)(hk:k<(x.c i).F.length):uE ((x.c i).p k).key x.A.length/\uE ((x.c i).p k).val x.A.length:=by
 have g:=h.good s.r2 s.r4;have p:=((s.r4.2 i g.1).2 k hk).2 g.2.2;exact⟨p.1.1,p.2.1⟩
theorem inH_st(x:Hp)(H:Nat->Bool)(b:Hp)(i k:Nat)(hi:i<b.A.length)(hb:∀q,(b.c q).st=(x.c q).st/\(b.c q).to=(x.c q).to)(q:Nat):((inH x H b i k).c q).st=(x.c q).st/\((inH x H b i k).c q).to=(x.c q).to:=by
 have:=Hp.c_set b i { x.c i with F:=(x.c i).F.take k++yV x H (x.c i) ((x.c i).F.drop k) } hi q;have e:(inH x H b i k).c q=({ b with A:=b.A.set i { x.c i with F:=(x.c i).F.take k++yV x H (x.c i) ((x.c i).F.drop k) } }:Hp).c q:=rfl;rw[e,this];by_cases c:q=i
 ·rw[if_pos c,c];exact⟨rfl,rfl⟩
 ·rw[if_neg c];exact hb q
theorem c8i(x:Hp)(H:Nat->Bool)(k:Nat)(hk:k<=x.A.length)(q:Nat):((cE x H k).c q).st=(x.c q).st/\((cE x H k).c q).to=(x.c q).to:=by
 rw[a9s x H k hk q]
 split
 ·exact⟨rfl,rfl⟩
 ·exact⟨rfl,rfl⟩
theorem a5m(x:Hp)(H:Nat->Bool):∀k,(cE x H k).E=x.E/\(cE x H k).I=x.I/\(cE x H k).D=x.D/\(cE x H k).B=x.B
 | 0=>⟨rfl,rfl,rfl,rfl⟩
 | k+1=>by
  unfold cE
  split
  ·exact a5m x H k
  ·exact a5m x H k
theorem c1q(x:Hp)(H:Nat->Bool)(k:Nat):dC (cE x H k)=dC x:=by
 obtain⟨a,b,c,_⟩:=a5m x H k;unfold dC;rw[a,b,c,a2d]
theorem b5h(x:Hp)(H:Nat->Bool)(i:Nat)(e:dC x=(i:Int)):∀k,k<=i->(cE x H k).sub=x.sub
 | 0,_=>rfl
 | k+1,hk=>by
  have ih:=b5h x H i e k (by omega);unfold cE
  split
  ·show a2h x H k (cE x H k).sub=x.sub;unfold a2h;rw[if_neg (by rw[e];omega)];exact ih
  ·exact ih
theorem c4w(x:Hp)(H:Nat->Bool)(i:Nat)(h:H i=true):cE x H (i+1)=inH x H (cE x H i) i 0:=by
 show(if H i=true then _ else _)=_;rw[if_pos h];unfold inH b4j a2h;simp
theorem b0n(x:Hp)(H:Nat->Bool)(hp:∀i,i<x.A.length->(x.c i).F.length<=200):∀k,k<=x.A.length->a1p x H k<=200*k
 | 0,_=>Nat.le_refl _
 | k+1,hk=>by
  have ih:=b0n x H hp k (by omega);have h1:=a7o x H (x.c k) (x.c k).F;have h2:=hp k (by omega);unfold a1p
  split <;> omega
theorem b3o(x:Hp)(H:Nat->Bool):∀k,(cE x H k).K=x.K-a1p x H k
 | 0=>by simp [cE,a1p]
 | k+1=>by
  have ih:=b3o x H k;unfold cE a1p
  split
  ·show(cE x H k).K-tW x H (x.c k) (x.c k).F=_;rw[ih];omega
  ·exact ih
theorem b3p(x:Hp)(H:Nat->Bool)(hp:∀i,i<x.A.length->(x.c i).F.length<=200):∀k,k<=x.A.length->x.sub-200*k<=(cE x H k).sub/\(cE x H k).sub<=x.sub
 | 0,_=>by simp [cE]
 | k+1,hk=>by
  have ih:=b3p x H hp k (by omega);unfold cE
  split
  ·show x.sub-200*((k+1:Nat):Int)<=a2h x H k (cE x H k).sub/\a2h x H k (cE x H k).sub<=x.sub;unfold a2h;have h1:=a7o x H (x.c k) ((x.c k).F.take (cE x H k).sub.toNat);have h2:=hp k (by omega);have h3:((x.c k).F.take (cE x H k).sub.toNat).length<=200:=by simp;omega
   split <;> omega
  ·omega
theorem inH_num(x:Hp)(H:Nat->Bool)(hp:∀i,i<x.A.length->(x.c i).F.length<=200)(i k:Nat)(hi:i<x.A.length)(n8:x.A.length<=8000)(hu:0<=x.K/\x.K<=4000)(hs:0<=x.sub/\x.sub<=200):
  (-3000000<=(inH x H (cE x H i) i k).K/\(inH x H (cE x H i) i k).K<=1000000)/\(-3000000<=(inH x H (cE x H i) i k).sub/\(inH x H (cE x H i) i k).sub<=1000000):=by
 have h1:=b0n x H hp i (by omega);have h2:=b3o x H i;have h3:=b3p x H hp i (by omega);have h4:=a7o x H (x.c i) ((x.c i).F.drop k);have h5:=hp i hi;have h6:((x.c i).F.drop k).length<=200:=by simp;omega
 have h7:=a7o x H (x.c i) (((x.c i).F.take (cE x H i).sub.toNat).drop k);have h8:(((x.c i).F.take (cE x H i).sub.toNat).drop k).length<=200:=by simp;omega
 unfold inH;refine⟨?_,?_⟩
 ·simp only;omega
 ·simp only;split <;> omega
theorem a3n(x z:Hp)(H:Nat->Bool):∀k,(zC x z H k).A.length=z.A.length
 | 0=>rfl
 | k+1=>by
  unfold zC
  split
  ·simp [a3n x z H k]
  ·exact a3n x z H k
theorem c3f(x z:Hp)(H:Nat->Bool):∀k,k<=z.A.length->∀q,k<=q->(zC x z H k).c q=z.c q
 | 0,_,q,_=>rfl
 | k+1,hk,q,hq=>by
  have ih:=c3f x z H k (by omega) q (by omega);unfold zC
  split
  ·have:=Hp.c_set (zC x z H k) k (b6r (x.c k)) (by rw[a3n];omega) q;rw[this,if_neg (by omega)];exact ih
  ·exact ih
theorem c3g(x:Hp)(H:Nat->Bool):∀k,a8o x H k<=k
 | 0=>Nat.le_refl _
 | k+1=>by
  have:=c3g x H k;unfold a8o
  split <;> omega
theorem b9b(s:Snd x)(hi:i<x.A.length)(h1:(x.c i).st=1)(e:dC x=(i:Int)):0<=x.sub/\x.sub<=(x.c i).F.length:=by
 refine⟨s.r1.sub.1,?_⟩;unfold dC at e
 split at e
 ·rename_i h;have:=(s.r6.2.1 h.1).2.2 (by omega);have e2:x.g0=i:=by unfold Hp.g0;rw[e];simp
  rw[e2] at this;exact this
 ·split at e
  ·rename_i h;have e2:x.I.toNat=i:=by omega
   have:=(s.r6.2.2.1 h.1).2;rw[e2] at this;exact this ⟨by omega,h1⟩
  ·omega
theorem c1r(x:Hp)(b:Nat)(w:World)(h:HAt w b x ar kr ac kc ag kg)(hn8:x.A.length<=8000):
  Calls Tryz.prog 92 #[.pointer (some ⟨b,0,none⟩)] w λe w'=>∃r:Int,Hid (e=.returned (.int .i64 r))/\Hid (zJ x x.A.length r)/\Ext w w':=by
 have HH:=uU h;have c4:=h.c4;clear h;go_enter Tryz.func92,Tryz.ntmps92;go_wp2_with fail;go_loopw [3,11] (λa i wr=>∃(k:Nat) (r:Int),k<=x.A.length/\i=.int .i64 k/\a=.int .i64 r/\Hid (zJ x k r)/\Ext w wr) (λ_ i _=>x.A.length-(intOf i).toNat)
 case atStart=>exact⟨0,-1,Nat.zero_le _,rfl,rfl,.inl ⟨rfl,λi hi=>by omega⟩,Ext.refl w⟩
 case round=>
  clear c4;obtain⟨k,r,hk,rfl,rfl,hd,hbl⟩:=hrel;by_cases hlt:k<x.A.length
  ·have hh:=HH.ext hbl;have c4:=hh.c4;obtain⟨bc,oc,ap,kp,rfl,C⟩:=hh.cell k hlt;have HC:=uU C;have p0:=C.p0;have p1:=C.p1;have p2:=C.p2;have p3:=C.p3;have p4:=C.p4;have p5:=C.p5;have p6:=C.p6;have p7:=C.p7;have hbc:bc<wr.heap.size:=uL p0;have hbb:b<wr.heap.size:=uL c4;have hk0:(0:Int)<=(k:Int):=by omega
   have hk1:(k:Int)<(x.A.length:Int):=by omega
   clear C;cases t:((x.c k).U == 2)
   ·have D:=uU (show zJ x (k+1) r from hd.no (by simpa using t));go_wp2_with fail;go_quiet (fail);go_wp2_with fail;go_roundw
    case rel=>exact⟨k+1,r,by omega,by go_num,rfl,D,(hbl.alloc _).drewN _⟩
    case measure=>simp [intOf];omega
   ·have T:=uU (show(x.c k).U=2 by simpa using t);rcases hd.form with rfl | ⟨i,rfl,hi⟩
    ·have D:=uU (hd.first T);go_wp2_with fail;go_quiet (fail);go_wp2_with fail;go_roundw
     case rel=>exact⟨k+1,k,by omega,by go_num,rfl,D,(hbl.alloc _).drewN _⟩
     case measure=>simp [intOf];omega
    ·obtain⟨bc',oc',ap',kp',e1,C'⟩:=hh.cell i (by omega);cases e1;have q4:=C'.p4;have hi0:¬(i:Int)<0:=by omega
     have hi1:(i:Int)<(x.A.length:Int):=by omega
     have hi2:(0:Int)<=(i:Int):=by omega
     clear C';by_cases hl:(x.c k).born<(x.c i).born
     ·have D:=uU (hd.less T hl);go_wp2_with fail;go_quiet (fail);go_wp2_with fail;go_roundw
      case rel=>exact⟨k+1,k,by omega,by go_num,rfl,D,(hbl.alloc _).drewN _⟩
      case measure=>simp [intOf];omega
     ·have D:=uU (hd.more (by omega));go_wp2_with fail;go_quiet (fail);go_wp2_with fail;go_roundw
      case rel=>exact⟨k+1,i,by omega,by go_num,rfl,D,(hbl.alloc _).drewN _⟩
      case measure=>simp [intOf];omega
  ·have hk2:k=x.A.length:=by omega
   have D:=uU (show zJ x x.A.length r by have:=uH hd;rw[hk2] at this;exact this);clear hk2 hd;go_wp2_with fail;go_ret;exact⟨r,rfl,D,hbl⟩
structure GCel[Inhabited uQ](B:Nat)(w:World)(g:Nat)(x:Hp)(i bc kc:Nat)(ap:Option Addr)(kp:Nat):Prop where
 c4:w.cell? ⟨g,4,none⟩=some (.slice (some ⟨bc,0,none⟩) x.A.length kc)
 s:S7 w bc (i*8) (x.c i)
 p7:w.cell? ⟨bc,i*8+7,none⟩=some (.slice ap (x.c i).F.length kp)
 f:∀j,w.frozen? ⟨bc,j,none⟩=false
 lo:B<=bc/\bc<w.heap.size
 set2:∀(W:World) (u:Int),Ext w W->GOk B (W.setCell ⟨bc,i*8+2,none⟩ (iv u)) g (dW x i (c3e (x.c i) u))
 set3:∀(W:World) (u:Int),Ext w W->GOk B (W.setCell ⟨bc,i*8+3,none⟩ (iv u)) g (dW x i (a2i (x.c i) u))
theorem GOk.cel[Inhabited uQ]{B:Nat}(h:GOk B w g x)(i:Nat)(hi:i<x.A.length):∃bc kc ap kp,GCel B w g x i bc kc ap kp:=by
 obtain⟨ar,kr,ac,kc,vg,br,bc,pb,pa,pk,role,h⟩:=h;have hn:0<x.A.length:=by omega
 refine⟨bc,kc,pa i,pk i,?_,h.rw.s i hi,h.rw.p7 i hi,(h.rw.nc hn).1.2,⟨(h.rw.nc hn).2,(h.rw.nc hn).1.1⟩,λW u e=>?_,λW u e=>?_⟩
 ·have:=h.bx.2.2.2.2.1;rw[h.hc hn] at this;exact this
 ·have g1:=h.ext e;obtain⟨a0,a1,a2,a3,a4,a5,a6⟩:=g1.rw.s i hi;refine⟨ar,kr,ac,kc,vg,br,bc,pb,pa,pk,role,g1.setc hi rfl (uZ.setCell (S:=λq=>q=bc) (uZ.refl _ W) (p:=⟨bc,i*8+2,none⟩) rfl _) ⟨?_,?_,World.cell?_setCell_same _ _ _ a2,?_,?_,?_,?_⟩ (λj hj=>uC _ (.inr (by omega))) ((g1.rw.nc hn).1.set _ _)⟩
  ·rw[uC _ (.inr (by omega))];exact a0
  ·rw[uC _ (.inr (by omega))];exact a1
  ·rw[uC _ (.inr (by omega))];exact a3
  ·rw[uC _ (.inr (by omega))];exact a4
  ·rw[uC _ (.inr (by omega))];exact a5
  ·rw[uC _ (.inr (by omega))];exact a6
 ·have g1:=h.ext e;obtain⟨a0,a1,a2,a3,a4,a5,a6⟩:=g1.rw.s i hi;refine⟨ar,kr,ac,kc,vg,br,bc,pb,pa,pk,role,g1.setc hi rfl (uZ.setCell (S:=λq=>q=bc) (uZ.refl _ W) (p:=⟨bc,i*8+3,none⟩) rfl _) ⟨?_,?_,?_,World.cell?_setCell_same _ _ _ a3,?_,?_,?_⟩ (λj hj=>uC _ (.inr (by omega))) ((g1.rw.nc hn).1.set _ _)⟩
  ·rw[uC _ (.inr (by omega))];exact a0
  ·rw[uC _ (.inr (by omega))];exact a1
  ·rw[uC _ (.inr (by omega))];exact a2
  ·rw[uC _ (.inr (by omega))];exact a4
  ·rw[uC _ (.inr (by omega))];exact a5
  ·rw[uC _ (.inr (by omega))];exact a6
abbrev b1q(w:World):World:=w.alloc (.cells #[iv 0,iv 0] 41)
structure ABox(w W:World):Prop where
 r0:W.cell? ⟨w.heap.size,0,none⟩=some (iv 0)
 r1:W.cell? ⟨w.heap.size,1,none⟩=some (iv 0)
 rf:∀j,W.frozen? ⟨w.heap.size,j,none⟩=false
theorem ABox.new(w:World):ABox w (b1q w):=⟨by simp [go_sem],by simp [go_sem],λj=>by simp [go_sem]⟩
theorem GOk.abox{p p1:Inhabited uQ}{B:Nat}(o:Own p w.heap.size (b1q w).heap.size (b1q w) p1)(h:@GOk p1 B W g y):ABox w W:=by
 have e:=GOk.own o h w.heap.size (Nat.le_refl _) (by simp [b1q]);have n:=ABox.new w;exact⟨(World.cell?_of_block (a:=⟨w.heap.size,0,none⟩) e).trans n.r0,(World.cell?_of_block (a:=⟨w.heap.size,1,none⟩) e).trans n.r1,λj=>(World.frozen?_of_block (a:=⟨w.heap.size,j,none⟩) e).trans (n.rf j)⟩
theorem GOk.done1{p p1:Inhabited uQ}{B:Nat}(o:Own p w.heap.size (b1q w).heap.size (b1q w) p1)(h:@GOk p1 B W g y)(cd nm:Int):@GOk p B (putA W w.heap.size cd nm) g y:=
 GOk.leave o h (uZ.setCell (uZ.setCell (uZ.refl _ W) (p:=⟨w.heap.size,0,none⟩) ⟨Nat.le_refl _,by simp [b1q]⟩ _) (p:=⟨w.heap.size,1,none⟩) ⟨Nat.le_refl _,by simp [b1q]⟩ _)
theorem c4x[p:Inhabited uQ](B g:Nat)(x:Hp)(a:Nat)(w:World)(h:GOk B w g x)(s:Snd x)(ha:a<16)(v:World)(hv:v.heap.size<=B)(hx:Ext v w):
  Calls Tryz.prog 254 #[.pointer (some ⟨g,0,none⟩),.int .i64 a] w λe w'=>∃(y:Hp) (nm:Int),e=.returned (qU 0 nm)/\Hid (c8d x a y nm)/\Hid (GOk B w' g y)/\Ext v w':=by
 obtain⟨p1,o1,g1⟩:=GOk.enter h (w0:=b1q w) ((Ext.refl w).alloc _);have O1:=uU o1;have G0:=uU g1;have r16:=uU s.r1.B
 have QN:=uU (show Calls Tryz.prog 92 #[.pointer (some ⟨g,0,none⟩)] (b1q w) λe w'=>∃r:Int,e=.returned (.int .i64 r)/\Hid (zJ x x.A.length r)/\Ext (b1q w) w' from by
  obtain⟨ar,kr,ac,kc,vg,br,bc,pb,pa,pk,role,h⟩:=g1;obtain⟨ag,kg,hat⟩:=h.hat s;refine(c1r x g _ hat s.ok.n8).mono ?_;rintro e w' h2;exact h2)
 have V0:=uU (show v.heap.size<=w.heap.size from hx.size);have XD:=uU (show Ext v (b1q w) from hx.alloc _);have i0:(0:Int)<=(a:Int):=by omega
 have i1:(a:Int)<16:=by omega
 clear h s o1 g1;go_enter Tryz.func254,Tryz.ntmps254;go_wp2_with fail;refine QN.mono ?_;rintro e w1 ⟨r,rfl,hd,x1⟩;have X1:=uU (XD.trans x1);have G1:=uU (G0.ext x1);clear x1 XD G0 QN;by_cases h0:r<0
 ·have D:=uU (show zJ x x.A.length (-1) by
   rcases uH hd with⟨e,h⟩ | ⟨i,e,_⟩
   ·exact .inl ⟨rfl,h⟩
   ·omega)
  clear hd;obtain⟨br,kr,hr⟩:=G1.B r16;have R1:=uU hr;have c3:=hr.c3;obtain⟨r0,r1,r2⟩:=hr.r a ha;have f:=hr.f;have hg1:g<w1.heap.size:=uL c3;have hb1:br<w1.heap.size:=uL r0;have hbB:=hr.lo.1;have FN:=uU (show GOk B (dV w1 br (a*3) Wd0) g (regTo x a Wd0)/\Ext v (dV w1 br (a*3) Wd0) from⟨hr.set w1 a Wd0 (Ext.refl _) ha,(a0e w1 br (a*3) Wd0).ext X1 (λq hq e=>by omega)⟩);obtain⟨W2,hW2⟩:∃W,W=dV w1 br (a*3) Wd0:=⟨_,rfl⟩;rw[<-hW2] at FN;unfold dV Wd0 at hW2;clear hr;go_wp2_with fail;rw[<-hW2];refine(cY 0 _).mono ?_;rintro e w3 ⟨rfl,x3⟩;have G3:=uU (FN.1.ext x3);have X3:=uU (FN.2.trans x3);obtain⟨u5,u6,u7⟩:=GOk.abox O1 G3;have hw3:w.heap.size<w3.heap.size:=uL u5;clear x3 FN hW2 c3 r0 r1 r2 f;go_wp2_with fail;refine bodyPost_ret (v:=qU 0 0) (by simp [results,Tryz.results254,go_sem,u5,u6]) rfl ?_;exact⟨_,0,rfl,.inl ⟨D,rfl,rfl⟩,GOk.done1 O1 G3 0 0,dZ X3 V0 0 0⟩
 ·obtain⟨i,hi,hil,D⟩:∃i:Nat,r=(i:Int)/\i<x.A.length/\Hid (zJ x x.A.length (i:Int)):=by
   rcases hd.form with e | ⟨i,e,h⟩
   ·omega
   ·exact⟨i,e,h,by have:=uH hd;rw[e] at this;exact this⟩
  subst hi;clear hd;obtain⟨bc,kc,ap,kp,hc⟩:=G1.cel i hil;have c4:=hc.c4;obtain⟨q0,q1,q2,q3,q4,q5,q6⟩:=hc.s;have fc:=hc.f;have hg0:g<w1.heap.size:=uL c4;have hb0:bc<w1.heap.size:=uL q3;have k0:(0:Int)<=(i:Int):=by omega
  have k1:(i:Int)<(x.A.length:Int):=by omega
  have G2:=uU (hc.set3 w1 3 (Ext.refl _));have X2:=uU (X1.setCell (p:=⟨bc,i*8+3,none⟩) (Nat.le_trans hv hc.lo.1) (iv 3));obtain⟨W1,hW1⟩:∃W,W=w1.setCell ⟨bc,i*8+3,none⟩ (iv 3):=⟨_,rfl⟩;rw[<-hW1] at G2 X2;obtain⟨br,kr,hr⟩:=G2.B (show(dW x i (a2i (x.c i) 3)).B.length=16 from uH r16);have c3:=hr.c3;obtain⟨r0,r1,r2⟩:=hr.r a ha;have f:=hr.f;have hg1:g<W1.heap.size:=uL c3;have hb1:br<W1.heap.size:=uL r0;have hbB:=hr.lo.1;have FN:=uU (show GOk B (dV W1 br (a*3) ⟨2,0,i⟩) g (regTo (dW x i (a2i (x.c i) 3)) a ⟨2,0,i⟩)/\Ext v (dV W1 br (a*3) ⟨2,0,i⟩) from⟨hr.set W1 a ⟨2,0,i⟩ (Ext.refl _) ha,(a0e W1 br (a*3) ⟨2,0,i⟩).ext X2 (λq hq e=>by omega)⟩);obtain⟨W2,hW2⟩:∃W,W=dV W1 br (a*3) ⟨2,0,i⟩:=⟨_,rfl⟩;rw[<-hW2] at FN;unfold dV at hW2;clear hr hc
  go_upto_region 6 with(fail)
  rw[<-hW1];clear hW1 c4 q0 q1 q2 q3 q4 q5 q6 fc hg0 hb0;go_wp2_with fail;rw[<-hW2];refine(cY 1 _).mono ?_;rintro e w3 ⟨rfl,x3⟩;have G3:=uU (FN.1.ext x3);have X3:=uU (FN.2.trans x3);obtain⟨u5,u6,u7⟩:=GOk.abox O1 G3;have hw3:w.heap.size<w3.heap.size:=uL u5;clear x3 FN hW2 c3 r0 r1 r2 f;go_wp2_with fail;refine bodyPost_ret (v:=qU 0 1) (by simp [results,Tryz.results254,go_sem,u5,u6]) rfl ?_;exact⟨_,1,rfl,.inr ⟨i,D,rfl,rfl⟩,GOk.done1 O1 G3 0 1,dZ X3 V0 0 1⟩
theorem b6u[Inhabited uQ]{B:Nat}{w:World}{g:Nat}{x:Hp}{ar:Option Addr}{kr:Nat}{ac:Option Addr}{kc:Nat}{vg:Value}{br bc:Nat}(h:GK B w g x ar kr ac kc vg br bc)(s:Snd x)(a:World)(ha:a.heap.size<=B)(hx:Ext a w):
  Calls Tryz.prog 90 #[.pointer (some ⟨g,0,none⟩)] w λe w'=>∃H:Nat->Bool,e=.returned (.tuple #[.int .i64 (a1p x H x.A.length),.int .i64 (a8o x H x.A.length)])/\Hid (∀i,H i=true↔tU x i)/\GOk B w' g (a4h x H)/\Ext a w':=by
 have G0:=uU h;have S:=uU s;obtain⟨pb,pa,pk,role,h⟩:=h;obtain⟨ag,kg,hat⟩:=h.hat s;have QH:=uU (b1g x g w hat s.r2 s.r4 s.ok.n8);have n8:=s.ok.n8;have hgw:g<w.heap.size:=h.nf.1;have r0:0<x.B.length:=by rw[s.r1.B];omega
 have USED:=uU (show 0<=x.K/\x.K<=4000 by have h1:=s.r3.1;have h2:=s.r3.2;have h3:=s.r1.M;omega);have BC:=uU (show 0<x.A.length->bc<w.heap.size from λhn=>(h.rw.nc hn).1.1);clear h s hat;go_enter Tryz.func90,Tryz.ntmps90;go_wp2_with fail;refine(uH QH).mono ?_;rintro e w1 ⟨v,L,rfl,sn,hL,q1⟩;obtain⟨H,hH⟩:∃H:Nat->Bool,H=(λi:Nat=>decide ((i:Int)∈L)):=⟨_,rfl⟩;have HI:=uU (show ∀i,H i=true↔tU x i from λi=>by rw[hH];simp only [decide_eq_true_eq];exact uH hL i);have SN:=uU (show ∀j,j<x.A.length->w1.cell? ⟨w.heap.size,j,none⟩=some (.bool (H j)) from λj hj=>by rw[hH];exact sn.s j hj);have hs1:w.heap.size<w1.heap.size:=sn.hb.2;have G1:=uU ((uH G0).ext q1);have X1:=uU (hx.trans q1);have c4:w1.cell? ⟨g,4,none⟩=some (.slice ac x.A.length kc):=by obtain⟨_,_,_,_,h1⟩:=uH G1;exact h1.bx.2.2.2.2.1
 have hg1:g<w1.heap.size:=uL c4;clear hH sn hL QH G0;go_wp2_with fail;go_loopw [5,19] (λgn si wr=>∃i:Nat,i<=x.A.length/\si=.int .i64 i/\gn=.int .i64 (a1p x H i)/\Hid (GK B wr g (cE x H i) ar kr ac kc vg br bc)/\Hid (∀j,j<x.A.length->wr.cell? ⟨w.heap.size,j,none⟩=some (.bool (H j)))/\Hid (Ext a wr)) (λ_ si _=>x.A.length-(intOf si).toNat)
 case atStart=>exact⟨0,Nat.zero_le _,rfl,rfl,uH G1,uH SN,uH X1⟩
 case round=>
  clear G1 SN X1 c4 hg1 hs1;obtain⟨i,hi,rfl,rfl,hG,hS,hX⟩:=hrel;by_cases hlt:i<x.A.length
  ·have c0:=uH hS i hlt;have k0:(0:Int)<=(i:Int):=by omega
   have k1:(i:Int)<(x.A.length:Int):=by omega
   cases hh:H i
   ·rw[hh] at c0;have E:=uU (show cE x H (i+1)=cE x H i by show(if H i=true then _ else _)=_;rw[if_neg (by simp [hh])]);have E2:=uU (show a1p x H (i+1)=a1p x H i by show(if H i=true then _ else _)=_;rw[if_neg (by simp [hh])]);go_wp2_with fail;go_roundw
    case rel=>exact⟨i+1,by omega,by go_num,by rw[uH E2],by rw[uH E];exact uH hG,uH hS,uH hX⟩
    case measure=>simp [intOf];omega
   ·rw[hh] at c0;have HD:=uU ((uH HI i).1 hh);obtain⟨pb1,pa1,pk1,role1,g1⟩:=uH hG;have LEN:=uU (a2d x H i);have CI:=uU (show(cE x H i).c i=x.c i by rw[a9s x H i hi i,if_neg (by omega)]);have hn:0<(cE x H i).A.length:=by rw[uH LEN];omega
    have c4:=g1.bx.2.2.2.2.1;rw[g1.hc hn,uH LEN] at c4;have p7:=g1.rw.p7 i (by rw[uH LEN];exact hlt);rw[uH CI] at p7;have hgr:g<wr.heap.size:=uL c4;have hbr:bc<wr.heap.size:=uL p7;have l200:=(uH S).ok.p200 i hlt;have TOP:=uU (inH_top x H (cE x H i) i (by rw[uH LEN];exact hlt) (uH CI));have GT:=uU (show GK B wr g (inH x H (cE x H i) i (x.c i).F.length) ar kr ac kc vg br bc by rw[uH TOP];exact uH hG);have NIL:=uU (show tW x H (x.c i) ((x.c i).F.drop (x.c i).F.length)=0 by rw[List.drop_length];rfl);clear g1;go_wp2_with fail;go_loopw [5,7] (λgn sk wr=>∃k:Nat,k<=(x.c i).F.length/\sk=.int .i64 ((k:Int)-1)/\gn=.int .i64 ((a1p x H i:Int)+(tW x H (x.c i) ((x.c i).F.drop k):Int))/\Hid (GK B wr g (inH x H (cE x H i) i k) ar kr ac kc vg br bc)/\Hid (∀j,j<x.A.length->wr.cell? ⟨w.heap.size,j,none⟩=some (.bool (H j)))/\Hid (Ext a wr)) (λ_ sk _=>(intOf sk+1).toNat)
    case atStart=>exact⟨(x.c i).F.length,Nat.le_refl _,rfl,by rw[uH NIL];simp,uH GT,uH hS,uH hX⟩
    case round=>
     clear GT hS hX hG c0 c4 p7 hgr hbr TOP NIL;obtain⟨k,hk,rfl,rfl,hG,hS,hX⟩:=hrel;cases k with
     | zero=>
      have E:=uU (c4w x H i hh);have E2:=uU (show a1p x H (i+1)=a1p x H i+tW x H (x.c i) ((x.c i).F.drop 0) by show(if H i=true then _ else _)=_;rw[if_pos hh];rfl);go_wp2_with fail;go_roundw
      case rel=>exact⟨i+1,by omega,by go_num,by rw[uH E2];simp,by rw[uH E];exact uH hG,uH hS,uH hX⟩
      case measure=>simp [intOf];omega
     | succ k=>
      have ek:(((k+1:Nat):Int)-1)=(k:Int):=by omega
      rw[ek];have hkl:k<(x.c i).F.length:=by omega
      obtain⟨z,hz⟩:∃z,z=inH x H (cE x H i) i (k+1):=⟨_,rfl⟩;have HZ:=uU hz;rw[<-hz] at hG;have ZL:=uU (show z.A.length=x.A.length by rw[hz,inH_len,uH LEN]);have ZC:=uU (show z.c i={ x.c i with F:=(x.c i).F.take (k+1)++yV x H (x.c i) ((x.c i).F.drop (k+1)) } by rw[hz];exact inH_c x H _ i (k+1) (by rw[uH LEN];exact hlt));have ZST:=uU (show ∀q,(z.c q).st=(x.c q).st/\(z.c q).to=(x.c q).to from λq=>by rw[hz];exact inH_st x H _ i (k+1) (by rw[uH LEN];exact hlt) (c8i x H i hi) q);obtain⟨m,hm⟩:∃m,m=(z.c i).F.length:=⟨_,rfl⟩;have hmk:k<m:=by rw[hm,uH ZC];simp;omega
      have hm200:m<=200:=by have h1:=a7m x H (x.c i) ((x.c i).F.drop (k+1));rw[hm,uH ZC];simp at h1 ⊢;omega
      obtain⟨pb2,pa2,pk2,role2,g2⟩:=uH hG;have hiz:i<z.A.length:=by rw[uH ZL];exact hlt
      have hn:0<z.A.length:=by omega
      have c4:=g2.bx.2.2.2.2.1;rw[g2.hc hn,uH ZL] at c4;have p7:=g2.rw.p7 i hiz;rw[(g2.rw.pl i hiz (g2.rw.pw hiz (by rw[<-hm];omega))).1,<-hm] at p7;have s2:=(g2.rw.s i hiz).2.2.1;have wk:(z.c i).T=(x.c i).T:=by rw[uH ZC]
      rw[wk] at s2;obtain⟨y,hy⟩:∃y,y=(x.c i).F[k]:=⟨_,rfl⟩
      have PY:=uU (show tQ wr (pb2 i) (k*6) y by
       have h1:=g2.rw.p i hiz k (by rw[<-hm];exact hmk)
       have h2:(z.c i).p k=y:=by
        rw[hy,uH ZC];simp only [Cl.p];rw[List.getD_eq_getElem?_getD,List.getElem?_append_left (by simp;omega),List.getElem?_take,if_pos (by omega),List.getElem?_eq_getElem hkl];rfl
       rw[h2] at h1;exact h1)
      obtain⟨e0,e1,e2,e3,e4,e5⟩:=uH PY;have hgr:g<wr.heap.size:=uL c4;have hbr:bc<wr.heap.size:=uL p7;have hpr:pb2 i<wr.heap.size:=uL e0;have t0:(0:Int)<=(k:Int):=by omega
      have t1:(k:Int)<(m:Int):=by omega
      have UO:=uU (show(x.c i).st=1/\0<=(x.c i).T/\(x.c i).T<=3 by
       have g:=(uH HD).good (uH S).r2 (uH S).r4;have:=(uH S).r2.1 i hlt;unfold cQ a2k at this;have:=g.2.1;omega)
      have SEENW:=uU (show ∀W,Ext wr W->∀j,j<z.A.length->W.cell? ⟨w.heap.size,j,none⟩=some (.bool (H j)) from λW xw j hj=>xw.keep (uH hS j (by rw[uH ZL] at hj;exact hj)))
      have FK:=uU (show uE y.key x.A.length/\uE y.val x.A.length by
       have:=c4v (uH S) (uH HD) k hkl;rw[<-Cl.p_eq _ _ hkl,<-hy] at this;exact this)
      have LOST:=uU (show ∀u,uE u x.A.length->∀W,Ext wr W->Calls Tryz.prog 148 #[.pointer (some ⟨g,0,none⟩),.slice (some ⟨w.heap.size,0,none⟩) x.A.length x.A.length,u.v] W λe w'=>e=.returned (.bool (tD x H u))/\Ext W w' from λu hu W xw=>by
       have:=c1p (g2.ext xw) H w.heap.size (uH SEENW W xw) u (by rw[uH ZL];exact hu) (by rw[b9a (uH ZST),uH ZL];exact res_in (uH S).r2 hu);rw[uH ZL,c4u (uH ZST)] at this;exact this)
      have SC:=uU (show dC x=(i:Int)->0<=(cE x H i).sub/\(cE x H i).sub<=(x.c i).F.length from λe=>by rw[b5h x H i e i (Nat.le_refl _)];exact b9b (uH S) hlt (uH UO).1 e);have GONE:=uU (λq:goB x H (x.c i) y=true=>uU (show tW x H (x.c i) ((x.c i).F.drop k)=tW x H (x.c i) ((x.c i).F.drop (k+1))+1 by rw[a4x _ k hkl,a3m,<-hy,if_pos q]));have KEEP:=uU (λq:goB x H (x.c i) y=false=>And.intro (uU (show tW x H (x.c i) ((x.c i).F.drop k)=tW x H (x.c i) ((x.c i).F.drop (k+1)) by rw[a4x _ k hkl,a3m,<-hy,if_neg (by simp [q])])) (uU (show inH x H (cE x H i) i k=z by rw[uH HZ];exact c8g x H _ i k hkl (by rw[<-hy];exact q) (λe=>(uH SC e).2))));have NUM:=uU (inH_num x H (λq hq=>(uH S).ok.p200 q hq) i (k+1) hlt n8 (uH USED) (uH S).r1.sub);rw[<-uH HZ] at NUM;have SIZ:=uU (show w.heap.size<wr.heap.size from uL (uH hS i hlt))
      have CUT:=uU (λq:goB x H (x.c i) y=true=>show ∀W,Ext wr W->Calls Tryz.prog 149 #[.pointer (some ⟨g,0,none⟩),.int .i64 i,.int .i64 k] W λe w'=>e=.returned (.tuple #[])/\GK B w' g (inH x H (cE x H i) i k) ar kr ac kc vg br bc/\(∀j,j<x.A.length->w'.cell? ⟨w.heap.size,j,none⟩=some (.bool (H j)))/\Ext a w' from λW xw=>by
       have zr:z.B.length=x.B.length:=by rw[uH HZ];show(cE x H i).B.length=_;rw[(a5m x H i).2.2.2]
       refine(b5f ((uH hG).ext xw) i k hiz (by rw[<-hm];exact hmk) (by rw[zr];exact r0) (by rw[<-hm];exact hm200) (uH NUM).1 (uH NUM).2 (by rw[uH ZL];exact n8) a ha ((uH hX).trans xw)).mono ?_;rintro e w4 ⟨rfl,g4,f4,x4⟩;refine⟨rfl,?_,λj hj=>?_,x4⟩
       ·rw[uH HZ] at g4;rw[<-inH_cut x H (cE x H i) i k (by rw[uH LEN];exact hlt) hkl (by rw[<-hy];exact q) (uH SC) (c1q x H i)];exact g4
       ·refine(World.cell?_of_block (a:=⟨w.heap.size,j,none⟩) (f4.2 w.heap.size (Nat.lt_of_lt_of_le (uH SIZ) xw.size) (by omega) (by have:=uH BC (by omega);omega))).trans (xw.keep (uH hS j hj)))
      have GB:=uU (show goB x H (x.c i) y=((wkB (x.c i) && tD x H y.key) || (wvB (x.c i) && tD x H y.val)) from rfl)
      have WG:=uU (show wrap64 ((a1p x H i:Int)+(tW x H (x.c i) ((x.c i).F.drop (k+1)):Int)+1)=(a1p x H i:Int)+(tW x H (x.c i) ((x.c i).F.drop (k+1)):Int)+1 from by
       have h1:=b0n x H (λq hq=>(uH S).ok.p200 q hq) i hi;have h2:=a7o x H (x.c i) ((x.c i).F.drop (k+1));have h3:((x.c i).F.drop (k+1)).length<=200:=by simp;omega
       exact a7n _ (by omega) (by omega))
      have HM:=uU hm;clear g2 hy hz hm wk ek;have hw:(x.c i).T=0\/(x.c i).T=1\/(x.c i).T=2\/(x.c i).T=3:=by have:=(uH UO).2;omega
      rcases hw with e | e | e | e
      ·rw[e] at s2;have t:goB x H (x.c i) y=false:=by rw[uH GB];simp [wkB,wvB,e]
       clear e GB;go_wp2_with fail;go_roundw
       case rel=>exact⟨k,by omega,by go_num,by rw[uH (uH KEEP t).1],by rw[uH (uH KEEP t).2];exact(uH hG).ext ((Ext.refl wr).alloc (.cells #[iv y.key.k,iv y.key.n,iv y.key.a,iv y.val.k,iv y.val.n,iv y.val.a] 154)),λj hj=>(((Ext.refl wr).alloc (.cells #[iv y.key.k,iv y.key.n,iv y.key.a,iv y.val.k,iv y.val.n,iv y.val.a] 154))).keep (uH hS j hj),(uH hX).trans ((Ext.refl wr).alloc (.cells #[iv y.key.k,iv y.key.n,iv y.key.a,iv y.val.k,iv y.val.n,iv y.val.a] 154))⟩
       case measure=>simp [intOf]
      ·rw[e] at s2;have T:=uU (show goB x H (x.c i) y=tD x H y.key by rw[uH GB];simp [wkB,wvB,e]);clear e GB;go_wp2_with fail;refine(uH LOST y.key (uH FK).1 _ ((Ext.refl wr).alloc (.cells #[iv y.key.k,iv y.key.n,iv y.key.a,iv y.val.k,iv y.val.n,iv y.val.a] 154))).mono ?_;rintro e w2 ⟨rfl,q2⟩;have xq:=((Ext.refl wr).alloc (.cells #[iv y.key.k,iv y.key.n,iv y.key.a,iv y.val.k,iv y.val.n,iv y.val.a] 154)).trans q2;cases t0:tD x H y.key
       ·have t:goB x H (x.c i) y=false:=by rw[uH T];exact t0
        go_wp2_with fail;go_roundw
        case rel=>exact⟨k,by omega,by go_num,by rw[uH (uH KEEP t).1],by rw[uH (uH KEEP t).2];exact(uH hG).ext xq,λj hj=>(xq).keep (uH hS j hj),(uH hX).trans xq⟩
        case measure=>simp [intOf]
       ·have t:goB x H (x.c i) y=true:=by rw[uH T];exact t0
        go_wp2_with fail;refine(uH CUT t _ xq).mono ?_;rintro e w4 ⟨rfl,g4,s4,x4⟩;have G4:=uU g4;have S4:=uU s4;have X4:=uU x4;have EG:=uU (uH (uH GONE t));clear g4 s4 x4;go_wp2_with fail;go_roundw
        case rel=>exact⟨k,by omega,by go_num,by rw[uH EG,uH WG];refine congrArg (Value.int IntKind.i64) ?_;omega,uH G4,uH S4,uH X4⟩
        case measure=>simp [intOf]
      ·rw[e] at s2;have T:=uU (show goB x H (x.c i) y=tD x H y.val by rw[uH GB];simp [wkB,wvB,e]);clear e GB;go_wp2_with fail;refine(uH LOST y.val (uH FK).2 _ ((Ext.refl wr).alloc (.cells #[iv y.key.k,iv y.key.n,iv y.key.a,iv y.val.k,iv y.val.n,iv y.val.a] 154))).mono ?_;rintro e w2 ⟨rfl,q2⟩;have xq:=((Ext.refl wr).alloc (.cells #[iv y.key.k,iv y.key.n,iv y.key.a,iv y.val.k,iv y.val.n,iv y.val.a] 154)).trans q2;cases t0:tD x H y.val
       ·have t:goB x H (x.c i) y=false:=by rw[uH T];exact t0
        go_wp2_with fail;go_roundw
        case rel=>exact⟨k,by omega,by go_num,by rw[uH (uH KEEP t).1],by rw[uH (uH KEEP t).2];exact(uH hG).ext xq,λj hj=>(xq).keep (uH hS j hj),(uH hX).trans xq⟩
        case measure=>simp [intOf]
       ·have t:goB x H (x.c i) y=true:=by rw[uH T];exact t0
        go_wp2_with fail;refine(uH CUT t _ xq).mono ?_;rintro e w4 ⟨rfl,g4,s4,x4⟩;have G4:=uU g4;have S4:=uU s4;have X4:=uU x4;have EG:=uU (uH (uH GONE t));clear g4 s4 x4;go_wp2_with fail;go_roundw
        case rel=>exact⟨k,by omega,by go_num,by rw[uH EG,uH WG];refine congrArg (Value.int IntKind.i64) ?_;omega,uH G4,uH S4,uH X4⟩
        case measure=>simp [intOf]
      ·rw[e] at s2;have T:=uU (show goB x H (x.c i) y=(tD x H y.key || tD x H y.val) by rw[uH GB];simp [wkB,wvB,e]);clear e GB;go_wp2_with fail;refine(uH LOST y.key (uH FK).1 _ ((Ext.refl wr).alloc (.cells #[iv y.key.k,iv y.key.n,iv y.key.a,iv y.val.k,iv y.val.n,iv y.val.a] 154))).mono ?_;rintro e w2 ⟨rfl,q2⟩;have xq:=((Ext.refl wr).alloc (.cells #[iv y.key.k,iv y.key.n,iv y.key.a,iv y.val.k,iv y.val.n,iv y.val.a] 154)).trans q2;cases t0:tD x H y.key
       ·have b3:w2.cell? ⟨wr.heap.size,3,none⟩=some (iv y.val.k):=q2.keep (by simp [go_sem]);have b4:w2.cell? ⟨wr.heap.size,4,none⟩=some (iv y.val.n):=q2.keep (by simp [go_sem]);have b5:w2.cell? ⟨wr.heap.size,5,none⟩=some (iv y.val.a):=q2.keep (by simp [go_sem]);go_wp2_with fail;refine(uH LOST y.val (uH FK).2 _ xq).mono ?_;rintro e w3 ⟨rfl,q3⟩;have xr:=xq.trans q3;cases t1:tD x H y.val
        ·have t:goB x H (x.c i) y=false:=by rw[uH T,t0,t1];rfl
         go_wp2_with fail;go_roundw
         case rel=>exact⟨k,by omega,by go_num,by rw[uH (uH KEEP t).1],by rw[uH (uH KEEP t).2];exact(uH hG).ext xr,λj hj=>(xr).keep (uH hS j hj),(uH hX).trans xr⟩
         case measure=>simp [intOf]
        ·have t:goB x H (x.c i) y=true:=by rw[uH T,t0,t1];rfl
         go_wp2_with fail;refine(uH CUT t _ xr).mono ?_;rintro e w4 ⟨rfl,g4,s4,x4⟩;have G4:=uU g4;have S4:=uU s4;have X4:=uU x4;have EG:=uU (uH (uH GONE t));clear g4 s4 x4;go_wp2_with fail;go_roundw
         case rel=>exact⟨k,by omega,by go_num,by rw[uH EG,uH WG];refine congrArg (Value.int IntKind.i64) ?_;omega,uH G4,uH S4,uH X4⟩
         case measure=>simp [intOf]
       ·have t:goB x H (x.c i) y=true:=by rw[uH T,t0];rfl
        go_wp2_with fail;refine(uH CUT t _ xq).mono ?_;rintro e w4 ⟨rfl,g4,s4,x4⟩;have G4:=uU g4;have S4:=uU s4;have X4:=uU x4;have EG:=uU (uH (uH GONE t));clear g4 s4 x4;go_wp2_with fail;go_roundw
        case rel=>exact⟨k,by omega,by go_num,by rw[uH EG,uH WG];refine congrArg (Value.int IntKind.i64) ?_;omega,uH G4,uH S4,uH X4⟩
        case measure=>simp [intOf]
  ·have ie:i=x.A.length:=by omega
   subst ie;have LEN:=uU (a2d x H x.A.length);have c4:wr.cell? ⟨g,4,none⟩=some (.slice ac x.A.length kc):=by obtain⟨_,_,_,_,g1⟩:=uH hG;have:=g1.bx.2.2.2.2.1;rw[uH LEN] at this;exact this
   have hgr:g<wr.heap.size:=uL c4;obtain⟨z,hz⟩:∃z,z=cE x H x.A.length:=⟨_,rfl⟩;have ZE:=uU (show a4h x H=zC x z H x.A.length by rw[hz];rfl);have ZLEN:=uU (show z.A.length=x.A.length by rw[hz];exact uH LEN)
   have ZC:=uU (show ∀q,(z.c q).U=(x.c q).U/\(H q=false->z.c q=x.c q) from λq=>by
    rw[hz,a9s x H _ (Nat.le_refl _) q]
    split
    ·rename_i h;exact⟨rfl,λe=>by rw[e] at h;exact absurd h.2 (by simp)⟩
    ·exact⟨rfl,λ_=>rfl⟩)
   rw[<-hz] at hG;clear hz LEN;go_wp2_with fail;go_loopw [10,94] (λdn si wr=>∃j:Nat,j<=x.A.length/\si=.int .i64 j/\dn=.int .i64 (a8o x H j)/\Hid (GK B wr g (zC x z H j) ar kr ac kc vg br bc)/\Hid (∀j,j<x.A.length->wr.cell? ⟨w.heap.size,j,none⟩=some (.bool (H j)))/\Hid (Ext a wr)) (λ_ si _=>x.A.length-(intOf si).toNat)
   case atStart=>exact⟨0,Nat.zero_le _,rfl,rfl,uH hG,uH hS,uH hX⟩
   case round=>
    clear hG hS hX c4 hgr;obtain⟨j,hj,rfl,rfl,hG,hS,hX⟩:=hrel;by_cases hlt:j<x.A.length
    ·obtain⟨pb2,pa2,pk2,role2,g2⟩:=uH hG;have DL:=uU (show(zC x z H j).A.length=x.A.length by rw[a3n,uH ZLEN]);have hjz:j<(zC x z H j).A.length:=by rw[uH DL];exact hlt
     have hn:0<(zC x z H j).A.length:=by omega
     have DC:=uU (c3f x z H j (by rw[uH ZLEN];exact hj) j (Nat.le_refl _));have c4:=g2.bx.2.2.2.2.1;rw[g2.hc hn,uH DL] at c4;have s7:=g2.rw.s j hjz;have p3:=s7.2.2.2.1;rw[uH DC,(uH ZC j).1] at p3;have c0:=uH hS j hlt;have fc:=(g2.rw.nc hn).1.2 (j*8+3);have hgr:g<wr.heap.size:=uL c4;have hbr:bc<wr.heap.size:=uL p3;have k0:(0:Int)<=(j:Int):=by omega
     have k1:(j:Int)<(x.A.length:Int):=by omega
     have wd:=uU (a7n ((a8o x H j:Int)+1) (by omega) (by have:=c3g x H j;omega));have SB:=uU (show w.heap.size≠bc by have:=uH BC (by omega);omega);have NO:=uU (λq:a7r x H j=false=>And.intro (show a8o x H (j+1)=a8o x H j by show(if a7r x H j=true then _ else _)=_;rw[if_neg (by simp [q])]) (show zC x z H (j+1)=zC x z H j by show(if a7r x H j=true then _ else _)=_;rw[if_neg (by simp [q])]));cases q1:((x.c j).U == 1)
     ·have N:=uU (uH NO (by simp [a7r,q1]));clear g2 s7;go_wp2_with fail;go_roundw
      case rel=>exact⟨j+1,by omega,by go_num,by rw[(uH N).1],by rw[(uH N).2];exact uH hG,uH hS,uH hX⟩
      case measure=>simp [intOf];omega
     ·cases hh:H j
      ·rw[hh] at c0;have Q:=uU (show a7r x H j=true by simp [a7r,q1,hh]);have EN:=uU (show a8o x H (j+1)=a8o x H j+1 by show(if a7r x H j=true then _ else _)=_;rw[if_pos (uH Q)]);have ET:=uU (show zC x z H (j+1)={ zC x z H j with A:=(zC x z H j).A.set j (b6r (x.c j)) } by show(if a7r x H j=true then _ else _)=_;rw[if_pos (uH Q)]);have EC:=uU (show(zC x z H j).c j=x.c j by rw[uH DC];exact(uH ZC j).2 hh)
       have GN:=uU (show GK B (wr.setCell ⟨bc,j*8+3,none⟩ (iv 2)) g (zC x z H (j+1)) ar kr ac kc vg br bc by
        rw[uH ET];refine⟨pb2,pa2,pk2,role2,g2.setc hjz (by rw[uH EC];rfl) (uZ.setCell (S:=λq=>q=bc) (uZ.refl _ wr) (p:=⟨bc,j*8+3,none⟩) rfl _) ?_ (λk hk=>uC _ (.inr (by omega))) ((g2.rw.nc hn).1.set _ _)⟩;rw[uH EC] at s7;obtain⟨a0,a1,a2,a3,a4,a5,a6⟩:=s7;refine⟨?_,?_,?_,World.cell?_setCell_same _ _ _ a3,?_,?_,?_⟩
        ·rw[uC _ (.inr (by omega))];exact a0
        ·rw[uC _ (.inr (by omega))];exact a1
        ·rw[uC _ (.inr (by omega))];exact a2
        ·rw[uC _ (.inr (by omega))];exact a4
        ·rw[uC _ (.inr (by omega))];exact a5
        ·rw[uC _ (.inr (by omega))];exact a6)
       have XN:=uU (show Ext a (wr.setCell ⟨bc,j*8+3,none⟩ (iv 2)) from(uH hX).setCell (p:=⟨bc,j*8+3,none⟩) (Nat.le_trans ha (g2.rw.nc hn).2) _);have SNN:=uU (show ∀q,q<x.A.length->(wr.setCell ⟨bc,j*8+3,none⟩ (iv 2)).cell? ⟨w.heap.size,q,none⟩=some (.bool (H q)) from λq hq=>by rw[uC _ (.inl (λe=>uH SB e.symm))];exact uH hS q hq);clear g2 s7;go_wp2_with fail;go_roundw
       case rel=>exact⟨j+1,by omega,by go_num,by rw[uH EN,uH wd];refine congrArg (Value.int IntKind.i64) ?_;omega,uH GN,uH SNN,uH XN⟩
       case measure=>simp [intOf];omega
      ·rw[hh] at c0;have N:=uU (uH NO (by simp [a7r,hh]));clear g2 s7;go_wp2_with fail;go_roundw
       case rel=>exact⟨j+1,by omega,by go_num,by rw[(uH N).1],by rw[(uH N).2];exact uH hG,uH hS,uH hX⟩
       case measure=>simp [intOf];omega
    ·have je:j=x.A.length:=by omega
     subst je;go_wp2_with fail;go_ret2;exact⟨H,rfl,uH HI,by rw[uH ZE];exact(uH hG).ok,uH hX⟩
end Go.Proofs.YtddkhnclmeikfaaGreat
