import Derived.Test.YtnegjhddmfiefaaGreatDoorDm
import Derived.Test.YtnegjhddmfiefaaGreatDoorLv
import Derived.Test.YtnegjhddmfiefaaGreatDoorSb
set_option maxRecDepth 100000
set_option maxHeartbeats 8000000
namespace Go.Proofs.YtnegjhddmfiefaaGreatDoor
open Go.RowKit
attribute [local go_sem ↓] Go.wp_at_zero Go.wp_at_succ
structure GReg[Inhabited ProtD](B:Nat)(w:World)(g:Nat)(x:Hp)(br kr:Nat):Prop where
 c3:w.cell? ⟨g,3,none⟩=some (.slice (some ⟨br,0,none⟩) 16 kr)
 r:∀i,i<16→WdAt w br (i*3) (x.r i)
 f:∀j,w.frozen? ⟨br,j,none⟩=false
 lo:B≤br∧br<w.heap.size∧br≠g
 set:∀(W:World) (i:Nat) (y:Wd),Ext w W→i<16→GOk B (wordO W br (i*3) y) g (regTo x i y)
theorem GOk.regs[Inhabited ProtD]{B:Nat}{w:World}{g:Nat}{x:Hp}(h:GOk B w g x)(r16:x.regs.length=16):∃br kr,GReg B w g x br kr:=by
 obtain⟨ar,kr,ac,kc,vg,br,bc,pb,pa,pk,role,h⟩:=h;have h0:0<x.regs.length:=by omega
 refine⟨br,kr,?_,fun i hi=>?_,(h.rw.nr h0).1.2,⟨(h.rw.nr h0).2,(h.rw.nr h0).1.1,fun e=>?_⟩,fun W i y e hi=>?_⟩
 ·have:=h.bx.2.2.2.1;rw[h.ha h0,r16] at this;exact this
 ·have:=h.rw.r i (by omega);rw[Hp.r_eq] at this;exact this
 ·have h1:=h.sp.r h0;have h2:=h.sp.g;rw[e] at h1;omega
 ·have g1:=h.ext e;exact⟨ar,kr,ac,kc,vg,br,bc,pb,pa,pk,role,g1.setr i (by omega) y (wordO_only _ _ _ _) (wordO_nf (g1.rw.nr h0).1 _ _) (wordO_at _ _ _ _ _ (g1.rw.r i (by omega))) (fun m hm=>wordO_other _ _ _ _ m hm)⟩
theorem GReg.ext[Inhabited ProtD]{B:Nat}{w w':World}{g:Nat}{x:Hp}{br kr:Nat}(h:GReg B w g x br kr)(e:Ext w w'):GReg B w' g x br kr:=
 ⟨e.keep h.c3,fun i hi=>(h.r i hi).ext e,fun j=>((bcell e).2 br j h.lo.2.1).trans (h.f j),⟨h.lo.1,Nat.lt_of_lt_of_le h.lo.2.1 e.size,h.lo.2.2⟩,fun W i y e2 hi=>h.set W i y (e.trans e2) hi⟩
abbrev doW(w:World)(op a b c n:Int):World:=(w.alloc (.cells #[iv op,iv a,iv b,iv c,iv n] 43)).alloc (.cells #[iv 0,iv 0] 193)
structure Boxes(w W:World)(op a b c n:Int):Prop where
 a0:W.cell? ⟨w.heap.size,0,none⟩=some (iv op)
 a1:W.cell? ⟨w.heap.size,1,none⟩=some (iv a)
 a2:W.cell? ⟨w.heap.size,2,none⟩=some (iv b)
 a3:W.cell? ⟨w.heap.size,3,none⟩=some (iv c)
 a4:W.cell? ⟨w.heap.size,4,none⟩=some (iv n)
 r0:W.cell? ⟨w.heap.size+1,0,none⟩=some (iv 0)
 r1:W.cell? ⟨w.heap.size+1,1,none⟩=some (iv 0)
 rf:∀j,W.frozen? ⟨w.heap.size+1,j,none⟩=false
theorem Boxes.new(w:World)(op a b c n:Int):Boxes w (doW w op a b c n) op a b c n:=
 ⟨by simp [go_sem],by simp [go_sem],by simp [go_sem],by simp [go_sem],by simp [go_sem],by simp [go_sem],by simp [go_sem],fun j=>by simp [go_sem]⟩
theorem Boxes.of{w W W':World}{op a b c n:Int}(h:Boxes w W op a b c n)(e:∀q,w.heap.size≤q→q<w.heap.size+2→W'.heap[q]?=W.heap[q]?):Boxes w W' op a b c n:=by
 have e0:=fun j=>World.cell?_of_block (a:=⟨w.heap.size,j,none⟩) (e w.heap.size (Nat.le_refl _) (by omega))
 have e1:=fun j=>World.cell?_of_block (a:=⟨w.heap.size+1,j,none⟩) (e (w.heap.size+1) (by omega) (by omega))
 exact⟨(e0 0).trans h.a0,(e0 1).trans h.a1,(e0 2).trans h.a2,(e0 3).trans h.a3,(e0 4).trans h.a4,(e1 0).trans h.r0,(e1 1).trans h.r1,fun j=>(World.frozen?_of_block (a:=⟨w.heap.size+1,j,none⟩) (e (w.heap.size+1) (by omega) (by omega))).trans (h.rf j)⟩
theorem Boxes.ext{w W W':World}{op a b c n:Int}(h:Boxes w W op a b c n)(e:Ext W W'):Boxes w W' op a b c n:=by
 have l0:=cell_lt h.a0;have l1:=cell_lt h.r0
 exact h.of fun q h1 h2=>e.block q (by
  have l0:w.heap.size<W.heap.size:=l0;have l1:w.heap.size+1<W.heap.size:=l1;omega)
theorem doW_size(w:World)(op a b c n:Int):(doW w op a b c n).heap.size=w.heap.size+2:=by simp [doW]
theorem GOk.boxes{p p1:Inhabited ProtD}{B:Nat}{w W:World}{g:Nat}{y:Hp}{op a b c n:Int}(o:Own p w.heap.size (doW w op a b c n).heap.size (doW w op a b c n) p1)(h:@GOk p1 B W g y):Boxes w W op a b c n:=
 (Boxes.new w op a b c n).of fun q h1 h2=>GOk.own o h q h1 (by rw[doW_size];exact h2)
abbrev putA(W:World)(r:Nat)(cd nm:Int):World:=(W.setCell ⟨r,0,none⟩ (iv cd)).setCell ⟨r,1,none⟩ (iv nm)
theorem GOk.done{p p1:Inhabited ProtD}{B:Nat}{w W:World}{g:Nat}{y:Hp}{op a b c n:Int}(o:Own p w.heap.size (doW w op a b c n).heap.size (doW w op a b c n) p1)(h:@GOk p1 B W g y)(cd nm:Int):@GOk p B (putA W (w.heap.size+1) cd nm) g y:=
 GOk.leave o h (Only.setCell (Only.setCell (Only.refl _ W) (p:=⟨w.heap.size+1,0,none⟩) ⟨by show w.heap.size≤w.heap.size+1;omega,by rw[doW_size];show w.heap.size+1<w.heap.size+2;omega⟩ _) (p:=⟨w.heap.size+1,1,none⟩) ⟨by show w.heap.size≤w.heap.size+1;omega,by rw[doW_size];show w.heap.size+1<w.heap.size+2;omega⟩ _)
theorem GOk.doneD{p p1:Inhabited ProtD}{B:Nat}{w W:World}{g:Nat}{y:Hp}{op a b c n:Int}(o:Own p w.heap.size (doW w op a b c n).heap.size (doW w op a b c n) p1)(h:@GOk p1 B W g y)(cd nm:Int):@GOk p B (putA W (w.heap.size+1) cd nm).drew g y:=
 GOk.leave o h (Only.drew (Only.setCell (Only.setCell (Only.refl _ W) (p:=⟨w.heap.size+1,0,none⟩) ⟨by show w.heap.size≤w.heap.size+1;omega,by rw[doW_size];show w.heap.size+1<w.heap.size+2;omega⟩ _) (p:=⟨w.heap.size+1,1,none⟩) ⟨by show w.heap.size≤w.heap.size+1;omega,by rw[doW_size];show w.heap.size+1<w.heap.size+2;omega⟩ _))
theorem putA_ext{v W:World}{r:Nat}(h:Ext v W)(hr:v.heap.size≤r)(cd nm:Int):Ext v (putA W r cd nm):=(h.setCell (p:=⟨r,0,none⟩) hr _).setCell (p:=⟨r,1,none⟩) hr _
abbrev DoPost[Inhabited ProtD](B g:Nat)(x:Hp)(a b c:Nat)(n:Int)(k:Nat)(v:World)(e:Ending)(w':World):Prop:=∃(y:Hp) (cd nm:Int),Hid (e=.returned (ansV cd nm))∧Hid (DoR x a b c n y cd nm k)∧Hid (GOk B w' g y)∧Ext v w'
theorem do_fin{p p1:Inhabited ProtD}{B g:Nat}{x y:Hp}{a b c k:Nat}{op n:Int}{w W v:World}{cd nm:Int}(o:Own p w.heap.size (doW w op a b c n).heap.size (doW w op a b c n) p1)(h:@GOk p1 B W g y)(e:Ext v W)(l:v.heap.size≤w.heap.size+1)(d:DoR x a b c n y cd nm k):@DoPost p B g x a b c n k v (.returned (ansV cd nm)) (putA W (w.heap.size+1) cd nm):=
 ⟨y,cd,nm,rfl,d,GOk.done o h cd nm,putA_ext e l cd nm⟩
theorem wd_eq0(a b:Wd)(w:World):(Op.equalIn 10000 139 (.agg #[iv a.k,iv a.n,iv a.a]) (.agg #[iv b.k,iv b.n,iv b.a])).run Tryz.prog w=.ok (wdB a b) w:=by
 rw[run_equalIn_struct w 9999 _ _ _ (by kernel_rfl) (by kernel_rfl)];simp [go_sem,wdB]
 repeat' split
 all_goals simp_all
theorem wd_eq(a b:Wd)(w:World):(binOp .eql 139 (.agg #[iv a.k,iv a.n,iv a.a]) (.agg #[iv b.k,iv b.n,iv b.a])).run Tryz.prog w=.ok (.bool (wdB a b)) w:=by
 rw[run_eql_struct,wd_eq0];rfl
theorem GAt.prow[Inhabited ProtD]{B:Nat}{w w':World}{g:Nat}{x:Hp}{ar:Option Addr}{kr:Nat}{ac:Option Addr}{kc:Nat}{vg:Value}{br bc:Nat}{pb:Nat→Nat}{pa:Nat→Option Addr}{pk:Nat→Nat}{role:Nat→Nat}(h:GAt B w g x ar kr ac kc vg br bc pb pa pk role)(i:Nat)(hi:i<x.cells.length)(r0:0<x.regs.length)(L:List Pr)(qb:Nat)(qa:Option Addr)(qk:Nat)(o:Only (fun q=>q=bc) w w')(nfc:Nf1 bc w')(c7:w'.cell? ⟨bc,i*8+7,none⟩=some (.slice qa L.length qk))(co:∀j,j≠i*8+7→w'.cell? ⟨bc,j,none⟩=w.cell? ⟨bc,j,none⟩)
  (hp:∀k,k<L.length→PrAt w' qb (k*6) (L.getD k Pr0)) (hkL:L.length≤qk) (hN:0<qk→qa=some ⟨qb,0,none⟩∧Nfp qb qk w'∧w.heap.size≤qb∧B≤qb) :
  GAt B w' g { x with cells:=x.cells.set i { x.c i with prs:=L } } ar kr ac kc vg br bc (fun q=>if q=i then qb else pb q) (fun q=>if q=i then qa else pa q) (fun q=>if q=i then qk else pk q) (fun d=>if w.heap.size≤d then 6+i else role d):=by
 have hn:0<x.cells.length:=by omega
 have far:∀q,q<w.heap.size→role q≠3→w'.heap[q]?=w.heap[q]?:=fun q hq hr=>o.block q hq (fun e=>hr (by rw[e];exact h.sp.c hn))
 have old:∀q,q<w.heap.size→(if w.heap.size≤q then 6+i else role q)=role q:=fun q hq=>if_neg (by omega)
 have hl:({ x with cells:=x.cells.set i { x.c i with prs:=L } }:Hp).cells.length=x.cells.length:=by simp
 have hc:=Hp.c_set x i { x.c i with prs:=L } hi;have hne:∀q,q≠i→(({ x with cells:=x.cells.set i { x.c i with prs:=L } }:Hp).c q)=x.c q:=fun q e=>by rw[hc q,if_neg e]
 have hei:(({ x with cells:=x.cells.set i { x.c i with prs:=L } }:Hp).c i)={ x.c i with prs:=L }:=by rw[hc i,if_pos rfl]
 have fg:=far g h.nf.1 (by rw[h.sp.g];omega);have pf:∀q,q<x.cells.length→0<pk q→w'.heap[pb q]?=w.heap[pb q]?:=fun q hq hl=>far (pb q) (h.rw.pl q hq hl).2.1.1 (by rw[h.sp.p q hq hl];omega)
 have fr:0<x.regs.length→w'.heap[br]?=w.heap[br]?:=fun hr=>far br (h.rw.nr hr).1.1 (by rw[h.sp.r hr];omega)
 refine⟨?_,nf1_block h.nf fg o.size,h.lo,h.ha,fun _=>h.hc hn,⟨fun j hj=>?_,fun q hq=>?_,fun q hq=>?_,fun q hq j hj=>?_,fun q hq hlq=>?_,fun hr=>⟨nf1_block (h.rw.nr hr).1 (fr hr) o.size,(h.rw.nr hr).2⟩,fun _=>⟨nfc,(h.rw.nc hn).2⟩,fun _=>h.rw.d hn,fun q q' hq hq' hqq h1 h2=>?_,fun q hq=>?_⟩,h.gr.block (fun q hq=>far q (h.gr.lt q hq).2 (by rw[h.sp.y q hq];omega)),⟨?_,fun hr=>?_,fun _=>?_,fun q hq=>?_,fun q hq hlq=>?_⟩,by rw[hl];exact h.kl,h.pr.of (fun q hq h1=>far q hq (by rw[h1];omega)) (fun q hq h1=>by(try dsimp only);rw[if_neg (by omega)];exact h1),fun hk=>(h.cc hk).cells (old bc (h.cc hk).nf.1) nfc (fun j v _ hv=>?_)⟩
 ·rw[hl];exact h.bx.block fg
 ·exact(h.rw.r j hj).of fun m _=>World.cell?_of_block (a:=⟨br,_,none⟩) (fr (by have:j<x.regs.length:=hj;omega))
 ·rw[hl] at hq;have key:S7 w' bc (q*8) (x.c q):=(h.rw.s q hq).of fun m hm=>co _ (by omega)
  by_cases e:q=i
  ·subst e;rw[hei];exact key
  ·rw[hne q e];exact key
 ·rw[hl] at hq;by_cases e:q=i
  ·subst e;rw[hei];simp only [if_true];exact c7
  ·rw[hne q e];simp only [if_neg e];rw[co _ (by omega)];exact h.rw.p7 q hq
 ·rw[hl] at hq;by_cases e:q=i
  ·subst e;rw[hei] at hj ⊢;simp only [if_true];exact hp j hj
  ·rw[hne q e] at hj ⊢;simp only [if_neg e];exact(h.rw.p q hq j hj).of fun m _=>World.cell?_of_block (a:=⟨pb q,_,none⟩) (pf q hq (h.rw.pw hq (by omega)))
 ·rw[hl] at hq;by_cases e:q=i
  ·subst e;simp only [if_true] at hlq ⊢;obtain⟨a1,a2,a3,a4⟩:=hN hlq;refine⟨a1,a2,⟨fun e=>?_,fun e=>?_⟩,a4⟩
   ·have:=(h.rw.nr r0).1.1;omega
   ·have:=(h.rw.nc hn).1.1;omega
  ·simp only [if_neg e] at hlq ⊢;obtain⟨a1,a2,a3,a4⟩:=h.rw.pl q hq hlq;exact⟨a1,nfp_block a2 (pf q hq hlq) o.size,a3,a4⟩
 ·rw[hl] at hq hq';by_cases e:q=i
  ·subst e;have e':q'≠q:=fun e=>hqq e.symm
   simp only [if_true,if_neg e'] at h1 h2 ⊢;have:=(h.rw.pl q' hq' h2).2.1.1;have:=(hN h1).2.2.1;omega
  ·by_cases e2:q'=i
   ·subst e2;simp only [if_true,if_neg e] at h1 h2 ⊢;have:=(h.rw.pl q hq h1).2.1.1;have:=(hN h2).2.2.1;omega
   ·simp only [if_neg e,if_neg e2] at h1 h2 ⊢;exact h.rw.dp q q' hq hq' hqq h1 h2
 ·rw[hl] at hq;by_cases e:q=i
  ·subst e;rw[hei];simp only [if_true];exact hkL
  ·rw[hne q e];simp only [if_neg e];exact h.rw.kp q hq
 ·rw[old g h.nf.1];exact h.sp.g
 ·rw[old br (h.rw.nr hr).1.1];exact h.sp.r hr
 ·rw[old bc (h.rw.nc hn).1.1];exact h.sp.c hn
 ·rw[old q (h.gr.lt q hq).2];exact h.sp.y q hq
 ·rw[hl] at hq;by_cases e:q=i
  ·subst e;simp only [if_true] at hlq ⊢;rw[if_pos (hN hlq).2.2.1]
  ·simp only [if_neg e] at hlq ⊢;rw[old (pb q) (h.rw.pl q hq hlq).2.1.1];exact h.sp.p q hq hlq
 ·by_cases e:j=i*8+7
  ·rw[e];exact⟨_,c7⟩
  ·exact⟨v,(co j e).trans hv⟩
theorem l4scanned_any[Inhabited ProtD]{B:Nat}{w:World}{g:Nat}{x:Hp}{ar:Option Addr}{kr:Nat}{ac:Option Addr}{kc:Nat}{vg:Value}{br bc:Nat}{pb:Nat→Nat}{pa:Nat→Option Addr}{pk:Nat→Nat}{role:Nat→Nat}(h:GAt B w g x ar kr ac kc vg br bc pb pa pk role):
  Calls Tryz.prog 236 #[.pointer (some ⟨g,0,none⟩)] w fun e w'=>e=.returned (.int .i64 (scanI x))∧Ext w w':=by
 obtain⟨ag,kg,hvg⟩:=h.gr.form;subst hvg;have c4:=h.bx.2.2.2.2.1;have c5:=h.bx.2.2.2.2.2.1;have c6:=h.bx.2.2.2.2.2.2.1;have c8:=h.bx.2.2.2.2.2.2.2.2.1;have GA:=hide (fun i hi=>h.gr.at i hi);clear h;cases q2:(x.phase == 2)
 ·cases q5:(x.phase == 5)
  ·have E:=hide (show scanI x = -1 by unfold scanI;rw[if_neg (fun h=>by simp [h.1] at q2),if_neg (fun h=>by simp [h.1] at q5)]);go_enter Tryz.func236,Tryz.ntmps236;go_wp2_with fail;go_quiet (fail);go_wp2_with fail;go_ret;exact⟨by rw[unhide E];rfl,by repeat (first | exact Ext.refl _ | refine Ext.drewN ?_ _ | refine Ext.drew ?_)⟩
  ·by_cases hl:x.hand<x.cells.length
   ·have E:=hide (show scanI x=x.hand by unfold scanI;rw[if_neg (fun h=>by simp [h.1] at q2),if_pos ⟨by simpa using q5,hl⟩]);go_enter Tryz.func236,Tryz.ntmps236;go_wp2_with fail;go_quiet (fail);go_wp2_with fail;go_ret;exact⟨by rw[unhide E];rfl,by repeat (first | exact Ext.refl _ | refine Ext.drewN ?_ _ | refine Ext.drew ?_)⟩
   ·have E:=hide (show scanI x = -1 by unfold scanI;rw[if_neg (fun h=>by simp [h.1] at q2),if_neg (fun h=>hl h.2)]);go_enter Tryz.func236,Tryz.ntmps236;go_wp2_with fail;go_quiet (fail);go_wp2_with fail;go_ret;exact⟨by rw[unhide E];rfl,by repeat (first | exact Ext.refl _ | refine Ext.drewN ?_ _ | refine Ext.drew ?_)⟩
 ·have q5:(x.phase == 5)=false:=by simp at q2 ⊢;omega
  by_cases hl:0<x.gray.length
  ·obtain⟨gb,go,rfl,gc,_⟩:=unhide GA 0 hl;have E:=hide (show scanI x=x.gray[0] by unfold scanI;rw[if_pos ⟨by simpa using q2,hl⟩];simp [hl]);have g0:(x.gray.length:Int) > 0:=by omega
   have g1:(0:Int)<(x.gray.length:Int):=by omega
   rw[Nat.add_zero] at gc;go_enter Tryz.func236,Tryz.ntmps236;go_wp2_with fail;go_ret;exact⟨by rw[unhide E];rfl,by repeat (first | exact Ext.refl _ | refine Ext.drewN ?_ _ | refine Ext.drew ?_)⟩
  ·have E:=hide (show scanI x = -1 by unfold scanI;rw[if_neg (fun h=>hl h.2),if_neg (fun h=>by simp [h.1] at q5)]);have g0:¬(x.gray.length:Int) > 0:=by omega
   go_enter Tryz.func236,Tryz.ntmps236;go_wp2_with fail;go_quiet (fail);go_wp2_with fail;go_ret;exact⟨by rw[unhide E];rfl,by repeat (first | exact Ext.refl _ | refine Ext.drewN ?_ _ | refine Ext.drew ?_)⟩
theorem l4lost_any[Inhabited ProtD]{B:Nat}{w:World}{g:Nat}{x:Hp}{ar:Option Addr}{kr:Nat}{ac:Option Addr}{kc:Nat}{vg:Value}{br bc:Nat}{pb:Nat→Nat}{pa:Nat→Option Addr}{pk:Nat→Nat}{role:Nat→Nat}(h:GAt B w g x ar kr ac kc vg br bc pb pa pk role)(H:Nat→Bool)(bs:Nat)(hs:∀j,j<x.cells.length→w.cell? ⟨bs,j,none⟩=some (.bool (H j)))(y:Wd)(hy:Formed y x.cells.length)(hr:(resW x y).k=2→0≤(resW x y).a∧(resW x y).a<x.cells.length):
  Calls Tryz.prog 215 #[.pointer (some ⟨g,0,none⟩),.slice (some ⟨bs,0,none⟩) x.cells.length x.cells.length,y.v] w fun e w'=>e=.returned (.bool (lostB x H y))∧Ext w w':=by
 have XA:=(Ext.refl w).alloc (.cells #[iv y.k,iv y.n,iv y.a] 139);have QR:=hide (gres_any y _ (h.ext XA) hy);have HS:=hide (show ∀W,Ext w W→∀j,j<x.cells.length→W.cell? ⟨bs,j,none⟩=some (.bool (H j)) from fun W e j hj=>e.keep (hs j hj));have XA2:=hide XA;obtain⟨r,hrr⟩:∃r,r=resW x y:=⟨_,rfl⟩;have LB:=hide (show lostB x H y=(r.k == 2 && !H r.a.toNat) by unfold lostB;rw[hrr]);rw[←hrr] at QR hr;clear h hs XA hrr;go_enter Tryz.func215,Tryz.ntmps215;go_wp2_with fail;refine(unhide QR).mono ?_;rintro e w1 ⟨rfl,q1⟩;have X1:=hide ((unhide XA2).trans q1);cases q:(r.k == 2)
 ·have E:=hide (show lostB x H y=false by rw[unhide LB,q];rfl);go_wp2_with fail;go_ret;exact⟨by rw[unhide E];rfl,by repeat (first | exact unhide X1 | refine Ext.drewN ?_ _ | refine Ext.drew ?_ | refine Ext.alloc ?_ _)⟩
 ·obtain⟨a0,a1⟩:=hr (by simpa using q);obtain⟨j,hj⟩:∃j:Nat,r.a=(j:Int):=⟨r.a.toNat,by omega⟩;have hjl:j<x.cells.length:=by omega
  have c0:=unhide HS w1 (unhide X1) j hjl;have j0:(0:Int)≤(j:Int):=by omega
  have j1:(j:Int)<(x.cells.length:Int):=by omega
  have hb:bs<w1.heap.size:=cell_lt c0;have E:=hide (show lostB x H y = !H j by rw[unhide LB,q,hj];rfl);cases hH:H j
  all_goals
   rw[hH] at c0;have E2:=hide (unhide E);rw[hH] at E2;go_wp2_with fail;go_ret;exact⟨by rw[unhide E2];rfl,by repeat (first | exact unhide X1 | refine Ext.drewN ?_ _ | refine Ext.drew ?_ | refine Ext.alloc ?_ _)⟩
theorem wrap_wide(n:Int)(h0:-4000000≤n)(h1:n≤4000000):wrap64 n=n:=by unfold wrap64;omega
def cutH(x:Hp)(i k:Nat):Hp:={ x with cells:=x.cells.set i { x.c i with prs:=(x.c i).prs.eraseIdx k },used:=x.used-1,sub:=if (k:Int)<x.sub∧scanI x=(i:Int) then x.sub-1 else x.sub }
theorem take_erase(l:List Pr)(k j:Nat)(h:j<l.length):(l.take (j+1)).eraseIdx k=if j=k then l.take j else (l.take j).eraseIdx k++[l[j]]:=by
 rw[List.take_succ_eq_append_getElem h];have hl:(l.take j).length=j:=by simp;omega
 by_cases e:j=k
 ·rw[if_pos e,List.eraseIdx_append_of_length_le (by omega),hl,show k-j=0 by omega];simp
 ·rw[if_neg e];rcases Nat.lt_or_ge k j with q | q
  ·rw[List.eraseIdx_append_of_lt_length (by omega)]
  ·rw[List.eraseIdx_append_of_length_le (by omega),hl,List.eraseIdx_of_length_le (l:=l.take j) (by omega)]
   congr 1
   rw[List.eraseIdx_of_length_le];simp;omega
theorem cut_no{w:World}{B:Nat}{v:Value}{l:List Pr}{k j:Nat}(h:Hid (w.ownsRow B 178 6 v ((l.take j).eraseIdx k).length (((l.take j).eraseIdx k).flatMap fP)))(hj:j<l.length)(e:j=k):Hid (w.ownsRow B 178 6 v ((l.take (j+1)).eraseIdx k).length (((l.take (j+1)).eraseIdx k).flatMap fP)):=by
 rw[take_erase l k j hj,if_pos e];have:(l.take j).eraseIdx k=l.take j:=List.eraseIdx_of_length_le (by simp;omega);rw[this] at h;exact h
theorem cut_all{w:World}{B:Nat}{v:Value}{l:List Pr}{k j:Nat}(h:Hid (w.ownsRow B 178 6 v ((l.take j).eraseIdx k).length (((l.take j).eraseIdx k).flatMap fP)))(hj:l.length≤j):Hid (w.ownsRow B 178 6 v (l.eraseIdx k).length ((l.eraseIdx k).flatMap fP)):=by
 rw[List.take_of_length_le hj] at h;exact h
theorem ownsP_ext{w w':World}{B:Nat}{v:Value}{n:Nat}{l:List Value}(h:Hid (w.ownsRow B 178 6 v n l))(e:Ext w w'):Hid (w'.ownsRow B 178 6 v n l):=ownsRow_of_block h (fun q hq=>e.block q ((unhide h).lt q hq).2)
def GK[Inhabited ProtD](B:Nat)(w:World)(g:Nat)(x:Hp)(ar:Option Addr)(kr:Nat)(ac:Option Addr)(kc:Nat)(vg:Value)(br bc:Nat):Prop:=∃pb pa pk role,GAt B w g x ar kr ac kc vg br bc pb pa pk role
theorem GK.ext[Inhabited ProtD]{B:Nat}{w w':World}{g:Nat}{x:Hp}{ar:Option Addr}{kr:Nat}{ac:Option Addr}{kc:Nat}{vg:Value}{br bc:Nat}(h:GK B w g x ar kr ac kc vg br bc)(e:Ext w w'):GK B w' g x ar kr ac kc vg br bc:=let ⟨pb,pa,pk,role,h⟩:=h;⟨pb,pa,pk,role,h.ext e⟩
theorem GK.ok[Inhabited ProtD]{B:Nat}{w:World}{g:Nat}{x:Hp}{ar:Option Addr}{kr:Nat}{ac:Option Addr}{kc:Nat}{vg:Value}{br bc:Nat}(h:GK B w g x ar kr ac kc vg br bc):GOk B w g x:=let ⟨pb,pa,pk,role,h⟩:=h;⟨_,_,_,_,_,_,_,pb,pa,pk,role,h⟩
theorem GK.set1[Inhabited ProtD]{B:Nat}{w:World}{g:Nat}{x:Hp}{ar:Option Addr}{kr:Nat}{ac:Option Addr}{kc:Nat}{vg:Value}{br bc:Nat}(h:GK B w g x ar kr ac kc vg br bc)(v:Int):GK B (w.setCell ⟨g,1,none⟩ (iv v)) g { x with used:=v } ar kr ac kc vg br bc:=let ⟨_,_,_,_,h⟩:=h;⟨_,_,_,_,h.boxed (x':={ x with used:=v }) (Only.setCell (S:=fun q=>q=g) (Only.refl _ w) (p:=⟨g,1,none⟩) rfl _) (h.nf.set _ _) rfl rfl rfl (h.bx.set1 v)⟩
theorem GK.set7[Inhabited ProtD]{B:Nat}{w:World}{g:Nat}{x:Hp}{ar:Option Addr}{kr:Nat}{ac:Option Addr}{kc:Nat}{vg:Value}{br bc:Nat}(h:GK B w g x ar kr ac kc vg br bc)(v:Int):GK B (w.setCell ⟨g,7,none⟩ (iv v)) g { x with sub:=v } ar kr ac kc vg br bc:=let ⟨_,_,_,_,h⟩:=h;⟨_,_,_,_,h.boxed (x':={ x with sub:=v }) (Only.setCell (S:=fun q=>q=g) (Only.refl _ w) (p:=⟨g,7,none⟩) rfl _) (h.nf.set _ _) rfl rfl rfl (h.bx.set7 v)⟩
def Fr2(g bc:Nat)(w w':World):Prop:=w.heap.size≤w'.heap.size∧∀q,q<w.heap.size→q≠g→q≠bc→w'.heap[q]?=w.heap[q]?
theorem Fr2.ext{g bc:Nat}{w w1 w2:World}(h:Fr2 g bc w w1)(e:Ext w1 w2):Fr2 g bc w w2:=⟨Nat.le_trans h.1 e.size,fun q h1 h2 h3=>(e.block q (Nat.lt_of_lt_of_le h1 h.1)).trans (h.2 q h1 h2 h3)⟩
theorem Fr2.of{g bc:Nat}{w w1:World}(e:Ext w w1):Fr2 g bc w w1:=⟨e.size,fun q h1 _ _=>e.block q h1⟩
theorem Fr2.set{g bc:Nat}{w w1:World}(h:Fr2 g bc w w1)(p:Addr)(hp:p.block=g∨p.block=bc)(u:Value):Fr2 g bc w (w1.setCell p u):=⟨by have:=h.1;simpa [World.setCell] using this,fun q h1 h2 h3=>(Below.heap_setCell _ _ _ _ (by rcases hp with e | e <;> rw[e] <;> assumption)).trans (h.2 q h1 h2 h3)⟩
theorem Fr2.trans{g bc:Nat}{a b c:World}(h:Fr2 g bc a b)(k:Fr2 g bc b c):Fr2 g bc a c:=⟨Nat.le_trans h.1 k.1,fun q h1 h2 h3=>(k.2 q (Nat.lt_of_lt_of_le h1 h.1) h2 h3).trans (h.2 q h1 h2 h3)⟩
theorem own_sl{w:World}{B:Nat}{T:TypeId}{c n:Nat}{v:Value}{xs:List Value}(h:w.ownsRow B T c v n xs):∃va vq,v=.slice va n vq:=⟨_,_,(own_form h).1⟩
theorem prow_own[Inhabited ProtD]{B:Nat}{w wr:World}{g:Nat}{x:Hp}{ar:Option Addr}{kr:Nat}{ac:Option Addr}{kc:Nat}{vg:Value}{br bc:Nat}{pb:Nat→Nat}{pa:Nat→Option Addr}{pk:Nat→Nat}{role:Nat→Nat}(h:GAt B w g x ar kr ac kc vg br bc pb pa pk role)(i:Nat)(hi:i<x.cells.length)(r0:0<x.regs.length)(L:List Pr)(va:Option Addr)(vq:Nat)(e:Ext w wr)(ow:wr.ownsRow w.heap.size 178 6 (.slice va L.length vq) L.length (L.flatMap fP)):
  GK B (wr.setCell ⟨bc,i*8+7,none⟩ (.slice va L.length vq)) g { x with cells:=x.cells.set i { x.c i with prs:=L } } ar kr ac kc vg br bc:=by
 have hn:0<x.cells.length:=by omega
 have hBg:B≤w.heap.size:=Nat.le_trans h.lo (Nat.le_of_lt h.nf.1);have hbc:=(h.rw.nc hn).1;obtain⟨ad,cap,e1,e2,hc⟩:=own_cells (f:=fP) (fun _=>rfl) ow
 injection e1 with e1 _ e3
 subst e1 e3
 have hq:∀qb,va=some ⟨qb,0,none⟩→w.heap.size≤qb∧qb<wr.heap.size∧qb≠bc:=fun qb hv=>by
  have:=ow.lt qb (by rw[hv];rfl);have:=hbc.1;omega
 have c7:(wr.setCell ⟨bc,i*8+7,none⟩ (.slice va L.length vq)).cell? ⟨bc,i*8+7,none⟩=some (.slice va L.length vq):=World.cell?_setCell_same _ _ _ (e.keep (h.rw.p7 i hi));refine⟨_,_,_,_,h.prow i hi r0 L (vblk (.slice va L.length vq)) va vq (Only.setCell (S:=fun q=>q=bc) (Only.of_ext e) (p:=⟨bc,i*8+7,none⟩) rfl _) ((hbc.ext e).set _ _) c7 (fun j hj=>?_) (fun k hk=>?_) (own_kp ow) (fun hl=>?_)⟩
 ·rw[cell_other _ (.inr (fun e=>hj e.symm))];exact(bcell e).1 bc j hbc.1
 ·obtain⟨qb,rfl⟩:=e2 (by omega);obtain⟨q2,e4,_,_,hcc⟩:=hc k hk
  injection e4 with e4
  injection e4 with e4
  subst e4;have el:L.getD k Pr0=L[k]:=by simp [hk]
  rw[el]
  have key:∀m,m<6→(wr.setCell ⟨bc,i*8+7,none⟩ (.slice (some ⟨qb,0,none⟩) L.length vq)).cell? ⟨qb,k*6+m,none⟩=(fP L[k])[m]?:=fun m hm=>by
   rw[cell_other _ (.inl (fun e=>(hq qb rfl).2.2 e.symm))];have:=hcc m hm
   rwa [Nat.zero_add] at this
  exact⟨key 0 (by omega),key 1 (by omega),key 2 (by omega),key 3 (by omega),key 4 (by omega),key 5 (by omega)⟩
 ·obtain⟨o1,_,o3,_⟩:=own_pw ow hl;have hb:=hq _ o1;exact⟨o1,nfp_block o3 (Below.heap_setCell _ _ _ _ hb.2.2) (by simp [World.setCell]),hb.1,Nat.le_trans hBg hb.1⟩
theorem l4cut_any[Inhabited ProtD]{B:Nat}{w:World}{g:Nat}{x:Hp}{ar:Option Addr}{kr:Nat}{ac:Option Addr}{kc:Nat}{vg:Value}{br bc:Nat}(h:GK B w g x ar kr ac kc vg br bc)(i k:Nat)(hi:i<x.cells.length)(hk:k<(x.c i).prs.length)(r0:0<x.regs.length)(h200:(x.c i).prs.length≤200)(hu:-3000000≤x.used∧x.used≤1000000)(hsb:-3000000≤x.sub∧x.sub≤1000000)(n8:x.cells.length≤8000)(a:World)(ha:a.heap.size≤B)(hx:Ext a w):
  Calls Tryz.prog 216 #[.pointer (some ⟨g,0,none⟩),.int .i64 i,.int .i64 k] w fun e w'=>e=.returned (.tuple #[])∧GK B w' g (cutH x i k) ar kr ac kc vg br bc∧Fr2 g bc w w'∧Ext a w':=by
 obtain⟨pb,pa,pk,role,h⟩:=h;have hn:0<x.cells.length:=by omega
 have HH:=hide h;have c4:=h.bx.2.2.2.2.1;rw[h.hc hn] at c4;have p7:=h.rw.p7 i hi;have PL:=hide (h.rw.pl i hi (h.rw.pw hi (by omega)));obtain⟨i0,hi0,hz0,hz1,hz2⟩:=info_parts infoPairs;have j0:(0:Int)≤(i:Int):=by omega
 have j1:(i:Int)<(x.cells.length:Int):=by omega
 rw[(unhide PL).1] at p7;have hgw:g<w.heap.size:=cell_lt c4;have hbw:bc<w.heap.size:=cell_lt p7;have XS:=hide hx;clear h;go_enter Tryz.func216,Tryz.ntmps216;go_wp2_with fail;obtain⟨l,hl⟩:∃l,l=(x.c i).prs:=⟨_,rfl⟩;rw[←hl] at p7 hk h200
 have PP:=hide (show ∀j (hj:j<l.length),PrAt w (pb i) (j*6) l[j] from fun j hj=>by
  have h1:=(unhide HH).rw.p i hi j (by rw[←hl];exact hj);have h2:(x.c i).p j=l[j]:=by simp [Cl.p,←hl,hj]
  rw[h2] at h1;exact h1)
 have HL:=hide hl;have C4:=hide c4;have P7:=hide p7;rw[←hl];clear hl;go_loopw [6,18] (fun v s wr=>∃j:Nat,j≤l.length∧s=.int .i64 j∧Hid (wr.ownsRow w.heap.size 178 6 v ((l.take j).eraseIdx k).length (((l.take j).eraseIdx k).flatMap fP))∧Ext w wr) (fun _ s _=>l.length-(intOf s).toNat)
 case atStart=>exact⟨0,Nat.zero_le _,rfl,World.ownsRow_nil _ _ _ _,Ext.refl _⟩
 case round=>
  clear c4 p7;obtain⟨j,hj,rfl,hown,hbl⟩:=hrel;by_cases hlt:j<l.length
  ·obtain⟨e0,e1,e2,e3,e4,e5⟩:=(unhide PP j hlt).ext hbl;have hb':pb i<wr.heap.size:=cell_lt e0;have k0:(0:Int)≤(j:Int):=by omega
   have k1:(j:Int)<(l.length:Int):=by omega
   have NO:=hide (fun q=>cut_no hown hlt q);have YES:=hide (take_erase l k j hlt);have LE:=hide (show((l.take j).eraseIdx k).length≤j by have:=List.length_eraseIdx_le (l.take j) k;simp at this;omega);obtain⟨y,hy⟩:∃y,y=l[j]:=⟨_,rfl⟩;rw[←hy] at e0 e1 e2 e3 e4 e5 YES;clear hy;obtain⟨L,hL⟩:∃L,L=(l.take j).eraseIdx k:=⟨_,rfl⟩;rw[←hL] at hown YES LE;clear hL;have xa:=(Ext.refl wr).alloc (.cells #[iv y.key.k,iv y.key.n,iv y.key.a,iv y.val.k,iv y.val.n,iv y.val.a] 178);by_cases e:j=k
   ·have eb:((j:Int) != (k:Int))=false:=by simp [e]
    have N:=hide (unhide (ownsP_ext (unhide NO e) xa));clear NO YES e;go_wp2_with fail;go_roundw
    case rel=>exact⟨j+1,by omega,by go_num,unhide N,hbl.trans xa⟩
    case measure=>simp [intOf];omega
   ·have eb:((j:Int) != (k:Int))=true:=by simp;omega
    have Y:=hide (show(l.take (j+1)).eraseIdx k=L++[y] by rw[unhide YES,if_neg e]);clear NO YES e;go_wp2_with (at_builtin;refine wpList_append_lies _ rfl _ _ 132 rfl w.heap.size 178 i0 (.agg #[iv 0,iv 0,iv 0,iv 0,iv 0,iv 0]) 6 48 Tryz.underlying132 hi0 hz0 hz1 hz2 rfl (by decide) _ L.length (L.flatMap fP) rfl (((unhide hown).alloc _).alloc _) _ 1 1 (fP y) rfl rfl ?c1 ?c2 (by decide) ?c3 ?c4 ?c5 _ rfl ?_)
    case c1=>
     intro q u hk
     match q,hk with
     | 0,hk=>simp [fP] at hk;subst hk;simp [Addr.add,go_sem]
     | 1,hk=>simp [fP] at hk;subst hk;simp [Addr.add,go_sem]
     | 2,hk=>simp [fP] at hk;subst hk;simp [Addr.add,go_sem]
     | 3,hk=>simp [fP] at hk;subst hk;simp [Addr.add,go_sem]
     | 4,hk=>simp [fP] at hk;subst hk;simp [Addr.add,go_sem]
     | 5,hk=>simp [fP] at hk;subst hk;simp [Addr.add,go_sem]
     | q+6,hk=>simp [fP] at hk
    case c2=>intro u hu;simp [fP] at hu;rcases hu with e | e | e | e | e | e <;> subst e <;> rfl
    case c3=>have:=unhide LE;unfold maxLen;omega
    case c4=>have:=unhide LE;omega
    case c5=>have:=hbl.size;simp;omega
    intro gq cap' w2 hown2 hgrow hat hglt
    have R:=hide (show w2.ownsRow w.heap.size 178 6 (.slice (some ⟨gq,0,none⟩) (L.length+1) cap') ((l.take (j+1)).eraseIdx k).length (((l.take (j+1)).eraseIdx k).flatMap fP) by
     rw[unhide Y,List.flatMap_append]
     simpa using hown2)
    have X2:=hide (grown_ext ((hbl.alloc _).alloc _) (((unhide hown).alloc _).alloc _) (Nat.le_refl _) hgrow);clear hown2 hgrow hat Y;go_wp2_with fail;go_roundw
    case rel=>exact⟨j+1,by omega,by go_num,unhide R,unhide X2⟩
    case measure=>simp [intOf];omega
  ·have OW:=hide (unhide (cut_all hown (by omega)));obtain⟨va,vq,hv⟩:=own_sl (unhide OW);subst hv;have G1:=hide (prow_own (unhide HH) i hi r0 (l.eraseIdx k) va vq hbl (unhide OW));have d4:=hbl.keep (unhide C4);have d7:=hbl.keep (unhide P7);have hgr:g<wr.heap.size:=cell_lt d4;have hbr:bc<wr.heap.size:=cell_lt d7;have fc:=(((unhide HH).ext hbl).rw.nc hn).1.2 (i*8+7);have X1:=hide (show Ext a (wr.setCell ⟨bc,i*8+7,none⟩ (.slice va (l.eraseIdx k).length vq)) from((unhide XS).trans hbl).setCell (p:=⟨bc,i*8+7,none⟩) (Nat.le_trans ha ((unhide HH).rw.nc hn).2) _);have ngc:¬g=bc:=fun e=>by have h1:=(unhide HH).sp.g;have h2:=(unhide HH).sp.c hn;rw[e] at h1;omega
   have ncg:¬bc=g:=fun e=>ngc e.symm
   have b1:=hbl.keep (unhide HH).bx.2.1;have b7:=hbl.keep (unhide HH).bx.2.2.2.2.2.2.2.1;have f1:=((unhide HH).ext hbl).nf.2 1;have f7:=((unhide HH).ext hbl).nf.2 7;have wu:wrap64 (x.used-1)=x.used-1:=wrap_wide _ (by omega) (by omega);have G2:=hide ((unhide G1).set1 (x.used-1));have LO:=hide (unhide HH).lo;have FR:=hide (((Fr2.of (g:=g) (bc:=bc) hbl).set ⟨bc,i*8+7,none⟩ (.inr rfl) (.slice va (l.eraseIdx k).length vq)).set ⟨g,1,none⟩ (.inl rfl) (iv (x.used-1)));have X2:=hide ((unhide X1).setCell (p:=⟨g,1,none⟩) (Nat.le_trans ha (unhide HH).lo) (iv (x.used-1)));clear hown OW;obtain⟨z,hz⟩:∃z:Hp,z={ ({ x with cells:=x.cells.set i { x.c i with prs:=l.eraseIdx k } }:Hp) with used:=x.used-1 }:=⟨_,rfl⟩;have HZ:=hide hz;have SZ:=hide (show scanI z=scanI x by rw[hz];unfold scanI;simp);have ZS:=hide (show z.sub=x.sub by rw[hz]);have G2:=hide (show GK B ((wr.setCell ⟨bc,i*8+7,none⟩ (.slice va (l.eraseIdx k).length vq)).setCell ⟨g,1,none⟩ (iv (x.used-1))) g z ar kr ac kc vg br bc by rw[hz];exact unhide G2);clear hz;by_cases hks:(k:Int)<x.sub
   ·obtain⟨pb2,pa2,pk2,role2,g2⟩:=unhide G2;have QS:=hide (l4scanned_any g2);rw[unhide SZ] at QS;clear g2;go_wp2_with fail;refine(unhide QS).mono ?_;rintro e w3 ⟨rfl,q3⟩;have G3:=hide ((unhide G2).ext q3);have X3:=hide ((unhide X2).trans q3);have d1:w3.cell? ⟨g,7,none⟩=some (iv x.sub):=by have:=(unhide G3).ok.box;exact this.2.1.trans (by rw[unhide ZS])
    have d2:w3.frozen? ⟨g,7,none⟩=false:=by obtain⟨_,_,_,_,g3⟩:=unhide G3;exact g3.nf.2 7
    have hg3:g<w3.heap.size:=cell_lt d1;have ws:wrap64 (x.sub-1)=x.sub-1:=wrap_wide _ (by omega) (by omega);cases q:(scanI x == (i:Int))
    ·have E:=hide (show cutH x i k=z by rw[unhide HZ];unfold cutH;rw[if_neg (fun h=>by simp [h.2] at q),unhide HL]);go_wp2_with fail
     go_end0
     exact⟨rfl,by rw[unhide E];exact unhide G3,(unhide FR).ext q3,unhide X3⟩
    ·have E:=hide (show cutH x i k={ z with sub:=x.sub-1 } by rw[unhide HZ];unfold cutH;rw[if_pos ⟨hks,by simpa using q⟩,unhide HL]);have G4:=hide ((unhide G3).set7 (x.sub-1));have X4:=hide ((unhide X3).setCell (p:=⟨g,7,none⟩) (Nat.le_trans ha (unhide LO)) (iv (x.sub-1)));go_wp2_with fail
     go_end0
     exact⟨rfl,by rw[unhide E];exact unhide G4,((unhide FR).ext q3).set ⟨g,7,none⟩ (.inl rfl) _,unhide X4⟩
   ·have E:=hide (show cutH x i k=z by rw[unhide HZ];unfold cutH;rw[if_neg (fun h=>hks h.1),unhide HL]);go_wp2_with fail
    go_end0
    exact⟨rfl,by rw[unhide E];exact unhide G2,unhide FR,unhide X2⟩
def inH(x:Hp)(H:Nat→Bool)(b:Hp)(i k:Nat):Hp:={ b with cells:=b.cells.set i { x.c i with prs:=(x.c i).prs.take k++stay x H (x.c i) ((x.c i).prs.drop k) },used:=b.used-goes x H (x.c i) ((x.c i).prs.drop k),sub:=if scanI x=(i:Int) then b.sub-goes x H (x.c i) (((x.c i).prs.take b.sub.toNat).drop k) else b.sub }
theorem stay_cons(x:Hp)(H:Nat→Bool)(c:Cl)(p:Pr)(l:List Pr):stay x H c (p::l)=if goB x H c p=true then stay x H c l else p::stay x H c l:=by
 unfold stay;cases h:goB x H c p <;> simp [h]
theorem goes_cons(x:Hp)(H:Nat→Bool)(c:Cl)(p:Pr)(l:List Pr):goes x H c (p::l)=if goB x H c p=true then goes x H c l+1 else goes x H c l:=by
 unfold goes;cases h:goB x H c p <;> simp [h]
theorem goes_le(x:Hp)(H:Nat→Bool)(c:Cl)(l:List Pr):goes x H c l≤l.length:=by
 have:=stay_goes x H c l;omega
theorem drop_cons(l:List Pr)(k:Nat)(h:k<l.length):l.drop k=l[k]::l.drop (k+1):=List.drop_eq_getElem_cons h
theorem takedrop(l:List Pr)(s k:Nat)(h:k<s)(hs:s≤l.length):(l.take s).drop k=(l[k]'(by omega))::(l.take s).drop (k+1):=by
 rw[List.drop_eq_getElem_cons (by simp;omega)];simp
theorem inH_top(x:Hp)(H:Nat→Bool)(b:Hp)(i:Nat)(hi:i<b.cells.length)(hb:b.c i=x.c i):inH x H b i (x.c i).prs.length=b:=by
 have e1:(x.c i).prs.drop (x.c i).prs.length=[]:=List.drop_length;have e2:((x.c i).prs.take b.sub.toNat).drop (x.c i).prs.length=[]:=List.drop_eq_nil_of_le (by simp;omega);unfold inH;rw[e1,e2,List.take_length]
 have e3:b.cells.set i { x.c i with prs:=(x.c i).prs++stay x H (x.c i) [] }=b.cells:=by
  have:({ x.c i with prs:=(x.c i).prs++stay x H (x.c i) [] }:Cl)=b.cells[i]:=by rw[Hp.c_eq b i hi,hb];simp [stay]
  rw[this];simp
 rw[e3];simp [goes]
theorem inH_keep(x:Hp)(H:Nat→Bool)(b:Hp)(i k:Nat)(hk:k<(x.c i).prs.length)(q:goB x H (x.c i) (x.c i).prs[k]=false)(hs:scanI x=(i:Int)→b.sub≤(x.c i).prs.length):inH x H b i k=inH x H b i (k+1):=by
 unfold inH;rw[drop_cons _ k hk,stay_cons,goes_cons,if_neg (by simp [q]),if_neg (by simp [q]),List.take_succ_eq_append_getElem hk,List.append_assoc,List.singleton_append]
 congr 1
 by_cases e:scanI x=(i:Int)
 ·rw[if_pos e,if_pos e];have hs:=hs e;by_cases hlt:k<b.sub.toNat
  ·rw[takedrop _ _ k hlt (by omega),goes_cons,if_neg (by simp [q])]
  ·rw[List.drop_eq_nil_of_le (by simp;omega),List.drop_eq_nil_of_le (by simp;omega)]
 ·rw[if_neg e,if_neg e]
theorem inH_scan(x:Hp)(H:Nat→Bool)(b:Hp)(i k:Nat)(hsc:scanI b=scanI x):scanI (inH x H b i k)=scanI x:=by
 rw[←hsc];unfold scanI inH;simp
theorem inH_len(x:Hp)(H:Nat→Bool)(b:Hp)(i k:Nat):(inH x H b i k).cells.length=b.cells.length:=by simp [inH]
theorem inH_c(x:Hp)(H:Nat→Bool)(b:Hp)(i k:Nat)(hi:i<b.cells.length):(inH x H b i k).c i={ x.c i with prs:=(x.c i).prs.take k++stay x H (x.c i) ((x.c i).prs.drop k) }:=by
 have:=Hp.c_set b i { x.c i with prs:=(x.c i).prs.take k++stay x H (x.c i) ((x.c i).prs.drop k) } hi i;rw[if_pos rfl] at this;exact this
theorem inH_cut(x:Hp)(H:Nat→Bool)(b:Hp)(i k:Nat)(hi:i<b.cells.length)(hk:k<(x.c i).prs.length)(q:goB x H (x.c i) (x.c i).prs[k]=true)(hs:scanI x=(i:Int)→0≤b.sub∧b.sub≤(x.c i).prs.length)(hsc:scanI b=scanI x):cutH (inH x H b i (k+1)) i k=inH x H b i k:=by
 have ec:=inH_c x H b i (k+1) hi;have hl:((x.c i).prs.take k).length=k:=by simp;omega
 have e1:(((x.c i).prs.take (k+1)++stay x H (x.c i) ((x.c i).prs.drop (k+1))).eraseIdx k)=(x.c i).prs.take k++stay x H (x.c i) ((x.c i).prs.drop k):=by
  rw[drop_cons _ k hk,stay_cons,if_pos q,List.take_succ_eq_append_getElem hk,List.append_assoc,List.eraseIdx_append_of_length_le (by omega),hl,Nat.sub_self];simp
 have e2:goes x H (x.c i) ((x.c i).prs.drop k)=goes x H (x.c i) ((x.c i).prs.drop (k+1))+1:=by rw[drop_cons _ k hk,goes_cons,if_pos q]
 have e3:(if (k:Int)<(inH x H b i (k+1)).sub∧scanI (inH x H b i (k+1))=(i:Int) then (inH x H b i (k+1)).sub-1 else (inH x H b i (k+1)).sub)=(inH x H b i k).sub:=by
  rw[inH_scan x H b i (k+1) hsc];by_cases e:scanI x=(i:Int)
  ·have hs:=hs e;simp only [inH,if_pos e];by_cases hlt:k<b.sub.toNat
   ·have h1:=takedrop (x.c i).prs b.sub.toNat k hlt (by omega);have h2:=goes_le x H (x.c i) (((x.c i).prs.take b.sub.toNat).drop (k+1));have h3:(((x.c i).prs.take b.sub.toNat).drop (k+1)).length=b.sub.toNat-(k+1):=by simp;omega
    rw[if_pos ⟨by omega,e⟩,h1,goes_cons,if_pos q];omega
   ·rw[List.drop_eq_nil_of_le (by simp;omega),List.drop_eq_nil_of_le (by simp;omega)];rw[if_neg (fun h=>by have:=h.1;simp [goes] at this;omega)]
  ·rw[if_neg (fun h=>e h.2)];simp only [inH,if_neg e]
 unfold cutH;rw[e3,ec];simp only [e1];unfold inH;simp only [e2,List.set_set]
 congr 1
 omega
theorem l1resolve_may(x:Hp)(y:Wd)(b:Nat)(w:World){ar:Option Addr}{kr:Nat}{ac:Option Addr}{kc:Nat}{ag:Option Addr}{kg:Nat}(h:HAt w b x ar kr ac kc ag kg)(hy:MayMark x y):
  Calls Tryz.prog 211 #[.pointer (some ⟨b,0,none⟩),y.v] w fun e w'=>∃t:Wd,Hid (e=.returned t.v)∧Hid ((y.k≠2∧t=y)∨(y.k=2∧t=⟨2,0,(tgt x y:Int)⟩))∧Ext w w':=by
 cases k2:(y.k == 2)
 ·exact(l1resolve_num y b w k2).mono fun _ _ ⟨he,hx⟩=>⟨y,he,.inl ⟨by simpa using k2,rfl⟩,hx⟩
 ·have hk:y.k=2:=by simpa using k2
  obtain⟨n0,a0,a1,ht,hg⟩:=hy hk;obtain⟨i,hi⟩:∃i:Nat,y.a=(i:Int):=⟨y.a.toNat,by omega⟩;have et:tgt x y=lead2 x i:=by unfold tgt;rw[hi];simp
  have ev:(.agg #[iv 2,iv 0,iv i]:Value)=y.v:=by rw[←hi,←n0,←hk]
  have ei:y.a.toNat=i:=by omega
  rw[ei] at ht;have:=l1resolve_at x b i w h (by omega) ht;rw[ev] at this;exact this.mono fun _ _ ⟨he,hx⟩=>⟨⟨2,0,(tgt x y:Int)⟩,by rw[he,et];rfl,.inr ⟨hk,rfl⟩,hx⟩
def BxAt(w:World)(B bs:Nat)(v:Value)(wk:Int):Prop:=w.cell? ⟨B,2,none⟩=some (iv wk)∧B≠bs∧v.ownBlock≠some B
theorem BxAt.ext{w w':World}{B bs:Nat}{v:Value}{wk:Int}(h:BxAt w B bs v wk)(e:Ext w w'):BxAt w' B bs v wk:=⟨e.keep h.1,h.2⟩
theorem Mfr.apart{bs:Nat}{v v':Value}{w w':World}(m:Mfr bs v v' w w'){B:Nat}(hB:B<w.heap.size)(hv:v.ownBlock≠some B):v'.ownBlock≠some B:=fun e=>by
 rcases m.own with q | ⟨g,q,hg⟩
 ·rw[q] at e;exact hv e
 ·rw[q] at e;cases e;omega
theorem BxAt.mfr{w w':World}{B bs:Nat}{v v':Value}{wk:Int}(h:BxAt w B bs v wk)(m:Mfr bs v v' w w'):BxAt w' B bs v' wk:=
 have hB:=cell_lt h.1
 ⟨(World.cell?_of_block (a:=⟨B,2,none⟩) (m.block B hB h.2.1 h.2.2)).trans h.1,h.2.1,m.apart hB h.2.2⟩
structure PBx(w:World)(B bs:Nat)(v:Value)(p:Pr):Prop where
 c:w.cell? ⟨B,0,none⟩=some (.int .i64 p.key.k)∧w.cell? ⟨B,1,none⟩=some (.int .i64 p.key.n)∧w.cell? ⟨B,2,none⟩=some (.int .i64 p.key.a)∧w.cell? ⟨B,3,none⟩=some (.int .i64 p.val.k)∧w.cell? ⟨B,4,none⟩=some (.int .i64 p.val.n)∧w.cell? ⟨B,5,none⟩=some (.int .i64 p.val.a)
 n:B≠bs
 o:v.ownBlock≠some B
theorem PBx.ext{w w':World}{B bs:Nat}{v:Value}{p:Pr}(h:PBx w B bs v p)(e:Ext w w'):PBx w' B bs v p:=⟨⟨e.keep h.c.1,e.keep h.c.2.1,e.keep h.c.2.2.1,e.keep h.c.2.2.2.1,e.keep h.c.2.2.2.2.1,e.keep h.c.2.2.2.2.2⟩,h.n,h.o⟩
theorem PBx.mfr{w w':World}{B bs:Nat}{v v':Value}{p:Pr}(h:PBx w B bs v p)(m:Mfr bs v v' w w'):PBx w' B bs v' p:=by
 have hB:B<w.heap.size:=cell_lt h.c.1;have k:=fun o=>World.cell?_of_block (w:=w) (w':=w') (a:=⟨B,o,none⟩) (m.block B hB h.n h.o)
 exact⟨⟨(k 0).trans h.c.1,(k 1).trans h.c.2.1,(k 2).trans h.c.2.2.1,(k 3).trans h.c.2.2.2.1,(k 4).trans h.c.2.2.2.2.1,(k 5).trans h.c.2.2.2.2.2⟩,h.n,m.apart hB h.o⟩
theorem PBx.new{w:World}{base bs n:Nat}{v:Value}{T:List Int}{p:Pr}{t:TypeId}(h:Sn w base bs n v T):PBx (w.alloc (.cells #[.int .i64 p.key.k,.int .i64 p.key.n,.int .i64 p.key.a,.int .i64 p.val.k,.int .i64 p.val.n,.int .i64 p.val.a] t)) w.heap.size bs v p:=
 ⟨by simp [go_sem],by have:=h.hb.2;omega,fun e=>by have:=(h.own.lt _ e).2;omega⟩
theorem PairsH.more{x:Hp}{L0:List Int}{j p:Nat}{T:List Int}(h:PairsH x L0 j p T)(hk:SK (x.c j)→((x.c j).p p).key.k=2→(tgt x ((x.c j).p p).key:Int)∈T)(hv:SV (x.c j)→(((x.c j).p p).key.k=2→(tgt x ((x.c j).p p).key:Int)∈L0)→((x.c j).p p).val.k=2→(tgt x ((x.c j).p p).val:Int)∈T):PairsH x L0 j (p+1) T:=fun q hq=>by
 by_cases e:q=p
 ·subst e;exact⟨hk,hv⟩
 ·exact h q (by omega)
abbrev AtC(x:Hp)(L:List Int)(c j p:Nat)(T:List Int):Prop:=Pass x L c T∧it T c=(j:Int)∧c<T.length∧PairsH x L j p T
theorem AtC.mark{x:Hp}{L:List Int}{c j p:Nat}{T T5:List Int}(h:AtC x L c j p T)(a:Add x ((x.c j).p p).key T T5)(hy:((x.c j).p p).key.k=2→Held x (tgt x ((x.c j).p p).key)):Pass x L c T5∧it T5 c=(j:Int)∧c<T5.length∧PairsH x L j p T5∧(SK (x.c j)→((x.c j).p p).key.k=2→(tgt x ((x.c j).p p).key:Int)∈T5):=by
 obtain⟨i1,i2,i3,i4⟩:=h;obtain⟨R,r⟩:=a.pre;have l5:T.length≤T5.length:=by rw[r];simp
 refine⟨i1.add a (by omega) hy,?_,by omega,i4.mono (fun z hz=>a.sub hz),fun _ e=>a.has e⟩;rw[r,it_pre i3];exact i2
theorem Pass.val{x:Hp}{L:List Int}{c j p:Nat}{T T8:List Int}(h:Pass x L c T∧it T c=(j:Int)∧c<T.length∧PairsH x L j p T∧(SK (x.c j)→((x.c j).p p).key.k=2→(tgt x ((x.c j).p p).key:Int)∈T))(a:Add x ((x.c j).p p).val T T8)(hy:((x.c j).p p).val.k=2→Held x (tgt x ((x.c j).p p).val)):Pass x L c T8∧it T8 c=(j:Int)∧c<T8.length∧PairsH x L j (p+1) T8:=by
 obtain⟨i1,i2,i3,i4,i5⟩:=h;obtain⟨R,r⟩:=a.pre;have l5:T.length≤T8.length:=by rw[r];simp
 refine⟨i1.add a (by omega) hy,?_,by omega,(i4.mono (fun z hz=>a.sub hz)).more (fun s e=>a.sub (i5 s e)) (fun _ _ e=>a.has e)⟩;rw[r,it_pre i3];exact i2
theorem l2holds_any(x:Hp)(b:Nat)(w:World){ar:Option Addr}{kr:Nat}{ac:Option Addr}{kc:Nat}{ag:Option Addr}{kg:Nat}(h:HAt w b x ar kr ac kc ag kg)(r2:R2 x)(r4:R4 x)(hn8:x.cells.length≤8000):
  Calls Tryz.prog 183 #[.pointer (some ⟨b,0,none⟩)] w fun e w'=>∃v L,Hid (e=.returned (.slice (some ⟨w.heap.size,0,none⟩) x.cells.length x.cells.length))∧Sn w' w.heap.size w.heap.size x.cells.length v L∧Hid (∀i:Nat,(i:Int)∈L↔Held x i)∧Ext w w':=by
 have c4:=h.c4;have c3:=h.c3;have lr:=h.lr;have hb:b<w.heap.size:=cell_lt c4;have HH:=hide h;have Q2:=hide r2;have Q4:=hide r4;clear h r2 r4;obtain⟨z,hmk,hz⟩:=mkBools x.cells.length (by omega) w;have S0:=hide (Sn.start w x.cells.length 4);rw[←hz] at S0;clear hz;go_enter Tryz.func183,Tryz.ntmps183;go_wp2_with fail;go_loopw [4,26] (fun v i wr=>∃(k:Nat) (L:List Int),k≤x.regs.length∧i=.int .i64 k∧Sn wr w.heap.size w.heap.size x.cells.length v L∧Hid (OnlyH x L∧RegsIn x k L)∧Ext w wr) (fun _ i _=>x.regs.length-(intOf i).toNat)
 case atStart=>exact⟨0,[],Nat.zero_le _,rfl,unhide S0,⟨(fun z hz=>by cases hz),fun j _ hj=>by omega⟩,(Ext.refl w).alloc _⟩
 case round=>
  clear S0 hmk c4 c3;obtain⟨k,L,hk,rfl,hs,hinv,hbl⟩:=hrel;have HS:=hide hs;clear hs;by_cases hlt:k<x.regs.length
  ·have hh:=(unhide HH).ext hbl;obtain⟨b',o,e1,p0,p1,p2⟩:=hh.R k hlt;have d3:=hh.c3;rw[e1] at d3;have hk0:(0:Int)≤(k:Int):=by omega
   have hk1:(k:Int)<(x.regs.length:Int):=by omega
   have xa:=(Ext.refl wr).alloc (.cells #[iv x.regs[k].k,iv x.regs[k].n,iv x.regs[k].a] 139);subst e1;clear hh;go_wp2_with fail;refine(l2mark_any x x.regs[k] b w.heap.size w.heap.size _ L _ ((unhide HH).ext (hbl.trans xa)) (may_reg (unhide Q2) (unhide Q4) k hlt) ((unhide HS).ext xa) (hbl.trans xa).size hn8).mono ?_;rintro e w2 ⟨v',L',rfl,hs',ha,hm⟩
   have R:=hide (show Sn w2 w.heap.size w.heap.size x.cells.length v' L'∧(OnlyH x L'∧RegsIn x (k+1) L')∧Ext w w2 from
    ⟨hs',⟨(unhide hinv).1.add (unhide ha) (fun e=>Held.reg k hlt e),fun j hj hjk e=>by
     by_cases q:j=k
     ·subst q;exact(unhide ha).has e
     ·exact(unhide ha).sub ((unhide hinv).2 j hj (by omega) e)⟩,((unhide HS).ext xa).mext hm (hbl.trans xa)⟩)
   clear hs' ha hm xa;go_wp2_with fail;go_roundw
   case rel=>exact⟨k+1,L',by omega,by go_num,(unhide R).1,(unhide R).2.1,(unhide R).2.2⟩
   case measure=>simp [intOf];omega
  ·have hk2:k=x.regs.length:=by omega
   subst hk2;have c4:=((unhide HH).ext hbl).c4;have B0:=hide hbl;clear hlt hk;go_wp2_with fail;clear hbl;go_loopw [4,41] (fun v i wr=>∃(k:Nat) (L:List Int),k≤x.cells.length∧i=.int .i64 k∧Sn wr w.heap.size w.heap.size x.cells.length v L∧Hid (OnlyH x L∧RegsIn x x.regs.length L∧DueIn x k L)∧Ext w wr) (fun _ i _=>x.cells.length-(intOf i).toNat)
   case atStart=>exact⟨0,L,Nat.zero_le _,rfl,unhide HS,⟨(unhide hinv).1,(unhide hinv).2,fun i hi=>by omega⟩,unhide B0⟩
   case round=>
    clear HS hinv B0 c4 L;obtain⟨k,L,hk,rfl,hs,hinv,hbl⟩:=hrel;have HS:=hide hs;clear hs;by_cases hlt:k<x.cells.length
    ·have hh:=(unhide HH).ext hbl;obtain⟨b',o,ap,kp,e1,p0,p1,p2,p3,p4,p5,p6,p7,lp,P⟩:=hh.cell k hlt;have hb':b'<wr.heap.size:=cell_lt p0;have d4:=hh.c4;rw[e1] at d4;have hk0:(0:Int)≤(k:Int):=by omega
     have hk1:(k:Int)<(x.cells.length:Int):=by omega
     have xa:=(Ext.refl wr).alloc (.cells #[iv (x.c k).st,iv (x.c k).kind,iv (x.c k).weak,iv (x.c k).last,iv (x.c k).born,iv (x.c k).color,iv (x.c k).to,.slice ap (x.c k).prs.length kp] 134);subst e1;clear P hh;cases tl:((x.c k).last == 2)
     ·have R:=hide (show DueIn x (k+1) L from fun i hi hn e=>by
       by_cases q:i=k
       ·subst q;simp at tl;exact(tl e).elim
       ·exact(unhide hinv).2.2 i (by omega) hn e)
      have A:=hide (And.intro ((unhide HS).ext xa) (hbl.trans xa));clear xa;go_wp2_with fail;go_roundw
      case rel=>exact⟨k+1,L,by omega,by go_num,(unhide A).1,⟨(unhide hinv).1,(unhide hinv).2.1,unhide R⟩,(unhide A).2⟩
      case measure=>simp [intOf];omega
     ·have hl2:(x.c k).last=2:=by simpa using tl
      have HL:=hide hl2;have hst:=speaks_used (unhide Q2) k hlt (.inr hl2);have et:tgt x ⟨2,0,(k:Int)⟩=k:=by unfold tgt lead2;simp [hst]
      have MY:=hide (show MayMark x ⟨2,0,(k:Int)⟩ from fun _=>⟨rfl,by simp,by simpa using hlt,(fun h=>by simp [hst] at h),by rw[et];exact good_want (unhide Q4) k hlt hst (.inr hl2)⟩);have ET:=hide et;clear hl2 hst et;go_wp2_with fail;refine(l2mark_any x ⟨2,0,(k:Int)⟩ b w.heap.size w.heap.size _ L _ ((unhide HH).ext (hbl.trans xa)) (unhide MY) ((unhide HS).ext xa) (hbl.trans xa).size hn8).mono ?_;rintro e w2 ⟨v',L',rfl,hs',ha,hm⟩
      have R:=hide (show Sn w2 w.heap.size w.heap.size x.cells.length v' L'∧(OnlyH x L'∧RegsIn x x.regs.length L'∧DueIn x (k+1) L')∧Ext w w2 from
       ⟨hs',⟨(unhide hinv).1.add (unhide ha) (fun _=>by rw[unhide ET];exact Held.due k hlt (unhide HL)),fun j hj hjk e=>(unhide ha).sub ((unhide hinv).2.1 j hj hjk e),fun i hi hn e=>by
        by_cases q:i=k
        ·subst q;have:=(unhide ha).has rfl;rw[unhide ET] at this;exact this
        ·exact(unhide ha).sub ((unhide hinv).2.2 i (by omega) hn e)⟩,((unhide HS).ext xa).mext hm (hbl.trans xa)⟩)
      clear hs' ha hm xa;go_wp2_with fail;go_roundw
      case rel=>exact⟨k+1,L',by omega,by go_num,(unhide R).1,(unhide R).2.1,(unhide R).2.2⟩
      case measure=>simp [intOf];omega
    ·have hk2:k=x.cells.length:=by omega
     subst hk2;have B0:=hide hbl;have R0:=hide (show Rest x (-1) L from⟨(unhide hinv).1,(unhide hinv).2.1,(unhide hinv).2.2,⟨by omega,by omega⟩,fun e=>by omega⟩);clear hlt hk hinv hbl;go_wp2_with fail;go_loopw [4,9] (fun v n wr=>∃(m:Int) (L:List Int),n=.int .i64 m∧Sn wr w.heap.size w.heap.size x.cells.length v L∧Hid (Rest x m L)∧Ext w wr) (fun _ n _=>((x.cells.length:Int)-intOf n).toNat)
     case atStart=>exact⟨-1,L,rfl,unhide HS,unhide R0,unhide B0⟩
     case round=>
      clear HS R0 B0 L;obtain⟨m,L,rfl,hs,hre,hbl⟩:=hrel;have HS:=hide hs;have hLn:=hs.len;have hmb:=(unhide hre).b;obtain⟨ad,cap,rfl,hgl⟩:=hs.form;clear hs hgl;by_cases hml:m=(L.length:Int)
      ·have D:=hide (show ∀i:Nat,(i:Int)∈L↔Held x i by have:=unhide hre;rw[hml] at this;exact this.done);have hnn:(m != (L.length:Int))=false:=by simp [hml]
       clear hre;go_wp2_with fail;go_ret;exact⟨_,L,rfl,unhide HS,unhide D,hbl⟩
      ·have hnn:(m != (L.length:Int))=true:=by simp [hml]
       have P0:=hide (unhide hre).begin;have B0:=hide hbl;have hm2:m<(L.length:Int):=by omega
       clear hre hbl hml;go_wp2_with fail;go_loopw [4,10] (fun v i wr=>∃(c:Nat) (T:List Int),c≤T.length∧i=.int .i64 c∧Sn wr w.heap.size w.heap.size x.cells.length v T∧Hid (Pass x L c T)∧Ext w wr) (fun _ i _=>x.cells.length-(intOf i).toNat)
       case atStart=>exact⟨0,L,Nat.zero_le _,rfl,unhide HS,unhide P0,unhide B0⟩
       case round=>
        clear HS P0 B0;obtain⟨c,T,hc,rfl,hs,hpa,hbl⟩:=hrel;have HS:=hide hs;obtain⟨ad,cap,rfl,hgl⟩:=hs.form;have hTn:=hs.len;by_cases hlt:c<T.length
        ·obtain⟨g,rfl⟩:=hgl (by omega);obtain⟨a1,a2,a3⟩:=(Rw1.mk hs.own).cell c hlt;obtain⟨j,ej,hrj⟩:=(unhide hpa).o _ (it_mem T c hlt);rw[ej] at a1;have hgj:=hrj.good (unhide Q2) (unhide Q4);have hh:=(unhide HH).ext hbl;obtain⟨b',o,ap,kp,e1,C⟩:=(unhide HH).cell j hgj.1;have d4:=hh.c4;rw[e1] at d4;have q0:=hbl.keep C.p0;have q1:=hbl.keep C.p1;have q2:=hbl.keep C.p2;have q3:=hbl.keep C.p3;have q4:=hbl.keep C.p4;have q5:=hbl.keep C.p5;have q6:=hbl.keep C.p6;have q7:=hbl.keep C.p7;have hbq:b'<wr.heap.size:=cell_lt q0;have hbd:b<wr.heap.size:=cell_lt d4;have hbg:g<wr.heap.size:=cell_lt a1;have lp:=C.lp;have HP:=hide C.P;have EJ:=hide ej;have RJ:=hide hrj;have GJ:=hide hgj;have hjn:=hgj.1;have c0:(0:Int)≤(c:Int):=by omega
         have c1:(c:Int)<(T.length:Int):=by omega
         have j0:(0:Int)≤(j:Int):=by omega
         have j1:(j:Int)<(x.cells.length:Int):=by omega
         clear hs C hh e1 ej hrj hgj a3 a2;obtain⟨WR,hWR⟩:∃W,W=wr:=⟨_,rfl⟩;subst hWR
         have hwk:(x.c j).weak=0∨(x.c j).weak=1∨(x.c j).weak=2∨(x.c j).weak=3:=by
          have h2:=(unhide GJ).2.1;rcases (unhide Q2).1 j hjn with z | z | z
          ·omega
          ·omega
          ·have:=z.2.2.1;omega
         have OB:=hide (show ∀q,WR.heap.size≤q→(Value.slice (some ⟨g,0,none⟩) T.length cap).ownBlock≠some q from fun q hq e=>by have:=((unhide HS).own.lt _ e).2;omega);have PA:=hide (unhide hpa);clear hpa;go_wp2_with fail;go_cut [11] (fun s11 wx=>∃B:Nat,s11=.pointer (some ⟨B,0,none⟩)∧Hid (wx.cell? ⟨B,2,none⟩=some (iv (x.c j).weak)∧wx.cell? ⟨B,7,none⟩=some (.slice ap (x.c j).prs.length kp)∧WR.heap.size≤B)∧Ext WR wx)
         case first=>
          go_region_with (fail)
          all_goals
           go_wp2_with fail;go_meet;exact⟨_,rfl,⟨by simp [go_sem],by simp [go_sem],Nat.le_refl _⟩,((Ext.refl WR).alloc _).drew⟩
         case rest=>
          obtain⟨B,rfl,hbx,xB⟩:=hcut;have b7:=(unhide hbx).2.1;have X0:=hide (hbl.trans xB);have S0:=hide ((unhide HS).ext xB);have B0:=hide (show BxAt wc B w.heap.size (.slice (some ⟨g,0,none⟩) T.length cap) (x.c j).weak from⟨(unhide hbx).1,by have:=hbl.size;have:=(unhide hbx).2.2;have:=(unhide HS).hb.2;omega,unhide OB B (unhide hbx).2.2⟩);clear hbx xB hbl HS OB q0 q1 q2 q3 q4 q5 q6 q7 d4 a1 hbq hbd hbg;go_wp2_with fail;go_loopw [4,81] (fun v i wz=>∃(p:Nat) (T':List Int),p≤(x.c j).prs.length∧i=.int .i64 p∧Sn wz w.heap.size w.heap.size x.cells.length v T'∧Hid (Pass x L c T'∧it T' c=(j:Int)∧c<T'.length∧PairsH x L j p T')∧Hid (BxAt wz B w.heap.size v (x.c j).weak)∧Ext w wz) (fun _ i _=>(x.c j).prs.length-(intOf i).toNat)
          case atStart=>exact⟨0,T,Nat.zero_le _,rfl,unhide S0,⟨unhide PA,unhide EJ,hlt,fun p hp=>by omega⟩,unhide B0,unhide X0⟩
          case round=>
           clear S0 PA B0 X0 b7;obtain⟨p,T,hp,rfl,hs,hinv,hbo,hbl⟩:=hrel;have HS:=hide hs;have hTn:=hs.len;by_cases hpl:p<(x.c j).prs.length
           ·obtain⟨b2,o2,rfl,q0,q1,q2,q3,q4,q5⟩:=unhide HP p hpl;have e0:=hbl.keep q0;have e1:=hbl.keep q1;have e2:=hbl.keep q2;have e3:=hbl.keep q3;have e4:=hbl.keep q4;have e5:=hbl.keep q5;have hb2:b2<wr.heap.size:=cell_lt e0;have hBl:B<wr.heap.size:=cell_lt (unhide hbo).1;clear q0 q1 q2 q3 q4 q5 hs;have hp0:(0:Int)≤(p:Int):=by omega
            have hp1:(p:Int)<((x.c j).prs.length:Int):=by omega
            have xa:=(Ext.refl wr).alloc (.cells #[.int .i64 ((x.c j).p p).key.k,.int .i64 ((x.c j).p p).key.n,.int .i64 ((x.c j).p p).key.a,.int .i64 ((x.c j).p p).val.k,.int .i64 ((x.c j).p p).val.n,.int .i64 ((x.c j).p p).val.a] 178);have hMM:=hide (may_pair (unhide Q2) (unhide Q4) j p (unhide GJ) hpl);have bx:=(unhide hbo).1;have HSA:=hide ((unhide HS).ext xa);have BXA:=hide ((unhide hbo).ext xa);have XA:=hbl.trans xa;have PB:=hide (show PBx (wr.alloc (.cells #[.int .i64 ((x.c j).p p).key.k,.int .i64 ((x.c j).p p).key.n,.int .i64 ((x.c j).p p).key.a,.int .i64 ((x.c j).p p).val.k,.int .i64 ((x.c j).p p).val.n,.int .i64 ((x.c j).p p).val.a] 178)) wr.heap.size w.heap.size _ ((x.c j).p p) from PBx.new (unhide HS));rcases hwk with hwk | hwk | hwk | hwk
            rotate_left 2
            ·have bx2:=bx;rw[hwk] at bx2;go_wp2_with fail;refine(l2mark_any x ((x.c j).p p).key b w.heap.size w.heap.size _ T _ ((unhide HH).ext XA) (unhide hMM).1 (unhide HSA) XA.size hn8).mono ?_;rintro e w5 ⟨v5,T5,rfl,hs5,ha5,hm5⟩;have X5:=(unhide HSA).mext hm5 XA;have S5:=hide hs5;have A5:=hide (unhide ha5);have B5:=hide ((unhide BXA).mfr hm5);have P5:=hide ((unhide PB).mfr hm5);have bx5:=(unhide B5).1;rw[hwk] at bx5;have G5:=hide (show Pass x L c T5∧it T5 c=(j:Int)∧c<T5.length∧PairsH x L j p T5∧(SK (x.c j)→((x.c j).p p).key.k=2→(tgt x ((x.c j).p p).key:Int)∈T5) from AtC.mark (unhide hinv) (unhide A5) (fun e=>Held.key j p (unhide RJ) hpl ⟨by omega,by omega⟩ e));obtain⟨u0,u1,u2,u3,u4,u5⟩:=(unhide P5).c;clear hm5 hs5 ha5 e0 e1 e2 e3 e4 e5 bx2;go_wp2_with fail;refine(l1resolve_may x ((x.c j).p p).key b _ ((unhide HH).ext X5) (unhide hMM).1).mono ?_;rintro e w6 ⟨t,rfl,ht,hq6⟩;have X6:=X5.trans hq6;have S6:=hide ((unhide S5).ext hq6);have B6:=hide ((unhide B5).ext hq6);have P6:=hide ((unhide P5).ext hq6);have bx6:=(unhide B6).1;rw[hwk] at bx6;have hB6:B<w6.heap.size:=cell_lt bx6;obtain⟨z0,z1,z2,z3,z4,z5⟩:=(unhide P6).c;have hp6:wr.heap.size<w6.heap.size:=cell_lt z0;have hs6:w.heap.size<w6.heap.size:=(unhide S6).hb.2;have xk:=(Ext.refl w6).alloc (.cells #[iv t.k,iv t.n,iv t.a] 139);have X7:=X6.trans xk;have S7:=hide ((unhide S6).ext xk);have B7:=hide ((unhide B6).ext xk);clear hq6 u0 u1 u2 u3 u4 u5 bx5;have R:=hide (show PairsH x L j (p+1) T5 from(unhide G5).2.2.2.1.more (unhide G5).2.2.2.2 (fun s=>by unfold SV at s;omega));go_wp2_with fail;go_roundw
             case rel=>exact⟨p+1,T5,by omega,by go_num,unhide S7,⟨(unhide G5).1,(unhide G5).2.1,(unhide G5).2.2.1,unhide R⟩,unhide B7,X7⟩
             case measure=>simp [intOf];omega
            ·have bx2:=bx;rw[hwk] at bx2;go_wp2_with fail;have X5:=XA;have S5:=hide (unhide HSA);have B5:=hide (unhide BXA);have P5:=hide (unhide PB);have G5:=hide (show Pass x L c T∧it T c=(j:Int)∧c<T.length∧PairsH x L j p T∧(SK (x.c j)→((x.c j).p p).key.k=2→(tgt x ((x.c j).p p).key:Int)∈T) from⟨(unhide hinv).1,(unhide hinv).2.1,(unhide hinv).2.2.1,(unhide hinv).2.2.2,fun s=>by unfold SK at s;omega⟩);refine(l1resolve_may x ((x.c j).p p).key b _ ((unhide HH).ext X5) (unhide hMM).1).mono ?_;rintro e w6 ⟨t,rfl,ht,hq6⟩;have X6:=X5.trans hq6;have S6:=hide ((unhide S5).ext hq6);have B6:=hide ((unhide B5).ext hq6);have P6:=hide ((unhide P5).ext hq6);have bx6:=(unhide B6).1;rw[hwk] at bx6;have hB6:B<w6.heap.size:=cell_lt bx6;obtain⟨z0,z1,z2,z3,z4,z5⟩:=(unhide P6).c;have hp6:wr.heap.size<w6.heap.size:=cell_lt z0;have hs6:w.heap.size<w6.heap.size:=(unhide S6).hb.2;have xk:=(Ext.refl w6).alloc (.cells #[iv t.k,iv t.n,iv t.a] 139);have X7:=X6.trans xk;have S7:=hide ((unhide S6).ext xk);have B7:=hide ((unhide B6).ext xk);clear hq6 e0 e1 e2 e3 e4 e5 bx2;have R:=hide (show PairsH x L j (p+1) T from(unhide G5).2.2.2.1.more (unhide G5).2.2.2.2 (fun s=>by unfold SV at s;omega));go_wp2_with fail;go_roundw
             case rel=>exact⟨p+1,T,by omega,by go_num,unhide S7,⟨(unhide G5).1,(unhide G5).2.1,(unhide G5).2.2.1,unhide R⟩,unhide B7,X7⟩
             case measure=>simp [intOf];omega
            have bx2:=bx;rw[hwk] at bx2;go_wp2_with fail;refine(l2mark_any x ((x.c j).p p).key b w.heap.size w.heap.size _ T _ ((unhide HH).ext XA) (unhide hMM).1 (unhide HSA) XA.size hn8).mono ?_;rintro e w5 ⟨v5,T5,rfl,hs5,ha5,hm5⟩;have X5:=(unhide HSA).mext hm5 XA;have S5:=hide hs5;have A5:=hide (unhide ha5);have B5:=hide ((unhide BXA).mfr hm5);have P5:=hide ((unhide PB).mfr hm5);have bx5:=(unhide B5).1;rw[hwk] at bx5;have G5:=hide (show Pass x L c T5∧it T5 c=(j:Int)∧c<T5.length∧PairsH x L j p T5∧(SK (x.c j)→((x.c j).p p).key.k=2→(tgt x ((x.c j).p p).key:Int)∈T5) from AtC.mark (unhide hinv) (unhide A5) (fun e=>Held.key j p (unhide RJ) hpl ⟨by omega,by omega⟩ e));obtain⟨u0,u1,u2,u3,u4,u5⟩:=(unhide P5).c;clear hm5 hs5 ha5 e0 e1 e2 e3 e4 e5 bx2;go_wp2_with fail;clear u0 u1 u2 u3 u4 u5 bx5;rotate_left;have bx2:=bx;rw[hwk] at bx2;go_wp2_with fail;have X5:=XA;have S5:=hide (unhide HSA);have B5:=hide (unhide BXA);have P5:=hide (unhide PB);have G5:=hide (show Pass x L c T∧it T c=(j:Int)∧c<T.length∧PairsH x L j p T∧(SK (x.c j)→((x.c j).p p).key.k=2→(tgt x ((x.c j).p p).key:Int)∈T) from⟨(unhide hinv).1,(unhide hinv).2.1,(unhide hinv).2.2.1,(unhide hinv).2.2.2,fun s=>by unfold SK at s;omega⟩);clear e0 e1 e2 e3 e4 e5 bx2;obtain⟨T5,hT5⟩:∃q,q=T:=⟨_,rfl⟩;subst hT5
            all_goals
             refine(l1resolve_may x ((x.c j).p p).key b _ ((unhide HH).ext X5) (unhide hMM).1).mono ?_;rintro e w6 ⟨t,rfl,ht,hq6⟩;have X6:=X5.trans hq6;have S6:=hide ((unhide S5).ext hq6);have B6:=hide ((unhide B5).ext hq6);have P6:=hide ((unhide P5).ext hq6);have bx6:=(unhide B6).1;rw[hwk] at bx6;have hB6:B<w6.heap.size:=cell_lt bx6;obtain⟨z0,z1,z2,z3,z4,z5⟩:=(unhide P6).c;have hp6:wr.heap.size<w6.heap.size:=cell_lt z0;have hs6:w.heap.size<w6.heap.size:=(unhide S6).hb.2;have xk:=(Ext.refl w6).alloc (.cells #[iv t.k,iv t.n,iv t.a] 139);have X7:=X6.trans xk;have S7:=hide ((unhide S6).ext xk);have B7:=hide ((unhide B6).ext xk);clear hq6;rcases unhide ht with⟨hk,rfl⟩ | ⟨hk,rfl⟩
             ·have hkb:(((x.c j).p p).key.k != 2)=true:=by simp [hk]
              go_wp2_with fail;refine(l2mark_any x ((x.c j).p p).val b w.heap.size w.heap.size _ T5 _ ((unhide HH).ext X7) (unhide hMM).2 (unhide S7) X7.size hn8).mono ?_;rintro e w8 ⟨v8,T8,rfl,hs8,ha8,hm8⟩
              have R:=hide (show Sn w8 w.heap.size w.heap.size x.cells.length v8 T8∧(Pass x L c T8∧it T8 c=(j:Int)∧c<T8.length∧PairsH x L j (p+1) T8)∧BxAt w8 B w.heap.size v8 (x.c j).weak∧Ext w w8 from
               ⟨hs8,Pass.val (unhide G5) (unhide ha8) (fun e=>Held.val j p (unhide RJ) hpl ⟨by omega,by omega⟩ (fun e=>(hk e).elim) e),(unhide B7).mfr hm8,(unhide S7).mext hm8 X7⟩)
              clear hs8 ha8 hm8;go_wp2_with fail;go_roundw
              case rel=>exact⟨p+1,T8,by omega,by go_num,(unhide R).1,(unhide R).2.1,(unhide R).2.2.1,(unhide R).2.2.2⟩
              case measure=>simp [intOf];omega
             ·have htl:tgt x ((x.c j).p p).key<x.cells.length:=((unhide hMM).1 hk).2.2.2.2.1;have sn:=(unhide S7).s _ htl;obtain⟨tg,etg⟩:∃q,q=tgt x ((x.c j).p p).key:=⟨_,rfl⟩;rw[←etg] at sn htl xk S7 B7 X7 ⊢;have ETG:=hide etg;clear etg;have t0:(0:Int)≤(tg:Int):=by omega
              have t1:(tg:Int)<(x.cells.length:Int):=by omega
              by_cases hm:(tg:Int)∈T5
              ·have E:decide ((tg:Int)∈T5)=true:=decide_eq_true hm;rw[E] at sn;clear E;go_wp2_with fail;refine(l2mark_any x ((x.c j).p p).val b w.heap.size w.heap.size _ T5 _ ((unhide HH).ext X7) (unhide hMM).2 (unhide S7) X7.size hn8).mono ?_;rintro e w8 ⟨v8,T8,rfl,hs8,ha8,hm8⟩
               have R:=hide (show Sn w8 w.heap.size w.heap.size x.cells.length v8 T8∧(Pass x L c T8∧it T8 c=(j:Int)∧c<T8.length∧PairsH x L j (p+1) T8)∧BxAt w8 B w.heap.size v8 (x.c j).weak∧Ext w w8 from
                ⟨hs8,Pass.val (unhide G5) (unhide ha8) (fun e=>Held.val j p (unhide RJ) hpl ⟨by omega,by omega⟩ (fun _=>by rw[←unhide ETG];obtain⟨q,eq,hq⟩:=(unhide G5).1.o _ hm;have e3:tg=q:=(by omega);rw[e3];exact hq) e),(unhide B7).mfr hm8,(unhide S7).mext hm8 X7⟩)
               clear hs8 ha8 hm8;go_wp2_with fail;go_roundw
               case rel=>exact⟨p+1,T8,by omega,by go_num,(unhide R).1,(unhide R).2.1,(unhide R).2.2.1,(unhide R).2.2.2⟩
               case measure=>simp [intOf];omega
              ·have E:decide ((tg:Int)∈T5)=false:=decide_eq_false hm;rw[E] at sn;clear E;have R:=hide (show PairsH x L j (p+1) T5 from(unhide G5).2.2.2.1.more (unhide G5).2.2.2.2 (fun _ hh=>(hm (by obtain⟨R,e⟩:=(unhide G5).1.e;rw[e];exact List.mem_append_left _ (by rw[unhide ETG];exact hh hk))).elim));go_wp2_with fail;go_roundw
               case rel=>exact⟨p+1,T5,by omega,by go_num,unhide S7,⟨(unhide G5).1,(unhide G5).2.1,(unhide G5).2.2.1,unhide R⟩,unhide B7,X7⟩
               case measure=>simp [intOf];omega
           ·have hpe:p=(x.c j).prs.length:=by omega
            have R:=hide (show Pass x L (c+1) T∧c+1≤T.length by
             obtain⟨i1,i2,i3,i4⟩:=unhide hinv;rw[hpe] at i4;exact⟨i1.step i2 i4,i3⟩)
            clear hs hpe;go_wp2_with fail;go_roundw
            case rel=>exact⟨c+1,T,(unhide R).2,by go_num,unhide HS,(unhide R).1,hbl⟩
            case measure=>simp [intOf];omega
        ·have hce:c=T.length:=by omega
         have R:=hide (show Rest x (L.length:Int) T by have:=unhide hpa;rw[hce] at this;exact this.rest);clear hs hce hgl hpa;go_wp2_with fail;go_roundw
         case rel=>exact⟨_,T,rfl,unhide HS,unhide R,hbl⟩
         case measure=>simp [intOf];omega
theorem GAt.hat[Inhabited ProtD]{B:Nat}{w:World}{g:Nat}{x:Hp}{ar:Option Addr}{kr:Nat}{ac:Option Addr}{kc:Nat}{vg:Value}{br bc:Nat}{pb:Nat→Nat}{pa:Nat→Option Addr}{pk:Nat→Nat}{role:Nat→Nat}(h:GAt B w g x ar kr ac kc vg br bc pb pa pk role)(s:Snd x):∃ag kg,HAt w g x ar kr ac kc ag kg:=by
 obtain⟨ag,kg,hvg⟩:=h.gr.form;subst hvg;have n8:=s.ok.n8;have ng:=s.r1.gray;obtain⟨⟨ar',kr',e1,_,hr⟩,⟨ac',kc',e2,_,hc⟩,⟨ag',kg',e3,_,hg⟩⟩:=h.rd (by rw[s.r1.regs];omega) (by omega) (fun q hq=>s.ok.p200 q hq) (by omega)
 injection e1 with e1;injection e2 with e2;injection e3 with e3
 subst e1 e2 e3;obtain⟨b0,b1,b2,b3,b4,b5,b6,b7,b8,b9,b10,b11,b12⟩:=h.bx;exact⟨ag,kg,b0,b1,b2,b3,b4,b5,b6,b7,b8,b9,b10,b11,b12,by rw[s.r1.regs];omega,by omega,by omega,hr,fun i hi=>by obtain⟨b',o,e,q⟩:=hc i hi;rw[Hp.c_eq x i hi] at q;exact⟨b',o,e,q⟩,hg⟩
theorem res_in{x:Hp}(r2:R2 x){y:Wd}(hy:Formed y x.cells.length):(resW x y).k=2→0≤(resW x y).a∧(resW x y).a<x.cells.length:=fun hk=>by
 unfold Formed at hy;unfold resW at hk ⊢
 split
 ·rename_i h;have hi:y.a.toNat<x.cells.length:=by omega
  have:=r2.1 y.a.toNat hi;unfold CellOk MovedOk at this;show 0≤(x.c y.a.toNat).to∧(x.c y.a.toNat).to<x.cells.length;omega
 ·rename_i h;rw[if_neg h] at hk;omega
theorem res_same{x z:Hp}(h:∀q,(z.c q).st=(x.c q).st∧(z.c q).to=(x.c q).to)(y:Wd):resW z y=resW x y:=by
 unfold resW;rw[(h _).1,(h _).2]
theorem lost_same{x z:Hp}(h:∀q,(z.c q).st=(x.c q).st∧(z.c q).to=(x.c q).to)(H:Nat→Bool)(y:Wd):lostB z H y=lostB x H y:=by
 unfold lostB;rw[res_same h]
theorem held_pair{x:Hp}(s:Snd x){i:Nat}(h:Held x i)(k:Nat)(hk:k<(x.c i).prs.length):Formed ((x.c i).p k).key x.cells.length∧Formed ((x.c i).p k).val x.cells.length:=by
 have g:=h.good s.r2 s.r4;have p:=((s.r4.2 i g.1).2 k hk).2 g.2.2;exact⟨p.1.1,p.2.1⟩
theorem inH_st(x:Hp)(H:Nat→Bool)(b:Hp)(i k:Nat)(hi:i<b.cells.length)(hb:∀q,(b.c q).st=(x.c q).st∧(b.c q).to=(x.c q).to)(q:Nat):((inH x H b i k).c q).st=(x.c q).st∧((inH x H b i k).c q).to=(x.c q).to:=by
 have:=Hp.c_set b i { x.c i with prs:=(x.c i).prs.take k++stay x H (x.c i) ((x.c i).prs.drop k) } hi q;have e:(inH x H b i k).c q=({ b with cells:=b.cells.set i { x.c i with prs:=(x.c i).prs.take k++stay x H (x.c i) ((x.c i).prs.drop k) } }:Hp).c q:=rfl;rw[e,this];by_cases c:q=i
 ·rw[if_pos c,c];exact⟨rfl,rfl⟩
 ·rw[if_neg c];exact hb q
theorem cutTo_st(x:Hp)(H:Nat→Bool)(k:Nat)(hk:k≤x.cells.length)(q:Nat):((cutTo x H k).c q).st=(x.c q).st∧((cutTo x H k).c q).to=(x.c q).to:=by
 rw[cutTo_c x H k hk q]
 split
 ·exact⟨rfl,rfl⟩
 ·exact⟨rfl,rfl⟩
theorem cutTo_same(x:Hp)(H:Nat→Bool):∀k,(cutTo x H k).phase=x.phase∧(cutTo x H k).hand=x.hand∧(cutTo x H k).gray=x.gray∧(cutTo x H k).regs=x.regs
 | 0=>⟨rfl,rfl,rfl,rfl⟩
 | k+1=>by
  unfold cutTo
  split
  ·exact cutTo_same x H k
  ·exact cutTo_same x H k
theorem cutTo_scan(x:Hp)(H:Nat→Bool)(k:Nat):scanI (cutTo x H k)=scanI x:=by
 obtain⟨a,b,c,_⟩:=cutTo_same x H k;unfold scanI;rw[a,b,c,cutTo_len]
theorem cutTo_sub(x:Hp)(H:Nat→Bool)(i:Nat)(e:scanI x=(i:Int)):∀k,k≤i→(cutTo x H k).sub=x.sub
 | 0,_=>rfl
 | k+1,hk=>by
  have ih:=cutTo_sub x H i e k (by omega);unfold cutTo
  split
  ·show letSub x H k (cutTo x H k).sub=x.sub;unfold letSub;rw[if_neg (by rw[e];omega)];exact ih
  ·exact ih
theorem cutTo_inH(x:Hp)(H:Nat→Bool)(i:Nat)(h:H i=true):cutTo x H (i+1)=inH x H (cutTo x H i) i 0:=by
 show(if H i=true then _ else _)=_;rw[if_pos h];unfold inH letC letSub;simp
theorem goneTo_le(x:Hp)(H:Nat→Bool)(hp:∀i,i<x.cells.length→(x.c i).prs.length≤200):∀k,k≤x.cells.length→goneTo x H k≤200*k
 | 0,_=>Nat.le_refl _
 | k+1,hk=>by
  have ih:=goneTo_le x H hp k (by omega);have h1:=goes_le x H (x.c k) (x.c k).prs;have h2:=hp k (by omega);unfold goneTo
  split <;> omega
theorem cutTo_used(x:Hp)(H:Nat→Bool):∀k,(cutTo x H k).used=x.used-goneTo x H k
 | 0=>by simp [cutTo,goneTo]
 | k+1=>by
  have ih:=cutTo_used x H k;unfold cutTo goneTo
  split
  ·show(cutTo x H k).used-goes x H (x.c k) (x.c k).prs=_;rw[ih];omega
  ·exact ih
theorem cutTo_subr(x:Hp)(H:Nat→Bool)(hp:∀i,i<x.cells.length→(x.c i).prs.length≤200):∀k,k≤x.cells.length→x.sub-200*k≤(cutTo x H k).sub∧(cutTo x H k).sub≤x.sub
 | 0,_=>by simp [cutTo]
 | k+1,hk=>by
  have ih:=cutTo_subr x H hp k (by omega);unfold cutTo
  split
  ·show x.sub-200*((k+1:Nat):Int)≤letSub x H k (cutTo x H k).sub∧letSub x H k (cutTo x H k).sub≤x.sub;unfold letSub;have h1:=goes_le x H (x.c k) ((x.c k).prs.take (cutTo x H k).sub.toNat);have h2:=hp k (by omega);have h3:((x.c k).prs.take (cutTo x H k).sub.toNat).length≤200:=by simp;omega
   split <;> omega
  ·omega
theorem inH_num(x:Hp)(H:Nat→Bool)(hp:∀i,i<x.cells.length→(x.c i).prs.length≤200)(i k:Nat)(hi:i<x.cells.length)(n8:x.cells.length≤8000)(hu:0≤x.used∧x.used≤4000)(hs:0≤x.sub∧x.sub≤200):
  (-3000000≤(inH x H (cutTo x H i) i k).used∧(inH x H (cutTo x H i) i k).used≤1000000)∧(-3000000≤(inH x H (cutTo x H i) i k).sub∧(inH x H (cutTo x H i) i k).sub≤1000000):=by
 have h1:=goneTo_le x H hp i (by omega);have h2:=cutTo_used x H i;have h3:=cutTo_subr x H hp i (by omega);have h4:=goes_le x H (x.c i) ((x.c i).prs.drop k);have h5:=hp i hi;have h6:((x.c i).prs.drop k).length≤200:=by simp;omega
 have h7:=goes_le x H (x.c i) (((x.c i).prs.take (cutTo x H i).sub.toNat).drop k);have h8:(((x.c i).prs.take (cutTo x H i).sub.toNat).drop k).length≤200:=by simp;omega
 unfold inH;refine⟨?_,?_⟩
 ·simp only;omega
 ·simp only;split <;> omega
theorem dueTo_len(x z:Hp)(H:Nat→Bool):∀k,(dueTo x z H k).cells.length=z.cells.length
 | 0=>rfl
 | k+1=>by
  unfold dueTo
  split
  ·simp [dueTo_len x z H k]
  ·exact dueTo_len x z H k
theorem dueTo_c(x z:Hp)(H:Nat→Bool):∀k,k≤z.cells.length→∀q,k≤q→(dueTo x z H k).c q=z.c q
 | 0,_,q,_=>rfl
 | k+1,hk,q,hq=>by
  have ih:=dueTo_c x z H k (by omega) q (by omega);unfold dueTo
  split
  ·have:=Hp.c_set (dueTo x z H k) k (dueC (x.c k)) (by rw[dueTo_len];omega) q;rw[this,if_neg (by omega)];exact ih
  ·exact ih
theorem dueN_le(x:Hp)(H:Nat→Bool):∀k,dueN x H k≤k
 | 0=>Nat.le_refl _
 | k+1=>by
  have:=dueN_le x H k;unfold dueN
  split <;> omega
theorem scan_sub{x:Hp}(s:Snd x){i:Nat}(hi:i<x.cells.length)(h1:(x.c i).st=1)(e:scanI x=(i:Int)):0≤x.sub∧x.sub≤(x.c i).prs.length:=by
 refine⟨s.r1.sub.1,?_⟩;unfold scanI at e
 split at e
 ·rename_i h;have:=(s.r6.2.1 h.1).2.2 (by omega);have e2:x.g0=i:=by unfold Hp.g0;rw[e];simp
  rw[e2] at this;exact this
 ·split at e
  ·rename_i h;have e2:x.hand.toNat=i:=by omega
   have:=(s.r6.2.2.1 h.1).2;rw[e2] at this;exact this ⟨by omega,h1⟩
  ·omega
theorem l4next_any(x:Hp)(b:Nat)(w:World){ar:Option Addr}{kr:Nat}{ac:Option Addr}{kc:Nat}{ag:Option Addr}{kg:Nat}(h:HAt w b x ar kr ac kc ag kg)(hn8:x.cells.length≤8000):
  Calls Tryz.prog 217 #[.pointer (some ⟨b,0,none⟩)] w fun e w'=>∃r:Int,Hid (e=.returned (.int .i64 r))∧Hid (DueTo x x.cells.length r)∧Ext w w':=by
 have HH:=hide h;have c4:=h.c4;clear h;go_enter Tryz.func217,Tryz.ntmps217;go_wp2_with fail;go_loopw [3,11] (fun a i wr=>∃(k:Nat) (r:Int),k≤x.cells.length∧i=.int .i64 k∧a=.int .i64 r∧Hid (DueTo x k r)∧Ext w wr) (fun _ i _=>x.cells.length-(intOf i).toNat)
 case atStart=>exact⟨0,-1,Nat.zero_le _,rfl,rfl,.inl ⟨rfl,fun i hi=>by omega⟩,Ext.refl w⟩
 case round=>
  clear c4;obtain⟨k,r,hk,rfl,rfl,hd,hbl⟩:=hrel;by_cases hlt:k<x.cells.length
  ·have hh:=(unhide HH).ext hbl;have c4:=hh.c4;obtain⟨bc,oc,ap,kp,rfl,C⟩:=hh.cell k hlt;have HC:=hide C;have p0:=C.p0;have p1:=C.p1;have p2:=C.p2;have p3:=C.p3;have p4:=C.p4;have p5:=C.p5;have p6:=C.p6;have p7:=C.p7;have hbc:bc<wr.heap.size:=cell_lt p0;have hbb:b<wr.heap.size:=cell_lt c4;have hk0:(0:Int)≤(k:Int):=by omega
   have hk1:(k:Int)<(x.cells.length:Int):=by omega
   clear C;cases t:((x.c k).last == 2)
   ·have D:=hide (show DueTo x (k+1) r from(unhide hd).no (by simpa using t));go_wp2_with fail;go_quiet (fail);go_wp2_with fail;go_roundw
    case rel=>exact⟨k+1,r,by omega,by go_num,rfl,unhide D,(hbl.alloc _).drewN _⟩
    case measure=>simp [intOf];omega
   ·have T:=hide (show(x.c k).last=2 by simpa using t);rcases (unhide hd).form with rfl | ⟨i,rfl,hi⟩
    ·have D:=hide ((unhide hd).first (unhide T));go_wp2_with fail;go_quiet (fail);go_wp2_with fail;go_roundw
     case rel=>exact⟨k+1,k,by omega,by go_num,rfl,unhide D,(hbl.alloc _).drewN _⟩
     case measure=>simp [intOf];omega
    ·obtain⟨bc',oc',ap',kp',e1,C'⟩:=hh.cell i (by omega);cases e1;have q4:=C'.p4;have hi0:¬(i:Int)<0:=by omega
     have hi1:(i:Int)<(x.cells.length:Int):=by omega
     have hi2:(0:Int)≤(i:Int):=by omega
     clear C';by_cases hl:(x.c k).born<(x.c i).born
     ·have D:=hide ((unhide hd).less (unhide T) hl);go_wp2_with fail;go_quiet (fail);go_wp2_with fail;go_roundw
      case rel=>exact⟨k+1,k,by omega,by go_num,rfl,unhide D,(hbl.alloc _).drewN _⟩
      case measure=>simp [intOf];omega
     ·have D:=hide ((unhide hd).more (by omega));go_wp2_with fail;go_quiet (fail);go_wp2_with fail;go_roundw
      case rel=>exact⟨k+1,i,by omega,by go_num,rfl,unhide D,(hbl.alloc _).drewN _⟩
      case measure=>simp [intOf];omega
  ·have hk2:k=x.cells.length:=by omega
   have D:=hide (show DueTo x x.cells.length r by have:=unhide hd;rw[hk2] at this;exact this);clear hk2 hd;go_wp2_with fail;go_ret;exact⟨r,rfl,unhide D,hbl⟩
end Go.Proofs.YtnegjhddmfiefaaGreatDoor
