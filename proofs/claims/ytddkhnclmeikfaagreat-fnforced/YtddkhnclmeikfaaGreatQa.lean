import Derived.Test.YtddkhnclmeikfaaGreatLq
import Derived.Test.YtddkhnclmeikfaaGreatRc1
import Derived.Test.YtddkhnclmeikfaaGreatMk2
set_option maxRecDepth 100000
set_option maxHeartbeats 1000000
namespace Go.Proofs.YtddkhnclmeikfaaGreat
open Go.RowKit
attribute [local go_sem ↓] Go.wp_at_zero Go.wp_at_succ
theorem SAt.phased[Inhabited ProtD]{B:Nat}{w:World}{b:Nat}{x:Hp}{ar:Option Addr}{kr:Nat}{v4 v8:Value}{br bn:Nat}{cB cO:Nat→Nat}{pb:Nat→Nat}{pa:Nat→Option Addr}{pk:Nat→Nat}{kn hd:Nat}{vf:Value}{F:List Int}{vk:Value}{K:List Nat}{role:Nat→Nat}(h:SAt B w b x ar kr v4 v8 br cB cO bn pb pa pk kn hd vf F vk K role)(p hn:Int):
  SAt B (((w.setCell ⟨b,6,none⟩ (iv hn)).setCell ⟨b,7,none⟩ (iv 0)).setCell ⟨b,5,none⟩ (iv p)) b (toPh x p hn) ar kr v4 v8 br cB cO bn pb pa pk kn hd vf F vk K role:=by
 refine h.boxed (x':=toPh x p hn) (Only.setCell (S:=fun q=>q=b) (Only.setCell (S:=fun q=>q=b) (Only.setCell (S:=fun q=>q=b) (Only.refl _ w) (p:=⟨b,6,none⟩) rfl _) (p:=⟨b,7,none⟩) rfl _) (p:=⟨b,5,none⟩) rfl _) (((h.sb.nb.set _ _).set _ _).set _ _) rfl rfl rfl (((h.sb.bx.set6 hn).set7 0).set5 p) (fun k hk=>?_);rw[cell_other _ (.inr (by omega)),cell_other _ (.inr (by omega)),cell_other _ (.inr (by omega))]
theorem turn_low[Inhabited ProtD]{B:Nat}{w:World}{b:Nat}{x:Hp}{ar:Option Addr}{kr:Nat}{v4 v8:Value}{br bn:Nat}{cB cO:Nat→Nat}{pb:Nat→Nat}{pa:Nat→Option Addr}{pk:Nat→Nat}{kn hd:Nat}{vf:Value}{F:List Int}{vk:Value}{K:List Nat}{role:Nat→Nat}(h:SAt B w b x ar kr v4 v8 br cB cO bn pb pa pk kn hd vf F vk K role)(p:Int)(hp:x.phase=p)(h5:(p == 5)=false)(h6:(p == 6)=false)(hr:0≤p∧p≤6)(a:World)(ha:a.heap.size≤B)(hx:Ext a w):
  Calls Tryz.prog 143 #[.pointer (some ⟨b,0,none⟩)] w fun e w'=>e=.returned (nowV (p+1) b)∧Hid (SAt B w' b (toPh x (p+1) 0) ar kr v4 v8 br cB cO bn pb pa pk kn hd vf F vk K role)∧Ext a w':=by
 have H:=hide h;have c5:=h.sb.bx.2.2.2.2.2.1;have c6:=h.sb.bx.2.2.2.2.2.2.1;have c7:=h.sb.bx.2.2.2.2.2.2.2.1;rw[hp] at c5;have f5:=h.sb.nb.2 5;have f6:=h.sb.nb.2 6;have f7:=h.sb.nb.2 7;have lo:=h.sb.lo.1;have wp:wrap64 (p+1)=p+1:=by unfold wrap64;omega
 have FN:=hide (h.phased (p+1) 0);have XN:=hide (((hx.setCell (p:=⟨b,6,none⟩) (show a.heap.size≤b by omega) (iv 0)).setCell (p:=⟨b,7,none⟩) (show a.heap.size≤b by omega) (iv 0)).setCell (p:=⟨b,5,none⟩) (show a.heap.size≤b by omega) (iv (p+1)));have hr2:0≤p+1∧p+1≤6:=⟨by omega,by simp at h6;omega⟩;clear h hp;go_enter Tryz.func143,Tryz.ntmps143;go_wp2_with fail;refine(now_any (p+1) b _ ((unhide FN).sb.bx.2.2.2.2.2.1) hr2).mono ?_;rintro e w2 ⟨rfl,hw2⟩;subst hw2;go_wp2_with fail;go_ret;exact⟨rfl,unhide FN,unhide XN⟩
theorem turn_5[Inhabited ProtD]{B:Nat}{w:World}{b:Nat}{x:Hp}{ar:Option Addr}{kr:Nat}{v4 v8:Value}{br bn:Nat}{cB cO:Nat→Nat}{pb:Nat→Nat}{pa:Nat→Option Addr}{pk:Nat→Nat}{kn hd:Nat}{vf:Value}{F:List Int}{vk:Value}{K:List Nat}{role:Nat→Nat}(h:SAt B w b x ar kr v4 v8 br cB cO bn pb pa pk kn hd vf F vk K role)(hp:x.phase=5)(a:World)(ha:a.heap.size≤B)(hx:Ext a w):
  Calls Tryz.prog 143 #[.pointer (some ⟨b,0,none⟩)] w fun e w'=>e=.returned (nowV 6 b)∧Hid (SAt B w' b (toPh x 6 x.cells.length) ar kr v4 v8 br cB cO bn pb pa pk kn hd vf F vk K role)∧Ext a w':=by
 have H:=hide h;have c5:=h.sb.bx.2.2.2.2.2.1;have c6:=h.sb.bx.2.2.2.2.2.2.1;have c7:=h.sb.bx.2.2.2.2.2.2.2.1;have c13:=h.sb.n13;rw[hp] at c5;have f5:=h.sb.nb.2 5;have f6:=h.sb.nb.2 6;have f7:=h.sb.nb.2 7;have lo:=h.sb.lo.1
 have FN:=hide (show SAt B ((((w.setCell ⟨b,6,none⟩ (iv 0)).setCell ⟨b,7,none⟩ (iv 0)).setCell ⟨b,6,none⟩ (iv x.cells.length)).setCell ⟨b,5,none⟩ (iv 6)) b (toPh x 6 x.cells.length) ar kr v4 v8 br cB cO bn pb pa pk kn hd vf F vk K role by
  refine h.boxed (x':=toPh x 6 x.cells.length) (Only.setCell (S:=fun q=>q=b) (Only.setCell (S:=fun q=>q=b) (Only.setCell (S:=fun q=>q=b) (Only.setCell (S:=fun q=>q=b) (Only.refl _ w) (p:=⟨b,6,none⟩) rfl _) (p:=⟨b,7,none⟩) rfl _) (p:=⟨b,6,none⟩) rfl _) (p:=⟨b,5,none⟩) rfl _) ((((h.sb.nb.set _ _).set _ _).set _ _).set _ _) rfl rfl rfl ((((h.sb.bx.set6 0).set7 0).set6 x.cells.length).set5 6) (fun k hk=>?_);rw[cell_other _ (.inr (by omega)),cell_other _ (.inr (by omega)),cell_other _ (.inr (by omega)),cell_other _ (.inr (by omega))])
 have XN:=hide ((((hx.setCell (p:=⟨b,6,none⟩) (show a.heap.size≤b by omega) (iv 0)).setCell (p:=⟨b,7,none⟩) (show a.heap.size≤b by omega) (iv 0)).setCell (p:=⟨b,6,none⟩) (show a.heap.size≤b by omega) (iv x.cells.length)).setCell (p:=⟨b,5,none⟩) (show a.heap.size≤b by omega) (iv 6));clear h hp;go_enter Tryz.func143,Tryz.ntmps143;go_wp2_with fail;refine(now_any 6 b _ ((unhide FN).sb.bx.2.2.2.2.2.1) (by omega)).mono ?_;rintro e w2 ⟨rfl,hw2⟩;subst hw2;go_wp2_with fail;go_ret;exact⟨rfl,unhide FN,unhide XN⟩
theorem turn_6[Inhabited ProtD]{B:Nat}{w:World}{b:Nat}{x:Hp}{ar:Option Addr}{kr:Nat}{v4 v8:Value}{br bn:Nat}{cB cO:Nat→Nat}{pb:Nat→Nat}{pa:Nat→Option Addr}{pk:Nat→Nat}{kn hd:Nat}{vf:Value}{F:List Int}{vk:Value}{K:List Nat}{role:Nat→Nat}(h:SAt B w b x ar kr v4 v8 br cB cO bn pb pa pk kn hd vf F vk K role)(hp:x.phase=6)(hr:0≤x.rounds∧x.rounds≤1000000000)(a:World)(ha:a.heap.size≤B)(hx:Ext a w):
  Calls Tryz.prog 143 #[.pointer (some ⟨b,0,none⟩)] w fun e w'=>e=.returned (nowV 0 b)∧Hid (SAt B w' b { toPh x 0 0 with rounds:=if x.rounds<1000000000 then x.rounds+1 else x.rounds } ar kr v4 v8 br cB cO bn pb pa pk kn hd vf F vk K role)∧Ext a w':=by
 have H:=hide h;have c5:=h.sb.bx.2.2.2.2.2.1;have c6:=h.sb.bx.2.2.2.2.2.2.1;have c7:=h.sb.bx.2.2.2.2.2.2.2.1;have c11:=h.sb.bx.2.2.2.2.2.2.2.2.2.2.2.1;rw[hp] at c5;have f5:=h.sb.nb.2 5;have f6:=h.sb.nb.2 6;have f7:=h.sb.nb.2 7;have f11:=h.sb.nb.2 11;have lo:=h.sb.lo.1;obtain⟨r,er⟩:∃r,r=if x.rounds<1000000000 then x.rounds+1 else x.rounds:=⟨_,rfl⟩
 have wr:wrap64 (x.rounds+1)=x.rounds+1:=by unfold wrap64;omega
 have ER:=hide (show ∀v,(v=x.rounds+1∧x.rounds+1≤1000000000)∨(v=1000000000∧1000000000≤x.rounds+1)→v=r from fun v hv=>by rw[er];split <;> omega);rw[←er]
 have FN:=hide (show SAt B ((((w.setCell ⟨b,6,none⟩ (iv 0)).setCell ⟨b,7,none⟩ (iv 0)).setCell ⟨b,5,none⟩ (iv 0)).setCell ⟨b,11,none⟩ (iv r)) b { toPh x 0 0 with rounds:=r } ar kr v4 v8 br cB cO bn pb pa pk kn hd vf F vk K role by
  refine h.boxed (x':={ toPh x 0 0 with rounds:=r }) (Only.setCell (S:=fun q=>q=b) (Only.setCell (S:=fun q=>q=b) (Only.setCell (S:=fun q=>q=b) (Only.setCell (S:=fun q=>q=b) (Only.refl _ w) (p:=⟨b,6,none⟩) rfl _) (p:=⟨b,7,none⟩) rfl _) (p:=⟨b,5,none⟩) rfl _) (p:=⟨b,11,none⟩) rfl _) ((((h.sb.nb.set _ _).set _ _).set _ _).set _ _) rfl rfl rfl ((((h.sb.bx.set6 0).set7 0).set5 0).set11 r) (fun k hk=>?_);rw[cell_other _ (.inr (by omega)),cell_other _ (.inr (by omega)),cell_other _ (.inr (by omega)),cell_other _ (.inr (by omega))])
 have XN:=hide ((((hx.setCell (p:=⟨b,6,none⟩) (show a.heap.size≤b by omega) (iv 0)).setCell (p:=⟨b,7,none⟩) (show a.heap.size≤b by omega) (iv 0)).setCell (p:=⟨b,5,none⟩) (show a.heap.size≤b by omega) (iv 0)).setCell (p:=⟨b,11,none⟩) (show a.heap.size≤b by omega) (iv r));clear h hp er;go_enter Tryz.func143,Tryz.ntmps143;go_wp2_with fail
 all_goals
  first
  | (have e1:(1000000000:Int)=r:=unhide ER _ (.inr ⟨rfl,by omega⟩);rw[e1])
  | (have e1:x.rounds+1=r:=unhide ER _ (.inl ⟨rfl,by omega⟩);rw[e1])
  | (have e1:min (x.rounds+1) 1000000000=r:=unhide ER _ (by omega);rw[e1])
  refine(now_any 0 b _ ((unhide FN).sb.bx.2.2.2.2.2.1) (by omega)).mono ?_;rintro e w2 ⟨rfl,hw2⟩;subst hw2;go_wp2_with fail;go_ret;exact⟨rfl,unhide FN,unhide XN⟩
theorem sspeaks_any(c:Cl)(bn i cb co:Nat)(w:World)(m1:w.cell? ⟨bn,i*2+1,none⟩=some (.pointer (some ⟨cb,co,none⟩)))(s:S7 w cb co c):
  Calls Tryz.prog 166 #[ndp bn i] w fun e w'=>e=.returned (.bool (spkB c))∧w'=w:=by
 have s3:=s.2.2.2.1;cases q1:(c.last == 1)
 ·have E:=hide (show spkB c=(c.last == 2) by simp [spkB,q1]);go_enter Tryz.func166,Tryz.ntmps166;go_wp2_with fail;go_ret;exact⟨by rw[unhide E];rfl,rfl⟩
 ·have E:=hide (show spkB c=true by simp [spkB,q1]);go_enter Tryz.func166,Tryz.ntmps166;go_wp2_with fail;go_ret;exact⟨by rw[unhide E];rfl,rfl⟩
theorem SAt.hand[Inhabited ProtD]{B:Nat}{w:World}{b:Nat}{x:Hp}{ar:Option Addr}{kr:Nat}{v4 v8:Value}{br bn:Nat}{cB cO:Nat→Nat}{pb:Nat→Nat}{pa:Nat→Option Addr}{pk:Nat→Nat}{kn hd:Nat}{vf:Value}{F:List Int}{vk:Value}{K:List Nat}{role:Nat→Nat}(h:SAt B w b x ar kr v4 v8 br cB cO bn pb pa pk kn hd vf F vk K role)(hn:Int):
  SAt B (w.setCell ⟨b,6,none⟩ (iv hn)) b { x with hand:=hn } ar kr v4 v8 br cB cO bn pb pa pk kn hd vf F vk K role:=by
 refine h.boxed (x':={ x with hand:=hn }) (Only.setCell (S:=fun q=>q=b) (Only.refl _ w) (p:=⟨b,6,none⟩) rfl _) (h.sb.nb.set _ _) rfl rfl rfl (h.sb.bx.set6 hn) (fun k hk=>cell_other _ (.inr (by omega)))
theorem roots_end[Inhabited ProtD]{B:Nat}{w:World}{b:Nat}{x:Hp}{ar:Option Addr}{kr:Nat}{v4 v8:Value}{br bn:Nat}{cB cO:Nat→Nat}{pb:Nat→Nat}{pa:Nat→Option Addr}{pk:Nat→Nat}{kn hd:Nat}{vf:Value}{F:List Int}{vk:Value}{K:List Nat}{role:Nat→Nat}(h:SAt B w b x ar kr v4 v8 br cB cO bn pb pa pk kn hd vf F vk K role)(hp:x.phase=1)(he:x.hand=x.cells.length)(a:World)(ha:a.heap.size≤B)(hx:Ext a w):
  Calls Tryz.prog 328 #[.agg #[.pointer (some ⟨b,0,none⟩)]] w fun e w'=>e=.returned (nowV (unit1 x).phase b)∧Hid (SAt B w' b (unit1 x) ar kr v4 v8 br cB cO bn pb pa pk kn hd vf F vk K role)∧Ext a w':=by
 have E:=hide (show unit1 x=toPh x (1+1) 0 by unfold unit1;rw[if_pos he];rfl);have H:=hide h;have HP:=hide hp;have XA:=(Ext.refl w).alloc (.cells #[.pointer (some ⟨b,0,none⟩)] 233);have QA:=hide (atHand_none x.hand b x.cells.length kn (some ⟨bn,0,none⟩) _ (XA.keep h.sb.bx.2.2.2.2.2.2.1) (XA.keep h.sb.n13) (by simpa using he));have XA2:=hide XA;have hbw:b<w.heap.size:=h.sb.nb.1;clear h hp he XA;go_enter Tryz.func328,Tryz.ntmps328;go_wp2_with fail;refine(unhide QA).mono ?_;rintro e w1 ⟨rfl,x1⟩;have r0:w1.cell? ⟨w.heap.size,0,none⟩=some (.pointer (some ⟨b,0,none⟩)):=x1.keep (by simp [go_sem]);have X1:=hide ((unhide XA2).trans x1);go_wp2_with fail;refine(turn_low ((unhide H).ext (unhide X1)) 1 (unhide HP) rfl rfl (by omega) a ha (hx.trans (unhide X1))).mono ?_;rintro e w2 ⟨rfl,h2,x2⟩;go_wp2_with fail;go_ret;exact⟨by rw[unhide E];rfl,by rw[unhide E];exact unhide h2,x2⟩
theorem SAt.setp[Inhabited ProtD]{B:Nat}{w w':World}{b:Nat}{x:Hp}{ar:Option Addr}{kr:Nat}{v4 v8:Value}{br bn:Nat}{cB cO:Nat→Nat}{pb:Nat→Nat}{pa:Nat→Option Addr}{pk:Nat→Nat}{kn hd:Nat}{vf:Value}{F:List Int}{vk:Value}{K:List Nat}{role:Nat→Nat}(h:SAt B w b x ar kr v4 v8 br cB cO bn pb pa pk kn hd vf F vk K role)(i:Nat)(hi:i<x.cells.length)(k:Nat)(hk:k<(x.c i).prs.length)(p':Pr)(o:Only (fun q=>q=pb i) w w')(nf:Nf1 (pb i) w')(hp:PrAt w' (pb i) (k*6) p')(ho:∀j,(j<k*6∨k*6+6≤j)→w'.cell? ⟨pb i,j,none⟩=w.cell? ⟨pb i,j,none⟩):
  SAt B w' b { x with cells:=x.cells.set i { x.c i with prs:=(x.c i).prs.set k p' } } ar kr v4 v8 br cB cO bn pb pa pk kn hd vf F vk K role:=by
 have hl0:0<(x.c i).prs.length:=by omega
 have ri:=h.sp.p i hi (h.rw.pw hi hl0);have far:∀q,q<w.heap.size→role q≠6+i→w'.heap[q]?=w.heap[q]?:=fun q hq hr=>o.block q hq (fun e=>hr (by rw[e];exact ri))
 have hl:({ x with cells:=x.cells.set i { x.c i with prs:=(x.c i).prs.set k p' } }:Hp).cells.length=x.cells.length:=by simp
 have hc:=Hp.c_set x i { x.c i with prs:=(x.c i).prs.set k p' } hi;have hne:∀q,q≠i→(({ x with cells:=x.cells.set i { x.c i with prs:=(x.c i).prs.set k p' } }:Hp).c q)=x.c q:=fun q e=>by rw[hc q,if_neg e]
 have hei:(({ x with cells:=x.cells.set i { x.c i with prs:=(x.c i).prs.set k p' } }:Hp).c i)={ x.c i with prs:=(x.c i).prs.set k p' }:=by rw[hc i,if_pos rfl]
 have hpl:∀q,(({ x with cells:=x.cells.set i { x.c i with prs:=(x.c i).prs.set k p' } }:Hp).c q).prs.length=(x.c q).prs.length:=fun q=>by
  by_cases e:q=i
  ·rw[e,hei];simp
  ·rw[hne q e]
 have fc:∀q,q<x.cells.length→w'.heap[cB q]?=w.heap[cB q]?:=fun q hq=>far (cB q) (h.rw.nc q hq).1.1 (by rw[h.sp.c q hq];omega)
 have pf:∀q,q<x.cells.length→q≠i→0<pk q→w'.heap[pb q]?=w.heap[pb q]?:=fun q hq hqi hl=>far (pb q) (h.rw.pl q hq hl).2.1.1 (by rw[h.sp.p q hq hl];omega)
 have sb2:=h.sb.same o.size (far b h.sb.nb.1 (by rw[h.sp.b];omega)) (far bn h.sb.lo.2.2.1 (by rw[h.sp.n];omega)) (fun q hq=>far q (h.sb.fr.own.lt q hq).2 (by rw[h.sp.f q hq];omega)) (fun q hq=>far q (h.sb.kp.lt q hq).2 (by rw[h.sp.k q hq];omega));refine⟨⟨sb2.bx,sb2.ha,by rw[hl];exact sb2.n13,fun k hk=>sb2.nd k (by rw[hl] at hk;exact hk),sb2.fr,sb2.rg,sb2.k0,sb2.kp,sb2.nb,sb2.lo⟩,⟨fun j hj=>?_,fun q hq=>?_,fun q hq=>?_,fun q hq j hj=>?_,fun q hq hlq=>?_,fun hr=>⟨nf1_block (h.rw.nr hr).1 (far br (h.rw.nr hr).1.1 (by rw[h.sp.r hr];omega)) o.size,(h.rw.nr hr).2⟩,fun q hq=>⟨nf1_block (h.rw.nc q (by rw[hl] at hq;exact hq)).1 (fc q (by rw[hl] at hq;exact hq)) o.size,(h.rw.nc q (by rw[hl] at hq;exact hq)).2⟩,fun q hq=>h.rw.d q (by rw[hl] at hq;exact hq),fun q q' hq hq' hne h1 h2=>?_,fun q q' hq hq' hne=>h.rw.dc q q' (by rw[hl] at hq;exact hq) (by rw[hl] at hq';exact hq') hne,fun q hq=>?_⟩,⟨h.sp.b,h.sp.n,h.sp.r,fun q hq=>h.sp.c q (by rw[hl] at hq;exact hq),h.sp.f,h.sp.k,fun q hq hlq=>?_⟩,h.pr.of (fun q hq h1=>far q hq (by rw[h1];omega)) (fun _ _ h=>h)⟩
 ·exact(h.rw.r j hj).of fun m _=>World.cell?_of_block (a:=⟨br,_,none⟩) (far br (h.rw.nr (by have:j<x.regs.length:=hj;omega)).1.1 (by rw[h.sp.r (by have:j<x.regs.length:=hj;omega)];omega))
 ·rw[hl] at hq;have key:S7 w' (cB q) (cO q) (x.c q):=(h.rw.s q hq).of fun m _=>World.cell?_of_block (a:=⟨cB q,_,none⟩) (fc q hq)
  by_cases e:q=i
  ·subst e;rw[hei];exact key
  ·rw[hne q e];exact key
 ·rw[hl] at hq;rw[hpl q,World.cell?_of_block (a:=⟨cB q,_,none⟩) (fc q hq)];exact h.rw.p7 q hq
 ·rw[hl] at hq;rw[hpl q] at hj;by_cases e:q=i
  ·subst e;rw[hei];by_cases ej:j=k
   ·subst ej;have:({ x.c q with prs:=(x.c q).prs.set j p' }:Cl).p j=p':=by simp [Cl.p,hj]
    rw[this];exact hp
   ·have:({ x.c q with prs:=(x.c q).prs.set k p' }:Cl).p j=(x.c q).p j:=by
     have hkj:k≠j:=fun e=>ej e.symm
     simp [Cl.p,List.getElem?_set_ne hkj]
    rw[this];exact(h.rw.p q hq j hj).of fun m hm=>ho _ (by omega)
  ·rw[hne q e];exact(h.rw.p q hq j hj).of fun m _=>World.cell?_of_block (a:=⟨pb q,_,none⟩) (pf q hq e (h.rw.pw hq (by omega)))
 ·rw[hl] at hq;obtain⟨a1,a2,a3,a4⟩:=h.rw.pl q hq hlq;have a5:pb q≠br∧∀j,j<({ x with cells:=x.cells.set i { x.c i with prs:=(x.c i).prs.set k p' } }:Hp).cells.length→pb q≠cB j:=⟨a3.1,fun j hj=>a3.2 j (by rw[hl] at hj;exact hj)⟩;by_cases e:q=i
  ·subst e;exact⟨a1,nfp_pair a2 nf hp ho,a5,a4⟩
  ·exact⟨a1,nfp_block a2 (pf q hq e hlq) o.size,a5,a4⟩
 ·rw[hl] at hq hq';exact h.rw.dp q q' hq hq' hne h1 h2
 ·rw[hl] at hq;rw[hpl q];exact h.rw.kp q hq
 ·rw[hl] at hq;exact h.sp.p q hq hlq
theorem mend_end[Inhabited ProtD]{B:Nat}{w:World}{b:Nat}{x:Hp}{ar:Option Addr}{kr:Nat}{v4 v8:Value}{br bn:Nat}{cB cO:Nat→Nat}{pb:Nat→Nat}{pa:Nat→Option Addr}{pk:Nat→Nat}{kn hd:Nat}{vf:Value}{F:List Int}{vk:Value}{K:List Nat}{role:Nat→Nat}(h:SAt B w b x ar kr v4 v8 br cB cO bn pb pa pk kn hd vf F vk K role)(hp:x.phase=5)(he:x.hand=x.cells.length)(a:World)(ha:a.heap.size≤B)(hx:Ext a w):
  Calls Tryz.prog 335 #[.agg #[.pointer (some ⟨b,0,none⟩)]] w fun e w'=>e=.returned (nowV (unit5 x).phase b)∧Hid (SAt B w' b (unit5 x) ar kr v4 v8 br cB cO bn pb pa pk kn hd vf F vk K role)∧Ext a w':=by
 have E:=hide (show unit5 x=toPh x 6 x.cells.length by unfold unit5;rw[if_pos he]);have H:=hide h;have HP:=hide hp;have XA:=(Ext.refl w).alloc (.cells #[.pointer (some ⟨b,0,none⟩)] 237);have QA:=hide (atHand_none x.hand b x.cells.length kn (some ⟨bn,0,none⟩) _ (XA.keep h.sb.bx.2.2.2.2.2.2.1) (XA.keep h.sb.n13) (by simpa using he));have XA2:=hide XA;have hbw:b<w.heap.size:=h.sb.nb.1;clear h hp he XA;go_enter Tryz.func335,Tryz.ntmps335;go_wp2_with fail;refine(unhide QA).mono ?_;rintro e w1 ⟨rfl,x1⟩;have r0:w1.cell? ⟨w.heap.size,0,none⟩=some (.pointer (some ⟨b,0,none⟩)):=x1.keep (by simp [go_sem]);have X1:=hide ((unhide XA2).trans x1);go_wp2_with fail;refine(turn_5 ((unhide H).ext (unhide X1)) (unhide HP) a ha (hx.trans (unhide X1))).mono ?_;rintro e w2 ⟨rfl,h2,x2⟩;go_wp2_with fail;go_ret;exact⟨by rw[unhide E];rfl,by rw[unhide E];exact unhide h2,x2⟩
theorem mend_next[Inhabited ProtD]{B:Nat}{w:World}{b:Nat}{x:Hp}{ar:Option Addr}{kr:Nat}{v4 v8:Value}{br bn:Nat}{cB cO:Nat→Nat}{pb:Nat→Nat}{pa:Nat→Option Addr}{pk:Nat→Nat}{kn hd:Nat}{vf:Value}{F:List Int}{vk:Value}{K:List Nat}{role:Nat→Nat}(h:SAt B w b x ar kr v4 v8 br cB cO bn pb pa pk kn hd vf F vk K role)(n8:x.cells.length≤8000)(hp:x.phase=5)(i:Nat)(hi:x.hand=(i:Int))(hin:i<x.cells.length)(k:Nat)(hk:x.sub=(k:Int))(hkl:¬k<(x.c i).prs.length)(a:World)(ha:a.heap.size≤B)(hx:Ext a w):
  Calls Tryz.prog 335 #[.agg #[.pointer (some ⟨b,0,none⟩)]] w fun e w'=>e=.returned (nowV (unit5 x).phase b)∧Hid (SAt B w' b (unit5 x) ar kr v4 v8 br cB cO bn pb pa pk kn hd vf F vk K role)∧Ext a w':=by
 have ei:x.hand.toNat=i:=by omega
 have E:=hide (show unit5 x={ x with hand:=(i:Int)+1,sub:=0 } by unfold unit5;rw[if_neg (by omega),ei,if_neg (by omega),hi]);have EP:=hide (show(unit5 x).phase=5 by rw[unhide E];exact hp);have H:=hide h;have XA:=(Ext.refl w).alloc (.cells #[.pointer (some ⟨b,0,none⟩)] 237);have c6:=h.sb.bx.2.2.2.2.2.2.1;rw[hi] at c6;have QA:=hide (atHand_some b x.cells.length kn bn i _ (XA.keep c6) (XA.keep h.sb.n13) hin);have XA2:=hide XA;have hbw:b<w.heap.size:=h.sb.nb.1;have lo:=h.sb.lo.1;have HI:=hide (And.intro hi hk);have kk:¬(k:Int)<((x.c i).prs.length:Int):=by omega
 clear h hp XA ei hi c6 hk;go_enter Tryz.func335,Tryz.ntmps335;go_wp2_with fail;refine(unhide QA).mono ?_;rintro e w1 ⟨rfl,x1⟩;have r0:w1.cell? ⟨w.heap.size,0,none⟩=some (.pointer (some ⟨b,0,none⟩)):=x1.keep (by simp [go_sem]);have X1:=hide ((unhide XA2).trans x1);have H1:=hide ((unhide H).ext (unhide X1));have m1:=((unhide H1).sb.nd i hin).2;have p7:=(unhide H1).rw.p7 i hin;have c6:w1.cell? ⟨b,6,none⟩=some (iv i):=by have:=(unhide H1).sb.bx.2.2.2.2.2.2.1;rw[(unhide HI).1] at this;exact this
 have c7:w1.cell? ⟨b,7,none⟩=some (iv k):=by have:=(unhide H1).sb.bx.2.2.2.2.2.2.2.1;rw[(unhide HI).2] at this;exact this
 have f6:=(unhide H1).sb.nb.2 6;have f7:=(unhide H1).sb.nb.2 7;have hb1:b<w1.heap.size:=cell_lt c6;have hb2:w.heap.size<w1.heap.size:=cell_lt r0;have nbw:¬b=w.heap.size:=by omega
 have nwb:¬w.heap.size=b:=by omega
 have FN:=hide (show ∀W,Ext w1 W→SAt B ((W.setCell ⟨b,6,none⟩ (iv ((i:Int)+1))).setCell ⟨b,7,none⟩ (iv 0)) b { x with hand:=(i:Int)+1,sub:=0 } ar kr v4 v8 br cB cO bn pb pa pk kn hd vf F vk K role∧Ext a ((W.setCell ⟨b,6,none⟩ (iv ((i:Int)+1))).setCell ⟨b,7,none⟩ (iv 0)) from fun W xw=>⟨(((unhide H1).ext xw).hand _).subs 0,(((hx.trans (unhide X1)).trans xw).setCell (p:=⟨b,6,none⟩) (show a.heap.size≤b by omega) _).setCell (p:=⟨b,7,none⟩) (show a.heap.size≤b by omega) _⟩);clear x1 XA2 QA;go_wp2_with fail;go_quiet (fail);go_wp2_with fail;go_ret;exact⟨by rw[unhide EP];rfl,by rw[unhide E];exact(unhide FN _ ((Ext.refl w1).drewN _)).1,(unhide FN _ ((Ext.refl w1).drewN _)).2⟩
def cellW(w:World)(b o:Nat)(c:Cl)(v:Value):World:=(((((((w.setCell ⟨b,o,none⟩ (iv c.st)).setCell ⟨b,o+1,none⟩ (iv c.kind)).setCell ⟨b,o+2,none⟩ (iv c.weak)).setCell ⟨b,o+3,none⟩ (iv c.last)).setCell ⟨b,o+4,none⟩ (iv c.born)).setCell ⟨b,o+5,none⟩ (iv c.color)).setCell ⟨b,o+6,none⟩ (iv c.to)).setCell ⟨b,o+7,none⟩ v
theorem cellW_drew(w:World)(b o:Nat)(c:Cl)(v:Value):(cellW w b o c v).drew=cellW w.drew b o c v:=by
 have key:∀(W:World) (p:Addr) (u:Value),(W.setCell p u).drew=W.drew.setCell p u:=fun _ _ _=>rfl
 unfold cellW;simp only [key]
theorem cellW_only(w:World)(b o:Nat)(c:Cl)(v:Value):Only (fun q=>q=b) w (cellW w b o c v):=
 Only.setCell (S:=fun q=>q=b) (Only.setCell (S:=fun q=>q=b) (Only.setCell (S:=fun q=>q=b) (Only.setCell (S:=fun q=>q=b) (Only.setCell (S:=fun q=>q=b) (Only.setCell (S:=fun q=>q=b) (Only.setCell (S:=fun q=>q=b) (Only.setCell (S:=fun q=>q=b) (Only.refl _ w) (p:=⟨b,o,none⟩) rfl _) (p:=⟨b,o+1,none⟩) rfl _) (p:=⟨b,o+2,none⟩) rfl _) (p:=⟨b,o+3,none⟩) rfl _) (p:=⟨b,o+4,none⟩) rfl _) (p:=⟨b,o+5,none⟩) rfl _) (p:=⟨b,o+6,none⟩) rfl _) (p:=⟨b,o+7,none⟩) rfl _
theorem cellW_nf{w:World}{b:Nat}(h:Nf1 b w)(o:Nat)(c:Cl)(v:Value):Nf1 b (cellW w b o c v):=(((((((h.set _ _).set _ _).set _ _).set _ _).set _ _).set _ _).set _ _).set _ _
theorem cellW_other(w:World)(b o:Nat)(c:Cl)(v:Value)(k:Nat)(hk:k<o∨o+8≤k):(cellW w b o c v).cell? ⟨b,k,none⟩=w.cell? ⟨b,k,none⟩:=by
 unfold cellW
 iterate 8 rw[cell_other _ (.inr (by omega))]
theorem cellW_same(w:World)(b o:Nat)(c d:Cl)(v u:Value)(h:S7 w b o d)(h7:w.cell? ⟨b,o+7,none⟩=some u):S7 (cellW w b o c v) b o c∧(cellW w b o c v).cell? ⟨b,o+7,none⟩=some v:=by
 obtain⟨a0,a1,a2,a3,a4,a5,a6⟩:=h;unfold cellW;refine⟨⟨?_,?_,?_,?_,?_,?_,?_⟩,?_⟩
 ·iterate 7 rw[cell_other _ (.inr (by omega))]
  exact cs_same a0
 ·iterate 6 rw[cell_other _ (.inr (by omega))]
  exact cs_same ((cell_other _ (.inr (by omega))).trans a1)
 ·iterate 5 rw[cell_other _ (.inr (by omega))]
  refine cs_same (u:=iv d.weak) ?_
  iterate 2 rw[cell_other _ (.inr (by omega))]
  exact a2
 ·iterate 4 rw[cell_other _ (.inr (by omega))]
  refine cs_same (u:=iv d.last) ?_
  iterate 3 rw[cell_other _ (.inr (by omega))]
  exact a3
 ·iterate 3 rw[cell_other _ (.inr (by omega))]
  refine cs_same (u:=iv d.born) ?_
  iterate 4 rw[cell_other _ (.inr (by omega))]
  exact a4
 ·iterate 2 rw[cell_other _ (.inr (by omega))]
  refine cs_same (u:=iv d.color) ?_
  iterate 5 rw[cell_other _ (.inr (by omega))]
  exact a5
 ·rw[cell_other _ (.inr (by omega))];refine cs_same (u:=iv d.to) ?_
  iterate 6 rw[cell_other _ (.inr (by omega))]
  exact a6
 ·refine cs_same (u:=u) ?_
  iterate 7 rw[cell_other _ (.inr (by omega))]
  exact h7
def mvdH(x:Hp)(t f:Nat):Hp:={ x with cells:=(x.cells.set t (x.c f)).set f (mvC t) }
theorem mvd_c(x:Hp)(t f:Nat)(ht:t<x.cells.length)(hf:f<x.cells.length)(q:Nat):(mvdH x t f).c q=if q=f then mvC t else if q=t then x.c f else x.c q:=by
 have h1:=Hp.c_set { x with cells:=x.cells.set t (x.c f) } f (mvC t) (by simpa using hf) q;have h2:=Hp.c_set x t (x.c f) ht q;have e:mvdH x t f={ ({ x with cells:=x.cells.set t (x.c f) }:Hp) with cells:=({ x with cells:=x.cells.set t (x.c f) }:Hp).cells.set f (mvC t) }:=rfl;rw[e,h1];by_cases e1:q=f
 ·rw[if_pos e1,if_pos e1]
 ·rw[if_neg e1,if_neg e1];exact h2
def wordO(w:World)(b o:Nat)(y:Wd):World:=((w.setCell ⟨b,o,none⟩ (iv y.k)).setCell ⟨b,o+1,none⟩ (iv y.n)).setCell ⟨b,o+2,none⟩ (iv y.a)
theorem wordO_at(w:World)(b o:Nat)(y z:Wd)(h:WdAt w b o z):WdAt (wordO w b o y) b o y:=by
 obtain⟨h0,h1,h2⟩:=h;unfold wordO;refine⟨?_,?_,?_⟩
 ·iterate 2 rw[cell_other _ (.inr (by omega))]
  exact cs_same h0
 ·rw[cell_other _ (.inr (by omega))];exact cs_same ((cell_other _ (.inr (by omega))).trans h1)
 ·refine cs_same (u:=iv z.a) ?_
  iterate 2 rw[cell_other _ (.inr (by omega))]
  exact h2
theorem wordO_only(w:World)(b o:Nat)(y:Wd):Only (fun q=>q=b) w (wordO w b o y):=
 Only.setCell (S:=fun q=>q=b) (Only.setCell (S:=fun q=>q=b) (Only.setCell (S:=fun q=>q=b) (Only.refl _ w) (p:=⟨b,o,none⟩) rfl _) (p:=⟨b,o+1,none⟩) rfl _) (p:=⟨b,o+2,none⟩) rfl _
theorem wordO_nf{w:World}{b:Nat}(h:Nf1 b w)(o:Nat)(y:Wd):Nf1 b (wordO w b o y):=((h.set _ _).set _ _).set _ _
theorem wordO_other(w:World)(b o:Nat)(y:Wd)(k:Nat)(hk:k<o∨o+3≤k):(wordO w b o y).cell? ⟨b,k,none⟩=w.cell? ⟨b,k,none⟩:=by
 unfold wordO
 iterate 3 rw[cell_other _ (.inr (by omega))]
theorem SAt.turned[Inhabited ProtD]{B:Nat}{w w':World}{b:Nat}{x:Hp}{ar:Option Addr}{kr:Nat}{v4 v8:Value}{br bn:Nat}{cB cO:Nat→Nat}{pb:Nat→Nat}{pa:Nat→Option Addr}{pk:Nat→Nat}{kn hd:Nat}{vf:Value}{F:List Int}{vk:Value}{K:List Nat}{role:Nat→Nat}(h:SAt B w b x ar kr v4 v8 br cB cO bn pb pa pk kn hd vf F vk K role)(cs:List Cl)(hl:cs.length=x.cells.length)(so:Nat→Nat)(pa':Nat→Option Addr)(pk':Nat→Nat)(role':Nat→Nat)
  (o:Only (fun q=>∃j,j<x.cells.length∧q=cB j) w w') (nf:∀j,j<x.cells.length→Nf1 (cB j) w') (hkp:CapP { x with cells:=cs } pk')
  (hs:∀q,q<x.cells.length→S7 w' (cB q) (cO q) (({ x with cells:=cs }:Hp).c q))
  (h7:∀q,q<x.cells.length→w'.cell? ⟨cB q,cO q+7,none⟩=some (.slice (pa' q) (({ x with cells:=cs }:Hp).c q).prs.length (pk' q)))
  (hso:∀q,q<x.cells.length→0<pk' q→(so q<x.cells.length∧pk' q=pk (so q))∧(x.c (so q)).prs=(({ x with cells:=cs }:Hp).c q).prs∧pa' q=pa (so q)∧role' (pb (so q))=6+q)
  (hro:∀q,role q<6→role' q=role q) :
  SAt B w' b { x with cells:=cs } ar kr v4 v8 br cB cO bn (fun q=>pb (so q)) pa' pk' kn hd vf F vk K role':=by
 have far:∀q,q<w.heap.size→role q≠3→w'.heap[q]?=w.heap[q]?:=fun q hq hr=>o.block q hq (fun⟨j,hj,e⟩=>hr (by rw[e];exact h.sp.c j hj))
 have hl':({ x with cells:=cs }:Hp).cells.length=x.cells.length:=hl;have pf:∀q,q<x.cells.length→0<pk q→w'.heap[pb q]?=w.heap[pb q]?:=fun q hq hl=>far (pb q) (h.rw.pl q hq hl).2.1.1 (by rw[h.sp.p q hq hl];omega)
 have sb2:=h.sb.same o.size (far b h.sb.nb.1 (by rw[h.sp.b];omega)) (far bn h.sb.lo.2.2.1 (by rw[h.sp.n];omega)) (fun q hq=>far q (h.sb.fr.own.lt q hq).2 (by rw[h.sp.f q hq];omega)) (fun q hq=>far q (h.sb.kp.lt q hq).2 (by rw[h.sp.k q hq];omega));refine⟨⟨sb2.bx,sb2.ha,by rw[hl'];exact sb2.n13,fun k hk=>sb2.nd k (by rw[hl'] at hk;exact hk),sb2.fr,sb2.rg,sb2.k0,sb2.kp,sb2.nb,sb2.lo⟩,⟨fun k hk=>?_,fun q hq=>?_,fun q hq=>?_,fun q hq k hk=>?_,fun q hq hlq=>?_,fun hr=>⟨nf1_block (h.rw.nr hr).1 (far br (h.rw.nr hr).1.1 (by rw[h.sp.r hr];omega)) o.size,(h.rw.nr hr).2⟩,fun q hq=>⟨nf q (by rw[hl'] at hq;exact hq),(h.rw.nc q (by rw[hl'] at hq;exact hq)).2⟩,fun q hq=>h.rw.d q (by rw[hl'] at hq;exact hq),fun q q' hq hq' hne h1 h2=>?_,fun q q' hq hq' hne=>h.rw.dc q q' (by rw[hl'] at hq;exact hq) (by rw[hl'] at hq';exact hq') hne,hkp⟩,⟨?_,?_,fun hr=>?_,fun q hq=>?_,fun q hq=>?_,fun q hq=>?_,fun q hq hlq=>?_⟩,h.pr.of (fun q hq h1=>far q hq (by rw[h1];omega)) (fun q _ h1=>by rw[hro q (by rw[h1];omega)];exact h1)⟩
 ·exact(h.rw.r k hk).of fun j _=>World.cell?_of_block (a:=⟨br,_,none⟩) (far br (h.rw.nr (by have:k<x.regs.length:=hk;omega)).1.1 (by rw[h.sp.r (by have:k<x.regs.length:=hk;omega)];omega))
 ·rw[hl'] at hq;exact hs q hq
 ·rw[hl'] at hq;exact h7 q hq
 ·rw[hl'] at hq;obtain⟨⟨a1,_⟩,a2,_⟩:=hso q hq (by have:=hkp q (by rw[hl'];exact hq);omega);have e2:(({ x with cells:=cs }:Hp).c q).p k=(x.c (so q)).p k:=by simp only [Cl.p,a2]
  rw[←a2] at hk;rw[e2];exact(h.rw.p (so q) a1 k hk).of fun j _=>World.cell?_of_block (a:=⟨pb (so q),_,none⟩) (pf (so q) a1 (h.rw.pw a1 (by omega)))
 ·rw[hl'] at hq;obtain⟨⟨a1,a0⟩,a2,a3,_⟩:=hso q hq hlq;rw[a0] at hlq;obtain⟨b1,b2,b3,b4⟩:=h.rw.pl (so q) a1 hlq;exact⟨a3.trans b1,by rw[a0];exact nfp_block b2 (pf (so q) a1 hlq) o.size,⟨b3.1,fun j hj=>b3.2 j (by rw[hl'] at hj;exact hj)⟩,b4⟩
 ·rw[hl'] at hq hq';intro e;have r1:=(hso q hq h1).2.2.2;have r2:=(hso q' hq' h2).2.2.2;have e':pb (so q)=pb (so q'):=e;rw[e',r2] at r1;omega
 ·rw[hro b (by rw[h.sp.b];omega)];exact h.sp.b
 ·rw[hro bn (by rw[h.sp.n];omega)];exact h.sp.n
 ·have:=h.sp.r hr;rw[hro br (by omega)];exact this
 ·rw[hl'] at hq;have:=h.sp.c q hq;rw[hro (cB q) (by omega)];exact this
 ·have:=h.sp.f q hq;rw[hro q (by omega)];exact this
 ·have:=h.sp.k q hq;rw[hro q (by omega)];exact this
 ·rw[hl'] at hq;exact(hso q hq hlq).2.2.2
theorem SAt.wiped[Inhabited ProtD]{B:Nat}{w:World}{b:Nat}{x:Hp}{ar:Option Addr}{kr:Nat}{v4 v8:Value}{br bn:Nat}{cB cO:Nat→Nat}{pb:Nat→Nat}{pa:Nat→Option Addr}{pk:Nat→Nat}{kn hd:Nat}{vf:Value}{F:List Int}{vk:Value}{K:List Nat}{role:Nat→Nat}(h:SAt B w b x ar kr v4 v8 br cB cO bn pb pa pk kn hd vf F vk K role)(i:Nat)(hi:i<x.cells.length)(st tt:Int):
  SAt B (wipeW w (cB i) (cO i) st tt) b { x with cells:=x.cells.set i ⟨st,0,0,0,0,0,tt,[]⟩ } ar kr v4 v8 br cB cO bn pb (fun q=>if q=i then none else pa q) (fun q=>if q=i then 0 else pk q) kn hd vf F vk K role:=by
 have hc:=Hp.c_set x i ⟨st,0,0,0,0,0,tt,[]⟩ hi;obtain⟨k1,k2⟩:=wipe_same w (cB i) (cO i) st tt _ _ (h.rw.s i hi) (h.rw.p7 i hi);have ho:=wipe_other w (cB i) (cO i) st tt;refine h.turned (x.cells.set i ⟨st,0,0,0,0,0,tt,[]⟩) (by simp) (fun q=>q) _ _ role ((wipe_only _ _ _ _ _).mono (fun q e=>⟨i,hi,e⟩)) (fun q hq=>nf1_cell (h.rw.nc q hq).1 (wipe_nf (h.rw.nc i hi).1 _ _ _) (wipe_only _ _ _ _ _)) (fun q hq=>?_) (fun q hq=>?_) (fun q hq=>?_) (fun q hq hl=>?_) (fun _ _=>rfl)
 ·have hq':q<x.cells.length:=by simpa using hq
  rw[hc q];by_cases e:q=i
  ·rw[if_pos e];exact Nat.zero_le _
  ·simp only [if_neg e];exact h.rw.kp q hq'
 ·rw[hc q];by_cases e:q=i
  ·subst e;rw[if_pos rfl];exact k1
  ·rw[if_neg e];exact(h.rw.s q hq).of fun j hj=>h.rw.far8 hi hq e (Nat.le_refl _) (wipe_only _ _ _ _ _) ho j (by omega)
 ·rw[hc q];by_cases e:q=i
  ·subst e;simp only [if_true];exact k2
  ·simp only [if_neg e];rw[h.rw.far8 hi hq e (Nat.le_refl _) (wipe_only _ _ _ _ _) ho 7 (by omega)];exact h.rw.p7 q hq
 ·rw[hc q];by_cases e:q=i
  ·rw[if_pos e] at hl;omega
  ·rw[if_neg e] at hl;exact⟨⟨hq,if_neg e⟩,by rw[if_neg e],if_neg e,h.sp.p q hq hl⟩
theorem SAt.drop[Inhabited ProtD]{B:Nat}{w:World}{b:Nat}{x:Hp}{ar:Option Addr}{kr:Nat}{v4 v8:Value}{br bn:Nat}{cB cO:Nat→Nat}{pb:Nat→Nat}{pa:Nat→Option Addr}{pk:Nat→Nat}{kn hd:Nat}{vf:Value}{F:List Int}{vk:Value}{K:List Nat}{role:Nat→Nat}(h:SAt B w b x ar kr v4 v8 br cB cO bn pb pa pk kn hd vf F vk K role)(i:Nat)(hi:i+1=x.cells.length):
  SAt B (w.setCell ⟨b,13,none⟩ (.slice (some ⟨bn,0,none⟩) i kn)) b { x with cells:=x.cells.take i } ar kr v4 v8 br cB cO bn pb pa pk kn hd vf F vk K role:=by
 have far:∀q,q<w.heap.size→role q≠0→(w.setCell ⟨b,13,none⟩ (.slice (some ⟨bn,0,none⟩) i kn)).heap[q]?=w.heap[q]?:=fun q hq hn=>Below.heap_setCell _ _ _ _ (fun e=>hn (by rw[e];exact h.sp.b))
 have hsz:w.heap.size≤(w.setCell ⟨b,13,none⟩ (.slice (some ⟨bn,0,none⟩) i kn)).heap.size:=by simp [World.setCell]
 have rw2:=h.rw.same (w':=w.setCell ⟨b,13,none⟩ (.slice (some ⟨bn,0,none⟩) i kn)) hsz (fun hl=>far br (h.rw.nr hl).1.1 (by rw[h.sp.r hl];omega)) (fun q hq=>far (cB q) (h.rw.nc q hq).1.1 (by rw[h.sp.c q hq];omega)) (fun q hq hl=>far (pb q) (h.rw.pl q hq hl).2.1.1 (by rw[h.sp.p q hq hl];omega));have hl:({ x with cells:=x.cells.take i }:Hp).cells.length=i:=by simp;omega
 have hc:∀q,q<i→({ x with cells:=x.cells.take i }:Hp).c q=x.c q:=fun q hq=>by
  simp only [Hp.c,List.getD_eq_getElem?_getD,List.getElem?_take_of_lt hq]
 have cb:∀o,o≠13→(w.setCell ⟨b,13,none⟩ (.slice (some ⟨bn,0,none⟩) i kn)).cell? ⟨b,o,none⟩=w.cell? ⟨b,o,none⟩:=fun o ho=>cell_other _ (.inr (fun e=>ho e.symm))
 have fn:=far bn h.sb.lo.2.2.1 (by rw[h.sp.n];omega);refine⟨⟨h.sb.bx.of fun o ho=>cb o (by omega),h.sb.ha,?_,fun k hk=>?_,⟨(cb 14 (by omega)).trans h.sb.fr.hd,(h.sb.nb.set _ _).2 14,ownsRow_of_block h.sb.fr.own (fun q hq=>far q (h.sb.fr.own.lt q hq).2 (by rw[h.sp.f q hq];omega)),h.sb.fr.apart⟩,h.sb.rg.of fun o h1 _=>cb o (by omega),(cb 4017 (by omega)).trans h.sb.k0,ownsRow_of_block h.sb.kp (fun q hq=>far q (h.sb.kp.lt q hq).2 (by rw[h.sp.k q hq];omega)),h.sb.nb.set _ _,⟨h.sb.lo.1,h.sb.lo.2.1,h.sb.lo.2.2.of fn hsz⟩⟩,⟨rw2.r,fun q hq=>?_,fun q hq=>?_,fun q hq k hk=>?_,fun q hq hlq=>?_,rw2.nr,fun q hq=>rw2.nc q (by rw[hl] at hq;omega),fun q hq=>rw2.d q (by rw[hl] at hq;omega),fun q q' hq hq' hne h1 h2=>?_,fun q q' hq hq' hne=>rw2.dc q q' (by rw[hl] at hq;omega) (by rw[hl] at hq';omega) hne,fun q hq=>by rw[hl] at hq;rw[hc q hq];exact rw2.kp q (by omega)⟩,⟨h.sp.b,h.sp.n,h.sp.r,fun q hq=>h.sp.c q (by rw[hl] at hq;omega),h.sp.f,h.sp.k,fun q hq hlq=>?_⟩,h.pr.of (fun q hq h1=>far q hq (by rw[h1];omega)) (fun _ _ h=>h)⟩
 ·rw[hl];exact World.cell?_setCell_same _ _ _ h.sb.n13
 ·rw[hl] at hk;exact⟨(World.cell?_of_block (a:=⟨bn,_,none⟩) fn).trans (h.sb.nd k (by omega)).1,(World.cell?_of_block (a:=⟨bn,_,none⟩) fn).trans (h.sb.nd k (by omega)).2⟩
 ·rw[hl] at hq;rw[hc q hq];exact rw2.s q (by omega)
 ·rw[hl] at hq;rw[hc q hq];exact rw2.p7 q (by omega)
 ·rw[hl] at hq;rw[hc q hq] at hk ⊢;exact rw2.p q (by omega) k hk
 ·rw[hl] at hq;have z:=rw2.pl q (by omega) hlq;exact⟨z.1,z.2.1,⟨z.2.2.1.1,fun j hj=>z.2.2.1.2 j (by rw[hl] at hj;omega)⟩,z.2.2.2⟩
 ·rw[hl] at hq hq';exact rw2.dp q q' (by omega) (by omega) hne h1 h2
 ·rw[hl] at hq;exact h.sp.p q (by omega) hlq
theorem SAt.setr[Inhabited ProtD]{B:Nat}{w w':World}{b:Nat}{x:Hp}{ar:Option Addr}{kr:Nat}{v4 v8:Value}{br bn:Nat}{cB cO:Nat→Nat}{pb:Nat→Nat}{pa:Nat→Option Addr}{pk:Nat→Nat}{kn hd:Nat}{vf:Value}{F:List Int}{vk:Value}{K:List Nat}{role:Nat→Nat}(h:SAt B w b x ar kr v4 v8 br cB cO bn pb pa pk kn hd vf F vk K role)(j:Nat)(hj:j<x.regs.length)(y:Wd)(o:Only (fun q=>q=br) w w')(nf:Nf1 br w')(hy:WdAt w' br (j*3) y)(ho:∀m,(m<j*3∨j*3+3≤m)→w'.cell? ⟨br,m,none⟩=w.cell? ⟨br,m,none⟩):
  SAt B w' b { x with regs:=x.regs.set j y } ar kr v4 v8 br cB cO bn pb pa pk kn hd vf F vk K role:=by
 have hr:0<x.regs.length:=by omega
 have far:∀q,q<w.heap.size→role q≠2→w'.heap[q]?=w.heap[q]?:=fun q hq hn=>o.block q hq (fun e=>hn (by rw[e];exact h.sp.r hr))
 have hl:({ x with regs:=x.regs.set j y }:Hp).regs.length=x.regs.length:=by simp
 have pf:∀q,q<x.cells.length→0<pk q→w'.heap[pb q]?=w.heap[pb q]?:=fun q hq hl=>far (pb q) (h.rw.pl q hq hl).2.1.1 (by rw[h.sp.p q hq hl];omega)
 have fc:∀q,q<x.cells.length→w'.heap[cB q]?=w.heap[cB q]?:=fun q hq=>far (cB q) (h.rw.nc q hq).1.1 (by rw[h.sp.c q hq];omega)
 have sb2:=h.sb.same o.size (far b h.sb.nb.1 (by rw[h.sp.b];omega)) (far bn h.sb.lo.2.2.1 (by rw[h.sp.n];omega)) (fun q hq=>far q (h.sb.fr.own.lt q hq).2 (by rw[h.sp.f q hq];omega)) (fun q hq=>far q (h.sb.kp.lt q hq).2 (by rw[h.sp.k q hq];omega));refine⟨⟨by rw[hl];exact sb2.bx,fun _=>sb2.ha hr,sb2.n13,sb2.nd,sb2.fr,sb2.rg,sb2.k0,sb2.kp,sb2.nb,sb2.lo⟩,⟨fun m hm=>?_,fun q hq=>?_,fun q hq=>?_,fun q hq k hk=>?_,fun q hq hlq=>?_,fun _=>⟨nf,(h.rw.nr hr).2⟩,fun q hq=>⟨nf1_block (h.rw.nc q hq).1 (fc q hq) o.size,(h.rw.nc q hq).2⟩,h.rw.d,h.rw.dp,h.rw.dc,h.rw.kp⟩,⟨h.sp.b,h.sp.n,fun _=>h.sp.r hr,h.sp.c,h.sp.f,h.sp.k,h.sp.p⟩,h.pr.of (fun q hq h1=>far q hq (by rw[h1];omega)) (fun _ _ h=>h)⟩
 ·have hm2:m<x.regs.length:=by rw[hl] at hm;exact hm
  by_cases e:m=j
  ·subst e;have:({ x with regs:=x.regs.set m y }:Hp).regs[m]=y:=by simp
   rw[this];exact hy
  ·have hjm:j≠m:=fun e'=>e e'.symm
   have:({ x with regs:=x.regs.set j y }:Hp).regs[m]=x.regs[m]:=by simp [List.getElem_set_ne hjm]
   rw[this];exact(h.rw.r m hm2).of fun k hk=>ho _ (by omega)
 ·exact(h.rw.s q hq).of fun m _=>World.cell?_of_block (a:=⟨cB q,_,none⟩) (fc q hq)
 ·exact(World.cell?_of_block (a:=⟨cB q,_,none⟩) (fc q hq)).trans (h.rw.p7 q hq)
 ·have hk2:k<(x.c q).prs.length:=hk;exact(h.rw.p q hq k hk).of fun m _=>World.cell?_of_block (a:=⟨pb q,_,none⟩) (pf q hq (h.rw.pw hq (by omega)))
 ·obtain⟨a1,a2,a3⟩:=h.rw.pl q hq hlq;exact⟨a1,nfp_block a2 (pf q hq hlq) o.size,a3⟩
theorem SAt.move[Inhabited ProtD]{B:Nat}{w w':World}{b:Nat}{x:Hp}{ar:Option Addr}{kr:Nat}{v4 v8:Value}{br bn:Nat}{cB cO:Nat→Nat}{pb:Nat→Nat}{pa:Nat→Option Addr}{pk:Nat→Nat}{kn hd:Nat}{vf:Value}{F:List Int}{vk:Value}{K:List Nat}{role:Nat→Nat}(h:SAt B w b x ar kr v4 v8 br cB cO bn pb pa pk kn hd vf F vk K role)(t f:Nat)(htf:t≠f)(ht:t<x.cells.length)(hf:f<x.cells.length)(o:Only (fun q=>∃j,j<x.cells.length∧q=cB j) w w')(nf:∀j,j<x.cells.length→Nf1 (cB j) w')(hs:S7 w' (cB t) (cO t) (x.c f))(h7:w'.cell? ⟨cB t,cO t+7,none⟩=some (.slice (pa f) (x.c f).prs.length (pk f)))(gs:S7 w' (cB f) (cO f) (mvC t))(g7:w'.cell? ⟨cB f,cO f+7,none⟩=some (.slice none 0 0))
  (ho:∀q,q<x.cells.length→q≠t→q≠f→∀k,k<8→w'.cell? ⟨cB q,cO q+k,none⟩=w.cell? ⟨cB q,cO q+k,none⟩) :
  ∃pb' pa' pk' role',SAt B w' b { x with cells:=(x.cells.set t (x.c f)).set f (mvC t) } ar kr v4 v8 br cB cO bn pb' pa' pk' kn hd vf F vk K role':=by
 have hc:∀q,({ x with cells:=(x.cells.set t (x.c f)).set f (mvC t) }:Hp).c q=if q=f then mvC t else if q=t then x.c f else x.c q:=fun q=>by
  have h1:=Hp.c_set { x with cells:=x.cells.set t (x.c f) } f (mvC t) (by simpa using hf) q;have h2:=Hp.c_set x t (x.c f) ht q;have e:({ x with cells:=(x.cells.set t (x.c f)).set f (mvC t) }:Hp)={ ({ x with cells:=x.cells.set t (x.c f) }:Hp) with cells:=({ x with cells:=x.cells.set t (x.c f) }:Hp).cells.set f (mvC t) }:=rfl;rw[e,h1];by_cases e1:q=f
  ·rw[if_pos e1,if_pos e1]
  ·rw[if_neg e1,if_neg e1];exact h2
 refine⟨_,_,_,_,h.turned ((x.cells.set t (x.c f)).set f (mvC t)) (by simp) (fun q=>if q=t then f else q) (fun q=>if q=f then none else if q=t then pa f else pa q) (fun q=>if q=f then 0 else if q=t then pk f else pk q) (fun d=>if 0<pk f∧d=pb f then 6+t else role d) o nf (fun q hq=>?_) (fun q hq=>?_) (fun q hq=>?_) (fun q hq hl=>?_) (fun d hb=>?_)⟩
 ·have hq':q<x.cells.length:=by simpa using hq
  rw[hc q];by_cases e1:q=f
  ·rw[if_pos e1];exact Nat.zero_le _
  ·simp only [if_neg e1];by_cases e2:q=t
   ·simp only [if_pos e2];exact h.rw.kp f hf
   ·simp only [if_neg e2];exact h.rw.kp q hq'
 ·rw[hc q];by_cases e1:q=f
  ·subst e1;rw[if_pos rfl];exact gs
  ·rw[if_neg e1];by_cases e2:q=t
   ·subst e2;rw[if_pos rfl];exact hs
   ·rw[if_neg e2];exact(h.rw.s q hq).of fun j hj=>ho q hq e2 e1 j (by omega)
 ·rw[hc q];by_cases e1:q=f
  ·subst e1;simp only [if_true];exact g7
  ·simp only [if_neg e1];by_cases e2:q=t
   ·subst e2;simp only [if_true];exact h7
   ·simp only [if_neg e2];rw[ho q hq e2 e1 7 (by omega)];exact h.rw.p7 q hq
 ·rw[hc q];by_cases e1:q=f
  ·rw[if_pos e1] at hl;omega
  ·rw[if_neg e1] at hl;simp only [if_neg e1];by_cases e2:q=t
   ·rw[if_pos e2] at hl;simp only [if_pos e2];exact⟨⟨hf,trivial⟩,trivial,trivial,by rw[if_pos ⟨hl,trivial⟩,e2]⟩
   ·rw[if_neg e2] at hl;simp only [if_neg e2];refine⟨⟨hq,trivial⟩,trivial,trivial,?_⟩;rw[if_neg (fun e=>?_)]
    ·exact h.sp.p q hq hl
    ·have r1:=h.sp.p q hq hl;have r2:=h.sp.p f hf e.1;rw[e.2] at r1;omega
 ·by_cases e:0<pk f∧d=pb f
  ·have r2:=h.sp.p f hf e.1;rw[←e.2] at r2;omega
  ·rw[if_neg e]
theorem smove_world[Inhabited ProtD]{B:Nat}{w:World}{b:Nat}{x:Hp}{ar:Option Addr}{kr:Nat}{v4 v8:Value}{br bn:Nat}{cB cO:Nat→Nat}{pb:Nat→Nat}{pa:Nat→Option Addr}{pk:Nat→Nat}{kn hd:Nat}{vf:Value}{F:List Int}{vk:Value}{K:List Nat}{role:Nat→Nat}(h:SAt B w b x ar kr v4 v8 br cB cO bn pb pa pk kn hd vf F vk K role)(t f:Nat)(htf:t≠f)(ht:t<x.cells.length)(hf:f<x.cells.length):
  ∃pb' pa' pk' role',SAt B (wipeW (cellW w (cB t) (cO t) (x.c f) (.slice (pa f) (x.c f).prs.length (pk f))) (cB f) (cO f) 2 t) b (mvdH x t f) ar kr v4 v8 br cB cO bn pb' pa' pk' kn hd vf F vk K role':=by
 obtain⟨k1,k2⟩:=cellW_same w (cB t) (cO t) (x.c f) (x.c t) (.slice (pa f) (x.c f).prs.length (pk f)) _ (h.rw.s t ht) (h.rw.p7 t ht);have o1:=cellW_other w (cB t) (cO t) (x.c f) (.slice (pa f) (x.c f).prs.length (pk f));have y1:=cellW_only w (cB t) (cO t) (x.c f) (.slice (pa f) (x.c f).prs.length (pk f));have far1:∀q,q<x.cells.length→q≠t→∀k,k<8→(cellW w (cB t) (cO t) (x.c f) (.slice (pa f) (x.c f).prs.length (pk f))).cell? ⟨cB q,cO q+k,none⟩=w.cell? ⟨cB q,cO q+k,none⟩:=fun q hq e k hk=>h.rw.far8 ht hq e (Nat.le_refl _) y1 o1 k hk
 have s2:S7 (cellW w (cB t) (cO t) (x.c f) (.slice (pa f) (x.c f).prs.length (pk f))) (cB f) (cO f) (x.c f):=(h.rw.s f hf).of fun j hj=>far1 f hf (fun e=>htf e.symm) j (by omega)
 have s7:=(far1 f hf (fun e=>htf e.symm) 7 (by omega)).trans (h.rw.p7 f hf);obtain⟨m1,m2⟩:=wipe_same (cellW w (cB t) (cO t) (x.c f) (.slice (pa f) (x.c f).prs.length (pk f))) (cB f) (cO f) 2 t _ _ s2 s7;have o2:=wipe_other (cellW w (cB t) (cO t) (x.c f) (.slice (pa f) (x.c f).prs.length (pk f))) (cB f) (cO f) 2 t;have y2:=wipe_only (cellW w (cB t) (cO t) (x.c f) (.slice (pa f) (x.c f).prs.length (pk f))) (cB f) (cO f) 2 t;have far2:∀q,q<x.cells.length→q≠f→∀k,k<8→(wipeW (cellW w (cB t) (cO t) (x.c f) (.slice (pa f) (x.c f).prs.length (pk f))) (cB f) (cO f) 2 t).cell? ⟨cB q,cO q+k,none⟩=(cellW w (cB t) (cO t) (x.c f) (.slice (pa f) (x.c f).prs.length (pk f))).cell? ⟨cB q,cO q+k,none⟩:=fun q hq e k hk=>h.rw.far8 hf hq e y1.size y2 o2 k hk
 refine h.move t f htf ht hf ((y1.mono (fun q e=>⟨t,ht,e⟩)).trans (y2.mono (fun q e=>⟨f,hf,e⟩))) (fun q hq=>nf1_cell (nf1_cell (h.rw.nc q hq).1 (cellW_nf (h.rw.nc t ht).1 _ _ _) y1) (wipe_nf (nf1_cell (h.rw.nc f hf).1 (cellW_nf (h.rw.nc t ht).1 _ _ _) y1) _ _ _) y2) ?_ ?_ m1 m2 (fun q hq h1 h2 k hk=>?_)
 ·exact k1.of fun j hj=>far2 t ht htf j (by omega)
 ·rw[far2 t ht htf 7 (by omega)];exact k2
 ·rw[far2 q hq h2 k hk,far1 q hq h1 k hk]
def rgR(x:Hp)(t f j:Nat):Hp:={ x with regs:=(x.regs.take j).map (mvW t f)++x.regs.drop j }
theorem rgR_at(x:Hp)(t f j:Nat)(hj:j<x.regs.length):∃h:j<(rgR x t f j).regs.length,(rgR x t f j).regs[j]=x.regs[j]:=by
 have hl:j<(rgR x t f j).regs.length:=by simp [rgR];omega
 refine⟨hl,?_⟩;simp only [rgR];rw[List.getElem_append_right (by simp;omega)];simp [Nat.min_eq_left (Nat.le_of_lt hj)]
theorem rgR_succ(x:Hp)(t f j:Nat)(hj:j<x.regs.length):({ rgR x t f j with regs:=(rgR x t f j).regs.set j (mvW t f x.regs[j]) }:Hp)=rgR x t f (j+1):=by
 have:(rgR x t f j).regs.set j (mvW t f x.regs[j])=(rgR x t f (j+1)).regs:=by
  simp only [rgR];rw[List.set_append_right _ _ (by simp;omega),List.take_succ_eq_append_getElem hj,List.map_append];simp only [List.length_map,List.length_take,Nat.min_eq_left (Nat.le_of_lt hj),Nat.sub_self];have hd:=List.drop_eq_getElem_cons hj;rw[hd];simp only [List.set_cons_zero,List.map_cons,List.map_nil,List.append_assoc,List.singleton_append]
 rw[this];rfl
theorem rgR_same(x:Hp)(t f j:Nat)(hj:j<x.regs.length)(h:mvW t f x.regs[j]=x.regs[j]):rgR x t f (j+1)=rgR x t f j:=by
 rw[←rgR_succ x t f j hj,h];obtain⟨hl,e⟩:=rgR_at x t f j hj;rw[←e];simp
theorem rgR_zero(x:Hp)(t f:Nat):rgR x t f 0=x:=by simp [rgR]
theorem rgR_all(x:Hp)(t f:Nat):mvdH (rgR x t f x.regs.length) t f=moveH x t f:=by simp [rgR,mvdH,moveH,Hp.c]
def gapV(t:Option Nat)(bn:Nat):Value:=match t with
 | none=>.pointer none
 | some j=>ndp bn j
def GapL(x:Hp)(F F':List Int):Prop:=Ho F'∧F'.length≤F.length∧(∀v,v∈F'→v∈F)∧∀i,i<x.cells.length→(x.c i).st=0→(i:Int)∈F→(i:Int)∈F'
def GapT(x:Hp)(F':List Int)(t:Option Nat):Prop:=match t with
 | none=>F'=[]
 | some j=>j<x.cells.length∧(x.c j).st=0∧∀v,v∈F'→(j:Int)≤v
theorem GapL.next{x:Hp}{F F' L:List Int}{j:Nat}(h:GapL x F F')(ho:Ho L)(hp:((j:Int)::L).Perm F')(hj:j<x.cells.length→(x.c j).st≠0):GapL x F L∧L.length<F'.length:=by
 have hlen:=hp.length_eq;simp at hlen;refine⟨⟨ho,by have:=h.2.1;omega,fun v hv=>h.2.2.1 v (hp.mem_iff.1 (List.mem_cons_of_mem _ hv)),fun i hi hs hm=>?_⟩,by omega⟩;rcases List.mem_cons.1 (hp.mem_iff.2 (h.2.2.2 i hi hs hm)) with e | e
 ·have:i=j:=by omega
  subst this;exact absurd hs (hj hi)
 ·exact e
theorem gap_any[Inhabited ProtD]{B:Nat}{w:World}{b:Nat}{x:Hp}{ar:Option Addr}{kr:Nat}{v4 v8:Value}{br bn:Nat}{cB cO:Nat→Nat}{pb:Nat→Nat}{pa:Nat→Option Addr}{pk:Nat→Nat}{kn hd:Nat}{vf:Value}{F:List Int}{vk:Value}{K:List Nat}{role:Nat→Nat}(h:SAt B w b x ar kr v4 v8 br cB cO bn pb pa pk kn hd vf F vk K role)(ho:Ho F)(hl:F.length≤1000000000)(nn:∀v,v∈F→0≤v):
  Calls Tryz.prog 326 #[.pointer (some ⟨b,0,none⟩)] w fun e w'=>∃t vf' F',e=.returned (gapV t bn)∧Hid (LsAt w' B b 14 vf' F'∧QFr b 14 vf vf' w w')∧Hid (GapL x F F'∧GapT x F' t):=by
 have H:=hide h;have LS:=hide h.sb.fr;have NN:=hide nn;have N13:=hide h.sb.n13;have G0:=hide (show GapL x F F from⟨ho,Nat.le_refl _,fun _ h=>h,fun _ _ _ h=>h⟩);have FARB:=hide (show ∀wr vf',QFr b 14 vf vf' w wr→∀k,k<w.heap.size→role k≠4→role k≠0→wr.heap[k]?=w.heap[k]? from fun wr vf' q k hk h1 h2=>q.block k hk (fun e=>h2 (by rw[e];exact h.sp.b)) (fun e=>h1 (h.sp.f k e)));clear h ho nn;go_enter Tryz.func326,Tryz.ntmps326;go_wp2_with fail
 go_loopg [] (F.length+1) (fun gk wr=>∃(vf':Value) (F':List Int),F'.length<gk∧Hid (LsAt wr B b 14 vf' F'∧QFr b 14 vf vf' w wr)∧Hid (GapL x F F'))
 case atStart=>exact⟨vf,F,by omega,⟨unhide LS,QFr.refl _ _ _ _⟩,unhide G0⟩
 case round=>
  clear LS G0;obtain⟨vf',F',hlt,hls,hgl⟩:=hrel;have LS:=hide (unhide hls).1;have QQ:=hide (unhide hls).2;have n13:wr.cell? ⟨b,13,none⟩=some (.slice (some ⟨bn,0,none⟩) x.cells.length kn):=((unhide QQ).hdr 13 (by omega)).trans (unhide N13);clear hls;by_cases hz:F'.length=0
  ·obtain⟨ad,cap,rfl⟩:=(unhide LS).empty hz;have hd14:=(unhide LS).hd;have FE:=hide (show F'=[] from List.length_eq_zero_iff.1 hz);go_wp2_with fail;refine(first_none _ b 14 ad cap hd14).mono ?_;rintro e w1 ⟨rfl,rfl⟩;go_wp2_with fail;go_ret;exact⟨none,_,F',rfl,⟨unhide LS,unhide QQ⟩,unhide hgl,unhide FE⟩
  ·have hpos:0<F'.length:=by omega
   obtain⟨g,cap,rfl,hgb⟩:=(unhide LS).form hpos;have hd14:=(unhide LS).hd;have c0:=(unhide LS).cell 0 hpos;obtain⟨j,hj⟩:∃j:Nat,it F' 0=(j:Int):=⟨(it F' 0).toNat,by have:=unhide NN _ ((unhide hgl).2.2.1 _ (it_mem F' 0 hpos));omega⟩;rw[hj] at c0;have j0:(0:Int)≤(j:Int):=by omega
   have HJ:=hide hj;clear hj hgb hz;by_cases hjn:j<x.cells.length
   ·obtain⟨m0,m1⟩:=(unhide H).sb.nd j hjn;have p0:=((unhide H).rw.s j hjn).1;have n1:wr.cell? ⟨bn,j*2+1,none⟩=some (.pointer (some ⟨cB j,cO j,none⟩)):=(World.cell?_of_block (a:=⟨bn,_,none⟩) (unhide FARB wr _ (unhide QQ) bn (unhide H).sb.lo.2.2.1 (by rw[(unhide H).sp.n];omega) (by rw[(unhide H).sp.n];omega))).trans m1;have hn:0<x.cells.length:=by omega
    have o0:wr.cell? ⟨cB j,cO j,none⟩=some (iv (x.c j).st):=(World.cell?_of_block (a:=⟨cB j,_,none⟩) (unhide FARB wr _ (unhide QQ) (cB j) ((unhide H).rw.nc j hjn).1.1 (by rw[(unhide H).sp.c j hjn];omega) (by rw[(unhide H).sp.c j hjn];omega))).trans p0;have j1:(j:Int)<(x.cells.length:Int):=by omega
    clear m0 m1 p0 hn;go_wp2_with fail;refine(first_some _ b 14 g 0 F'.length cap j hpos hd14 c0).mono ?_;rintro e w1 ⟨rfl,rfl⟩;cases q0:((x.c j).st == 0)
    ·have q0':¬(x.c j).st=0:=by simpa using q0
     have NJ:=hide (show j<x.cells.length→(x.c j).st≠0 from fun _=>q0');go_wp2_with fail;refine(take_some _ B b 14 _ F' (unhide LS) hpos (unhide hgl).1 (by have:=(unhide hgl).2.1;omega)).mono ?_;rintro e w2 ⟨rfl,v2,L2,l2,o2,p2,q2⟩;rw[unhide HJ] at p2;have R:=hide (And.intro (And.intro l2 ((unhide QQ).trans q2)) ((unhide hgl).next o2 p2 (unhide NJ)));clear l2 o2 p2 q2 n13 hd14 c0;go_wp2_with fail
     go_roundg F'.length
     case measure=>exact hlt
     case rel=>exact⟨v2,L2,(unhide R).2.2,(unhide R).1,(unhide R).2.1⟩
    ·have GT:=hide (show GapT x F' (some j) from⟨hjn,by simpa using q0,fun v hv=>by have:=(unhide hgl).1.least hv;rw[unhide HJ] at this;exact this⟩);go_wp2_with fail;go_ret;exact⟨some j,_,F',rfl,⟨unhide LS,unhide QQ⟩,unhide hgl,unhide GT⟩
   ·have j1:¬(j:Int)<(x.cells.length:Int):=by omega
    go_wp2_with fail;refine(first_some _ b 14 g 0 F'.length cap j hpos hd14 c0).mono ?_;rintro e w1 ⟨rfl,rfl⟩;have NJ:=hide (show j<x.cells.length→(x.c j).st≠0 from fun h=>absurd h hjn);go_wp2_with fail;refine(take_some _ B b 14 _ F' (unhide LS) hpos (unhide hgl).1 (by have:=(unhide hgl).2.1;omega)).mono ?_;rintro e w2 ⟨rfl,v2,L2,l2,o2,p2,q2⟩;rw[unhide HJ] at p2;have R:=hide (And.intro (And.intro l2 ((unhide QQ).trans q2)) ((unhide hgl).next o2 p2 (unhide NJ)));clear l2 o2 p2 q2 n13 hd14 c0;go_wp2_with fail
    go_roundg F'.length
    case measure=>exact hlt
    case rel=>exact⟨v2,L2,(unhide R).2.2,(unhide R).1,(unhide R).2.1⟩
theorem fstFree_at(x:Hp)(k:Nat)(hk:k<x.cells.length)(h0:∀q,q<k→(x.c q).st≠0)(h1:(x.c k).st=0):fstFree x=k:=by
 obtain⟨_,a,b⟩:=fstFree_is x;rcases Nat.lt_trichotomy (fstFree x) k with e | e | e
 ·exact absurd (b (by omega)) (h0 _ e)
 ·exact e
 ·exact absurd h1 (a k e)
theorem SAt.freed[Inhabited ProtD]{B:Nat}{w w':World}{b:Nat}{x:Hp}{ar:Option Addr}{kr:Nat}{v4 v8:Value}{br bn:Nat}{cB cO:Nat→Nat}{pb:Nat→Nat}{pa:Nat→Option Addr}{pk:Nat→Nat}{kn hd:Nat}{vf:Value}{F:List Int}{vk:Value}{K:List Nat}{role:Nat→Nat}(h:SAt B w b x ar kr v4 v8 br cB cO bn pb pa pk kn hd vf F vk K role){vf':Value}{F':List Int}(l:LsAt w' B b 14 vf' F')(q:QFr b 14 vf vf' w w')(nf:Nf1 b w'):
  ∃role',SAt B w' b x ar kr v4 v8 br cB cO bn pb pa pk kn hd vf' F' vk K role':=by
 have nfree:∀k,role k≠4→vf.ownBlock≠some k:=fun k hk e=>hk (h.sp.f k e)
 have far:∀k,k<w.heap.size→role k≠4→role k≠0→w'.heap[k]?=w.heap[k]?:=fun k hk h1 h2=>q.block k hk (fun e=>h2 (by rw[e];exact h.sp.b)) (nfree k h1)
 have cb:∀o,o≠14→w'.cell? ⟨b,o,none⟩=w.cell? ⟨b,o,none⟩:=fun o ho=>q.hdr o ho
 have own2:∀k,vf'.ownBlock=some k→vf.ownBlock=some k∨w.heap.size≤k:=fun k hk=>by
  rcases q.own with e | ⟨g,e,hg⟩
  ·exact .inl (e ▸ hk)
  ·rw[e] at hk;injection hk with hk;exact .inr (by omega)
 have ne4:∀k,k<w.heap.size→role k≠4→vf'.ownBlock≠some k:=fun k hk hr e=>by
  rcases own2 k e with e2 | e2
  ·exact hr (h.sp.f k e2)
  ·omega
 have fn:=far bn h.sb.lo.2.2.1 (by rw[h.sp.n];omega) (by rw[h.sp.n];omega);refine⟨fun k=>(open Classical in if vf'.ownBlock=some k then 4 else role k),⟨h.sb.bx.of fun o ho=>cb o (by omega),h.sb.ha,(cb 13 (by omega)).trans h.sb.n13,fun k hk=>⟨(World.cell?_of_block (a:=⟨bn,_,none⟩) fn).trans (h.sb.nd k hk).1,(World.cell?_of_block (a:=⟨bn,_,none⟩) fn).trans (h.sb.nd k hk).2⟩,l,h.sb.rg.of fun o h1 _=>cb o (by omega),(cb 4017 (by omega)).trans h.sb.k0,ownsRow_of_block h.sb.kp (fun k hk=>far k (h.sb.kp.lt k hk).2 (by rw[h.sp.k k hk];omega) (by rw[h.sp.k k hk];omega)),nf,⟨h.sb.lo.1,h.sb.lo.2.1,h.sb.lo.2.2.of fn q.size⟩⟩,h.rw.same q.size (fun hl=>far br (h.rw.nr hl).1.1 (by rw[h.sp.r hl];omega) (by rw[h.sp.r hl];omega)) (fun k hk=>far (cB k) (h.rw.nc k hk).1.1 (by rw[h.sp.c k hk];omega) (by rw[h.sp.c k hk];omega)) (fun k hk hl=>far (pb k) (h.rw.pl k hk hl).2.1.1 (by rw[h.sp.p k hk hl];omega) (by rw[h.sp.p k hk hl];omega)),?_,h.pr.of (fun q hq h1=>far q hq (by rw[h1];omega) (by rw[h1];omega)) (fun q hq h1=>by(try dsimp only);rw[if_neg (ne4 q hq (by rw[h1];omega))];exact h1)⟩;refine⟨?_,?_,fun hl=>?_,fun k hk=>?_,fun k hk=>?_,fun k hk=>?_,fun k hk hl=>?_⟩
 ·rw[if_neg (ne4 b h.sb.nb.1 (by rw[h.sp.b];omega))];exact h.sp.b
 ·rw[if_neg (ne4 bn h.sb.lo.2.2.1 (by rw[h.sp.n];omega))];exact h.sp.n
 ·rw[if_neg (ne4 br (h.rw.nr hl).1.1 (by rw[h.sp.r hl];omega))];exact h.sp.r hl
 ·rw[if_neg (ne4 (cB k) (h.rw.nc k hk).1.1 (by rw[h.sp.c k hk];omega))];exact h.sp.c k hk
 ·rw[if_pos hk]
 ·rw[if_neg (ne4 k (h.sb.kp.lt k hk).2 (by rw[h.sp.k k hk];omega))];exact h.sp.k k hk
 ·rw[if_neg (ne4 (pb k) (h.rw.pl k hk hl).2.1.1 (by rw[h.sp.p k hk hl];omega))];exact h.sp.p k hk hl
theorem SAt.keptAs[Inhabited ProtD]{B:Nat}{w:World}{b:Nat}{x:Hp}{ar:Option Addr}{kr:Nat}{v4 v8:Value}{br bn:Nat}{cB cO:Nat→Nat}{pb:Nat→Nat}{pa:Nat→Option Addr}{pk:Nat→Nat}{kn hd:Nat}{vf:Value}{F:List Int}{vk:Value}{K:List Nat}{role:Nat→Nat}(h:SAt B w b x ar kr v4 v8 br cB cO bn pb pa pk kn hd vf F vk K role){vk':Value}{K':List Nat}(ow:w.ownsRow B 126 1 vk' K'.length (K'.map (ndp bn)))(hb:∀q,vk'.ownBlock=some q→vk.ownBlock=some q):
  SAt B (w.setCell ⟨b,4017,none⟩ vk') b x ar kr v4 v8 br cB cO bn pb pa pk kn hd vf F vk' K' role:=by
 have far:∀q,q≠b→(w.setCell ⟨b,4017,none⟩ vk').heap[q]?=w.heap[q]?:=fun q hne=>Below.heap_setCell _ _ _ _ hne
 have cb:∀o,o≠4017→(w.setCell ⟨b,4017,none⟩ vk').cell? ⟨b,o,none⟩=w.cell? ⟨b,o,none⟩:=fun o ho=>cell_other _ (.inr (fun e=>ho e.symm))
 have ne:∀q,role q≠0→q≠b:=fun q hq e=>hq (by rw[e];exact h.sp.b)
 have hsz:w.heap.size≤(w.setCell ⟨b,4017,none⟩ vk').heap.size:=by simp [World.setCell]
 have fn:=far bn (ne bn (by rw[h.sp.n];omega));refine⟨⟨h.sb.bx.of fun o ho=>cb o (by omega),h.sb.ha,(cb 13 (by omega)).trans h.sb.n13,fun k hk=>⟨(World.cell?_of_block (a:=⟨bn,_,none⟩) fn).trans (h.sb.nd k hk).1,(World.cell?_of_block (a:=⟨bn,_,none⟩) fn).trans (h.sb.nd k hk).2⟩,⟨(cb 14 (by omega)).trans h.sb.fr.hd,?_,ownsRow_of_block h.sb.fr.own (fun q hq=>far q (ne q (by rw[h.sp.f q hq];omega))),h.sb.fr.apart⟩,h.sb.rg.of fun o _ h2=>cb o (by omega),?_,?_,h.sb.nb.set _ _,⟨h.sb.lo.1,h.sb.lo.2.1,h.sb.lo.2.2.of fn hsz⟩⟩,?_,?_,h.pr.of (fun q hq h1=>far q (ne q (by rw[h1];omega))) (fun _ _ h=>h)⟩
 ·rw[World.frozen?_setCell];exact h.sb.fr.hf
 ·exact World.cell?_setCell_same _ _ _ h.sb.k0
 ·exact ownsRow_of_block ow (fun q hq=>far q (ne q (by rw[h.sp.k q (hb q hq)];omega)))
 ·exact h.rw.same hsz (fun hl=>far br (ne br (by rw[h.sp.r hl];omega))) (fun q hq=>far (cB q) (ne (cB q) (by rw[h.sp.c q hq];omega))) (fun q hq hl=>far (pb q) (ne (pb q) (by rw[h.sp.p q hq hl];omega)))
 ·exact⟨h.sp.b,h.sp.n,h.sp.r,h.sp.c,h.sp.f,fun q hq=>h.sp.k q (hb q hq),h.sp.p⟩
theorem own_short1{w:World}{B:Nat}{e:TypeId}{a:Option Addr}{k:Nat}{K:List Nat}{l:Nat}{bn:Nat}(h:w.ownsRow B e 1 (.slice a (K++[l]).length k) (K++[l]).length ((K++[l]).map (ndp bn))):w.ownsRow B e 1 (.slice a K.length k) K.length (K.map (ndp bn)):=by
 obtain⟨_,h2⟩:=h;refine⟨by simp,?_⟩;rcases h2 with⟨_,h0⟩ | ⟨g,cap,cur,e1,e2,e3,e4,e5,e6,e7⟩
 ·simp at h0
 ·injection e1 with e1 e1b e1c
  subst e1 e1c;refine .inr ⟨g,_,cur,rfl,e2,e3,by simp at e4;omega,e5,e6,?_⟩;have:=congrArg (List.take K.length) e7;rw[List.take_take] at this;simp at this
  simpa using this
theorem unit4_done(x:Hp)(hd:∀i j,i<x.cells.length→j<x.cells.length→(x.c i).st=1→(x.c j).st=0→i<j):unit4 x=toPh x 5 0:=by
 unfold unit4;obtain⟨a,b,c⟩:=fstFree_is x;rw[if_pos];rcases lstUsed_is x x.cells.length with⟨e,_⟩ | ⟨f,e,hf,h1,_⟩
 ·rw[e];omega
 ·rw[e];rcases Nat.lt_or_ge (fstFree x) x.cells.length with l | l
  ·have:=hd f _ hf l h1 (c l);omega
  ·omega
theorem unit4_go(x:Hp)(j l:Nat)(hj:j<x.cells.length)(h0:(x.c j).st=0)(hm:∀q,q<j→(x.c q).st≠0)(hl:l<x.cells.length)(h1:(x.c l).st=1)(hx:∀i,l<i→i<x.cells.length→(x.c i).st≠1)(hjl:j<l):unit4 x=moveH x j l:=by
 have e1:=fstFree_at x j hj hm h0
 have e2:lstUsed x x.cells.length=(l:Int):=by
  rcases lstUsed_is x x.cells.length with⟨_,h⟩ | ⟨f,e,hf,h2,h3⟩
  ·exact absurd h1 (h l hl)
  ·rcases Nat.lt_trichotomy f l with q | q | q
   ·exact absurd h1 (h3 l q hl)
   ·rw[e,q]
   ·exact absurd h2 (hx f q hf)
 unfold unit4;rw[e1,e2,if_neg (by omega)];rfl
theorem inv4_end{C:Nat}{x:Hp}{F:List Int}{K:List Nat}(h:SInv C x F K)(hp:x.phase=4){F':List Int}(g:GapL x F F'):SInv C (toPh x 5 0) F' [] where
 ho:=g.1
 al:=fun i hi hs=>g.2.2.2 i hi hs (h.al i hi hs)
 nn:=fun v hv=>h.nn v (g.2.2.1 v hv)
 le:=by
  have h1:=h.le;have h2:=g.2.1;have e1:remU x=8000:=by unfold remU;rw[if_neg (by omega),if_neg (by omega),if_pos (by omega)]
  have e2:remU (toPh x 5 0)=8000:=rfl;omega
 k3:=fun e=>by simp [toPh] at e
 k4:=fun e=>by simp [toPh] at e
 k0:=fun _ _=>rfl
theorem done_none{C:Nat}{x:Hp}{F:List Int}{K:List Nat}(h:SInv C x F K){F':List Int}(g:GapL x F F')(t:GapT x F' none):unit4 x=toPh x 5 0:=unit4_done x fun i j hi hj h1 h0=>by
 have:=g.2.2.2 j hj h0 (h.al j hj h0);have t':F'=[]:=t;rw[t'] at this;exact absurd this (by simp)
theorem done_nil{C:Nat}{x:Hp}{F:List Int}(h:SInv C x F [])(hp:x.phase=4):unit4 x=toPh x 5 0:=unit4_done x fun i j hi hj h1 h0=>(h.k4 hp).2.2 i hi h1 (by simp) j hj h0
theorem last_le{K:List Nat}{l:Nat}(h:(K++[l]).Pairwise (· < ·)):∀i,i∈K→i<l:=fun i hi=>(List.pairwise_append.1 h).2.2 i hi l (by simp)
theorem done_past{C:Nat}{x:Hp}{F:List Int}{K:List Nat}{l:Nat}(h:SInv C x F (K++[l]))(hp:x.phase=4){F':List Int}(g:GapL x F F'){j:Nat}(t:GapT x F' (some j))(hl:l<j):unit4 x=toPh x 5 0:=unit4_done x fun i q hi hq h1 h0=>by
 have k4:=h.k4 hp;by_cases e:i∈K++[l]
 ·have hil:i≤l:=by
   rcases List.mem_append.1 e with e | e
   ·have:=last_le k4.1 i e;omega
   ·simp at e;omega
  have:=t.2.2 q (g.2.2.2 q hq h0 (h.al q hq h0));omega
 ·exact k4.2.2 i hi h1 e q hq h0
theorem gap_least{C:Nat}{x:Hp}{F:List Int}{K:List Nat}(h:SInv C x F K){F':List Int}(g:GapL x F F'){j:Nat}(t:GapT x F' (some j)):∀q,q<x.cells.length→(x.c q).st=0→j≤q:=fun q hq h0=>by
 have:=t.2.2 q (g.2.2.2 q hq h0 (h.al q hq h0));omega
theorem moveH_c(x:Hp)(t f:Nat)(ht:t<x.cells.length)(hf:f<x.cells.length)(q:Nat):(moveH x t f).c q=if q=f then mvC t else if q=t then x.c f else x.c q:=mvd_c x t f ht hf q
theorem go_move{C:Nat}{x:Hp}{F:List Int}{K:List Nat}{l:Nat}(h:SInv C x F (K++[l]))(hp:x.phase=4){F':List Int}(g:GapL x F F'){j:Nat}(t:GapT x F' (some j))(hl:¬l<j):l<x.cells.length∧j≠l∧unit4 x=moveH x j l∧SInv C (moveH x j l) F' K:=by
 have k4:=h.k4 hp;obtain⟨hll,hl1⟩:=k4.2.1 l (by simp);have hjl:j≠l:=fun e=>by have:=t.2.1;rw[e,hl1] at this;omega
 have lt:=gap_least h g t;have c:=moveH_c x j l t.1 hll;refine⟨hll,hjl,unit4_go x j l t.1 t.2.1 (fun q hq e=>by have:=lt q (by have:=t.1;omega) e;omega) hll hl1 (fun i h1 h2 h3=>?_) (by omega),?_⟩
 ·by_cases e:i∈K++[l]
  ·rcases List.mem_append.1 e with e | e
   ·have:=last_le k4.1 i e;omega
   ·simp at e;omega
  ·have:=k4.2.2 i h2 h3 e j t.1 t.2.1;omega
 ·have len:(moveH x j l).cells.length=x.cells.length:=by simp [moveH]
  have free:∀i,((moveH x j l).c i).st=0→(x.c i).st=0∧i≠j∧i≠l:=fun i hi=>by
   rw[c i] at hi;by_cases e1:i=l
   ·rw[if_pos e1] at hi;simp [mvC] at hi
   ·rw[if_neg e1] at hi;by_cases e2:i=j
    ·rw[if_pos e2,hl1] at hi;omega
    ·rw[if_neg e2] at hi;exact⟨hi,e2,e1⟩
  refine⟨g.1,fun i hi hs=>?_,fun v hv=>h.nn v (g.2.2.1 v hv),?_,fun e=>?_,fun _=>⟨?_,fun i hi=>?_,fun i hi h1 hn q hq h0=>?_⟩,fun _ e=>absurd hp e⟩
  ·rw[len] at hi;exact g.2.2.2 i hi (free i hs).1 (h.al i hi (free i hs).1)
  ·have h1:=h.le;have h2:=g.2.1;have e1:remU x=8000:=by unfold remU;rw[if_neg (by omega),if_neg (by omega),if_pos (by omega)]
   have hp2:(moveH x j l).phase=4:=hp;have e2:remU (moveH x j l)=8000:=by unfold remU;rw[if_neg (by omega),if_neg (by omega),if_pos (by omega)]
   omega
  ·have hp2:(moveH x j l).phase=4:=hp;omega
  ·exact(List.pairwise_append.1 k4.1).1
  ·have:=last_le k4.1 i hi;obtain⟨a1,a2⟩:=k4.2.1 i (List.mem_append_left _ hi);refine⟨by rw[len];exact a1,?_⟩;rw[c i,if_neg (by omega),if_neg (fun e=>by have:=t.2.1;rw[←e,a2] at this;omega)];exact a2
  ·rw[len] at hi hq;obtain⟨f1,f2,f3⟩:=free q h0;rw[c i] at h1;by_cases e1:i=l
   ·rw[if_pos e1] at h1;simp [mvC] at h1
   ·rw[if_neg e1] at h1;by_cases e2:i=j
    ·have:=lt q hq f1;omega
    ·rw[if_neg e2] at h1;exact k4.2.2 i hi h1 (fun e=>by rcases List.mem_append.1 e with e | e;exact hn e;simp at e;exact e1 e) q hq f1
def Gave[Inhabited ProtD](B:Nat)(w w':World)(b:Nat)(y:Hp)(ar:Option Addr)(kr:Nat)(v4 v8:Value)(br:Nat)(cB cO:Nat→Nat)(bn:Nat)(pb:Nat→Nat)(kn hd:Nat)(vf:Value)(F:List Int)(vk:Value)(K:List Nat)(i:Nat):Prop:=
 (∃pa' pk' vf' F' role',SAt B w' b y ar kr v4 v8 br cB cO bn pb pa' pk' kn hd vf' F' vk K role'∧Ho F'∧F'.Perm ((i:Int)::F))∧∀q,q<w.heap.size→q≠b→q≠cB i→vf.ownBlock≠some q→w'.heap[q]?=w.heap[q]?
theorem giveBack_any[Inhabited ProtD]{B:Nat}{w:World}{b:Nat}{x:Hp}{ar:Option Addr}{kr:Nat}{v4 v8:Value}{br bn:Nat}{cB cO:Nat→Nat}{pb:Nat→Nat}{pa:Nat→Option Addr}{pk:Nat→Nat}{kn hd:Nat}{vf:Value}{F:List Int}{vk:Value}{K:List Nat}{role:Nat→Nat}(h:SAt B w b x ar kr v4 v8 br cB cO bn pb pa pk kn hd vf F vk K role)(i:Nat)(hi:i<x.cells.length)(ho:Ho F)(hl:F.length≤1000000000)(a:World)(ha:a.heap.size≤B)(hx:Ext a w):
  Calls Tryz.prog 332 #[.pointer (some ⟨b,0,none⟩),ndp bn i] w fun e w'=>e=.returned (.tuple #[])∧Gave B w w' b { x with cells:=x.cells.set i Cl0 } ar kr v4 v8 br cB cO bn pb kn hd vf F vk K i∧Ext a w':=by
 have H:=hide h;obtain⟨m0,m1⟩:=h.sb.nd i hi;obtain⟨e0,e1,e2,e3,e4,e5,e6⟩:=h.rw.s i hi;have e7:=h.rw.p7 i hi;have fc:=(h.rw.nc i hi).1.2;have NBC:=hide (show ¬bn=cB i from fun e=>by have h1:=h.sp.n;have h2:=h.sp.c i hi;rw[e] at h1;omega);have nbc:¬bn=cB i:=unhide NBC;have ncb:¬cB i=bn:=fun e=>unhide NBC e.symm
 have hbc:cB i<w.heap.size:=cell_lt e0;have hbn:bn<w.heap.size:=cell_lt m0;have G2:=hide (h.wiped i hi 0 0);have X2:=hide ((wipe_only w (cB i) (cO i) 0 0).ext hx (fun q hq e=>by have:=(h.rw.nc i hi).2;omega));have HO:=hide (And.intro ho hl);have M0:=hide ((World.cell?_of_block (a:=⟨bn,i*2,none⟩) ((wipe_only w (cB i) (cO i) 0 0).block bn hbn nbc)).trans m0);obtain⟨W2,hW2⟩:∃W,W=wipeW w (cB i) (cO i) 0 0:=⟨_,rfl⟩;rw[←hW2] at G2 X2 M0;have O2:=hide (show Only (fun q=>q=cB i) w W2 by rw[hW2];exact wipe_only w (cB i) (cO i) 0 0);unfold wipeW at hW2;clear h ho hl;go_enter Tryz.func332,Tryz.ntmps332;go_wp2_with fail;rw[←hW2];clear hW2 m0 m1 e0 e1 e2 e3 e4 e5 e6 e7 fc;have k0:=unhide M0;have hB:B≤W2.heap.size:=by have:=(unhide G2).sb.lo.2.1;have:=(unhide G2).sb.lo.2.2.1;omega
 go_region_with (go_at_call 107;refine(put_ls _ B b 14 vf F i ((unhide G2).sb.fr.ext (Ext.refl W2).drew) (by simpa using hB) (unhide HO).1 (unhide HO).2).mono ?_;rintro e w3 ⟨rfl,v3,L3,l3,o3,p3,q3⟩;have Q3:=hide q3;have R3:=hide (And.intro l3 (And.intro o3 p3));clear l3 o3 p3 q3)
 all_goals
  have NF:=hide (show Nf1 b w3 from⟨Nat.lt_of_lt_of_le (unhide G2).sb.nb.1 (by have:=(unhide Q3).size;simpa using this),fun j=>((unhide Q3).hfr j).trans (((unhide G2).sb.nb.ext (Ext.refl W2).drew).2 j)⟩);have G3:=hide (((unhide G2).ext (Ext.refl W2).drew).freed (unhide R3).1 (unhide Q3) (unhide NF))
  have FN:=hide (show Gave B w w3 b { x with cells:=x.cells.set i Cl0 } ar kr v4 v8 br cB cO bn pb kn hd vf F vk K i by
   obtain⟨role',g⟩:=unhide G3;refine⟨⟨_,_,v3,L3,role',g,(unhide R3).2.1,(unhide R3).2.2⟩,fun q hq h1 h2 h3=>?_⟩;have hq2:q<W2.heap.size:=Nat.lt_of_lt_of_le hq (unhide O2).size;exact((unhide Q3).block q (by simpa using hq2) h1 h3).trans ((unhide O2).block q hq h2))
  have XN:=hide ((unhide Q3).ext (unhide X2).drew (by have:=(unhide G2).sb.lo.1;omega) (fun k hk=>by have:=((unhide G2).sb.fr.own.lt k hk).1;omega));go_wp2_with fail
  go_end0
  exact⟨rfl,unhide FN,unhide XN⟩
def GK[Inhabited ProtD](B:Nat)(w:World)(g:Nat)(x:Hp)(ar:Option Addr)(kr:Nat)(ac:Option Addr)(kc:Nat)(vg:Value)(br bc:Nat):Prop:=∃pb pa pk role,GAt B w g x ar kr ac kc vg br bc pb pa pk role
theorem GK.ext[Inhabited ProtD]{B:Nat}{w w':World}{g:Nat}{x:Hp}{ar:Option Addr}{kr:Nat}{ac:Option Addr}{kc:Nat}{vg:Value}{br bc:Nat}(h:GK B w g x ar kr ac kc vg br bc)(e:Ext w w'):GK B w' g x ar kr ac kc vg br bc:=let ⟨pb,pa,pk,role,h⟩:=h;⟨pb,pa,pk,role,h.ext e⟩
theorem GK.ok[Inhabited ProtD]{B:Nat}{w:World}{g:Nat}{x:Hp}{ar:Option Addr}{kr:Nat}{ac:Option Addr}{kc:Nat}{vg:Value}{br bc:Nat}(h:GK B w g x ar kr ac kc vg br bc):GOk B w g x:=let ⟨pb,pa,pk,role,h⟩:=h;⟨_,_,_,_,_,_,_,pb,pa,pk,role,h⟩
theorem GK.set1[Inhabited ProtD]{B:Nat}{w:World}{g:Nat}{x:Hp}{ar:Option Addr}{kr:Nat}{ac:Option Addr}{kc:Nat}{vg:Value}{br bc:Nat}(h:GK B w g x ar kr ac kc vg br bc)(v:Int):GK B (w.setCell ⟨g,1,none⟩ (iv v)) g { x with used:=v } ar kr ac kc vg br bc:=let ⟨_,_,_,_,h⟩:=h;⟨_,_,_,_,h.boxed (x':={ x with used:=v }) (Only.setCell (S:=fun q=>q=g) (Only.refl _ w) (p:=⟨g,1,none⟩) rfl _) (h.nf.set _ _) rfl rfl rfl (h.bx.set1 v)⟩
def Fr2(g bc:Nat)(w w':World):Prop:=w.heap.size≤w'.heap.size∧∀q,q<w.heap.size→q≠g→q≠bc→w'.heap[q]?=w.heap[q]?
theorem Fr2.ext{g bc:Nat}{w w1 w2:World}(h:Fr2 g bc w w1)(e:Ext w1 w2):Fr2 g bc w w2:=⟨Nat.le_trans h.1 e.size,fun q h1 h2 h3=>(e.block q (Nat.lt_of_lt_of_le h1 h.1)).trans (h.2 q h1 h2 h3)⟩
theorem Fr2.of{g bc:Nat}{w w1:World}(e:Ext w w1):Fr2 g bc w w1:=⟨e.size,fun q h1 _ _=>e.block q h1⟩
theorem Fr2.set{g bc:Nat}{w w1:World}(h:Fr2 g bc w w1)(p:Addr)(hp:p.block=g∨p.block=bc)(u:Value):Fr2 g bc w (w1.setCell p u):=⟨by have:=h.1;simpa [World.setCell] using this,fun q h1 h2 h3=>(Below.heap_setCell _ _ _ _ (by rcases hp with e | e <;> rw[e] <;> assumption)).trans (h.2 q h1 h2 h3)⟩
theorem Fr2.trans{g bc:Nat}{a b c:World}(h:Fr2 g bc a b)(k:Fr2 g bc b c):Fr2 g bc a c:=⟨Nat.le_trans h.1 k.1,fun q h1 h2 h3=>(k.2 q (Nat.lt_of_lt_of_le h1 h.1) h2 h3).trans (h.2 q h1 h2 h3)⟩
def HRd(w:World)(y:Hp)(ar:Option Addr)(kr:Nat)(ac:Option Addr)(kc:Nat)(ag:Option Addr)(kg:Nat):Prop:=SlW w (.slice ar y.regs.length kr) y.regs∧SlC w (.slice ac y.cells.length kc) y.cells∧SlI w (.slice ag y.gray.length kg) y.gray
theorem HRd.ext{w w':World}{y:Hp}{ar:Option Addr}{kr:Nat}{ac:Option Addr}{kc:Nat}{ag:Option Addr}{kg:Nat}(h:HRd w y ar kr ac kc ag kg)(e:Ext w w'):HRd w' y ar kr ac kc ag kg:=⟨SlW.ext e h.1,SlC.ext e h.2.1,SlI.ext e h.2.2⟩
theorem HRd.zero(w:World):HRd w Hp0 none 0 none 0 none 0:=⟨SlOf.nil,SlOf.nil,SlOf.nil⟩
theorem GAt.rd[Inhabited ProtD]{B:Nat}{w:World}{g:Nat}{x:Hp}{ar:Option Addr}{kr:Nat}{ac:Option Addr}{kc:Nat}{ag:Option Addr}{kg:Nat}{br bc:Nat}{pb:Nat→Nat}{pa:Nat→Option Addr}{pk:Nat→Nat}{role:Nat→Nat}(h:GAt B w g x ar kr ac kc (.slice ag x.gray.length kg) br bc pb pa pk role)(n1:x.regs.length≤1048576)(n2:x.cells.length≤1048576)(n3:∀q,q<x.cells.length→(x.c q).prs.length≤200)(n4:x.gray.length≤1048576):HRd w x ar kr ac kc ag kg:=by
 refine⟨h.rw.slW kr h.ha n1,h.rw.slC kc h.hc n2 n3,⟨ag,kg,rfl,by omega,fun i hi=>?_⟩⟩;obtain⟨gb,go,e,c,_⟩:=h.gr.at i hi;exact⟨gb,go,e,by rw[Nat.mul_one];exact c⟩
def SameSt(x z:Hp):Prop:=z.cells.length=x.cells.length∧∀q,(z.c q).st=(x.c q).st
theorem SameSt.refl(x:Hp):SameSt x x:=⟨rfl,fun _=>rfl⟩
theorem SameSt.trans{x y z:Hp}(h:SameSt x y)(k:SameSt y z):SameSt x z:=⟨k.1.trans h.1,fun q=>(k.2 q).trans (h.2 q)⟩
theorem SameSt.set(x:Hp)(i:Nat)(c:Cl)(hc:c.st=(x.c i).st){z:Hp}(hz:z.cells=x.cells.set i c):SameSt x z:=by
 refine⟨by rw[hz];simp,fun q=>?_⟩;have e:z.c q=({ x with cells:=x.cells.set i c }:Hp).c q:=by simp only [Hp.c,hz]
 rw[e];rcases Nat.lt_or_ge i x.cells.length with hi | hi
 ·rw[Hp.c_set x i c hi q];by_cases h:q=i
  ·rw[if_pos h,h];exact hc
  ·rw[if_neg h]
 ·rw[List.set_eq_of_length_le hi]
theorem SameSt.cells{x z:Hp}(hz:z.cells=x.cells):SameSt x z:=⟨by rw[hz],fun q=>by simp only [Hp.c,hz]⟩
theorem same_shade(x:Hp)(i:Nat):SameSt x (shadeH x i):=by
 unfold shadeH
 split
 ·exact SameSt.set x i (grayC (x.c i)) rfl rfl
 ·exact SameSt.refl x
theorem same_shadeW(x:Hp)(y:Wd):SameSt x (shadeW x y):=by
 unfold shadeW
 split
 ·exact same_shade x _
 ·exact SameSt.refl x
theorem same_fold:∀(ys:List Wd) (z:Hp),SameSt z (ys.foldl shadeW z)∧(ys.foldl shadeW z).phase=z.phase
 | [],z=>⟨SameSt.refl z,rfl⟩
 | y::ys,z=>by
  obtain⟨a,b⟩:=same_fold ys (shadeW z y);exact⟨(same_shadeW z y).trans a,b.trans (shadeW_same z y).2.2.1⟩
theorem remU_12{x:Hp}(h:x.phase=1∨x.phase=2):remU x=16000:=by unfold remU;rw[if_pos h]
theorem remU_3{x:Hp}(h:x.phase=3):remU x=8000+(x.cells.length-x.hand.toNat):=by unfold remU;rw[if_neg (by omega),if_pos h]
theorem remU_45{x:Hp}(h:x.phase=4∨x.phase=5):remU x=8000:=by unfold remU;rw[if_neg (by omega),if_neg (by omega),if_pos h]
theorem remU_6{x:Hp}(h:x.phase=6):remU x=x.hand.toNat:=by unfold remU;rw[if_neg (by omega),if_neg (by omega),if_neg (by omega),if_pos h]
theorem remU_0{x:Hp}(h:x.phase=0):remU x=0:=by unfold remU;rw[if_neg (by omega),if_neg (by omega),if_neg (by omega),if_neg (by omega)]
theorem SInv.same{C:Nat}{x:Hp}{F:List Int}{K:List Nat}(h:SInv C x F K){z:Hp}(hs:SameSt x z)(hp:x.phase≠3∧x.phase≠4)(hr:remU z≤remU x)(h4:z.phase≠4)(h3:z.phase=3→z.hand=0):SInv C z F K where
 ho:=h.ho
 al:=fun i hi h0=>h.al i (by rw[←hs.1];exact hi) (by rw[←hs.2];exact h0)
 nn:=h.nn
 le:=by have:=h.le;omega
 k3:=fun e=>by rw[h.k0 hp.1 hp.2];exact⟨List.Pairwise.nil,fun i hi=>by simp at hi,fun i hi=>by rw[h3 e] at hi;simp at hi⟩
 k4:=fun e=>absurd e h4
 k0:=fun _ _=>h.k0 hp.1 hp.2
theorem inv1{C:Nat}{x:Hp}{F:List Int}{K:List Nat}(h:SInv C x F K)(hp:x.phase=1):SInv C (unit1 x) F K:=by
 have hr:=remU_12 (.inl hp);have key:∀z:Hp,SameSt x z→z.phase=1→SInv C z F K:=fun z hs hz=>h.same hs ⟨by omega,by omega⟩ (by rw[hr,remU_12 (.inl hz)];omega) (by omega) (fun e=>by omega)
 unfold unit1
 split
 ·refine h.same (z:=toPh x 2 0) (SameSt.cells rfl) ⟨by omega,by omega⟩ ?_ (by simp [toPh]) (by simp [toPh]);rw[hr,remU_12 (.inr rfl)];omega
 ·by_cases e:spkB (x.c x.hand.toNat)=true
  ·simp only [if_pos e];exact key _ ((same_shade x x.hand.toNat).trans (SameSt.cells rfl)) ((shade_same x _).2.2.2.2.2.1.trans hp)
  ·simp only [if_neg e];exact key _ (SameSt.cells rfl) hp
theorem inv2{C:Nat}{x:Hp}{F:List Int}{K:List Nat}(h:SInv C x F K)(hp:x.phase=2)(n8:x.cells.length≤8000):SInv C (unit2 x) F K:=by
 have hr:=remU_12 (.inr hp);have key:∀z:Hp,SameSt x z→z.phase=2→SInv C z F K:=fun z hs hz=>h.same hs ⟨by omega,by omega⟩ (by rw[hr,remU_12 (.inr hz)];omega) (by omega) (fun e=>by omega)
 unfold unit2
 split
 ·rename_i g G hg
  split
  ·refine key _ (((same_shadeW x _).trans (same_shadeW _ _)).trans (SameSt.cells rfl)) ?_;exact(shadeW_same _ _).2.2.1.trans ((shadeW_same _ _).2.2.1.trans hp)
  ·exact key _ (SameSt.set x g.toNat (blackC (x.c g.toNat)) rfl rfl) hp
 ·obtain⟨a,b⟩:=same_fold x.regs x;have len:(lookH x).cells.length≤8000:=by have:=a.1;unfold lookH;omega
  split
  ·refine h.same (a.trans (SameSt.cells rfl)) ⟨by omega,by omega⟩ ?_ (by simp [toPh]) (by simp [toPh]);rw[hr,remU_3 rfl];simp only [toPh];omega
  ·exact key _ a (b.trans hp)
theorem inv5{C:Nat}{x:Hp}{F:List Int}{K:List Nat}(h:SInv C x F K)(hp:x.phase=5)(n8:x.cells.length≤8000):SInv C (unit5 x) F K:=by
 have hr:=remU_45 (.inr hp);have key:∀z:Hp,SameSt x z→z.phase=5→SInv C z F K:=fun z hs hz=>h.same hs ⟨by omega,by omega⟩ (by rw[hr,remU_45 (.inr hz)];omega) (by omega) (fun e=>by omega)
 unfold unit5
 split
 ·refine h.same (z:=toPh x 6 x.cells.length) (SameSt.cells rfl) ⟨by omega,by omega⟩ ?_ (by simp [toPh]) (by simp [toPh]);rw[hr,remU_6 rfl];simp [toPh];exact n8
 ·split
  ·exact key _ (SameSt.set x x.hand.toNat (mendC x (x.c x.hand.toNat) x.sub.toNat) rfl rfl) hp
  ·exact key _ (SameSt.cells rfl) hp
theorem inv3_end{C:Nat}{x:Hp}{F:List Int}{K:List Nat}(h:SInv C x F K)(hp:x.phase=3)(he:x.hand=x.cells.length):SInv C (toPh x 4 0) F K where
 ho:=h.ho
 al:=h.al
 nn:=h.nn
 le:=by have:=h.le;rw[remU_3 hp] at this;rw[remU_45 (.inl rfl)];omega
 k3:=fun e=>by simp [toPh] at e
 k4:=fun _=>by
  have k:=h.k3 hp;rw[show x.hand.toNat=x.cells.length by omega] at k;exact k
 k0:=fun _ e=>by simp [toPh] at e
theorem inv3_step{C:Nat}{x z:Hp}{F F':List Int}{K:List Nat}(h:SInv C x F K)(hp:x.phase=3)(hz:z.phase=3)(i:Nat)(hi:x.hand=(i:Int))(hin:i<x.cells.length)(hzi:z.hand=(i:Int)+1)(hl:z.cells.length=x.cells.length)(hs:∀q,q≠i→(z.c q).st=(x.c q).st)(ho:Ho F')(hf:(F'=F∧((z.c i).st=0→(x.c i).st=0))∨F'.Perm ((i:Int)::F)):SInv C z F' (K++if (z.c i).st=1 then [i] else []) where
 ho:=ho
 al:=fun q hq h0=>by
  rw[hl] at hq;rcases hf with⟨e,e2⟩ | e
  ·rw[e];refine h.al q hq ?_;by_cases c:q=i
   ·rw[c] at h0 ⊢;exact e2 h0
   ·rw[←hs q c];exact h0
  ·refine e.mem_iff.2 ?_;by_cases c:q=i
   ·rw[c];exact List.mem_cons_self
   ·exact List.mem_cons_of_mem _ (h.al q hq (by rw[←hs q c];exact h0))
 nn:=fun v hv=>by
  rcases hf with⟨e,_⟩ | e
  ·rw[e] at hv;exact h.nn v hv
  ·rcases List.mem_cons.1 (e.mem_iff.1 hv) with e2 | e2
   ·omega
   ·exact h.nn v e2
 le:=by
  have h1:=h.le;rw[remU_3 hp] at h1;rw[remU_3 hz]
  have:F'.length≤F.length+1:=by
   rcases hf with⟨e,_⟩ | e
   ·rw[e];omega
   ·have:=e.length_eq;simp at this;omega
  omega
 k3:=fun _=>by
  have e:z.hand.toNat=i+1:=by omega
  have e2:x.hand.toNat=i:=by omega
  obtain⟨p1,p2,p3⟩:=h.k3 hp;rw[e2] at p2 p3;rw[e]
  have mem:∀q,q∈(K++if (z.c i).st=1 then [i] else [])↔q∈K∨((z.c i).st=1∧q=i):=fun q=>by
   by_cases c:(z.c i).st=1
   ·simp [c]
   ·simp [c]
  refine⟨?_,fun q hq=>?_,fun q hq h1 hn j hj h0=>?_⟩
  ·by_cases c:(z.c i).st=1
   ·rw[if_pos c];refine List.pairwise_append.2 ⟨p1,List.pairwise_singleton _ _,fun a ha b hb=>?_⟩;simp at hb;have:=(p2 a ha).1;omega
   ·rw[if_neg c,List.append_nil];exact p1
  ·rcases (mem q).1 hq with c | ⟨c,d⟩
   ·have:=p2 q c;exact⟨by omega,by rw[hs q (by omega)];exact this.2⟩
   ·rw[d];exact⟨by omega,c⟩
  ·have hne:q≠i:=fun c=>hn ((mem q).2 (.inr ⟨by rw[←c];exact h1,c⟩))
   by_cases c:j=i
   ·omega
   ·exact p3 q (by omega) (by rw[←hs q hne];exact h1) (fun c2=>hn ((mem q).2 (.inl c2))) j (by omega) (by rw[←hs j c];exact h0)
 k4:=fun e=>by omega
 k0:=fun e=>absurd hz e
theorem inv6_end{C:Nat}{x:Hp}{F:List Int}{K:List Nat}(h:SInv C x F K)(hp:x.phase=6){z:Hp}(hz:z.phase=0)(hc:z.cells=x.cells):SInv C z F K:=
 h.same (SameSt.cells hc) ⟨by omega,by omega⟩ (by rw[remU_0 hz];omega) (by omega) (fun e=>by omega)
theorem inv6_cell{C:Nat}{x z:Hp}{F F':List Int}{K:List Nat}(h:SInv C x F K)(hp:x.phase=6)(hz:z.phase=6)(i:Nat)(hi:x.hand=(i:Int)+1)(hzi:z.hand=(i:Int))(hl:z.cells.length≤x.cells.length)(hs:∀q,q<z.cells.length→q≠i→(z.c q).st=(x.c q).st)(ho:Ho F')(hf:(F'=F∧(i<z.cells.length→(z.c i).st=0→(x.c i).st=0))∨F'.Perm ((i:Int)::F)):SInv C z F' K where
 ho:=ho
 al:=fun q hq h0=>by
  rcases hf with⟨e,e2⟩ | e
  ·rw[e];refine h.al q (by omega) ?_;by_cases c:q=i
   ·rw[c] at h0 ⊢;exact e2 (by omega) h0
   ·rw[←hs q hq c];exact h0
  ·refine e.mem_iff.2 ?_;by_cases c:q=i
   ·rw[c];exact List.mem_cons_self
   ·exact List.mem_cons_of_mem _ (h.al q (by omega) (by rw[←hs q hq c];exact h0))
 nn:=fun v hv=>by
  rcases hf with⟨e,_⟩ | e
  ·rw[e] at hv;exact h.nn v hv
  ·rcases List.mem_cons.1 (e.mem_iff.1 hv) with e2 | e2
   ·omega
   ·exact h.nn v e2
 le:=by
  have h1:=h.le;rw[remU_6 hp] at h1;rw[remU_6 hz]
  have:F'.length≤F.length+1:=by
   rcases hf with⟨e,_⟩ | e
   ·rw[e];omega
   ·have:=e.length_eq;simp at this;omega
  omega
 k3:=fun e=>by omega
 k4:=fun e=>by omega
 k0:=fun _ _=>h.k0 (by omega) (by omega)
theorem inv0{C:Nat}{x:Hp}{F:List Int}{K:List Nat}(h:SInv C x F K)(hp:x.phase=0):SInv (C+16000) (toPh x 1 0) F K where
 ho:=h.ho
 al:=h.al
 nn:=h.nn
 le:=by have:=h.le;rw[remU_12 (.inl rfl)];omega
 k3:=fun e=>by simp [toPh] at e
 k4:=fun e=>by simp [toPh] at e
 k0:=fun _ _=>h.k0 (by omega) (by omega)
theorem SInv.wide{C D:Nat}{x:Hp}{F:List Int}{K:List Nat}(h:SInv C x F K)(hd:C≤D):SInv D x F K:=⟨h.ho,h.al,h.nn,Nat.le_trans h.le hd,h.k3,h.k4,h.k0⟩
end Go.Proofs.YtddkhnclmeikfaaGreat
