import Derived.Test.YtddkhnclmeikfaaGreatQa
import Derived.Test.YtddkhnclmeikfaaGreatHh
import Derived.Test.YtddkhnclmeikfaaGreatVf
import Derived.Test.YtddkhnclmeikfaaGreatLsD
set_option maxRecDepth 100000
set_option maxHeartbeats 1000000
namespace Go.Proofs.YtddkhnclmeikfaaGreat
open Go.RowKit
attribute [local go_sem ↓] Go.wp_at_zero Go.wp_at_succ
def nowV(p:Int)(b:Nat):Value:=if p=1 then .iface 233 (.agg #[.pointer (some ⟨b,0,none⟩)]) else if p=2 then .iface 234 (.agg #[.pointer (some ⟨b,0,none⟩)]) else if p=3 then .iface 235 (.agg #[.pointer (some ⟨b,0,none⟩)]) else if p=4 then .iface 236 (.agg #[.pointer (some ⟨b,0,none⟩)]) else if p=5 then .iface 237 (.agg #[.pointer (some ⟨b,0,none⟩)]) else if p=6 then .iface 238 (.agg #[.pointer (some ⟨b,0,none⟩)]) else .nilIface
theorem now_any(p:Int)(b:Nat)(w:World)(c5:w.cell? ⟨b,5,none⟩=some (iv p))(hp:0≤p∧p≤6):
  Calls Tryz.prog 213 #[.pointer (some ⟨b,0,none⟩)] w fun e w'=>e=.returned (nowV p b)∧w'=w:=by
 have h:p=0∨p=1∨p=2∨p=3∨p=4∨p=5∨p=6:=by omega
 clear hp;rcases h with rfl | rfl | rfl | rfl | rfl | rfl | rfl
 all_goals
  go_enter Tryz.func213,Tryz.ntmps213;go_wp2_with fail;go_ret;exact⟨rfl,rfl⟩
theorem atHand_none(hd:Int)(b n kn:Nat)(an:Option Addr)(w:World)(c6:w.cell? ⟨b,6,none⟩=some (iv hd))(c13:w.cell? ⟨b,13,none⟩=some (.slice an n kn))(h:(hd == (n:Int))=true):
  Calls Tryz.prog 236 #[.pointer (some ⟨b,0,none⟩)] w fun e w'=>e=.returned (.pointer none)∧Ext w w':=by
 go_enter Tryz.func236,Tryz.ntmps236;go_wp2_with fail;go_quiet (fail);go_wp2_with fail;go_ret;exact⟨rfl,(Ext.refl _).drewN _⟩
theorem atHand_some(b n kn bn i:Nat)(w:World)(c6:w.cell? ⟨b,6,none⟩=some (iv i))(c13:w.cell? ⟨b,13,none⟩=some (.slice (some ⟨bn,0,none⟩) n kn))(hi:i<n):
  Calls Tryz.prog 236 #[.pointer (some ⟨b,0,none⟩)] w fun e w'=>e=.returned (ndp bn i)∧Ext w w':=by
 have h:((i:Int) == (n:Int))=false:=by simp;omega
 have i0:(0:Int)≤(i:Int):=by omega
 have i1:(i:Int)<(n:Int):=by omega
 go_enter Tryz.func236,Tryz.ntmps236;go_wp2_with fail;go_quiet (fail);obtain⟨m1,rfl⟩:∃m,m=nq:=⟨_,rfl⟩;go_wp2_with fail;go_quiet (fail);go_wp2_with fail;go_ret;exact⟨rfl,((Ext.refl _).drewN _).drewN _⟩
theorem SAt.phased[Inhabited ProtD]{B:Nat}{w:World}{b:Nat}{x:Hp}{ar:Option Addr}{kr:Nat}{v4 v8:Value}{br bn:Nat}{cB cO:Nat→Nat}{pb:Nat→Nat}{pa:Nat→Option Addr}{pk:Nat→Nat}{kn hd:Nat}{vf:Value}{F:List Int}{vk:Value}{K:List Nat}{role:Nat→Nat}(h:SAt B w b x ar kr v4 v8 br cB cO bn pb pa pk kn hd vf F vk K role)(p hn:Int):
  SAt B (((w.setCell ⟨b,6,none⟩ (iv hn)).setCell ⟨b,7,none⟩ (iv 0)).setCell ⟨b,5,none⟩ (iv p)) b (toPh x p hn) ar kr v4 v8 br cB cO bn pb pa pk kn hd vf F vk K role:=by
 refine h.boxed (x':=toPh x p hn) (Only.setCell (S:=fun q=>q=b) (Only.setCell (S:=fun q=>q=b) (Only.setCell (S:=fun q=>q=b) (Only.refl _ w) (p:=⟨b,6,none⟩) rfl _) (p:=⟨b,7,none⟩) rfl _) (p:=⟨b,5,none⟩) rfl _) (((h.sb.nb.set _ _).set _ _).set _ _) rfl rfl rfl (((h.sb.bx.set6 hn).set7 0).set5 p) (fun k hk=>?_);rw[cell_other _ (.inr (by omega)),cell_other _ (.inr (by omega)),cell_other _ (.inr (by omega))]
theorem turn_low[Inhabited ProtD]{B:Nat}{w:World}{b:Nat}{x:Hp}{ar:Option Addr}{kr:Nat}{v4 v8:Value}{br bn:Nat}{cB cO:Nat→Nat}{pb:Nat→Nat}{pa:Nat→Option Addr}{pk:Nat→Nat}{kn hd:Nat}{vf:Value}{F:List Int}{vk:Value}{K:List Nat}{role:Nat→Nat}(h:SAt B w b x ar kr v4 v8 br cB cO bn pb pa pk kn hd vf F vk K role)(p:Int)(hp:x.phase=p)(h5:(p == 5)=false)(h6:(p == 6)=false)(hr:0≤p∧p≤6)(a:World)(ha:a.heap.size≤B)(hx:Ext a w):
  Calls Tryz.prog 143 #[.pointer (some ⟨b,0,none⟩)] w fun e w'=>e=.returned (nowV (p+1) b)∧Hid (SAt B w' b (toPh x (p+1) 0) ar kr v4 v8 br cB cO bn pb pa pk kn hd vf F vk K role)∧Ext a w':=by
 have H:=hide h;have c5:=h.sb.bx.2.2.2.2.2.1;have c6:=h.sb.bx.2.2.2.2.2.2.1;have c7:=h.sb.bx.2.2.2.2.2.2.2.1;rw[hp] at c5;have f5:=h.sb.nb.2 5;have f6:=h.sb.nb.2 6;have f7:=h.sb.nb.2 7;have lo:=h.sb.lo.1;have wp:wrap64 (p+1)=p+1:=by unfold wrap64;omega
 have FN:=hide (h.phased (p+1) 0);have XN:=hide (((hx.setCell (p:=⟨b,6,none⟩) (show a.heap.size≤b by omega) (iv 0)).setCell (p:=⟨b,7,none⟩) (show a.heap.size≤b by omega) (iv 0)).setCell (p:=⟨b,5,none⟩) (show a.heap.size≤b by omega) (iv (p+1)));have hr2:0≤p+1∧p+1≤6:=⟨by omega,by simp at h6;omega⟩;clear h hp;go_enter Tryz.func143,Tryz.ntmps143;go_wp2_with fail;refine(now_any (p+1) b _ ((unhide FN).sb.bx.2.2.2.2.2.1) hr2).mono ?_;rintro e w2 ⟨rfl,hw2⟩;subst hw2;go_wp2_with fail;go_ret;exact⟨rfl,unhide FN,unhide XN⟩
theorem turn_5[Inhabited ProtD]{B:Nat}{w:World}{b:Nat}{x:Hp}{ar:Option Addr}{kr:Nat}{v4 v8:Value}{br bn:Nat}{cB cO:Nat→Nat}{pb:Nat→Nat}{pa:Nat→Option Addr}{pk:Nat→Nat}{kn hd:Nat}{vf:Value}{F:List Int}{vk:Value}{K:List Nat}{role:Nat→Nat}(h:SAt B w b x ar kr v4 v8 br cB cO bn pb pa pk kn hd vf F vk K role)(hp:x.phase=5)(a:World)(ha:a.heap.size≤B)(hx:Ext a w):
  Calls Tryz.prog 143 #[.pointer (some ⟨b,0,none⟩)] w fun e w'=>e=.returned (nowV 6 b)∧Hid (SAt B w' b (toPh x 6 x.cells.length) ar kr v4 v8 br cB cO bn pb pa pk kn hd vf F vk K role)∧Ext a w':=by
 have H:=hide h;have c5:=h.sb.bx.2.2.2.2.2.1;have c6:=h.sb.bx.2.2.2.2.2.2.1;have c7:=h.sb.bx.2.2.2.2.2.2.2.1;have c13:=h.sb.n13;rw[hp] at c5;have f5:=h.sb.nb.2 5;have f6:=h.sb.nb.2 6;have f7:=h.sb.nb.2 7;have lo:=h.sb.lo.1
 have FN:=hide (show SAt B ((((w.setCell ⟨b,6,none⟩ (iv 0)).setCell ⟨b,7,none⟩ (iv 0)).setCell ⟨b,6,none⟩ (iv x.cells.length)).setCell ⟨b,5,none⟩ (iv 6)) b (toPh x 6 x.cells.length) ar kr v4 v8 br cB cO bn pb pa pk kn hd vf F vk K role by
  refine h.boxed (x':=toPh x 6 x.cells.length) (Only.setCell (S:=fun q=>q=b) (Only.setCell (S:=fun q=>q=b) (Only.setCell (S:=fun q=>q=b) (Only.setCell (S:=fun q=>q=b) (Only.refl _ w) (p:=⟨b,6,none⟩) rfl _) (p:=⟨b,7,none⟩) rfl _) (p:=⟨b,6,none⟩) rfl _) (p:=⟨b,5,none⟩) rfl _) ((((h.sb.nb.set _ _).set _ _).set _ _).set _ _) rfl rfl rfl ((((h.sb.bx.set6 0).set7 0).set6 x.cells.length).set5 6) (fun k hk=>?_);rw[cell_other _ (.inr (by omega)),cell_other _ (.inr (by omega)),cell_other _ (.inr (by omega)),cell_other _ (.inr (by omega))])
 have XN:=hide ((((hx.setCell (p:=⟨b,6,none⟩) (show a.heap.size≤b by omega) (iv 0)).setCell (p:=⟨b,7,none⟩) (show a.heap.size≤b by omega) (iv 0)).setCell (p:=⟨b,6,none⟩) (show a.heap.size≤b by omega) (iv x.cells.length)).setCell (p:=⟨b,5,none⟩) (show a.heap.size≤b by omega) (iv 6));clear h hp;go_enter Tryz.func143,Tryz.ntmps143;go_wp2_with fail;refine(now_any 6 b _ ((unhide FN).sb.bx.2.2.2.2.2.1) (by omega)).mono ?_;rintro e w2 ⟨rfl,hw2⟩;subst hw2;go_wp2_with fail;go_ret;exact⟨rfl,unhide FN,unhide XN⟩
theorem turn_6[Inhabited ProtD]{B:Nat}{w:World}{b:Nat}{x:Hp}{ar:Option Addr}{kr:Nat}{v4 v8:Value}{br bn:Nat}{cB cO:Nat→Nat}{pb:Nat→Nat}{pa:Nat→Option Addr}{pk:Nat→Nat}{kn hd:Nat}{vf:Value}{F:List Int}{vk:Value}{K:List Nat}{role:Nat→Nat}(h:SAt B w b x ar kr v4 v8 br cB cO bn pb pa pk kn hd vf F vk K role)(hp:x.phase=6)(hr:0≤x.rounds∧x.rounds≤1000000000)(a:World)(ha:a.heap.size≤B)(hx:Ext a w):
  Calls Tryz.prog 143 #[.pointer (some ⟨b,0,none⟩)] w fun e w'=>e=.returned (nowV 0 b)∧Hid (SAt B w' b { toPh x 0 0 with rounds:=if x.rounds<1000000000 then x.rounds+1 else x.rounds } ar kr v4 v8 br cB cO bn pb pa pk kn hd vf F vk K role)∧Ext a w':=by
 have H:=hide h;have c5:=h.sb.bx.2.2.2.2.2.1;have c6:=h.sb.bx.2.2.2.2.2.2.1;have c7:=h.sb.bx.2.2.2.2.2.2.2.1;have c11:=h.sb.bx.2.2.2.2.2.2.2.2.2.2.2.1;rw[hp] at c5;have f5:=h.sb.nb.2 5;have f6:=h.sb.nb.2 6;have f7:=h.sb.nb.2 7;have f11:=h.sb.nb.2 11;have lo:=h.sb.lo.1;obtain⟨r,er⟩:∃r,r=if x.rounds<1000000000 then x.rounds+1 else x.rounds:=⟨_,rfl⟩
 have wr:wrap64 (x.rounds+1)=x.rounds+1:=by unfold wrap64;omega
 have ER:=hide (show ∀v,(v=x.rounds+1∧x.rounds+1≤1000000000)∨(v=1000000000∧1000000000≤x.rounds+1)→v=r from fun v hv=>by rw[er];split <;> omega);rw[←er]
 have FN:=hide (show SAt B ((((w.setCell ⟨b,6,none⟩ (iv 0)).setCell ⟨b,7,none⟩ (iv 0)).setCell ⟨b,5,none⟩ (iv 0)).setCell ⟨b,11,none⟩ (iv r)) b { toPh x 0 0 with rounds:=r } ar kr v4 v8 br cB cO bn pb pa pk kn hd vf F vk K role by
  refine h.boxed (x':={ toPh x 0 0 with rounds:=r }) (Only.setCell (S:=fun q=>q=b) (Only.setCell (S:=fun q=>q=b) (Only.setCell (S:=fun q=>q=b) (Only.setCell (S:=fun q=>q=b) (Only.refl _ w) (p:=⟨b,6,none⟩) rfl _) (p:=⟨b,7,none⟩) rfl _) (p:=⟨b,5,none⟩) rfl _) (p:=⟨b,11,none⟩) rfl _) ((((h.sb.nb.set _ _).set _ _).set _ _).set _ _) rfl rfl rfl ((((h.sb.bx.set6 0).set7 0).set5 0).set11 r) (fun k hk=>?_);rw[cell_other _ (.inr (by omega)),cell_other _ (.inr (by omega)),cell_other _ (.inr (by omega)),cell_other _ (.inr (by omega))])
 have XN:=hide ((((hx.setCell (p:=⟨b,6,none⟩) (show a.heap.size≤b by omega) (iv 0)).setCell (p:=⟨b,7,none⟩) (show a.heap.size≤b by omega) (iv 0)).setCell (p:=⟨b,5,none⟩) (show a.heap.size≤b by omega) (iv 0)).setCell (p:=⟨b,11,none⟩) (show a.heap.size≤b by omega) (iv r));clear h hp er;go_enter Tryz.func143,Tryz.ntmps143;go_wp2_with fail
 all_goals
  first
  | (have e1:(1000000000:Int)=r:=unhide ER _ (.inr ⟨rfl,by omega⟩);rw[e1])
  | (have e1:x.rounds+1=r:=unhide ER _ (.inl ⟨rfl,by omega⟩);rw[e1])
  | (have e1:min (x.rounds+1) 1000000000=r:=unhide ER _ (by omega);rw[e1])
  refine(now_any 0 b _ ((unhide FN).sb.bx.2.2.2.2.2.1) (by omega)).mono ?_;rintro e w2 ⟨rfl,hw2⟩;subst hw2;go_wp2_with fail;go_ret;exact⟨rfl,unhide FN,unhide XN⟩
theorem sspeaks_any(c:Cl)(bn i cb co:Nat)(w:World)(m1:w.cell? ⟨bn,i*2+1,none⟩=some (.pointer (some ⟨cb,co,none⟩)))(s:S7 w cb co c):
  Calls Tryz.prog 166 #[ndp bn i] w fun e w'=>e=.returned (.bool (spkB c))∧w'=w:=by
 have s3:=s.2.2.2.1;cases q1:(c.last == 1)
 ·have E:=hide (show spkB c=(c.last == 2) by simp [spkB,q1]);go_enter Tryz.func166,Tryz.ntmps166;go_wp2_with fail;go_ret;exact⟨by rw[unhide E];rfl,rfl⟩
 ·have E:=hide (show spkB c=true by simp [spkB,q1]);go_enter Tryz.func166,Tryz.ntmps166;go_wp2_with fail;go_ret;exact⟨by rw[unhide E];rfl,rfl⟩
theorem SAt.hand[Inhabited ProtD]{B:Nat}{w:World}{b:Nat}{x:Hp}{ar:Option Addr}{kr:Nat}{v4 v8:Value}{br bn:Nat}{cB cO:Nat→Nat}{pb:Nat→Nat}{pa:Nat→Option Addr}{pk:Nat→Nat}{kn hd:Nat}{vf:Value}{F:List Int}{vk:Value}{K:List Nat}{role:Nat→Nat}(h:SAt B w b x ar kr v4 v8 br cB cO bn pb pa pk kn hd vf F vk K role)(hn:Int):
  SAt B (w.setCell ⟨b,6,none⟩ (iv hn)) b { x with hand:=hn } ar kr v4 v8 br cB cO bn pb pa pk kn hd vf F vk K role:=by
 refine h.boxed (x':={ x with hand:=hn }) (Only.setCell (S:=fun q=>q=b) (Only.refl _ w) (p:=⟨b,6,none⟩) rfl _) (h.sb.nb.set _ _) rfl rfl rfl (h.sb.bx.set6 hn) (fun k hk=>cell_other _ (.inr (by omega)))
theorem roots_end[Inhabited ProtD]{B:Nat}{w:World}{b:Nat}{x:Hp}{ar:Option Addr}{kr:Nat}{v4 v8:Value}{br bn:Nat}{cB cO:Nat→Nat}{pb:Nat→Nat}{pa:Nat→Option Addr}{pk:Nat→Nat}{kn hd:Nat}{vf:Value}{F:List Int}{vk:Value}{K:List Nat}{role:Nat→Nat}(h:SAt B w b x ar kr v4 v8 br cB cO bn pb pa pk kn hd vf F vk K role)(hp:x.phase=1)(he:x.hand=x.cells.length)(a:World)(ha:a.heap.size≤B)(hx:Ext a w):
  Calls Tryz.prog 328 #[.agg #[.pointer (some ⟨b,0,none⟩)]] w fun e w'=>e=.returned (nowV (unit1 x).phase b)∧Hid (SAt B w' b (unit1 x) ar kr v4 v8 br cB cO bn pb pa pk kn hd vf F vk K role)∧Ext a w':=by
 have E:=hide (show unit1 x=toPh x (1+1) 0 by unfold unit1;rw[if_pos he];rfl);have H:=hide h;have HP:=hide hp;have XA:=(Ext.refl w).alloc (.cells #[.pointer (some ⟨b,0,none⟩)] 233);have QA:=hide (atHand_none x.hand b x.cells.length kn (some ⟨bn,0,none⟩) _ (XA.keep h.sb.bx.2.2.2.2.2.2.1) (XA.keep h.sb.n13) (by simpa using he));have XA2:=hide XA;have hbw:b<w.heap.size:=h.sb.nb.1;clear h hp he XA;go_enter Tryz.func328,Tryz.ntmps328;go_wp2_with fail;refine(unhide QA).mono ?_;rintro e w1 ⟨rfl,x1⟩;have r0:w1.cell? ⟨w.heap.size,0,none⟩=some (.pointer (some ⟨b,0,none⟩)):=x1.keep (by simp [go_sem]);have X1:=hide ((unhide XA2).trans x1);go_wp2_with fail;refine(turn_low ((unhide H).ext (unhide X1)) 1 (unhide HP) rfl rfl (by omega) a ha (hx.trans (unhide X1))).mono ?_;rintro e w2 ⟨rfl,h2,x2⟩;go_wp2_with fail;go_ret;exact⟨by rw[unhide E];rfl,by rw[unhide E];exact unhide h2,x2⟩
theorem SAt.setp[Inhabited ProtD]{B:Nat}{w w':World}{b:Nat}{x:Hp}{ar:Option Addr}{kr:Nat}{v4 v8:Value}{br bn:Nat}{cB cO:Nat→Nat}{pb:Nat→Nat}{pa:Nat→Option Addr}{pk:Nat→Nat}{kn hd:Nat}{vf:Value}{F:List Int}{vk:Value}{K:List Nat}{role:Nat→Nat}(h:SAt B w b x ar kr v4 v8 br cB cO bn pb pa pk kn hd vf F vk K role)(i:Nat)(hi:i<x.cells.length)(k:Nat)(hk:k<(x.c i).prs.length)(p':Pr)(o:Only (fun q=>q=pb i) w w')(nf:Nf1 (pb i) w')(hp:PrAt w' (pb i) (k*6) p')(ho:∀j,(j<k*6∨k*6+6≤j)→w'.cell? ⟨pb i,j,none⟩=w.cell? ⟨pb i,j,none⟩):
  SAt B w' b { x with cells:=x.cells.set i { x.c i with prs:=(x.c i).prs.set k p' } } ar kr v4 v8 br cB cO bn pb pa pk kn hd vf F vk K role:=by
 have hl0:0<(x.c i).prs.length:=by omega
 have ri:=h.sp.p i hi (h.rw.pw hi hl0);have far:∀q,q<w.heap.size→role q≠6+i→w'.heap[q]?=w.heap[q]?:=fun q hq hr=>o.block q hq (fun e=>hr (by rw[e];exact ri))
 have hl:({ x with cells:=x.cells.set i { x.c i with prs:=(x.c i).prs.set k p' } }:Hp).cells.length=x.cells.length:=by simp
 have hc:=Hp.c_set x i { x.c i with prs:=(x.c i).prs.set k p' } hi;have hne:∀q,q≠i→(({ x with cells:=x.cells.set i { x.c i with prs:=(x.c i).prs.set k p' } }:Hp).c q)=x.c q:=fun q e=>by rw[hc q,if_neg e]
 have hei:(({ x with cells:=x.cells.set i { x.c i with prs:=(x.c i).prs.set k p' } }:Hp).c i)={ x.c i with prs:=(x.c i).prs.set k p' }:=by rw[hc i,if_pos rfl]
 have hpl:∀q,(({ x with cells:=x.cells.set i { x.c i with prs:=(x.c i).prs.set k p' } }:Hp).c q).prs.length=(x.c q).prs.length:=fun q=>by
  by_cases e:q=i
  ·rw[e,hei];simp
  ·rw[hne q e]
 have fc:∀q,q<x.cells.length→w'.heap[cB q]?=w.heap[cB q]?:=fun q hq=>far (cB q) (h.rw.nc q hq).1.1 (by rw[h.sp.c q hq];omega)
 have pf:∀q,q<x.cells.length→q≠i→0<pk q→w'.heap[pb q]?=w.heap[pb q]?:=fun q hq hqi hl=>far (pb q) (h.rw.pl q hq hl).2.1.1 (by rw[h.sp.p q hq hl];omega)
 have sb2:=h.sb.same o.size (far b h.sb.nb.1 (by rw[h.sp.b];omega)) (far bn h.sb.lo.2.2.1 (by rw[h.sp.n];omega)) (fun q hq=>far q (h.sb.fr.own.lt q hq).2 (by rw[h.sp.f q hq];omega)) (fun q hq=>far q (h.sb.kp.lt q hq).2 (by rw[h.sp.k q hq];omega));refine⟨⟨sb2.bx,sb2.ha,by rw[hl];exact sb2.n13,fun k hk=>sb2.nd k (by rw[hl] at hk;exact hk),sb2.fr,sb2.rg,sb2.k0,sb2.kp,sb2.nb,sb2.lo⟩,⟨fun j hj=>?_,fun q hq=>?_,fun q hq=>?_,fun q hq j hj=>?_,fun q hq hlq=>?_,fun hr=>⟨nf1_block (h.rw.nr hr).1 (far br (h.rw.nr hr).1.1 (by rw[h.sp.r hr];omega)) o.size,(h.rw.nr hr).2⟩,fun q hq=>⟨nf1_block (h.rw.nc q (by rw[hl] at hq;exact hq)).1 (fc q (by rw[hl] at hq;exact hq)) o.size,(h.rw.nc q (by rw[hl] at hq;exact hq)).2⟩,fun q hq=>h.rw.d q (by rw[hl] at hq;exact hq),fun q q' hq hq' hne h1 h2=>?_,fun q q' hq hq' hne=>h.rw.dc q q' (by rw[hl] at hq;exact hq) (by rw[hl] at hq';exact hq') hne,fun q hq=>?_⟩,⟨h.sp.b,h.sp.n,h.sp.r,fun q hq=>h.sp.c q (by rw[hl] at hq;exact hq),h.sp.f,h.sp.k,fun q hq hlq=>?_⟩,h.pr.of (fun q hq h1=>far q hq (by rw[h1];omega)) (fun _ _ h=>h)⟩
 ·exact(h.rw.r j hj).of fun m _=>World.cell?_of_block (a:=⟨br,_,none⟩) (far br (h.rw.nr (by have:j<x.regs.length:=hj;omega)).1.1 (by rw[h.sp.r (by have:j<x.regs.length:=hj;omega)];omega))
 ·rw[hl] at hq;have key:S7 w' (cB q) (cO q) (x.c q):=(h.rw.s q hq).of fun m _=>World.cell?_of_block (a:=⟨cB q,_,none⟩) (fc q hq)
  by_cases e:q=i
  ·subst e;rw[hei];exact key
  ·rw[hne q e];exact key
 ·rw[hl] at hq;rw[hpl q,World.cell?_of_block (a:=⟨cB q,_,none⟩) (fc q hq)];exact h.rw.p7 q hq
 ·rw[hl] at hq;rw[hpl q] at hj;by_cases e:q=i
  ·subst e;rw[hei];by_cases ej:j=k
   ·subst ej;have:({ x.c q with prs:=(x.c q).prs.set j p' }:Cl).p j=p':=by simp [Cl.p,hj]
    rw[this];exact hp
   ·have:({ x.c q with prs:=(x.c q).prs.set k p' }:Cl).p j=(x.c q).p j:=by
     have hkj:k≠j:=fun e=>ej e.symm
     simp [Cl.p,List.getElem?_set_ne hkj]
    rw[this];exact(h.rw.p q hq j hj).of fun m hm=>ho _ (by omega)
  ·rw[hne q e];exact(h.rw.p q hq j hj).of fun m _=>World.cell?_of_block (a:=⟨pb q,_,none⟩) (pf q hq e (h.rw.pw hq (by omega)))
 ·rw[hl] at hq;obtain⟨a1,a2,a3,a4⟩:=h.rw.pl q hq hlq;have a5:pb q≠br∧∀j,j<({ x with cells:=x.cells.set i { x.c i with prs:=(x.c i).prs.set k p' } }:Hp).cells.length→pb q≠cB j:=⟨a3.1,fun j hj=>a3.2 j (by rw[hl] at hj;exact hj)⟩;by_cases e:q=i
  ·subst e;exact⟨a1,nfp_pair a2 nf hp ho,a5,a4⟩
  ·exact⟨a1,nfp_block a2 (pf q hq e hlq) o.size,a5,a4⟩
 ·rw[hl] at hq hq';exact h.rw.dp q q' hq hq' hne h1 h2
 ·rw[hl] at hq;rw[hpl q];exact h.rw.kp q hq
 ·rw[hl] at hq;exact h.sp.p q hq hlq
theorem mend_end[Inhabited ProtD]{B:Nat}{w:World}{b:Nat}{x:Hp}{ar:Option Addr}{kr:Nat}{v4 v8:Value}{br bn:Nat}{cB cO:Nat→Nat}{pb:Nat→Nat}{pa:Nat→Option Addr}{pk:Nat→Nat}{kn hd:Nat}{vf:Value}{F:List Int}{vk:Value}{K:List Nat}{role:Nat→Nat}(h:SAt B w b x ar kr v4 v8 br cB cO bn pb pa pk kn hd vf F vk K role)(hp:x.phase=5)(he:x.hand=x.cells.length)(a:World)(ha:a.heap.size≤B)(hx:Ext a w):
  Calls Tryz.prog 335 #[.agg #[.pointer (some ⟨b,0,none⟩)]] w fun e w'=>e=.returned (nowV (unit5 x).phase b)∧Hid (SAt B w' b (unit5 x) ar kr v4 v8 br cB cO bn pb pa pk kn hd vf F vk K role)∧Ext a w':=by
 have E:=hide (show unit5 x=toPh x 6 x.cells.length by unfold unit5;rw[if_pos he]);have H:=hide h;have HP:=hide hp;have XA:=(Ext.refl w).alloc (.cells #[.pointer (some ⟨b,0,none⟩)] 237);have QA:=hide (atHand_none x.hand b x.cells.length kn (some ⟨bn,0,none⟩) _ (XA.keep h.sb.bx.2.2.2.2.2.2.1) (XA.keep h.sb.n13) (by simpa using he));have XA2:=hide XA;have hbw:b<w.heap.size:=h.sb.nb.1;clear h hp he XA;go_enter Tryz.func335,Tryz.ntmps335;go_wp2_with fail;refine(unhide QA).mono ?_;rintro e w1 ⟨rfl,x1⟩;have r0:w1.cell? ⟨w.heap.size,0,none⟩=some (.pointer (some ⟨b,0,none⟩)):=x1.keep (by simp [go_sem]);have X1:=hide ((unhide XA2).trans x1);go_wp2_with fail;refine(turn_5 ((unhide H).ext (unhide X1)) (unhide HP) a ha (hx.trans (unhide X1))).mono ?_;rintro e w2 ⟨rfl,h2,x2⟩;go_wp2_with fail;go_ret;exact⟨by rw[unhide E];rfl,by rw[unhide E];exact unhide h2,x2⟩
theorem mend_next[Inhabited ProtD]{B:Nat}{w:World}{b:Nat}{x:Hp}{ar:Option Addr}{kr:Nat}{v4 v8:Value}{br bn:Nat}{cB cO:Nat→Nat}{pb:Nat→Nat}{pa:Nat→Option Addr}{pk:Nat→Nat}{kn hd:Nat}{vf:Value}{F:List Int}{vk:Value}{K:List Nat}{role:Nat→Nat}(h:SAt B w b x ar kr v4 v8 br cB cO bn pb pa pk kn hd vf F vk K role)(n8:x.cells.length≤8000)(hp:x.phase=5)(i:Nat)(hi:x.hand=(i:Int))(hin:i<x.cells.length)(k:Nat)(hk:x.sub=(k:Int))(hkl:¬k<(x.c i).prs.length)(a:World)(ha:a.heap.size≤B)(hx:Ext a w):
  Calls Tryz.prog 335 #[.agg #[.pointer (some ⟨b,0,none⟩)]] w fun e w'=>e=.returned (nowV (unit5 x).phase b)∧Hid (SAt B w' b (unit5 x) ar kr v4 v8 br cB cO bn pb pa pk kn hd vf F vk K role)∧Ext a w':=by
 have ei:x.hand.toNat=i:=by omega
 have E:=hide (show unit5 x={ x with hand:=(i:Int)+1,sub:=0 } by unfold unit5;rw[if_neg (by omega),ei,if_neg (by omega),hi]);have EP:=hide (show(unit5 x).phase=5 by rw[unhide E];exact hp);have H:=hide h;have XA:=(Ext.refl w).alloc (.cells #[.pointer (some ⟨b,0,none⟩)] 237);have c6:=h.sb.bx.2.2.2.2.2.2.1;rw[hi] at c6;have QA:=hide (atHand_some b x.cells.length kn bn i _ (XA.keep c6) (XA.keep h.sb.n13) hin);have XA2:=hide XA;have hbw:b<w.heap.size:=h.sb.nb.1;have lo:=h.sb.lo.1;have HI:=hide (And.intro hi hk);have kk:¬(k:Int)<((x.c i).prs.length:Int):=by omega
 clear h hp XA ei hi c6 hk;go_enter Tryz.func335,Tryz.ntmps335;go_wp2_with fail;refine(unhide QA).mono ?_;rintro e w1 ⟨rfl,x1⟩;have r0:w1.cell? ⟨w.heap.size,0,none⟩=some (.pointer (some ⟨b,0,none⟩)):=x1.keep (by simp [go_sem]);have X1:=hide ((unhide XA2).trans x1);have H1:=hide ((unhide H).ext (unhide X1));have m1:=((unhide H1).sb.nd i hin).2;have p7:=(unhide H1).rw.p7 i hin;have c6:w1.cell? ⟨b,6,none⟩=some (iv i):=by have:=(unhide H1).sb.bx.2.2.2.2.2.2.1;rw[(unhide HI).1] at this;exact this
 have c7:w1.cell? ⟨b,7,none⟩=some (iv k):=by have:=(unhide H1).sb.bx.2.2.2.2.2.2.2.1;rw[(unhide HI).2] at this;exact this
 have f6:=(unhide H1).sb.nb.2 6;have f7:=(unhide H1).sb.nb.2 7;have hb1:b<w1.heap.size:=cell_lt c6;have hb2:w.heap.size<w1.heap.size:=cell_lt r0;have nbw:¬b=w.heap.size:=by omega
 have nwb:¬w.heap.size=b:=by omega
 have FN:=hide (show ∀W,Ext w1 W→SAt B ((W.setCell ⟨b,6,none⟩ (iv ((i:Int)+1))).setCell ⟨b,7,none⟩ (iv 0)) b { x with hand:=(i:Int)+1,sub:=0 } ar kr v4 v8 br cB cO bn pb pa pk kn hd vf F vk K role∧Ext a ((W.setCell ⟨b,6,none⟩ (iv ((i:Int)+1))).setCell ⟨b,7,none⟩ (iv 0)) from fun W xw=>⟨(((unhide H1).ext xw).hand _).subs 0,(((hx.trans (unhide X1)).trans xw).setCell (p:=⟨b,6,none⟩) (show a.heap.size≤b by omega) _).setCell (p:=⟨b,7,none⟩) (show a.heap.size≤b by omega) _⟩);clear x1 XA2 QA;go_wp2_with fail;go_quiet (fail);go_wp2_with fail;go_ret;exact⟨by rw[unhide EP];rfl,by rw[unhide E];exact(unhide FN _ ((Ext.refl w1).drewN _)).1,(unhide FN _ ((Ext.refl w1).drewN _)).2⟩
theorem SAt.turned[Inhabited ProtD]{B:Nat}{w w':World}{b:Nat}{x:Hp}{ar:Option Addr}{kr:Nat}{v4 v8:Value}{br bn:Nat}{cB cO:Nat→Nat}{pb:Nat→Nat}{pa:Nat→Option Addr}{pk:Nat→Nat}{kn hd:Nat}{vf:Value}{F:List Int}{vk:Value}{K:List Nat}{role:Nat→Nat}(h:SAt B w b x ar kr v4 v8 br cB cO bn pb pa pk kn hd vf F vk K role)(cs:List Cl)(hl:cs.length=x.cells.length)(so:Nat→Nat)(pa':Nat→Option Addr)(pk':Nat→Nat)(role':Nat→Nat)
  (o:Only (fun q=>∃j,j<x.cells.length∧q=cB j) w w') (nf:∀j,j<x.cells.length→Nf1 (cB j) w') (hkp:CapP { x with cells:=cs } pk')
  (hs:∀q,q<x.cells.length→S7 w' (cB q) (cO q) (({ x with cells:=cs }:Hp).c q))
  (h7:∀q,q<x.cells.length→w'.cell? ⟨cB q,cO q+7,none⟩=some (.slice (pa' q) (({ x with cells:=cs }:Hp).c q).prs.length (pk' q)))
  (hso:∀q,q<x.cells.length→0<pk' q→(so q<x.cells.length∧pk' q=pk (so q))∧(x.c (so q)).prs=(({ x with cells:=cs }:Hp).c q).prs∧pa' q=pa (so q)∧role' (pb (so q))=6+q)
  (hro:∀q,role q<6→role' q=role q) :
  SAt B w' b { x with cells:=cs } ar kr v4 v8 br cB cO bn (fun q=>pb (so q)) pa' pk' kn hd vf F vk K role':=by
 have far:∀q,q<w.heap.size→role q≠3→w'.heap[q]?=w.heap[q]?:=fun q hq hr=>o.block q hq (fun⟨j,hj,e⟩=>hr (by rw[e];exact h.sp.c j hj))
 have hl':({ x with cells:=cs }:Hp).cells.length=x.cells.length:=hl;have pf:∀q,q<x.cells.length→0<pk q→w'.heap[pb q]?=w.heap[pb q]?:=fun q hq hl=>far (pb q) (h.rw.pl q hq hl).2.1.1 (by rw[h.sp.p q hq hl];omega)
 have sb2:=h.sb.same o.size (far b h.sb.nb.1 (by rw[h.sp.b];omega)) (far bn h.sb.lo.2.2.1 (by rw[h.sp.n];omega)) (fun q hq=>far q (h.sb.fr.own.lt q hq).2 (by rw[h.sp.f q hq];omega)) (fun q hq=>far q (h.sb.kp.lt q hq).2 (by rw[h.sp.k q hq];omega));refine⟨⟨sb2.bx,sb2.ha,by rw[hl'];exact sb2.n13,fun k hk=>sb2.nd k (by rw[hl'] at hk;exact hk),sb2.fr,sb2.rg,sb2.k0,sb2.kp,sb2.nb,sb2.lo⟩,⟨fun k hk=>?_,fun q hq=>?_,fun q hq=>?_,fun q hq k hk=>?_,fun q hq hlq=>?_,fun hr=>⟨nf1_block (h.rw.nr hr).1 (far br (h.rw.nr hr).1.1 (by rw[h.sp.r hr];omega)) o.size,(h.rw.nr hr).2⟩,fun q hq=>⟨nf q (by rw[hl'] at hq;exact hq),(h.rw.nc q (by rw[hl'] at hq;exact hq)).2⟩,fun q hq=>h.rw.d q (by rw[hl'] at hq;exact hq),fun q q' hq hq' hne h1 h2=>?_,fun q q' hq hq' hne=>h.rw.dc q q' (by rw[hl'] at hq;exact hq) (by rw[hl'] at hq';exact hq') hne,hkp⟩,⟨?_,?_,fun hr=>?_,fun q hq=>?_,fun q hq=>?_,fun q hq=>?_,fun q hq hlq=>?_⟩,h.pr.of (fun q hq h1=>far q hq (by rw[h1];omega)) (fun q _ h1=>by rw[hro q (by rw[h1];omega)];exact h1)⟩
 ·exact(h.rw.r k hk).of fun j _=>World.cell?_of_block (a:=⟨br,_,none⟩) (far br (h.rw.nr (by have:k<x.regs.length:=hk;omega)).1.1 (by rw[h.sp.r (by have:k<x.regs.length:=hk;omega)];omega))
 ·rw[hl'] at hq;exact hs q hq
 ·rw[hl'] at hq;exact h7 q hq
 ·rw[hl'] at hq;obtain⟨⟨a1,_⟩,a2,_⟩:=hso q hq (by have:=hkp q (by rw[hl'];exact hq);omega);have e2:(({ x with cells:=cs }:Hp).c q).p k=(x.c (so q)).p k:=by simp only [Cl.p,a2]
  rw[←a2] at hk;rw[e2];exact(h.rw.p (so q) a1 k hk).of fun j _=>World.cell?_of_block (a:=⟨pb (so q),_,none⟩) (pf (so q) a1 (h.rw.pw a1 (by omega)))
 ·rw[hl'] at hq;obtain⟨⟨a1,a0⟩,a2,a3,_⟩:=hso q hq hlq;rw[a0] at hlq;obtain⟨b1,b2,b3,b4⟩:=h.rw.pl (so q) a1 hlq;exact⟨a3.trans b1,by rw[a0];exact nfp_block b2 (pf (so q) a1 hlq) o.size,⟨b3.1,fun j hj=>b3.2 j (by rw[hl'] at hj;exact hj)⟩,b4⟩
 ·rw[hl'] at hq hq';intro e;have r1:=(hso q hq h1).2.2.2;have r2:=(hso q' hq' h2).2.2.2;have e':pb (so q)=pb (so q'):=e;rw[e',r2] at r1;omega
 ·rw[hro b (by rw[h.sp.b];omega)];exact h.sp.b
 ·rw[hro bn (by rw[h.sp.n];omega)];exact h.sp.n
 ·have:=h.sp.r hr;rw[hro br (by omega)];exact this
 ·rw[hl'] at hq;have:=h.sp.c q hq;rw[hro (cB q) (by omega)];exact this
 ·have:=h.sp.f q hq;rw[hro q (by omega)];exact this
 ·have:=h.sp.k q hq;rw[hro q (by omega)];exact this
 ·rw[hl'] at hq;exact(hso q hq hlq).2.2.2
theorem SAt.wiped[Inhabited ProtD]{B:Nat}{w:World}{b:Nat}{x:Hp}{ar:Option Addr}{kr:Nat}{v4 v8:Value}{br bn:Nat}{cB cO:Nat→Nat}{pb:Nat→Nat}{pa:Nat→Option Addr}{pk:Nat→Nat}{kn hd:Nat}{vf:Value}{F:List Int}{vk:Value}{K:List Nat}{role:Nat→Nat}(h:SAt B w b x ar kr v4 v8 br cB cO bn pb pa pk kn hd vf F vk K role)(i:Nat)(hi:i<x.cells.length)(st tt:Int):
  SAt B (wipeW w (cB i) (cO i) st tt) b { x with cells:=x.cells.set i ⟨st,0,0,0,0,0,tt,[]⟩ } ar kr v4 v8 br cB cO bn pb (fun q=>if q=i then none else pa q) (fun q=>if q=i then 0 else pk q) kn hd vf F vk K role:=by
 have hc:=Hp.c_set x i ⟨st,0,0,0,0,0,tt,[]⟩ hi;obtain⟨k1,k2⟩:=wipe_same w (cB i) (cO i) st tt _ _ (h.rw.s i hi) (h.rw.p7 i hi);have ho:=wipe_other w (cB i) (cO i) st tt;refine h.turned (x.cells.set i ⟨st,0,0,0,0,0,tt,[]⟩) (by simp) (fun q=>q) _ _ role ((wipe_only _ _ _ _ _).mono (fun q e=>⟨i,hi,e⟩)) (fun q hq=>nf1_cell (h.rw.nc q hq).1 (wipe_nf (h.rw.nc i hi).1 _ _ _) (wipe_only _ _ _ _ _)) (fun q hq=>?_) (fun q hq=>?_) (fun q hq=>?_) (fun q hq hl=>?_) (fun _ _=>rfl)
 ·have hq':q<x.cells.length:=by simpa using hq
  rw[hc q];by_cases e:q=i
  ·rw[if_pos e];exact Nat.zero_le _
  ·simp only [if_neg e];exact h.rw.kp q hq'
 ·rw[hc q];by_cases e:q=i
  ·subst e;rw[if_pos rfl];exact k1
  ·rw[if_neg e];exact(h.rw.s q hq).of fun j hj=>h.rw.far8 hi hq e (Nat.le_refl _) (wipe_only _ _ _ _ _) ho j (by omega)
 ·rw[hc q];by_cases e:q=i
  ·subst e;simp only [if_true];exact k2
  ·simp only [if_neg e];rw[h.rw.far8 hi hq e (Nat.le_refl _) (wipe_only _ _ _ _ _) ho 7 (by omega)];exact h.rw.p7 q hq
 ·rw[hc q];by_cases e:q=i
  ·rw[if_pos e] at hl;omega
  ·rw[if_neg e] at hl;exact⟨⟨hq,if_neg e⟩,by rw[if_neg e],if_neg e,h.sp.p q hq hl⟩
theorem wrap_wide(n:Int)(h0:-4000000≤n)(h1:n≤4000000):wrap64 n=n:=by unfold wrap64;omega
def GK[Inhabited ProtD](B:Nat)(w:World)(g:Nat)(x:Hp)(ar:Option Addr)(kr:Nat)(ac:Option Addr)(kc:Nat)(vg:Value)(br bc:Nat):Prop:=∃pb pa pk role,GAt B w g x ar kr ac kc vg br bc pb pa pk role
theorem GK.ext[Inhabited ProtD]{B:Nat}{w w':World}{g:Nat}{x:Hp}{ar:Option Addr}{kr:Nat}{ac:Option Addr}{kc:Nat}{vg:Value}{br bc:Nat}(h:GK B w g x ar kr ac kc vg br bc)(e:Ext w w'):GK B w' g x ar kr ac kc vg br bc:=let ⟨pb,pa,pk,role,h⟩:=h;⟨pb,pa,pk,role,h.ext e⟩
theorem GK.ok[Inhabited ProtD]{B:Nat}{w:World}{g:Nat}{x:Hp}{ar:Option Addr}{kr:Nat}{ac:Option Addr}{kc:Nat}{vg:Value}{br bc:Nat}(h:GK B w g x ar kr ac kc vg br bc):GOk B w g x:=let ⟨pb,pa,pk,role,h⟩:=h;⟨_,_,_,_,_,_,_,pb,pa,pk,role,h⟩
theorem GK.set1[Inhabited ProtD]{B:Nat}{w:World}{g:Nat}{x:Hp}{ar:Option Addr}{kr:Nat}{ac:Option Addr}{kc:Nat}{vg:Value}{br bc:Nat}(h:GK B w g x ar kr ac kc vg br bc)(v:Int):GK B (w.setCell ⟨g,1,none⟩ (iv v)) g { x with used:=v } ar kr ac kc vg br bc:=let ⟨_,_,_,_,h⟩:=h;⟨_,_,_,_,h.boxed (x':={ x with used:=v }) (Only.setCell (S:=fun q=>q=g) (Only.refl _ w) (p:=⟨g,1,none⟩) rfl _) (h.nf.set _ _) rfl rfl rfl (h.bx.set1 v)⟩
def Fr2(g bc:Nat)(w w':World):Prop:=w.heap.size≤w'.heap.size∧∀q,q<w.heap.size→q≠g→q≠bc→w'.heap[q]?=w.heap[q]?
theorem Fr2.ext{g bc:Nat}{w w1 w2:World}(h:Fr2 g bc w w1)(e:Ext w1 w2):Fr2 g bc w w2:=⟨Nat.le_trans h.1 e.size,fun q h1 h2 h3=>(e.block q (Nat.lt_of_lt_of_le h1 h.1)).trans (h.2 q h1 h2 h3)⟩
theorem Fr2.of{g bc:Nat}{w w1:World}(e:Ext w w1):Fr2 g bc w w1:=⟨e.size,fun q h1 _ _=>e.block q h1⟩
theorem Fr2.set{g bc:Nat}{w w1:World}(h:Fr2 g bc w w1)(p:Addr)(hp:p.block=g∨p.block=bc)(u:Value):Fr2 g bc w (w1.setCell p u):=⟨by have:=h.1;simpa [World.setCell] using this,fun q h1 h2 h3=>(Below.heap_setCell _ _ _ _ (by rcases hp with e | e <;> rw[e] <;> assumption)).trans (h.2 q h1 h2 h3)⟩
theorem Fr2.trans{g bc:Nat}{a b c:World}(h:Fr2 g bc a b)(k:Fr2 g bc b c):Fr2 g bc a c:=⟨Nat.le_trans h.1 k.1,fun q h1 h2 h3=>(k.2 q (Nat.lt_of_lt_of_le h1 h.1) h2 h3).trans (h.2 q h1 h2 h3)⟩
def stNext(x:Hp)(H:Nat→Bool)(k:Nat)(z:Hp):Hp:=
 if H k=true then { z with cells:=z.cells.set k (letC x H (x.c k)),used:=z.used-goes x H (x.c k) (x.c k).prs,sub:=letSub x H k z.sub }
 else if (x.c k).last=1 then { z with cells:=z.cells.set k (dueC (x.c k)) } else z
def stTo(x:Hp)(H:Nat→Bool):Nat→Hp
 | 0=>x
 | k+1=>stNext x H k (stTo x H k)
def RestH(x y:Hp):Prop:=x.room=y.room∧x.born=y.born∧x.regs=y.regs∧x.phase=y.phase∧x.hand=y.hand∧x.gray=y.gray∧x.per=y.per∧x.start=y.start∧x.rounds=y.rounds∧x.forced=y.forced
theorem RestH.refl(x:Hp):RestH x x:=⟨rfl,rfl,rfl,rfl,rfl,rfl,rfl,rfl,rfl,rfl⟩
theorem hp_eq{x y:Hp}(r:RestH x y)(hu:x.used=y.used)(hs:x.sub=y.sub)(hl:x.cells.length=y.cells.length)(hc:∀q,q<x.cells.length→x.c q=y.c q):x=y:=by
 have e:x.cells=y.cells:=List.ext_getElem hl fun i h1 h2=>by rw[Hp.c_eq x i h1,Hp.c_eq y i h2];exact hc i h1
 obtain⟨r1,r2,r3,r4,r5,r6,r7,r8,r9,r10⟩:=r;cases x;cases y;simp only at *;subst r1 r2 r3 r4 r5 r6 r7 r8 r9 r10 hu hs e;rfl
theorem stTo_rest(x:Hp)(H:Nat→Bool):∀k,RestH (stTo x H k) x
 | 0=>RestH.refl x
 | k+1=>by
  have ih:=stTo_rest x H k;show RestH (stNext x H k (stTo x H k)) x;unfold stNext
  split
  ·exact ih
  ·split
   ·exact ih
   ·exact ih
theorem cutTo_rest(x:Hp)(H:Nat→Bool):∀k,RestH (cutTo x H k) x
 | 0=>RestH.refl x
 | k+1=>by
  have ih:=cutTo_rest x H k;unfold cutTo
  split
  ·exact ih
  ·exact ih
theorem dueTo_rest(x z:Hp)(H:Nat→Bool):∀k,RestH (dueTo x z H k) z∧(dueTo x z H k).used=z.used∧(dueTo x z H k).sub=z.sub
 | 0=>⟨RestH.refl z,rfl,rfl⟩
 | k+1=>by
  have ih:=dueTo_rest x z H k;unfold dueTo
  split
  ·exact ih
  ·exact ih
theorem stTo_len(x:Hp)(H:Nat→Bool):∀k,(stTo x H k).cells.length=x.cells.length
 | 0=>rfl
 | k+1=>by
  have ih:=stTo_len x H k;show(stNext x H k (stTo x H k)).cells.length=_;unfold stNext
  split
  ·simpa using ih
  ·split
   ·simpa using ih
   ·exact ih
theorem stTo_cut(x:Hp)(H:Nat→Bool):∀k,(stTo x H k).used=(cutTo x H k).used∧(stTo x H k).sub=(cutTo x H k).sub
 | 0=>⟨rfl,rfl⟩
 | k+1=>by
  have ih:=stTo_cut x H k;show(stNext x H k (stTo x H k)).used=_∧(stNext x H k (stTo x H k)).sub=_;unfold stNext cutTo;by_cases h:H k=true
  ·rw[if_pos h,if_pos h];exact⟨by show(stTo x H k).used-_=(cutTo x H k).used-_;rw[ih.1],by show letSub x H k (stTo x H k).sub=letSub x H k (cutTo x H k).sub;rw[ih.2]⟩
  ·rw[if_neg h,if_neg h]
   split
   ·exact ih
   ·exact ih
theorem set_c(z:Hp)(u s:Int)(k:Nat)(c:Cl)(hk:k<z.cells.length)(q:Nat):({ z with cells:=z.cells.set k c,used:=u,sub:=s }:Hp).c q=if q=k then c else z.c q:=Hp.c_set z k c hk q
theorem stTo_c(x:Hp)(H:Nat→Bool):∀k,k≤x.cells.length→∀q,(stTo x H k).c q=if q<k then stlC x H q else x.c q
 | 0,_,q=>by rw[if_neg (by omega)];rfl
 | k+1,hk,q=>by
  have ih:=stTo_c x H k (by omega) q;have hl:k<(stTo x H k).cells.length:=by rw[stTo_len];omega
  show(stNext x H k (stTo x H k)).c q=_
  have key:(stNext x H k (stTo x H k)).c q=if q=k then stlC x H k else (stTo x H k).c q:=by
   unfold stNext stlC;by_cases h:H k=true
   ·rw[if_pos h,if_pos h];exact set_c _ _ _ k _ hl q
   ·rw[if_neg h,if_neg h];by_cases h2:(x.c k).last=1
    ·rw[if_pos h2,if_pos h2];exact Hp.c_set _ k _ hl q
    ·rw[if_neg h2,if_neg h2];by_cases e:q=k
     ·subst e;rw[if_pos rfl,ih,if_neg (by omega)]
     ·rw[if_neg e]
  rw[key,ih];by_cases e:q=k
  ·subst e;rw[if_pos rfl,if_pos (by omega)]
  ·rw[if_neg e];by_cases h:q<k
   ·rw[if_pos h,if_pos (by omega)]
   ·rw[if_neg h,if_neg (by omega)]
theorem dueTo_cc(x z:Hp)(H:Nat→Bool):∀k,k≤z.cells.length→∀q,(dueTo x z H k).c q=if q<k∧dueB x H q=true then dueC (x.c q) else z.c q
 | 0,_,q=>by rw[if_neg (by omega)];rfl
 | k+1,hk,q=>by
  have ih:=dueTo_cc x z H k (by omega) q;have hl:k<(dueTo x z H k).cells.length:=by rw[dueTo_len];omega
  unfold dueTo;by_cases h:dueB x H k=true
  ·rw[if_pos h];have:=Hp.c_set (dueTo x z H k) k (dueC (x.c k)) hl q;rw[this,ih];by_cases e:q=k
   ·subst e;rw[if_pos rfl,if_pos ⟨by omega,h⟩]
   ·rw[if_neg e];by_cases h2:q<k∧dueB x H q=true
    ·rw[if_pos h2,if_pos ⟨by omega,h2.2⟩]
    ·rw[if_neg h2,if_neg (fun h3=>h2 ⟨by omega,h3.2⟩)]
  ·rw[if_neg h,ih];by_cases h2:q<k∧dueB x H q=true
   ·rw[if_pos h2,if_pos ⟨by omega,h2.2⟩]
   ·rw[if_neg h2,if_neg (fun h3=>by
     by_cases e:q=k
     ·rw[e] at h3;exact h h3.2
     ·exact h2 ⟨by omega,h3.2⟩)]
theorem stTo_all(x:Hp)(H:Nat→Bool):stTo x H x.cells.length=settleH x H:=by
 have d:=dueTo_rest x (cutTo x H x.cells.length) H x.cells.length;have c:=cutTo_rest x H x.cells.length;have s:=stTo_rest x H x.cells.length;have u:=stTo_cut x H x.cells.length;have hlz:(cutTo x H x.cells.length).cells.length=x.cells.length:=cutTo_len x H _;refine hp_eq ?_ (by rw[u.1];exact d.2.1.symm) (by rw[u.2];exact d.2.2.symm) ?_ fun q hq=>?_
 ·obtain⟨d1,d2,d3,d4,d5,d6,d7,d8,d9,d10⟩:=d.1;obtain⟨c1,c2,c3,c4,c5,c6,c7,c8,c9,c10⟩:=c;obtain⟨s1,s2,s3,s4,s5,s6,s7,s8,s9,s10⟩:=s;exact⟨s1.trans (d1.trans c1).symm,s2.trans (d2.trans c2).symm,s3.trans (d3.trans c3).symm,s4.trans (d4.trans c4).symm,s5.trans (d5.trans c5).symm,s6.trans (d6.trans c6).symm,s7.trans (d7.trans c7).symm,s8.trans (d8.trans c8).symm,s9.trans (d9.trans c9).symm,s10.trans (d10.trans c10).symm⟩
 ·rw[stTo_len];unfold settleH;rw[dueTo_len,cutTo_len]
 ·have hq':q<x.cells.length:=by rw[stTo_len] at hq;exact hq
  rw[stTo_c x H _ (Nat.le_refl _) q,if_pos hq'];unfold settleH;rw[dueTo_cc x _ H _ (by rw[hlz];exact Nat.le_refl _) q,cutTo_c x H _ (Nat.le_refl _) q];unfold stlC dueB;cases h:H q
  ·by_cases h2:(x.c q).last=1
   ·rw[if_neg (by simp),if_pos h2,if_pos ⟨hq',by simp [h2]⟩]
   ·rw[if_neg (by simp),if_neg h2,if_neg (by simp [h2]),if_neg (by simp)]
  ·rw[if_pos rfl,if_neg (by simp),if_pos ⟨hq',rfl⟩]
theorem stTo_st(x:Hp)(H:Nat→Bool)(k:Nat)(hk:k≤x.cells.length)(q:Nat):((stTo x H k).c q).st=(x.c q).st∧((stTo x H k).c q).to=(x.c q).to:=by
 rw[stTo_c x H k hk q]
 split
 ·unfold stlC
  split
  ·exact⟨rfl,rfl⟩
  ·split <;> exact⟨rfl,rfl⟩
 ·exact⟨rfl,rfl⟩
end Go.Proofs.YtddkhnclmeikfaaGreat
