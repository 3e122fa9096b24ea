import Derived.Test.YtddkhnclmeikfaaGreatShelf
import Derived.Test.YtddkhnclmeikfaaGreatQa
import Derived.Test.YtddkhnclmeikfaaGreatHh
import Derived.Test.YtddkhnclmeikfaaGreatVf
import Derived.Test.YtddkhnclmeikfaaGreatLsD
import Derived.Test.YtddkhnclmeikfaaGreatWx
set_option maxRecDepth 100000
set_option maxHeartbeats 4000000
namespace Go.Proofs.YtddkhnclmeikfaaGreat
open Go.RowKit
attribute [local go_sem ↓] Go.wp_at_zero Go.wp_at_succ
theorem limitsKept_any(x:Hp)(b:Nat)(w:World){ar:Option Addr}{kr:Nat}{ac:Option Addr}{kc:Nat}{ag:Option Addr}{kg:Nat}(h:HAt w b x ar kr ac kc ag kg):
  Calls Tryz.prog 106 #[.pointer (some ⟨b,0,none⟩)] w fun e w'=>∃r:Bool,Hid (e=.returned (.bool r))∧(r=true↔R1 x)∧Ext w w':=by
 cases q0:withinB x.room 1 4000
 ·exact(limits_0 x b w h q0).mono fun _ _ ⟨he,hx⟩=>⟨false,he,⟨fun f=>by simp at f,fun r=>by exfalso;exact withinB_false q0 r.room⟩,hx⟩
 cases q1:((x.regs.length:Int) == 16)
 ·exact(limits_1 x b w h q0 q1).mono fun _ _ ⟨he,hx⟩=>⟨false,he,⟨fun f=>by simp at f,fun r=>by exfalso;simp at q1;exact q1 (by have:=r.regs;omega)⟩,hx⟩
 cases q2:decide ((x.cells.length:Int)≤2*x.room)
 ·exact(limits_2 x b w h q0 q1 q2).mono fun _ _ ⟨he,hx⟩=>⟨false,he,⟨fun f=>by simp at f,fun r=>by exfalso;exact of_decide_eq_false q2 r.cells⟩,hx⟩
 cases q3:decide ((x.gray.length:Int)≤(x.cells.length:Int))
 ·exact(limits_3 x b w h q0 q1 q2 q3).mono fun _ _ ⟨he,hx⟩=>⟨false,he,⟨fun f=>by simp at f,fun r=>by exfalso;exact of_decide_eq_false q3 (by have:=r.gray;omega)⟩,hx⟩
 cases q4:withinB x.born 0 1000000000
 ·exact(limits_4 x b w h q0 q1 q2 q3 q4).mono fun _ _ ⟨he,hx⟩=>⟨false,he,⟨fun f=>by simp at f,fun r=>by exfalso;exact withinB_false q4 r.born⟩,hx⟩
 cases q5:withinB x.rounds 0 1000000000
 ·exact(limits_5 x b w h q0 q1 q2 q3 q4 q5).mono fun _ _ ⟨he,hx⟩=>⟨false,he,⟨fun f=>by simp at f,fun r=>by exfalso;exact withinB_false q5 r.rounds⟩,hx⟩
 cases q6:withinB x.forced 0 1000000000
 ·exact(limits_6 x b w h q0 q1 q2 q3 q4 q5 q6).mono fun _ _ ⟨he,hx⟩=>⟨false,he,⟨fun f=>by simp at f,fun r=>by exfalso;exact withinB_false q6 r.forced⟩,hx⟩
 cases q7:withinB x.per 0 64
 ·exact(limits_7 x b w h q0 q1 q2 q3 q4 q5 q6 q7).mono fun _ _ ⟨he,hx⟩=>⟨false,he,⟨fun f=>by simp at f,fun r=>by exfalso;exact withinB_false q7 r.per⟩,hx⟩
 cases q8:withinB x.start 0 4000
 ·exact(limits_8 x b w h q0 q1 q2 q3 q4 q5 q6 q7 q8).mono fun _ _ ⟨he,hx⟩=>⟨false,he,⟨fun f=>by simp at f,fun r=>by exfalso;exact withinB_false q8 r.start⟩,hx⟩
 cases q9:withinB x.phase 0 6
 ·exact(limits_9 x b w h q0 q1 q2 q3 q4 q5 q6 q7 q8 q9).mono fun _ _ ⟨he,hx⟩=>⟨false,he,⟨fun f=>by simp at f,fun r=>by exfalso;exact withinB_false q9 r.phase⟩,hx⟩
 cases q10:withinB x.hand 0 (x.cells.length:Int)
 ·exact(limits_10 x b w h q0 q1 q2 q3 q4 q5 q6 q7 q8 q9 q10).mono fun _ _ ⟨he,hx⟩=>⟨false,he,⟨fun f=>by simp at f,fun r=>by exfalso;exact withinB_false q10 r.hand⟩,hx⟩
 cases q11:withinB x.sub 0 200
 ·exact(limits_11 x b w h q0 q1 q2 q3 q4 q5 q6 q7 q8 q9 q10 q11).mono fun _ _ ⟨he,hx⟩=>⟨false,he,⟨fun f=>by simp at f,fun r=>by exfalso;exact withinB_false q11 r.sub⟩,hx⟩
 exact(limits_12 x b w h q0 q1 q2 q3 q4 q5 q6 q7 q8 q9 q10 q11).mono fun _ _ ⟨he,hx⟩=>⟨true,he,⟨fun _=>⟨withinB_true q0,by simp at q1;omega,of_decide_eq_true q2,by have:=of_decide_eq_true q3;omega,withinB_true q4,withinB_true q5,withinB_true q6,withinB_true q7,withinB_true q8,withinB_true q9,withinB_true q10,withinB_true q11⟩,fun _=>rfl⟩,hx⟩
theorem view_box(x:Hp)(w:World)(ar:Option Addr)(kr:Nat)(ac:Option Addr)(kc:Nat)(ag:Option Addr)(kg:Nat):
  ∀o v,#[iv x.room,iv x.used,iv x.born,.slice ar x.regs.length kr,.slice ac x.cells.length kc,iv x.phase,iv x.hand,iv x.sub,.slice ag x.gray.length kg,iv x.per,iv x.start,iv x.rounds,iv x.forced][o]?=some v→((w.alloc (.cells #[iv x.room,iv x.used,iv x.born,.slice ar x.regs.length kr,.slice ac x.cells.length kc,iv x.phase,iv x.hand,iv x.sub,.slice ag x.gray.length kg,iv x.per,iv x.start,iv x.rounds,iv x.forced] 34)).alloc (.cells #[iv x.room,iv x.used,iv x.born,.slice ar x.regs.length kr,.slice ac x.cells.length kc,iv x.phase,iv x.hand,iv x.sub,.slice ag x.gray.length kg,iv x.per,iv x.start,iv x.rounds,iv x.forced,.slice none 0 0,.slice none 0 0] 121)).cell? ⟨w.heap.size+1,o,none⟩=some v:=fun o v hv=>by
 have ho:o<13:=by
  rcases Nat.lt_or_ge o 13 with h' | h'
  ·exact h'
  ·rw[Array.getElem?_eq_none (by simpa using h')] at hv;cases hv
 match o,ho with
 | 0,_ | 1,_ | 2,_ | 3,_ | 4,_ | 5,_ | 6,_ | 7,_ | 8,_ | 9,_ | 10,_ | 11,_ | 12,_=>simp [go_sem];exact Option.some.inj hv
theorem SlC.nth{w:World}{x:Hp}{ac:Option Addr}{kc:Nat}(h:SlC w (.slice ac x.cells.length kc) x.cells)(k:Nat)(hk:k<x.cells.length):∃bc oc,ac=some ⟨bc,oc,none⟩∧bc<w.heap.size∧ClAt w bc (oc+k*8) (x.c k):=by
 obtain⟨_,_,v,_,C⟩:=h;obtain⟨b',o',a,p⟩:=C k hk;rw[Hp.c_eq] at p;simp only [Value.slice.injEq] at v;exact⟨b',o',v.1.trans a,let ⟨_,p0,_⟩:=p;cell_lt p0,p⟩
theorem Opn.start{w w1:World}{x:Hp}{ar:Option Addr}{kr:Nat}{ac:Option Addr}{kc:Nat}{ag:Option Addr}{kg:Nat}(z:Array Value)
  (hq:Ext ((w.alloc (.cells #[iv x.room,iv x.used,iv x.born,.slice ar x.regs.length kr,.slice ac x.cells.length kc,iv x.phase,iv x.hand,iv x.sub,.slice ag x.gray.length kg,iv x.per,iv x.start,iv x.rounds,iv x.forced] 34)).alloc (.cells #[iv x.room,iv x.used,iv x.born,.slice ar x.regs.length kr,.slice ac x.cells.length kc,iv x.phase,iv x.hand,iv x.sub,.slice ag x.gray.length kg,iv x.per,iv x.start,iv x.rounds,iv x.forced,.slice none 0 0,.slice none 0 0] 121)) w1) :
  Opn w ((w1.alloc (.cells (madeCells z (x.cells.length*2)) 124)).setCell ⟨w.heap.size+1,13,none⟩ (.slice (some ⟨w1.heap.size,0,none⟩) x.cells.length x.cells.length)) x w.heap.size (w.heap.size+1) w1.heap.size 0 0 ar kr ac kc ag kg (.slice none 0 0) []:=by
 have xe:Ext w ((w.alloc (.cells #[iv x.room,iv x.used,iv x.born,.slice ar x.regs.length kr,.slice ac x.cells.length kc,iv x.phase,iv x.hand,iv x.sub,.slice ag x.gray.length kg,iv x.per,iv x.start,iv x.rounds,iv x.forced] 34)).alloc (.cells #[iv x.room,iv x.used,iv x.born,.slice ar x.regs.length kr,.slice ac x.cells.length kc,iv x.phase,iv x.hand,iv x.sub,.slice ag x.gray.length kg,iv x.per,iv x.start,iv x.rounds,iv x.forced,.slice none 0 0,.slice none 0 0] 121)):=((Ext.refl w).alloc _).alloc _;have hsz:w.heap.size+2≤w1.heap.size:=by have:=hq.size;simp at this;omega
 have old:∀o v,w1.cell? ⟨w.heap.size+1,o,none⟩=some v→o≠13→((w1.alloc (.cells (madeCells z (x.cells.length*2)) 124)).setCell ⟨w.heap.size+1,13,none⟩ (.slice (some ⟨w1.heap.size,0,none⟩) x.cells.length x.cells.length)).cell? ⟨w.heap.size+1,o,none⟩=some v:=fun o v h ho=>by
  rw[cell_other _ (.inr (fun e=>ho e.symm))];exact((Ext.refl w1).alloc _).keep h
 have c13:(w1.alloc (.cells (madeCells z (x.cells.length*2)) 124)).cell? ⟨w.heap.size+1,13,none⟩=some (.slice none 0 0):=((Ext.refl w1).alloc _).keep (hq.keep (by simp [go_sem]));have c14:w1.cell? ⟨w.heap.size+1,14,none⟩=some (.slice none 0 0):=hq.keep (by simp [go_sem])
 have f14:w1.frozen? ⟨w.heap.size+1,14,none⟩=false:=by
  rw[hq.frozen (p:=⟨w.heap.size+1,14,none⟩) (by simp)];simp [go_sem]
 refine⟨((xe.trans hq).alloc _).setCell (by show _≤w.heap.size+1;omega) _,⟨Nat.le_refl _,by omega,by omega,by simp [World.setCell]⟩,?_,fun o v hv=>old o v (hq.keep (view_box x w ar kr ac kc ag kg o v hv)) ?_,World.cell?_setCell_same _ _ _ c13,fun i hi=>by omega,fun j hj=>(made_open _ _ _ _ _ hj).set _ _,LsAt.nil (old 14 _ c14 (by omega)) ?_,Ho.nil,List.Perm.refl _⟩
 ·rw[cell_other _ (.inl (by omega))];exact((Ext.refl w1).alloc _).keep (hq.keep (by simp [go_sem]))
 ·intro e;rw[e] at hv;simp at hv
 ·rw[World.frozen?_setCell,((Ext.refl w1).alloc _).frozen (p:=⟨w.heap.size+1,14,none⟩) (by show w.heap.size+1<w1.heap.size;omega)];exact f14
theorem open_own(x:Hp)(w:World){ar:Option Addr}{kr:Nat}{ac:Option Addr}{kc:Nat}{ag:Option Addr}{kg:Nat}(hR:SlW w (.slice ar x.regs.length kr) x.regs)(hC:SlC w (.slice ac x.cells.length kc) x.cells)(hG:SlI w (.slice ag x.gray.length kg) x.gray):
  Calls Tryz.prog 67 #[x.v (.slice ar x.regs.length kr) (.slice ac x.cells.length kc) (.slice ag x.gray.length kg)] w fun e w'=>∃b,Hid (e=.returned (.pointer (some ⟨b,0,none⟩)))∧Ext w w'∧Hid ((¬R1 x∧HAt w' b x ar kr ac kc ag kg)∨(R1 x∧∃bx bn vf F,Opn w w' x bx b bn x.cells.length x.cells.length ar kr ac kc ag kg vf F)):=by
 have HSL:=hide (And.intro hR (And.intro hC hG));have lc:x.cells.length≤35184372088832:=let ⟨_,_,_,l,_⟩:=hC;l;clear hR hC hG;go_enter Tryz.func67,Tryz.ntmps67;go_wp2_with fail;have xe:Ext w ((w.alloc (.cells #[iv x.room,iv x.used,iv x.born,.slice ar x.regs.length kr,.slice ac x.cells.length kc,iv x.phase,iv x.hand,iv x.sub,.slice ag x.gray.length kg,iv x.per,iv x.start,iv x.rounds,iv x.forced] 34)).alloc (.cells #[iv x.room,iv x.used,iv x.born,.slice ar x.regs.length kr,.slice ac x.cells.length kc,iv x.phase,iv x.hand,iv x.sub,.slice ag x.gray.length kg,iv x.per,iv x.start,iv x.rounds,iv x.forced,.slice none 0 0,.slice none 0 0] 121)):=((Ext.refl w).alloc _).alloc _;have hh:=hat_of x _ (w.heap.size+1) (view_box x w ar kr ac kc ag kg) (SlW.ext xe (unhide HSL).1) (SlC.ext xe (unhide HSL).2.1) (SlI.ext xe (unhide HSL).2.2);refine(limitsKept_any x (w.heap.size+1) _ hh).mono ?_;rintro e w1 ⟨r,rfl,hr,hq⟩;have X1:=hide (xe.trans hq);cases r
 ·have N:=hide (show ¬R1 x from fun r=>by have:=hr.2 r;simp at this);have H1:=hide (hh.ext hq);clear hr hq hh xe;go_wp2_with fail;go_ret;exact⟨w.heap.size+1,rfl,unhide X1,.inl ⟨unhide N,unhide H1⟩⟩
 have Y:=hide (hr.1 rfl);have hn8:x.cells.length≤8000:=by have:=(unhide Y).room;have:=(unhide Y).cells;omega
 have hsz:w.heap.size+2≤w1.heap.size:=by have:=hq.size;simp at this;omega
 have hs0:w.heap.size<w1.heap.size:=by omega
 have hs1:w.heap.size+1<w1.heap.size:=by omega
 obtain⟨z,hmk⟩:=mkNodes x.cells.length (by omega) w1;have s0:=Opn.start z hq;rw[World.setCell_alloc_past _ _ _ _ hs1] at s0;have S0:=hide s0;clear s0;have b4:w1.cell? ⟨w.heap.size,4,none⟩=some (.slice ac x.cells.length kc):=hq.keep (by simp [go_sem]);have b13:w1.cell? ⟨w.heap.size+1,13,none⟩=some (.slice none 0 0):=hq.keep (by simp [go_sem])
 have g13:w1.frozen? ⟨w.heap.size+1,13,none⟩=false:=by
  rw[hq.frozen (p:=⟨w.heap.size+1,13,none⟩) (by simp)];simp [go_sem]
 clear hr hh xe hq;go_wp2_with fail;go_loopw [22] (fun i wr=>∃(k:Nat) (vf:Value) (F:List Int),k≤x.cells.length∧i=.int .i64 k∧Opn w wr x w.heap.size (w.heap.size+1) w1.heap.size k k ar kr ac kc ag kg vf F) (fun i _=>x.cells.length-(intOf i).toNat)
 case atStart=>exact⟨0,_,_,Nat.zero_le _,rfl,unhide S0⟩
 case round=>
  clear S0 b4 b13 g13 hmk;obtain⟨k,vf,F,hk,rfl,hop⟩:=hrel;have HO:=hide hop;by_cases hlt:k<x.cells.length
  ·obtain⟨bc,oc,hac,hbc,vp,p0',_⟩:=SlC.nth (unhide HSL).2.1 k hlt;have P0:=hide p0';clear p0';have q4:=hop.x4;have q13:=hop.n13;rw[hac] at q4;obtain⟨⟨u1,v1⟩,f1⟩:=hop.o (k*2) (by omega);obtain⟨⟨u2,v2⟩,f2⟩:=hop.o (k*2+1) (by omega);have hk0:(0:Int)≤(k:Int):=by omega
   have hk1:(k:Int)<(x.cells.length:Int):=by omega
   have hbw:w1.heap.size<wr.heap.size:=hop.hb.2.2.2;have L2:=hide (hop.lay hac hlt);have HAC:=hide hac;clear hop hac;go_wp2_with fail
   go_region
   generalize hW:((wr.setCell ⟨w1.heap.size,k*2,none⟩ (.int .i64 k)).setCell ⟨w1.heap.size,k*2+1,none⟩ (.pointer (some ⟨bc,oc+k*8,none⟩))).drew=W2;have L3:=hide ((unhide L2).same (w':=W2) (by rw[←hW];rfl) (by rw[←hW];rfl) (by rw[←hW];rfl) (by rw[←hW];rfl));have q4':=(unhide L3).x4;rw[unhide HAC] at q4';have p0:=(unhide L3).e.keep (unhide P0);have hlen:F.length≤1000000000:=by have:=(unhide L3).len;omega
   have hbs:w1.heap.size+1≤W2.heap.size:=(unhide L3).hb.2.2.2;clear hW L2 q4 q13 v1 v2 f1 f2 hbw;cases s0:((x.c k).st == 0)
   ·have L4:=hide ((unhide L3).skip s0);go_wp2_with fail;go_roundw
    case rel=>exact⟨k+1,vf,F,by omega,by go_num,unhide L4⟩
    case measure=>simp [intOf];omega
   ·go_wp2_with fail;refine(put_ls _ (w1.heap.size+1) (w.heap.size+1) 14 vf F (k:Int) (unhide L3).f hbs (unhide L3).fo (by omega)).mono ?_;rintro e w3 ⟨rfl,v3,F3,l3,o3,p3,q3⟩;have L4:=hide ((unhide L3).put s0 l3 o3 p3 q3);clear l3 o3 p3 q3;go_wp2_with fail;go_roundw
    case rel=>exact⟨k+1,v3,F3,by omega,by go_num,unhide L4⟩
    case measure=>simp [intOf];omega
  ·have hk2:k=x.cells.length:=by omega
   subst hk2;have D:=hide hop;have E:=hide hop.e;clear hop hk hlt;go_wp2_with fail;go_ret;exact⟨w.heap.size+1,rfl,unhide E,.inr ⟨unhide Y,_,_,_,_,unhide D⟩⟩
theorem open_any(x:Hp)(w:World){ar:Option Addr}{kr:Nat}{ac:Option Addr}{kc:Nat}{ag:Option Addr}{kg:Nat}(hR:SlW w (.slice ar x.regs.length kr) x.regs)(hC:SlC w (.slice ac x.cells.length kc) x.cells)(hG:SlI w (.slice ag x.gray.length kg) x.gray):
  Calls Tryz.prog 67 #[x.v (.slice ar x.regs.length kr) (.slice ac x.cells.length kc) (.slice ag x.gray.length kg)] w fun e w'=>∃b,Hid (e=.returned (.pointer (some ⟨b,0,none⟩)))∧Ext w w'∧Hid ((¬R1 x∧HAt w' b x ar kr ac kc ag kg)∨(R1 x∧∃an kn base vf F,VAt w' b x ar kr ac kc ag kg an kn∧FAt w' b x base vf F∧Hid (∃bn on,an=some ⟨bn,on,none⟩))):=
 (open_own x w hR hC hG).mono fun _ _ ⟨b,he,hx,h⟩=>⟨b,he,hx,by
  rcases h with h | ⟨h1,bx,bn,vf,F,h2⟩
  ·exact .inl h
  ·exact .inr ⟨h1,_,_,_,_,_,(h2.done hR hC hG).1,(h2.done hR hC hG).2,⟨_,_,rfl⟩⟩⟩
theorem SAt.ring[Inhabited ProtD]{B:Nat}{w:World}{b:Nat}{x:Hp}{ar:Option Addr}{kr:Nat}{v4 v8:Value}{br bn:Nat}{cB cO:Nat→Nat}{pb:Nat→Nat}{pa:Nat→Option Addr}{pk:Nat→Nat}{kn hd:Nat}{vf:Value}{F:List Int}{vk:Value}{K:List Nat}{role:Nat→Nat}{w':World}{hd':Nat}{G:List Int}(h:SAt B w b x ar kr v4 v8 br cB cO bn pb pa pk kn hd vf F vk K role)(r:RAt w' b bn hd' G)(o:Only (fun q=>q=b) w w')(n:Nf1 b w')(c:∀k,(k<15∨k=4017)→w'.cell? ⟨b,k,none⟩=w.cell? ⟨b,k,none⟩):
  SAt B w' b { x with gray:=G } ar kr v4 v8 br cB cO bn pb pa pk kn hd' vf F vk K role:=by
 have far:∀q,q<w.heap.size→role q≠0→w'.heap[q]?=w.heap[q]?:=fun q hq hr=>o.block q hq (fun e=>hr (by rw[e];exact h.sp.b))
 have fn:=far bn h.sb.lo.2.2.1 (by rw[h.sp.n];omega);refine⟨⟨h.sb.bx.of fun k hk=>c k (by omega),h.sb.ha,(c 13 (by omega)).trans h.sb.n13,fun k hk=>⟨(World.cell?_of_block (a:=⟨bn,_,none⟩) fn).trans (h.sb.nd k hk).1,(World.cell?_of_block (a:=⟨bn,_,none⟩) fn).trans (h.sb.nd k hk).2⟩,⟨(c 14 (by omega)).trans h.sb.fr.hd,n.2 14,ownsRow_of_block h.sb.fr.own (fun q hq=>far q (h.sb.fr.own.lt q hq).2 (by rw[h.sp.f q hq];omega)),h.sb.fr.apart⟩,r,(c 4017 (by omega)).trans h.sb.k0,ownsRow_of_block h.sb.kp (fun q hq=>far q (h.sb.kp.lt q hq).2 (by rw[h.sp.k q hq];omega)),n,⟨h.sb.lo.1,h.sb.lo.2.1,h.sb.lo.2.2.of fn o.size⟩⟩,?_,⟨h.sp.b,h.sp.n,h.sp.r,h.sp.c,h.sp.f,h.sp.k,h.sp.p⟩,h.pr.of (fun q hq h1=>far q hq (by rw[h1];omega)) (fun _ _ h=>h)⟩;have:=h.rw.same o.size (fun hl=>far br (h.rw.nr hl).1.1 (by rw[h.sp.r hl];omega)) (fun q hq=>far (cB q) (h.rw.nc q hq).1.1 (by rw[h.sp.c q hq];omega)) (fun q hq hl=>far (pb q) (h.rw.pl q hq hl).2.1.1 (by rw[h.sp.p q hq hl];omega));exact⟨this.r,this.s,this.p7,this.p,this.pl,this.nr,this.nc,this.d,this.dp,this.dc,this.kp⟩
theorem SAt.start[Inhabited ProtD]{B:Nat}{w1 w2:World}{x:Hp}{bx b2 bn:Nat}{ar:Option Addr}{kr:Nat}{ac:Option Addr}{kc:Nat}{ag:Option Addr}{kg:Nat}{vf:Value}{F:List Int}{br bc:Nat}{pb:Nat→Nat}{pa:Nat→Option Addr}{pk:Nat→Nat}{Z:Array Value}{T:TypeId}(hz:∀q,(default:ProtD).z q=none)
  (ho:Opn w1 w2 x bx b2 bn x.cells.length x.cells.length ar kr ac kc ag kg vf F) (hrw:Rws B w1 x br bc pb pa pk) (hB:B≤w1.heap.size) (har:0<x.regs.length→ar=some ⟨br,0,none⟩) (hac:0<x.cells.length→ac=some ⟨bc,0,none⟩) (hr:0<x.regs.length)
  (hZ:Z.size=4018∧(Z[0]?=some (iv x.room)∧Z[1]?=some (iv x.used)∧Z[2]?=some (iv x.born)∧Z[3]?=some (.slice ar x.regs.length kr)∧Z[4]?=some (.slice ac x.cells.length kc)∧Z[5]?=some (iv x.phase)∧Z[6]?=some (iv x.hand)∧Z[7]?=some (iv x.sub)∧Z[8]?=some (.slice ag x.gray.length kg)∧Z[9]?=some (iv x.per)∧Z[10]?=some (iv x.start)∧Z[11]?=some (iv x.rounds)∧Z[12]?=some (iv x.forced)∧Z[13]?=some (.slice (some ⟨bn,0,none⟩) x.cells.length x.cells.length)∧Z[14]?=some vf)∧Z[4015]?=some (iv 0)∧Z[4016]?=some (iv 0)∧Z[4017]?=some (.slice none 0 0)) :
  ∃role,SAt B (w2.alloc (.cells Z T)) w2.heap.size { x with gray:=[] } ar kr (.slice ac x.cells.length kc) (.slice ag x.gray.length kg) br (fun _=>bc) (fun q=>q*8) bn pb pa pk x.cells.length 0 vf F (.slice none 0 0) [] role:=by
 obtain⟨hZs,⟨z0,z1,z2,z3,z4,z5,z6,z7,z8,z9,z10,z11,z12,z13,z14⟩,y0,y1,y2⟩:=hZ;obtain⟨hb1,hb2,hb3,hb4⟩:=ho.hb;have xe:Ext w1 (w2.alloc (.cells Z T)):=ho.e.alloc _;have x2:Ext w2 (w2.alloc (.cells Z T)):=(Ext.refl w2).alloc _;have hnew:(w2.alloc (.cells Z T)).heap[w2.heap.size]?=some (.cells Z T):=heap_alloc_new w2 _;have cz:∀o,(w2.alloc (.cells Z T)).cell? ⟨w2.heap.size,o,none⟩=Z[o]?:=fun o=>cell_of_row _ w2.heap.size o _ _ (0,0) hnew
 have nz:Nf1 w2.heap.size (w2.alloc (.cells Z T)):=⟨by simp,fun j=>by simp [go_sem]⟩;have lr:=(hrw.nr hr).1.1;have lsz:=ho.e.size;have lp:∀q,q<x.cells.length→0<pk q→pb q<w1.heap.size:=fun q hq hl=>(hrw.pl q hq hl).2.1.1
 have lf:∀q,vf.ownBlock=some q→bn+1≤q∧q<w2.heap.size:=fun q hq=>ho.f.own.lt q hq
 refine⟨fun q=>if q=w2.heap.size then 0 else if q=bn then 1 else if q=br then 2 else if 0<x.cells.length∧q=bc then 3 else
  (open Classical in if h:∃i,i<x.cells.length∧0<pk i∧pb i=q then 6+Classical.choose h else 4),⟨⟨(cz 0).trans z0,(cz 1).trans z1,(cz 2).trans z2,(cz 3).trans z3,(cz 4).trans z4,(cz 5).trans z5,(cz 6).trans z6,(cz 7).trans z7,(cz 8).trans z8,(cz 9).trans z9,(cz 10).trans z10,(cz 11).trans z11,(cz 12).trans z12⟩,har,(cz 13).trans z13,fun i hi=>?_,⟨(cz 14).trans z14,nz.2 14,own_less (ho.f.own.alloc _) (by omega),fun e=>by have:=(lf _ e).2;omega⟩,⟨by omega,by simp,(cz 4015).trans y0,(cz 4016).trans y1,fun i hi=>by simp at hi,fun j hj=>⟨Z[15+j]'(by omega),(cz _).trans (by simp)⟩⟩,(cz 4017).trans y2,World.ownsRow_nil _ _ _ _,nz,⟨by omega,by omega,by simp;omega,fun j hj=>(ho.o j hj).ext x2⟩⟩,?_,?_,fun q o h=>by rw[hz q] at h;cases h⟩
 ·obtain⟨bc',oc,e,p,q⟩:=ho.n i hi;have e2:=(hac (Nat.lt_of_le_of_lt (Nat.zero_le _) hi)).symm.trans e;simp only [Option.some.injEq,Addr.mk.injEq] at e2;obtain⟨rfl,rfl,_⟩:=e2;rw[Nat.zero_add] at q;exact⟨x2.keep p,x2.keep q⟩
 ·have:=(hrw.ext xe).rwn;exact⟨this.r,this.s,this.p7,this.p,this.pl,this.nr,this.nc,this.d,this.dp,this.dc,this.kp⟩
 ·refine⟨if_pos rfl,?_,fun _=>?_,fun q hq=>?_,fun q hq=>?_,fun q hq=>by simp [Value.ownBlock] at hq,fun q hq hl=>?_⟩
  ·rw[if_neg (by omega),if_pos rfl]
  ·rw[if_neg (by omega),if_neg (by omega),if_pos rfl]
  ·have hl:0<x.cells.length:=by have:q<x.cells.length:=hq;omega
   have l1:=(hrw.nc hl).1.1;have l2:=hrw.d hl;rw[if_neg (by omega),if_neg (by omega),if_neg (fun e=>l2 e.symm),if_pos ⟨hl,rfl⟩]
  ·have l1:=lf q hq;rw[if_neg (by omega),if_neg (by omega),if_neg (by omega),if_neg (fun e=>by have:=(hrw.nc e.1).1.1;omega),dif_neg (fun⟨i,h1,h2,h3⟩=>by have:=lp i h1 h2;omega)]
  ·have l1:=lp q hq hl;have l2:=(hrw.pl q hq hl).2.2.1;have hex:∃i,i<x.cells.length∧0<pk i∧pb i=pb q:=⟨q,hq,hl,rfl⟩;rw[if_neg (by omega),if_neg (by omega),if_neg l2.1,if_neg (fun e=>l2.2 e.2),dif_pos hex];have sp:=Classical.choose_spec hex
   have:Classical.choose hex=q:=by
    rcases Nat.decEq (Classical.choose hex) q with h | h
    ·exact absurd sp.2.2 (hrw.dp _ q sp.1 hq h sp.2.1 hl)
    ·exact h
   rw[this]
theorem SAt.setc[Inhabited ProtD]{B:Nat}{w:World}{b:Nat}{x:Hp}{ar:Option Addr}{kr:Nat}{v4 v8:Value}{br bn:Nat}{cB cO:Nat→Nat}{pb:Nat→Nat}{pa:Nat→Option Addr}{pk:Nat→Nat}{kn hd:Nat}{vf:Value}{F:List Int}{vk:Value}{K:List Nat}{role:Nat→Nat}{w':World}{i:Nat}{c':Cl}
  (h:SAt B w b x ar kr v4 v8 br cB cO bn pb pa pk kn hd vf F vk K role) (hi:i<x.cells.length) (hp:c'.prs=(x.c i).prs) (o:Only (fun q=>q=cB i) w w') (hs:S7 w' (cB i) (cO i) c') (ho:∀k,(k<cO i∨cO i+7≤k)→w'.cell? ⟨cB i,k,none⟩=w.cell? ⟨cB i,k,none⟩) (nf:Nf1 (cB i) w') :
  SAt B w' b { x with cells:=x.cells.set i c' } ar kr v4 v8 br cB cO bn pb pa pk kn hd vf F vk K role:=by
 have far:∀q,q<w.heap.size→role q≠3→w'.heap[q]?=w.heap[q]?:=fun q hq hr=>o.block q hq (fun e=>hr (by rw[e];exact h.sp.c i hi))
 have hl:({ x with cells:=x.cells.set i c' }:Hp).cells.length=x.cells.length:=by simp
 have hc:=Hp.c_set x i c' hi
 have hpr:∀q,(({ x with cells:=x.cells.set i c' }:Hp).c q).prs=(x.c q).prs:=fun q=>by
  rw[hc q];by_cases e:q=i
  ·rw[if_pos e,hp,e]
  ·rw[if_neg e]
 have sb:=h.sb.same o.size (far b h.sb.nb.1 (by rw[h.sp.b];omega)) (far bn h.sb.lo.2.2.1 (by rw[h.sp.n];omega)) (fun q hq=>far q (h.sb.fr.own.lt q hq).2 (by rw[h.sp.f q hq];omega)) (fun q hq=>far q (h.sb.kp.lt q hq).2 (by rw[h.sp.k q hq];omega));have pf:∀q,q<x.cells.length→0<pk q→w'.heap[pb q]?=w.heap[pb q]?:=fun q hq hl=>far (pb q) (h.rw.pl q hq hl).2.1.1 (by rw[h.sp.p q hq hl];omega)
 have cf:∀q,q<x.cells.length→cB q≠cB i→w'.heap[cB q]?=w.heap[cB q]?:=fun q hq e=>o.block (cB q) (h.rw.nc q hq).1.1 e
 have ck:∀q,q<x.cells.length→q≠i→∀k,k<8→w'.cell? ⟨cB q,cO q+k,none⟩=w.cell? ⟨cB q,cO q+k,none⟩:=fun q hq e k hk=>by
  by_cases e2:cB q=cB i
  ·rw[e2];rcases h.rw.dc q i hq hi e with d | d | d
   ·exact(d e2).elim
   ·exact ho _ (by omega)
   ·exact ho _ (by omega)
  ·exact World.cell?_of_block (a:=⟨cB q,_,none⟩) (cf q hq e2)
 have cn:∀q,q<x.cells.length→Nf1 (cB q) w':=fun q hq=>by
  by_cases e2:cB q=cB i
  ·rw[e2];exact nf
  ·exact nf1_block (h.rw.nc q hq).1 (cf q hq e2) o.size
 refine⟨⟨sb.bx,sb.ha,by rw[hl];exact sb.n13,fun k hk=>sb.nd k (by rw[hl] at hk;exact hk),sb.fr,sb.rg,sb.k0,sb.kp,sb.nb,sb.lo⟩,⟨fun k hk=>?_,fun q hq=>?_,fun q hq=>?_,fun q hq k hk=>?_,fun q hq hlq=>?_,fun hr=>⟨nf1_block (h.rw.nr hr).1 (far br (h.rw.nr hr).1.1 (by rw[h.sp.r hr];omega)) o.size,(h.rw.nr hr).2⟩,fun q hq=>⟨cn q (by rw[hl] at hq;exact hq),(h.rw.nc q (by rw[hl] at hq;exact hq)).2⟩,fun q hq=>h.rw.d q (by rw[hl] at hq;exact hq),fun q q' hq hq' hne h1 h2=>?_,fun q q' hq hq' hne=>h.rw.dc q q' (by rw[hl] at hq;exact hq) (by rw[hl] at hq';exact hq') hne,fun q hq=>?_⟩,⟨h.sp.b,h.sp.n,h.sp.r,fun q hq=>h.sp.c q (by rw[hl] at hq;exact hq),h.sp.f,h.sp.k,fun q hq hlq=>?_⟩,h.pr.of (fun q hq h1=>far q hq (by rw[h1];omega)) (fun _ _ h=>h)⟩
 ·exact(h.rw.r k hk).of fun j _=>World.cell?_of_block (a:=⟨br,_,none⟩) (far br (h.rw.nr (by have:k<x.regs.length:=hk;omega)).1.1 (by rw[h.sp.r (by have:k<x.regs.length:=hk;omega)];omega))
 ·rw[hl] at hq;rw[hc q];by_cases e:q=i
  ·subst e;rw[if_pos rfl];exact hs
  ·rw[if_neg e];exact(h.rw.s q hq).of fun j hj=>ck q hq e j (by omega)
 ·rw[hl] at hq;rw[hpr q];by_cases e:q=i
  ·subst e;rw[ho _ (by omega)];exact h.rw.p7 q hq
  ·rw[ck q hq e 7 (by omega)];exact h.rw.p7 q hq
 ·rw[hl] at hq;have e2:(({ x with cells:=x.cells.set i c' }:Hp).c q).p k=(x.c q).p k:=by simp only [Cl.p,hpr q]
  rw[hpr q] at hk;rw[e2];exact(h.rw.p q hq k hk).of fun j _=>World.cell?_of_block (a:=⟨pb q,_,none⟩) (pf q hq (h.rw.pw hq (by omega)))
 ·rw[hl] at hq;obtain⟨a1,a2,a3,a4⟩:=h.rw.pl q hq hlq;exact⟨a1,nfp_block a2 (pf q hq hlq) o.size,⟨a3.1,fun j hj=>a3.2 j (by rw[hl] at hj;exact hj)⟩,a4⟩
 ·rw[hl] at hq hq';exact h.rw.dp q q' hq hq' hne h1 h2
 ·rw[hl] at hq;rw[hpr q];exact h.rw.kp q hq
 ·rw[hl] at hq;exact h.sp.p q hq hlq
theorem smarking_any(x:Hp)(b:Nat)(w:World)(c5:w.cell? ⟨b,5,none⟩=some (iv x.phase)):
  Calls Tryz.prog 145 #[.pointer (some ⟨b,0,none⟩)] w fun e w'=>e=.returned (.bool (mkB x))∧w'=w:=by
 cases q:(x.phase == 1)
 ·have E:=hide (show mkB x=(x.phase == 2) by simp [mkB,q]);go_enter Tryz.func145,Tryz.ntmps145;go_wp2_with fail;go_ret;exact⟨by rw[unhide E];rfl,rfl⟩
 ·have E:=hide (show mkB x=true by simp [mkB,q]);go_enter Tryz.func145,Tryz.ntmps145;go_wp2_with fail;go_ret;exact⟨by rw[unhide E];rfl,rfl⟩
theorem swhite_any(c:Cl)(bn i cb co:Nat)(w:World)(m1:w.cell? ⟨bn,i*2+1,none⟩=some (.pointer (some ⟨cb,co,none⟩)))(s:S7 w cb co c):
  Calls Tryz.prog 146 #[ndp bn i] w fun e w'=>e=.returned (.bool (whB c))∧w'=w:=by
 have s0:=s.1;have s5:=s.2.2.2.2.2.1;clear s;cases q:(c.st == 1)
 ·have E:=hide (show whB c=false by simp [whB,q]);go_enter Tryz.func146,Tryz.ntmps146;go_wp2_with fail;go_ret;exact⟨by rw[unhide E];rfl,rfl⟩
 ·have E:=hide (show whB c=(c.color == 0) by simp [whB,q]);go_enter Tryz.func146,Tryz.ntmps146;go_wp2_with fail;go_ret;exact⟨by rw[unhide E];rfl,rfl⟩
theorem sshade_fr[Inhabited ProtD]{B:Nat}{b:Nat}{x:Hp}{ar:Option Addr}{kr:Nat}{v4 v8:Value}{br bn:Nat}{cB cO:Nat→Nat}{pb:Nat→Nat}{pa:Nat→Option Addr}{pk:Nat→Nat}{kn hd:Nat}{vf:Value}{F:List Int}{vk:Value}{K:List Nat}{role:Nat→Nat}(i:Nat)(w:World)
  (h:SAt B w b x ar kr v4 v8 br cB cO bn pb pa pk kn hd vf F vk K role) (hi:i<x.cells.length) (hg:shadeB x i=true→x.gray.length<4000) (a:World) (ha:a.heap.size≤B) (hx:Ext a w) :
  Calls Tryz.prog 82 #[.pointer (some ⟨b,0,none⟩),ndp bn i] w fun e w'=>e=.returned (.tuple #[])∧Hid (SAt B w' b (shadeH x i) ar kr v4 v8 br cB cO bn pb pa pk kn hd vf F vk K role)∧Ext a w'∧Hid (∀q,q<w.heap.size→q≠b→q≠cB i→w'.heap[q]?=w.heap[q]?):=by
 have H:=hide h;have c5:=h.sb.bx.2.2.2.2.2.1;obtain⟨m0,m1⟩:=h.sb.nd i hi;have S:=hide (h.rw.s i hi);clear h;go_enter Tryz.func82,Tryz.ntmps82;go_wp2_with fail;refine(smarking_any x b _ c5).mono ?_;rintro e w1 ⟨rfl,rfl⟩;cases q1:mkB x
 ·have E:=hide (show shadeH x i=x by unfold shadeH;rw[if_neg (by simp [shadeB,q1])]);go_wp2_with fail
  try simp only [Exit.inBlock,Exit.then]
  refine bodyPost_ret (results_none rfl _ _ _) rfl ?_;exact⟨rfl,by rw[unhide E];exact unhide H,hx,fun _ _ _ _=>rfl⟩
 ·go_wp2_with fail;refine(swhite_any (x.c i) bn i (cB i) (cO i) _ m1 (unhide S)).mono ?_;rintro e w2 ⟨rfl,rfl⟩;cases q2:whB (x.c i)
  ·have E:=hide (show shadeH x i=x by unfold shadeH;rw[if_neg (by simp [shadeB,q2])]);go_wp2_with fail
   try simp only [Exit.inBlock,Exit.then]
   refine bodyPost_ret (results_none rfl _ _ _) rfl ?_;exact⟨rfl,by rw[unhide E];exact unhide H,hx,fun _ _ _ _=>rfl⟩
  ·have hb:shadeB x i=true:=by simp [shadeB,q1,q2]
   have E:=hide (show shadeH x i={ x with cells:=x.cells.set i (grayC (x.c i)),gray:=x.gray++[(i:Int)] } by unfold shadeH;rw[if_pos hb]);have hl4:=hg hb;have s5:=(unhide S).2.2.2.2.2.1;have f5:=((unhide H).rw.nc i hi).1.2 (cO i+5)
   have C:=hide (show SAt B (w2.setCell ⟨cB i,cO i+5,none⟩ (iv 1)) b { x with cells:=x.cells.set i (grayC (x.c i)) } ar kr v4 v8 br cB cO bn pb pa pk kn hd vf F vk K role from
    (unhide H).setc hi rfl (Only.setCell (S:=fun q=>q=cB i) (Only.refl _ w2) (p:=⟨cB i,cO i+5,none⟩) rfl _) (by
     obtain⟨a0,a1,a2,a3,a4,a5,a6⟩:=unhide S;refine⟨?_,?_,?_,?_,?_,World.cell?_setCell_same _ _ _ a5,?_⟩
     ·rw[cell_other _ (.inr (by omega))];exact a0
     ·rw[cell_other _ (.inr (by omega))];exact a1
     ·rw[cell_other _ (.inr (by omega))];exact a2
     ·rw[cell_other _ (.inr (by omega))];exact a3
     ·rw[cell_other _ (.inr (by omega))];exact a4
     ·rw[cell_other _ (.inr (by omega))];exact a6) (fun k hk=>cell_other _ (.inr (by omega))) (((unhide H).rw.nc i hi).1.set _ _))
   have X2:=hide (hx.setCell (p:=⟨cB i,cO i+5,none⟩) (show a.heap.size≤cB i from Nat.le_trans ha ((unhide H).rw.nc i hi).2) (iv 1));have LB:=hide (Nat.le_trans ha (unhide H).sb.lo.1);clear hb hg;go_wp2_with fail;refine(rput_any b bn hd i x.gray _ (unhide C).sb.rg (unhide C).sb.nb hl4).mono ?_;rintro e w3 ⟨rfl,hr3,ho3,hn3,hc3⟩;have R:=hide ((unhide C).ring hr3 ho3 hn3 (fun o ho=>hc3 o (by omega)));have FR:=hide (show ∀q,q<w2.heap.size→q≠b→q≠cB i→w3.heap[q]?=w2.heap[q]? from fun q hq h1 h2=>(ho3.block q (by simpa [World.setCell] using hq) h1).trans (Below.heap_setCell _ _ _ _ h2));have XX:=hide (ho3.ext (unhide X2) (fun q hq e=>by have:=unhide LB;omega));clear hr3 ho3 hn3 hc3;go_wp2_with fail
   go_end0
   exact⟨rfl,by rw[unhide E];exact unhide R,unhide XX,unhide FR⟩
theorem sshade_any[Inhabited ProtD]{B:Nat}{b:Nat}{x:Hp}{ar:Option Addr}{kr:Nat}{v4 v8:Value}{br bn:Nat}{cB cO:Nat→Nat}{pb:Nat→Nat}{pa:Nat→Option Addr}{pk:Nat→Nat}{kn hd:Nat}{vf:Value}{F:List Int}{vk:Value}{K:List Nat}{role:Nat→Nat}(i:Nat)(w:World)
  (h:SAt B w b x ar kr v4 v8 br cB cO bn pb pa pk kn hd vf F vk K role) (hi:i<x.cells.length) (hg:shadeB x i=true→x.gray.length<4000) (a:World) (ha:a.heap.size≤B) (hx:Ext a w) :
  Calls Tryz.prog 82 #[.pointer (some ⟨b,0,none⟩),ndp bn i] w fun e w'=>e=.returned (.tuple #[])∧Hid (SAt B w' b (shadeH x i) ar kr v4 v8 br cB cO bn pb pa pk kn hd vf F vk K role)∧Ext a w':=
 (sshade_fr i w h hi hg a ha hx).mono fun _ _ ⟨h1,h2,h3,_⟩=>⟨h1,h2,h3⟩
def AddN(x:Hp)(y:Wd)(Mt Mt' St St':List Nat):Prop:=(y.k≠2∧Mt'=Mt∧St'=St)∨(y.k=2∧((tgt x y∈Mt∧Mt'=Mt∧St'=St)∨(¬tgt x y∈Mt∧Mt'=Mt++[tgt x y]∧St'=St++[tgt x y])))
theorem AddN.sub{x:Hp}{y:Wd}{Mt Mt' St St':List Nat}(h:AddN x y Mt Mt' St St'):(∀i,i∈Mt→i∈Mt')∧(∀i,i∈St→i∈St'):=by
 rcases h with⟨_,e,f⟩ | ⟨_,⟨_,e,f⟩ | ⟨_,e,f⟩⟩
 ·exact⟨fun i hi=>by rw[e];exact hi,fun i hi=>by rw[f];exact hi⟩
 ·exact⟨fun i hi=>by rw[e];exact hi,fun i hi=>by rw[f];exact hi⟩
 ·exact⟨fun i hi=>by rw[e];exact List.mem_append_left _ hi,fun i hi=>by rw[f];exact List.mem_append_left _ hi⟩
theorem AddN.has{x:Hp}{y:Wd}{Mt Mt' St St':List Nat}(h:AddN x y Mt Mt' St St')(hk:y.k=2):tgt x y∈Mt':=by
 rcases h with⟨n,_⟩ | ⟨_,⟨m,e,_⟩ | ⟨_,e,_⟩⟩
 ·exact(n hk).elim
 ·rw[e];exact m
 ·rw[e];simp
theorem AddN.new{x:Hp}{y:Wd}{Mt Mt' St St':List Nat}(h:AddN x y Mt Mt' St St'){i:Nat}(hi:i∈Mt'):i∈Mt∨(y.k=2∧i=tgt x y∧i∈St'):=by
 rcases h with⟨_,e,_⟩ | ⟨k,⟨_,e,_⟩ | ⟨_,e,f⟩⟩
 ·rw[e] at hi;exact .inl hi
 ·rw[e] at hi;exact .inl hi
 ·rw[e] at hi;rcases List.mem_append.1 hi with q | q
  ·exact .inl q
  ·have:i=tgt x y:=by simpa using q
   exact .inr ⟨k,this,by rw[f,this];simp⟩
theorem AddN.weigh{x:Hp}{y:Wd}{Mt Mt' St St':List Nat}(h:AddN x y Mt Mt' St St'):2*Mt.length+St'.length≤2*Mt'.length+St.length∧Mt.length≤Mt'.length:=by
 rcases h with⟨_,e,f⟩ | ⟨_,⟨_,e,f⟩ | ⟨_,e,f⟩⟩
 ·rw[e,f];omega
 ·rw[e,f];omega
 ·rw[e,f];simp;omega
theorem lead_eq(x:Hp)(i:Nat):lead x i=lead2 x i:=rfl
theorem follow_any(x:Hp)(y:Wd)(b:Nat)(w:World){ac:Nat→Option Addr}{kn:Nat}(bn on:Nat)(h:FwAt w b x ac (some ⟨bn,on,none⟩) kn)(r2:R2 x)(hy:MayMark x y):
  Calls Tryz.prog 123 #[.pointer (some ⟨b,0,none⟩),y.v] w fun e w'=>∃t,Hid (e=.returned t)∧((y.k≠2∧t=.pointer none)∨(y.k=2∧t=ptr bn (on+tgt x y*2)))∧Ext w w':=by
 cases k2:(y.k == 2)
 ·exact(follow_none y b w k2).mono fun _ _ ⟨he,hx⟩=>⟨_,he,.inl ⟨by simpa using k2,rfl⟩,hx⟩
 ·have hk:y.k=2:=by simpa using k2
  obtain⟨_,a0,a1,_,_⟩:=hy hk;obtain⟨i,hi⟩:∃i:Nat,y.a=(i:Int):=⟨y.a.toNat,by omega⟩;have:=follow_some x y b i w h r2 k2 (by omega) bn on rfl;rw[←hi] at this;exact this.mono fun _ _ ⟨he,hx⟩=>⟨_,he,.inr ⟨hk,by unfold tgt;rw[hi,lead_eq];simp⟩,hx⟩
theorem meet_word(x:Hp)(y:Wd)(base bw bv r1 bn on:Nat)(t v:Value)(Mt St:List Nat)(w:World)(h:WkAt w base bw bv r1 bn on x.cells.length v Mt St)(hy:MayMark x y)(ht:(y.k≠2∧t=.pointer none)∨(y.k=2∧t=ptr bn (on+tgt x y*2)))(hb:base≤w.heap.size)(hn8:x.cells.length≤8000):
  Calls Tryz.prog 121 #[.pointer (some ⟨bw,0,none⟩),t] w fun e w'=>e=.returned (.tuple #[])∧∃v' Mt' St',WkAt w' base bw bv r1 bn on x.cells.length v' Mt' St'∧Hid (AddN x y Mt Mt' St St')∧KFr bw r1 v v' w w':=by
 rcases ht with⟨k,rfl⟩ | ⟨k,rfl⟩
 ·exact(meet_nil bw w).mono fun _ _ ⟨he,hw⟩=>by subst hw;exact⟨he,v,Mt,St,h,.inl ⟨k,rfl,rfl⟩,KFr.of_ext (Ext.refl _)⟩
 ·exact(meet_any base bw bv r1 bn on x.cells.length (tgt x y) v Mt St w h (hy k).2.2.2.2.1 hb hn8).mono fun _ _ ⟨he,v',M',S',hw,ha,hk⟩=>⟨he,v',M',S',hw,.inr ⟨k,unhide ha⟩,hk⟩
def OnlyN(x:Hp)(Mt:List Nat):Prop:=∀i,i∈Mt→Reached x i
def RegsN(x:Hp)(k:Nat)(Mt:List Nat):Prop:=∀j (h:j<x.regs.length),j<k→x.regs[j].k=2→tgt x x.regs[j]∈Mt
theorem OnlyN.add{x:Hp}{y:Wd}{Mt Mt' St St':List Nat}(h:OnlyN x Mt)(a:AddN x y Mt Mt' St St')(hy:y.k=2→Reached x (tgt x y)):OnlyN x Mt':=fun i hi=>by
 rcases a.new hi with q | ⟨k,e,_⟩
 ·exact h i q
 ·rw[e];exact hy k
theorem WkAt.start(w:World)(bv bn on n:Nat)(t:TypeId):WkAt (((w.alloc (.map #[] 0)).alloc (.map #[] 0)).alloc (.cells #[.pointer (some ⟨bv,0,none⟩),.map (some w.heap.size),.slice none 0 0,.map (some (w.heap.size+1))] t)) w.heap.size (w.heap.size+2) bv w.heap.size bn on n (.slice none 0 0) [] []:=by
 have hm:(((w.alloc (.map #[] 0)).alloc (.map #[] 0)).alloc (.cells #[.pointer (some ⟨bv,0,none⟩),.map (some w.heap.size),.slice none 0 0,.map (some (w.heap.size+1))] t)).heap[w.heap.size]?=some (.map #[] 0):=by
  rw[Below.heap_alloc _ _ _ (by simp;omega),Below.heap_alloc _ _ _ (by simp)];exact heap_alloc_new w _
 refine⟨by simp [go_sem],by simp [go_sem],by simp [go_sem],by simp [go_sem],⟨#[],0,hm,by simp [KeysAre]⟩,World.ownsRow_nil _ _ _ _,by simp [Value.ownBlock],by simp [Value.ownBlock],by omega,by omega,Nat.le_refl _,fun i hi=>hi,List.nodup_nil,List.nodup_nil,fun i hi=>by cases hi⟩
theorem walk_any(x:Hp)(b:Nat)(w:World){ar:Option Addr}{kr:Nat}{ac:Nat→Option Addr}{kn:Nat}(bn on:Nat)(h:VNt w b x ar kr ac (some ⟨bn,on,none⟩) kn)(r2:R2 x)(r4:R4 x)(hn8:x.cells.length≤8000):
  Calls Tryz.prog 120 #[.pointer (some ⟨b,0,none⟩)] w fun e w'=>e=.returned (.pointer (some ⟨w.heap.size+2,0,none⟩))∧∃v Mt St,WkAt w' w.heap.size (w.heap.size+2) b w.heap.size bn on x.cells.length v Mt St∧Hid (OnlyN x Mt∧RegsN x x.regs.length Mt∧∀i,i∈Mt→i∈St)∧Ext w w':=by
 have c3:=h.H.c3;have lr:=h.H.lr;have hb:b<w.heap.size:=cell_lt c3;have HV:=hide h;have Q2:=hide r2;have Q4:=hide r4;have hmm:∀(t:TypeId) (w:World),(Instr.makeMap t none).run Tryz.prog w=.ok (.map (some w.heap.size)) (w.alloc (.map #[] 0)):=fun _ _=>rfl
 clear h r2 r4;have c4:=((((Ext.refl w).alloc (.map #[] 0)).alloc (.map #[] 0)).alloc (.cells #[.pointer (some ⟨b,0,none⟩),.map (some w.heap.size),.slice none 0 0,.map (some (w.heap.size+1))] 172)).keep c3;have S0:=hide (WkAt.start w b bn on x.cells.length 172);go_enter Tryz.func120,Tryz.ntmps120;go_wp2_with fail;go_loopw [17] (fun i wr=>∃(k:Nat) (v:Value) (Mt St:List Nat),k≤x.regs.length∧i=.int .i64 k∧WkAt wr w.heap.size (w.heap.size+2) b w.heap.size bn on x.cells.length v Mt St∧Hid (OnlyN x Mt∧RegsN x k Mt∧∀i,i∈Mt→i∈St)∧Ext w wr) (fun i _=>x.regs.length-(intOf i).toNat)
 case atStart=>exact⟨0,_,[],[],Nat.zero_le _,rfl,unhide S0,⟨(fun i hi=>by cases hi),(fun j _ hj=>by omega),fun i hi=>hi⟩,(((Ext.refl w).alloc _).alloc _).alloc _⟩
 case round=>
  clear S0 c3 c4 hmm;obtain⟨k,v,Mt,St,hk,rfl,hw,hinv,hbl⟩:=hrel;have HW:=hide hw;clear hw;by_cases hlt:k<x.regs.length
  ·have hh:=(unhide HV).ext hbl;obtain⟨b',o,rfl,p0,p1,p2⟩:=hh.H.R k hlt;have hb':b'<wr.heap.size:=cell_lt p0;have hk0:(0:Int)≤(k:Int):=by omega
   have hk1:(k:Int)<(x.regs.length:Int):=by omega
   have xa:=(Ext.refl wr).alloc (.cells #[iv x.regs[k].k,iv x.regs[k].n,iv x.regs[k].a] 152);have MY:=hide (may_reg (unhide Q2) (unhide Q4) k hlt);clear hh;go_wp2_with fail;refine(follow_any x x.regs[k] b _ bn on ((unhide HV).ext (hbl.trans xa)).f (unhide Q2) (unhide MY)).mono ?_;rintro e w2 ⟨t,rfl,ht,hq⟩;have x2:=xa.trans hq;have HT:=hide ht;clear ht;go_wp2_with fail;refine(meet_word x x.regs[k] w.heap.size (w.heap.size+2) b w.heap.size bn on t v Mt St _ ((unhide HW).ext x2) (unhide MY) (unhide HT) (hbl.trans x2).size hn8).mono ?_;rintro e w3 ⟨rfl,v',M',S',hw3,ha,hkf⟩
   have R:=hide (show WkAt w3 w.heap.size (w.heap.size+2) b w.heap.size bn on x.cells.length v' M' S'∧(OnlyN x M'∧RegsN x (k+1) M'∧∀i,i∈M'→i∈S')∧Ext w w3 from
    ⟨hw3,⟨(unhide hinv).1.add (unhide ha) (fun e=>Reached.reg k hlt e),fun j hj hjk e=>by
     by_cases q:j=k
     ·subst q;exact(unhide ha).has e
     ·exact(unhide ha).sub.1 _ ((unhide hinv).2.1 j hj (by omega) e),fun i hi=>by
     rcases (unhide ha).new hi with q | ⟨_,_,q⟩
     ·exact(unhide ha).sub.2 i ((unhide hinv).2.2 i q)
     ·exact q⟩,((unhide HW).ext x2).kext hkf (hbl.trans x2)⟩)
   clear hw3 ha hkf;go_wp2_with fail;go_roundw
   case rel=>exact⟨k+1,v',M',S',by omega,by go_num,(unhide R).1,(unhide R).2.1,(unhide R).2.2⟩
   case measure=>simp [intOf];omega
  ·have hk2:k=x.regs.length:=by omega
   subst hk2;go_wp2_with fail;go_ret;exact⟨rfl,v,Mt,St,unhide HW,unhide hinv,hbl⟩
theorem rfirst_none(b bn hd:Nat)(w:World)(h:RAt w b bn hd []):
  Calls Tryz.prog 235 #[.pointer (some ⟨b,15,none⟩)] w fun e w'=>e=.returned (.pointer none)∧Ext w w':=by
 have r1:=h.r1;simp only [List.length_nil] at r1;clear h;go_enter Tryz.func235,Tryz.ntmps235;go_wp2_with fail;go_ret;exact⟨rfl,Ext.refl _⟩
theorem rfirst_some(b bn hd:Nat)(g:Int)(G:List Int)(w:World)(h:RAt w b bn hd (g::G)):
  Calls Tryz.prog 235 #[.pointer (some ⟨b,15,none⟩)] w fun e w'=>e=.returned (ndp bn g.toNat)∧Ext w w':=by
 have r0:=h.r0;have r1:=h.r1;have hl:=h.hl;have h0:=h.h0;have rg:=h.rg 0 (by simp);have e:(hd+0) % 4000=hd:=by omega
 rw[e] at rg;simp only [List.getElem_cons_zero] at rg;have c0:(((g::G).length:Nat):Int)=(G.length:Int)+1:=by simp
 rw[c0] at r1;have nz:(((G.length:Int)+1) == 0)=false:=by simp;omega
 have d0:(0:Int)≤(hd:Int):=by omega
 have d1:(hd:Int)<4000:=by omega
 clear h e c0 hl;go_enter Tryz.func235,Tryz.ntmps235;go_wp2_with fail;go_quiet (fail);go_wp2_with fail;go_ret;exact⟨rfl,(Ext.refl _).drewN _⟩
def SpAt(w:World)(g:Option Addr)(bw r1:Nat)(v:Value)(bn on:Nat)(Ls:List Nat):Prop:=∀k (h:k<Ls.length),∃gb go,g=some ⟨gb,go,none⟩∧w.cell? ⟨gb,go+k,none⟩=some (ptr bn (on+Ls[k]*2))∧gb≠bw∧gb≠r1∧v.ownBlock≠some gb
theorem SpAt.ext{w w':World}{g:Option Addr}{bw r1:Nat}{v:Value}{bn on:Nat}{Ls:List Nat}(h:SpAt w g bw r1 v bn on Ls)(e:Ext w w'):SpAt w' g bw r1 v bn on Ls:=fun k hk=>by
 obtain⟨gb,go,a,c,d⟩:=h k hk;exact⟨gb,go,a,e.keep c,d⟩
theorem SpAt.step{w w':World}{g:Option Addr}{bw r1:Nat}{v v':Value}{bn on:Nat}{Ls:List Nat}(h:SpAt w g bw r1 v bn on Ls)(f:KFr bw r1 v v' w w'):SpAt w' g bw r1 v' bn on Ls:=fun k hk=>by
 obtain⟨gb,go,a,c,d1,d2,d3⟩:=h k hk;have hl:gb<w.heap.size:=cell_lt c;refine⟨gb,go,a,(World.cell?_of_block (a:=⟨gb,go+k,none⟩) (f.block gb hl d1 d2 d3)).trans c,d1,d2,fun e=>?_⟩;rcases f.own with q | ⟨y,q,hy⟩
 ·rw[q] at e;exact d3 e
 ·rw[q] at e;cases e;omega
def SpAns(x:Hp)(w w':World)(g:Option Addr)(bn on:Nat)(Ls:List Nat):Prop:=(∀k (h:k<Ls.length),∃gb go,g=some ⟨gb,go,none⟩∧w'.cell? ⟨gb,go+k,none⟩=some (ptr bn (on+Ls[k]*2))∧w.heap.size≤gb)∧Ls.length≤8000∧(∀i,i∈Ls↔i<x.cells.length∧Speaks (x.c i))
theorem SpAns.at{x:Hp}{w w':World}{g:Option Addr}{base bw bv r1 bn on:Nat}{v:Value}{Mt St Ls:List Nat}(h:SpAns x w w' g bn on Ls)(k:WkAt w base bw bv r1 bn on x.cells.length v Mt St):SpAt w' g bw r1 v bn on Ls:=fun i hi=>by
 obtain⟨gb,go,a,c,d⟩:=h.1 i hi;have:=k.rlt;exact⟨gb,go,a,c,by omega,by omega,fun e=>by have:=(k.s.lt gb e).2;omega⟩
theorem next_any(base bw bv r1 bn on n:Nat)(v:Value)(Mt St:List Nat)(w:World)(h:WkAt w base bw bv r1 bn on n v Mt St)(hn8:n≤8000):
  Calls Tryz.prog 122 #[.pointer (some ⟨bw,0,none⟩)] w fun e w'=>∃t v' St',Hid (e=.returned t)∧WkAt w' base bw bv r1 bn on n v' Mt St'∧Hid ((t=.pointer none∧St=[]∧St'=[])∨∃j,t=ptr bn (on+j*2)∧St=St'++[j])∧KFr bw r1 v v' w w':=by
 rcases St.eq_nil_or_concat with q | ⟨S,j,q⟩
 ·subst q;exact(next_none base bw bv r1 bn on n v Mt w h).mono fun _ _ ⟨he,hw⟩=>by subst hw;exact⟨_,v,[],he,h,.inl ⟨rfl,rfl,rfl⟩,KFr.of_ext (Ext.refl _)⟩
 ·rw[List.concat_eq_append] at q;subst q;exact(next_some base bw bv r1 bn on n j v Mt S w h hn8).mono fun _ _ ⟨he,v',hw,hk⟩=>⟨_,v',S,he,hw,.inr ⟨j,rfl,rfl⟩,hk⟩
def LastN(x:Hp)(Mt:List Nat):Prop:=∀i,i<x.cells.length→Speaks (x.c i)→i∈Mt
def ClosedToN(x:Hp)(Mt:List Nat)(i l:Nat):Prop:=∀p,p<(x.c i).prs.length→p<l→(((x.c i).p p).key.k=2→tgt x ((x.c i).p p).key∈Mt)∧(((x.c i).p p).val.k=2→tgt x ((x.c i).p p).val∈Mt)
def ClosedN(x:Hp)(Mt:List Nat)(i:Nat):Prop:=ClosedToN x Mt i (x.c i).prs.length
theorem ClosedToN.sub{x:Hp}{Mt Mt':List Nat}{i l:Nat}(h:ClosedToN x Mt i l)(s:∀i,i∈Mt→i∈Mt'):ClosedToN x Mt' i l:=fun p h1 h2=>⟨fun e=>s _ ((h p h1 h2).1 e),fun e=>s _ ((h p h1 h2).2 e)⟩
structure InvR(x:Hp)(Mt St:List Nat)(cur:Option Nat):Prop where
 only:OnlyN x Mt
 regs:RegsN x x.regs.length Mt
 last:LastN x Mt
 part:∀i,i∈Mt→i∈St∨cur=some i∨ClosedN x Mt i
theorem InvR.done{x:Hp}{Mt:List Nat}(h:InvR x Mt [] none)(i:Nat):i∈Mt↔Reached x i:=by
 constructor
 ·exact h.only i
 ·intro r
  have cl:∀j,j∈Mt→ClosedN x Mt j:=fun j hj=>by
   rcases h.part j hj with q | q | q
   ·cases q
   ·cases q
   ·exact q
  exact r (fun i=>i∈Mt) (fun k hk hk2=>h.regs k hk hk hk2) (fun i hi _ hsp=>h.last i hi hsp) (fun j p ih hp hk=>(cl j ih p hp hp).1 hk) (fun j p ih hp hk=>(cl j ih p hp hp).2 hk)
theorem InvR.add{x:Hp}{y:Wd}{Mt Mt' St St':List Nat}{cur:Option Nat}(h:InvR x Mt St cur)(a:AddN x y Mt Mt' St St')(hy:y.k=2→Reached x (tgt x y)):InvR x Mt' St' cur:=
 ⟨h.only.add a hy,fun j hj hjk e=>a.sub.1 _ (h.regs j hj hjk e),fun i hi hs=>a.sub.1 _ (h.last i hi hs),fun i hi=>by
  rcases a.new hi with q | ⟨_,_,q⟩
  ·rcases h.part i q with r | r | r
   ·exact .inl (a.sub.2 i r)
   ·exact .inr (.inl r)
   ·exact .inr (.inr (r.sub a.sub.1))
  ·exact .inl q⟩
theorem InvR.shut{x:Hp}{Mt St:List Nat}{j:Nat}(h:InvR x Mt St (some j))(c:ClosedN x Mt j):InvR x Mt St none:=
 ⟨h.only,h.regs,h.last,fun i hi=>by
  rcases h.part i hi with r | r | r
  ·exact .inl r
  ·cases r;exact .inr (.inr c)
  ·exact .inr (.inr r)⟩
theorem InvR.take{x:Hp}{Mt St:List Nat}{j:Nat}(h:InvR x Mt (St++[j]) none):InvR x Mt St (some j):=
 ⟨h.only,h.regs,h.last,fun i hi=>by
  rcases h.part i hi with r | r | r
  ·rcases List.mem_append.1 r with q | q
   ·exact .inl q
   ·simp at q;exact .inr (.inl (by rw[q]))
  ·cases r
  ·exact .inr (.inr r)⟩
def pv(bn on:Nat)(o:Option Nat):Value:=match o with | none=>.pointer none | some i=>ptr bn (on+i*2)
def wo(x:Hp)(y:Wd):Option Nat:=if y.k=2 then some (tgt x y) else none
structure Grow(Q:Nat→Prop)(Mt Mt' St St':List Nat):Prop where
 m:∀i,i∈Mt→i∈Mt'
 s:∀i,i∈St→i∈St'
 n:∀i,i∈Mt'→i∈Mt∨(Q i∧i∈St')
 w:2*Mt.length+St'.length≤2*Mt'.length+St.length
 l:Mt.length≤Mt'.length
theorem Grow.refl{Q:Nat→Prop}{Mt St:List Nat}:Grow Q Mt Mt St St:=⟨fun _ h=>h,fun _ h=>h,fun _ h=>.inl h,Nat.le_refl _,Nat.le_refl _⟩
theorem Grow.trans{Q:Nat→Prop}{M1 M2 M3 S1 S2 S3:List Nat}(h:Grow Q M1 M2 S1 S2)(k:Grow Q M2 M3 S2 S3):Grow Q M1 M3 S1 S3:=
 ⟨fun i hi=>k.m i (h.m i hi),fun i hi=>k.s i (h.s i hi),fun i hi=>by
  rcases k.n i hi with q | q
  ·rcases h.n i q with r | ⟨r,s⟩
   ·exact .inl r
   ·exact .inr ⟨r,k.s i s⟩
  ·exact .inr q,by have:=h.w;have:=k.w;omega,Nat.le_trans h.l k.l⟩
theorem Grow.mono{Q Q':Nat→Prop}{M1 M2 S1 S2:List Nat}(h:Grow Q M1 M2 S1 S2)(hq:∀i,Q i→Q' i):Grow Q' M1 M2 S1 S2:=
 ⟨h.m,h.s,fun i hi=>by
  rcases h.n i hi with q | ⟨q,r⟩
  ·exact .inl q
  ·exact .inr ⟨hq i q,r⟩,h.w,h.l⟩
theorem grow_meet{Mt Mt' St St':List Nat}{i:Nat}(a:(i∈Mt∧Mt'=Mt∧St'=St)∨(¬i∈Mt∧Mt'=Mt++[i]∧St'=St++[i])):Grow (fun q=>q=i) Mt Mt' St St'∧i∈Mt':=by
 rcases a with⟨m,rfl,rfl⟩ | ⟨m,rfl,rfl⟩
 ·exact⟨Grow.refl,m⟩
 ·refine⟨⟨fun j hj=>List.mem_append_left _ hj,fun j hj=>List.mem_append_left _ hj,fun j hj=>?_,by simp;omega,by simp⟩,by simp⟩;rcases List.mem_append.1 hj with q | q
  ·exact .inl q
  ·simp at q;exact .inr ⟨q,by simp [q]⟩
theorem meet_opt(base bw bv r1 bn on n:Nat)(o:Option Nat)(v:Value)(Mt St:List Nat)(w:World)(h:WkAt w base bw bv r1 bn on n v Mt St)(ho:∀i,o=some i→i<n)(hb:base≤w.heap.size)(hn8:n≤8000):
  Calls Tryz.prog 121 #[.pointer (some ⟨bw,0,none⟩),pv bn on o] w fun e w'=>e=.returned (.tuple #[])∧∃v' Mt' St',WkAt w' base bw bv r1 bn on n v' Mt' St'∧Hid (Grow (fun i=>o=some i) Mt Mt' St St'∧∀i,o=some i→i∈Mt')∧KFr bw r1 v v' w w':=by
 cases o with
 | none=>exact(meet_nil bw w).mono fun _ _ ⟨he,hw⟩=>by subst hw;exact⟨he,v,Mt,St,h,⟨Grow.refl,fun i e=>by cases e⟩,KFr.of_ext (Ext.refl _)⟩
 | some i=>exact(meet_any base bw bv r1 bn on n i v Mt St w h (ho i rfl) hb hn8).mono fun _ _ ⟨he,v',M',S',hw,ha,hk⟩=>⟨he,v',M',S',hw,⟨(grow_meet (unhide ha)).1.mono (fun q e=>by rw[e]),fun j e=>by cases e;exact(grow_meet (unhide ha)).2⟩,hk⟩
theorem follow_o(x:Hp)(y:Wd)(b:Nat)(w:World){ar:Option Addr}{kr:Nat}{ac:Nat→Option Addr}{kn:Nat}(bn on:Nat)(h:VNt w b x ar kr ac (some ⟨bn,on,none⟩) kn)(r2:R2 x)(hy:MayMark x y):
  Calls Tryz.prog 123 #[.pointer (some ⟨b,0,none⟩),y.v] w fun e w'=>Hid (e=.returned (pv bn on (wo x y)))∧Ext w w':=
 (follow_any x y b w bn on h.f r2 hy).mono fun _ _ ⟨t,he,ht,hx⟩=>⟨by
  rcases ht with⟨k,e⟩ | ⟨k,e⟩
  ·rw[unhide he,e,wo,if_neg k];rfl
  ·rw[unhide he,e,wo,if_pos k];rfl,hx⟩
theorem wo_lt{x:Hp}{y:Wd}(hy:MayMark x y)(i:Nat)(h:wo x y=some i):i<x.cells.length∧y.k=2∧i=tgt x y:=by
 unfold wo at h
 split at h
 ·rename_i k;cases h;exact⟨(hy k).2.2.2.2.1,k,rfl⟩
 ·cases h
structure WtAt(w:World)(base bw r1 r2 bn on:Nat)(v:Value)(f:Nat→Value)(g:Nat→List (Option Nat)):Prop where
 c3:w.cell? ⟨bw,3,none⟩=some (Value.map (some r2))
 m:MapF w r2 bn on f
 row:∀k,w.ownsRow base 126 1 (f k) (g k).length ((g k).map (pv bn on))
 dis:∀k k' b,k≠k'→(f k).ownBlock=some b→(f k').ownBlock≠some b
 av:∀k b,(f k).ownBlock=some b→v.ownBlock≠some b
 a1:∀k,(f k).ownBlock≠some bw
 a2:∀k,(f k).ownBlock≠some r1
 a3:∀k,(f k).ownBlock≠some r2
 n1:r2≠bw
 n2:r2≠r1
 n3:v.ownBlock≠some r2
 b2:base≤r2
theorem WtAt.ext{w w':World}{base bw r1 r2 bn on:Nat}{v:Value}{f:Nat→Value}{g:Nat→List (Option Nat)}(h:WtAt w base bw r1 r2 bn on v f g)(e:Ext w w'):WtAt w' base bw r1 r2 bn on v f g:=
 ⟨e.keep h.c3,h.m.block (e.block r2 h.m.lt),fun k=>ownsRow_of_block (h.row k) (fun b hb=>e.block b ((h.row k).lt b hb).2),h.dis,h.av,h.a1,h.a2,h.a3,h.n1,h.n2,h.n3,h.b2⟩
theorem WtAt.step{w w':World}{base bw r1 r2 bn on:Nat}{v v':Value}{f:Nat→Value}{g:Nat→List (Option Nat)}(h:WtAt w base bw r1 r2 bn on v f g)(k:KFr bw r1 v v' w w'):WtAt w' base bw r1 r2 bn on v' f g:=by
 refine⟨k.keep 3 _ (by omega) h.c3,h.m.block (k.block r2 h.m.lt h.n1 h.n2 h.n3),fun q=>ownsRow_of_block (h.row q) (fun b hb=>k.block b ((h.row q).lt b hb).2 (fun e=>h.a1 q (e ▸ hb)) (fun e=>h.a2 q (e ▸ hb)) (h.av q b hb)),h.dis,fun q b hb e=>?_,h.a1,h.a2,h.a3,h.n1,h.n2,fun e=>?_,h.b2⟩
 ·rcases k.own with o | ⟨y,o,hy⟩
  ·rw[o] at e;exact h.av q b hb e
  ·rw[o] at e;cases e;have:=((h.row q).lt b hb).2;omega
 ·rcases k.own with o | ⟨y,o,hy⟩
  ·rw[o] at e;exact h.n3 e
  ·rw[o] at e;cases e;have:=h.m.lt;omega
theorem ownsRow_form{w:World}{base n:Nat}{t:TypeId}{v:Value}{xs:List Value}(h:w.ownsRow base t 1 v n xs):∃ad cap,v=.slice ad n cap∧(0<n→∃gb,ad=some ⟨gb,0,none⟩):=by
 rcases h.2 with⟨h0,h1⟩ | ⟨g,cap,cur,h0,_⟩
 ·subst h1;exact⟨none,0,h0,fun q=>by omega⟩
 ·exact⟨_,cap,h0,fun _=>⟨g,rfl⟩⟩
theorem WtAt.wait{w W w2 w3:World}{base bw bv r1 r2 bn on n gb cap k:Nat}{v:Value}{f:Nat→Value}{g:Nat→List (Option Nat)}{Mt St:List Nat}{o:Option Nat}{ob:Obj}(hk:WkAt w base bw bv r1 bn on n v Mt St)(h:WtAt w base bw r1 r2 bn on v f g)(hWh:W.heap=(w.alloc ob).heap)(hWo:W.os=w.os)(hWt:W.tape=w.tape)(hWu:W.output=w.output)
  (hown:w2.ownsRow base 126 1 (.slice (some ⟨gb,0,none⟩) ((g k).length+1) cap) ((g k).length+1) ((g k).map (pv bn on)++[pv bn on o])) (hg:W.grownBy w2 (f k).ownBlock) (hat:(f k).ownBlock=some gb∨gb=W.heap.size)
  (hm:MapF w3 r2 bn on (fun q=>if q=k then .slice (some ⟨gb,0,none⟩) ((g k).length+1) cap else f q)) (hos:w3.os=w2.os) (ht:w3.tape=w2.tape) (hou:w3.output=w2.output) (hsz:w3.heap.size=w2.heap.size) (hbl:∀q:Nat,q≠r2→w3.heap[q]?=w2.heap[q]?) :
  WkAt w3 base bw bv r1 bn on n v Mt St∧WtAt w3 base bw r1 r2 bn on v (fun q=>if q=k then .slice (some ⟨gb,0,none⟩) ((g k).length+1) cap else f q) (fun q=>if q=k then g k++[o] else g q)∧(∀a:World,a.heap.size=base→Ext a w→Ext a w3):=by
 have hr:=hk.rlt;have hWs:W.heap.size=w.heap.size+1:=by rw[hWh];simp
 have hs1:w.heap.size+1≤w2.heap.size:=by have:=hg.size;omega
 have blk:∀b:Nat,b<w.heap.size→(f k).ownBlock≠some b→w2.heap[b]?=w.heap[b]?:=fun b hb hv=>(hg.block b (by omega) (fun e=>hv e.symm)).trans (by rw[hWh];exact Below.heap_alloc w ob b hb)
 have blk3:∀b:Nat,b<w.heap.size→(f k).ownBlock≠some b→b≠r2→w3.heap[b]?=w.heap[b]?:=fun b hb hv hn=>(hbl b hn).trans (blk b hb hv)
 have hgb:gb≠bw∧gb≠r1∧gb≠r2∧v.ownBlock≠some gb∧(∀q,q≠k→(f q).ownBlock≠some gb):=by
  rcases hat with e | e
  ·exact⟨fun q=>h.a1 k (q ▸ e),fun q=>h.a2 k (q ▸ e),fun q=>h.a3 k (q ▸ e),h.av k gb e,fun q hq=>h.dis k q gb (fun z=>hq z.symm) e⟩
  ·have:=h.m.lt;exact⟨by omega,by omega,by omega,fun q=>by have:=(hk.s.lt _ q).2;omega,fun q _ z=>by have:=((h.row q).lt _ z).2;omega⟩
 have fo:∀q b,(if q=k then (.slice (some ⟨gb,0,none⟩) ((g k).length+1) cap:Value) else f q).ownBlock=some b→(q=k∧b=gb)∨(q≠k∧(f q).ownBlock=some b):=fun q b e=>by
  by_cases z:q=k
  ·rw[if_pos z] at e;simp [Value.ownBlock] at e;exact .inl ⟨z,e.symm⟩
  ·rw[if_neg z] at e;exact .inr ⟨z,e⟩
 have bwb:w3.heap[bw]?=w.heap[bw]?:=blk3 bw hr.1 (h.a1 k) (fun e=>h.n1 e.symm);have cc:∀o' v',w.cell? ⟨bw,o',none⟩=some v'→w3.cell? ⟨bw,o',none⟩=some v':=fun o' v' hc=>(World.cell?_of_block (a:=⟨bw,o',none⟩) bwb).trans hc
 refine⟨⟨cc 0 _ hk.c0,cc 1 _ hk.c1,cc 2 _ hk.c2,(World.frozen?_of_block (a:=⟨bw,2,none⟩) bwb).trans hk.f2,hk.m.block (blk3 r1 hr.2 (h.a2 k) (fun e=>h.n2 e.symm)),ownsRow_of_block hk.s (fun b hb=>blk3 b (hk.s.lt b hb).2 (fun e=>h.av k b e hb) (fun e=>h.n3 (e ▸ hb))),hk.a1,hk.a2,hk.a3,hk.b1,hk.b2,hk.sub,hk.nd,hk.nds,hk.rg⟩,⟨cc 3 _ h.c3,hm,fun q=>?_,fun q q' b hq e=>?_,fun q b e=>?_,fun q e=>?_,fun q e=>?_,fun q e=>?_,h.n1,h.n2,h.n3,h.b2⟩,fun a ha ea=>?_⟩
 ·by_cases z:q=k
  ·subst z;simp only [if_true,List.length_append,List.length_singleton,List.map_append,List.map_cons,List.map_nil];exact ownsRow_of_block hown (fun b hb=>hbl b (fun e=>by simp [Value.ownBlock] at hb;omega))
  ·simp only [z,if_false];exact ownsRow_of_block (h.row q) (fun b hb=>blk3 b ((h.row q).lt b hb).2 (h.dis q k b z hb) (fun e=>h.a3 q (e ▸ hb)))
 ·intro e';rcases fo q b e with⟨z,y⟩ | ⟨z,y⟩
  ·rcases fo q' b e' with⟨z',y'⟩ | ⟨z',y'⟩
   ·exact hq (z.trans z'.symm)
   ·rw[y] at y';exact hgb.2.2.2.2 q' z' y'
  ·rcases fo q' b e' with⟨z',y'⟩ | ⟨z',y'⟩
   ·rw[y'] at y;exact hgb.2.2.2.2 q z y
   ·exact h.dis q q' b hq y y'
 ·rcases fo q b e with⟨z,y⟩ | ⟨z,y⟩
  ·rw[y];exact hgb.2.2.2.1
  ·exact h.av q b y
 ·rcases fo q bw e with⟨z,y⟩ | ⟨z,y⟩
  ·exact hgb.1 y.symm
  ·exact h.a1 q y
 ·rcases fo q r1 e with⟨z,y⟩ | ⟨z,y⟩
  ·exact hgb.2.1 y.symm
  ·exact h.a2 q y
 ·rcases fo q r2 e with⟨z,y⟩ | ⟨z,y⟩
  ·exact hgb.2.2.1 y.symm
  ·exact h.a3 q y
 ·refine Below.trans ea ⟨(hos.trans hg.os).trans hWo,(ht.trans hg.tape).trans hWt,(hou.trans hg.output).trans hWu,by omega,fun b hb=>?_⟩;have hbw:b<w.heap.size:=Nat.lt_of_lt_of_le hb ea.size;exact blk3 b hbw (fun e=>by have:=((h.row k).lt b e).1;omega) (fun e=>by have:=h.b2;omega)
def gapV(t:Option Nat)(bn:Nat):Value:=match t with
 | none=>.pointer none
 | some j=>ndp bn j
def GapL(x:Hp)(F F':List Int):Prop:=Ho F'∧F'.length≤F.length∧(∀v,v∈F'→v∈F)∧∀i,i<x.cells.length→(x.c i).st=0→(i:Int)∈F→(i:Int)∈F'
def GapT(x:Hp)(F':List Int)(t:Option Nat):Prop:=match t with
 | none=>F'=[]
 | some j=>j<x.cells.length∧(x.c j).st=0∧∀v,v∈F'→(j:Int)≤v
theorem GapL.next{x:Hp}{F F' L:List Int}{j:Nat}(h:GapL x F F')(ho:Ho L)(hp:((j:Int)::L).Perm F')(hj:j<x.cells.length→(x.c j).st≠0):GapL x F L∧L.length<F'.length:=by
 have hlen:=hp.length_eq;simp at hlen;refine⟨⟨ho,by have:=h.2.1;omega,fun v hv=>h.2.2.1 v (hp.mem_iff.1 (List.mem_cons_of_mem _ hv)),fun i hi hs hm=>?_⟩,by omega⟩;rcases List.mem_cons.1 (hp.mem_iff.2 (h.2.2.2 i hi hs hm)) with e | e
 ·have:i=j:=by omega
  subst this;exact absurd hs (hj hi)
 ·exact e
theorem gap_any[Inhabited ProtD]{B:Nat}{w:World}{b:Nat}{x:Hp}{ar:Option Addr}{kr:Nat}{v4 v8:Value}{br bn:Nat}{cB cO:Nat→Nat}{pb:Nat→Nat}{pa:Nat→Option Addr}{pk:Nat→Nat}{kn hd:Nat}{vf:Value}{F:List Int}{vk:Value}{K:List Nat}{role:Nat→Nat}(h:SAt B w b x ar kr v4 v8 br cB cO bn pb pa pk kn hd vf F vk K role)(ho:Ho F)(hl:F.length≤1000000000)(nn:∀v,v∈F→0≤v):
  Calls Tryz.prog 326 #[.pointer (some ⟨b,0,none⟩)] w fun e w'=>∃t vf' F',e=.returned (gapV t bn)∧Hid (LsAt w' B b 14 vf' F'∧QFr b 14 vf vf' w w')∧Hid (GapL x F F'∧GapT x F' t):=by
 have H:=hide h;have LS:=hide h.sb.fr;have NN:=hide nn;have N13:=hide h.sb.n13;have G0:=hide (show GapL x F F from⟨ho,Nat.le_refl _,fun _ h=>h,fun _ _ _ h=>h⟩);have FARB:=hide (show ∀wr vf',QFr b 14 vf vf' w wr→∀k,k<w.heap.size→role k≠4→role k≠0→wr.heap[k]?=w.heap[k]? from fun wr vf' q k hk h1 h2=>q.block k hk (fun e=>h2 (by rw[e];exact h.sp.b)) (fun e=>h1 (h.sp.f k e)));clear h ho nn;go_enter Tryz.func326,Tryz.ntmps326;go_wp2_with fail
 go_loopg [] (F.length+1) (fun gk wr=>∃(vf':Value) (F':List Int),F'.length<gk∧Hid (LsAt wr B b 14 vf' F'∧QFr b 14 vf vf' w wr)∧Hid (GapL x F F'))
 case atStart=>exact⟨vf,F,by omega,⟨unhide LS,QFr.refl _ _ _ _⟩,unhide G0⟩
 case round=>
  clear LS G0;obtain⟨vf',F',hlt,hls,hgl⟩:=hrel;have LS:=hide (unhide hls).1;have QQ:=hide (unhide hls).2;have n13:wr.cell? ⟨b,13,none⟩=some (.slice (some ⟨bn,0,none⟩) x.cells.length kn):=((unhide QQ).hdr 13 (by omega)).trans (unhide N13);clear hls;by_cases hz:F'.length=0
  ·obtain⟨ad,cap,rfl⟩:=(unhide LS).empty hz;have hd14:=(unhide LS).hd;have FE:=hide (show F'=[] from List.length_eq_zero_iff.1 hz);go_wp2_with fail;refine(first_none _ b 14 ad cap hd14).mono ?_;rintro e w1 ⟨rfl,rfl⟩;go_wp2_with fail;go_ret;exact⟨none,_,F',rfl,⟨unhide LS,unhide QQ⟩,unhide hgl,unhide FE⟩
  ·have hpos:0<F'.length:=by omega
   obtain⟨g,cap,rfl,hgb⟩:=(unhide LS).form hpos;have hd14:=(unhide LS).hd;have c0:=(unhide LS).cell 0 hpos;obtain⟨j,hj⟩:∃j:Nat,it F' 0=(j:Int):=⟨(it F' 0).toNat,by have:=unhide NN _ ((unhide hgl).2.2.1 _ (it_mem F' 0 hpos));omega⟩;rw[hj] at c0;have j0:(0:Int)≤(j:Int):=by omega
   have HJ:=hide hj;clear hj hgb hz;by_cases hjn:j<x.cells.length
   ·obtain⟨m0,m1⟩:=(unhide H).sb.nd j hjn;have p0:=((unhide H).rw.s j hjn).1;have n1:wr.cell? ⟨bn,j*2+1,none⟩=some (.pointer (some ⟨cB j,cO j,none⟩)):=(World.cell?_of_block (a:=⟨bn,_,none⟩) (unhide FARB wr _ (unhide QQ) bn (unhide H).sb.lo.2.2.1 (by rw[(unhide H).sp.n];omega) (by rw[(unhide H).sp.n];omega))).trans m1;have hn:0<x.cells.length:=by omega
    have o0:wr.cell? ⟨cB j,cO j,none⟩=some (iv (x.c j).st):=(World.cell?_of_block (a:=⟨cB j,_,none⟩) (unhide FARB wr _ (unhide QQ) (cB j) ((unhide H).rw.nc j hjn).1.1 (by rw[(unhide H).sp.c j hjn];omega) (by rw[(unhide H).sp.c j hjn];omega))).trans p0;have j1:(j:Int)<(x.cells.length:Int):=by omega
    clear m0 m1 p0 hn;go_wp2_with fail;refine(first_some _ b 14 g 0 F'.length cap j hpos hd14 c0).mono ?_;rintro e w1 ⟨rfl,rfl⟩;cases q0:((x.c j).st == 0)
    ·have q0':¬(x.c j).st=0:=by simpa using q0
     have NJ:=hide (show j<x.cells.length→(x.c j).st≠0 from fun _=>q0');go_wp2_with fail;refine(take_some _ B b 14 _ F' (unhide LS) hpos (unhide hgl).1 (by have:=(unhide hgl).2.1;omega)).mono ?_;rintro e w2 ⟨rfl,v2,L2,l2,o2,p2,q2⟩;rw[unhide HJ] at p2;have R:=hide (And.intro (And.intro l2 ((unhide QQ).trans q2)) ((unhide hgl).next o2 p2 (unhide NJ)));clear l2 o2 p2 q2 n13 hd14 c0;go_wp2_with fail
     go_roundg F'.length
     case measure=>exact hlt
     case rel=>exact⟨v2,L2,(unhide R).2.2,(unhide R).1,(unhide R).2.1⟩
    ·have GT:=hide (show GapT x F' (some j) from⟨hjn,by simpa using q0,fun v hv=>by have:=(unhide hgl).1.least hv;rw[unhide HJ] at this;exact this⟩);go_wp2_with fail;go_ret;exact⟨some j,_,F',rfl,⟨unhide LS,unhide QQ⟩,unhide hgl,unhide GT⟩
   ·have j1:¬(j:Int)<(x.cells.length:Int):=by omega
    go_wp2_with fail;refine(first_some _ b 14 g 0 F'.length cap j hpos hd14 c0).mono ?_;rintro e w1 ⟨rfl,rfl⟩;have NJ:=hide (show j<x.cells.length→(x.c j).st≠0 from fun h=>absurd h hjn);go_wp2_with fail;refine(take_some _ B b 14 _ F' (unhide LS) hpos (unhide hgl).1 (by have:=(unhide hgl).2.1;omega)).mono ?_;rintro e w2 ⟨rfl,v2,L2,l2,o2,p2,q2⟩;rw[unhide HJ] at p2;have R:=hide (And.intro (And.intro l2 ((unhide QQ).trans q2)) ((unhide hgl).next o2 p2 (unhide NJ)));clear l2 o2 p2 q2 n13 hd14 c0;go_wp2_with fail
    go_roundg F'.length
    case measure=>exact hlt
    case rel=>exact⟨v2,L2,(unhide R).2.2,(unhide R).1,(unhide R).2.1⟩
theorem RAt.dropped{w:World}{b bn hd m:Nat}{g:Int}{G:List Int}(h:RAt w b bn hd (g::G))(hm:m=(hd+1) % 4000):
  RAt ((w.setCell ⟨b,4015,none⟩ (iv m)).setCell ⟨b,4016,none⟩ (iv G.length)) b bn m G:=by
 have hl:=h.hl;simp at hl;refine⟨by rw[hm];exact Nat.mod_lt _ (by omega),by omega,?_,?_,fun k hk=>?_,fun j hj=>?_⟩
 ·rw[cell_other _ (.inr (by omega))];exact World.cell?_setCell_same _ _ _ h.r0
 ·have:(w.setCell ⟨b,4015,none⟩ (iv m)).cell? ⟨b,4016,none⟩=some (iv (g::G).length):=by rw[cell_other _ (.inr (by omega))];exact h.r1
  exact World.cell?_setCell_same _ _ _ this
 ·have hk2:(m+k) % 4000<4000:=Nat.mod_lt _ (by omega);rw[cell_other _ (.inr (by omega)),cell_other _ (.inr (by omega))];have:=h.rg (k+1) (by simpa using hk);have e:(hd+(k+1)) % 4000=(m+k) % 4000:=by rw[hm];omega
  rw[e] at this
  simpa using this
 ·obtain⟨v,hv⟩:=h.ro j hj;exact⟨v,by rw[cell_other _ (.inr (by omega)),cell_other _ (.inr (by omega))];exact hv⟩
theorem rdrop_any(b bn hd:Nat)(g:Int)(G:List Int)(w:World)(h:RAt w b bn hd (g::G))(hn:Nf1 b w):
  Calls Tryz.prog 327 #[.pointer (some ⟨b,15,none⟩)] w fun e w'=>e=.returned (.tuple #[])∧Hid (RAt w' b bn ((hd+1) % 4000) G∧Only (fun q=>q=b) w w'∧Nf1 b w'∧∀o,(o<15∨o=4017)→w'.cell? ⟨b,o,none⟩=w.cell? ⟨b,o,none⟩):=by
 have r0:=h.r0;have r1:=h.r1;have hl:=h.hl;have h0:=h.h0;have c0:(((g::G).length:Nat):Int)=(G.length:Int)+1:=by simp
 rw[c0] at r1;have hl2:G.length+1≤4000:=by simpa using hl
 have f0:=hn.2 4015;have f1:=hn.2 4016;obtain⟨m,hm⟩:∃m,m=(hd+1) % 4000:=⟨_,rfl⟩;have hr:((hd:Int)+1).tmod 4000=(m:Int):=by have:=ring_idx (hd+1);rw[←hm] at this;simpa using this
 have FN:=hide (show RAt ((w.setCell ⟨b,4015,none⟩ (iv m)).setCell ⟨b,4016,none⟩ (iv G.length)) b bn m G∧Only (fun q=>q=b) w ((w.setCell ⟨b,4015,none⟩ (iv m)).setCell ⟨b,4016,none⟩ (iv G.length))∧Nf1 b ((w.setCell ⟨b,4015,none⟩ (iv m)).setCell ⟨b,4016,none⟩ (iv G.length))∧∀o,(o<15∨o=4017)→((w.setCell ⟨b,4015,none⟩ (iv m)).setCell ⟨b,4016,none⟩ (iv G.length)).cell? ⟨b,o,none⟩=w.cell? ⟨b,o,none⟩ from
  ⟨h.dropped hm,Only.setCell (S:=fun q=>q=b) (Only.setCell (S:=fun q=>q=b) (Only.refl _ w) (p:=⟨b,4015,none⟩) rfl _) (p:=⟨b,4016,none⟩) rfl _,(hn.set _ _).set _ _,fun o ho=>by rw[cell_other _ (.inr (by omega)),cell_other _ (.inr (by omega))]⟩)
 rw[←hm];clear h c0 hl hm hn;go_enter Tryz.func327,Tryz.ntmps327;go_wp2_with fail
 go_end0
 exact⟨rfl,unhide FN⟩
theorem SAt.rdrop[Inhabited ProtD]{B:Nat}{w w':World}{b:Nat}{x:Hp}{ar:Option Addr}{kr:Nat}{v4 v8:Value}{br bn:Nat}{cB cO:Nat→Nat}{pb:Nat→Nat}{pa:Nat→Option Addr}{pk:Nat→Nat}{kn hd:Nat}{vf:Value}{F:List Int}{vk:Value}{K:List Nat}{role:Nat→Nat}(h:SAt B w b x ar kr v4 v8 br cB cO bn pb pa pk kn hd vf F vk K role){hd':Nat}{G:List Int}(r:RAt w' b bn hd' G∧Only (fun q=>q=b) w w'∧Nf1 b w'∧∀o,(o<15∨o=4017)→w'.cell? ⟨b,o,none⟩=w.cell? ⟨b,o,none⟩):SAt B w' b { x with gray:=G } ar kr v4 v8 br cB cO bn pb pa pk kn hd' vf F vk K role:=h.ring r.1 r.2.1 r.2.2.1 r.2.2.2
theorem spk_closure(x y:Int)(bn q1 q2 bc bd r1 r2:Nat)(W:World)(m1:W.cell? ⟨bn,q1+1,none⟩=some (ptr bc r1))(c1:W.cell? ⟨bc,r1+4,none⟩=some (iv x))(m2:W.cell? ⟨bn,q2+1,none⟩=some (ptr bd r2))(c2:W.cell? ⟨bd,r2+4,none⟩=some (iv y)):
  Calls Tryz.prog 168 #[ptr bn q1,ptr bn q2] W fun e w'=>e=.returned (.int .i64 (Lib.compareInt x y))∧∃q,w'=W.drewN q:=by
 have hcon:=fun W=>AnyG.cmp_Compare_int Tryz.cmpL x y W
 change ∀W,Calls Tryz.prog 169 _ _ _ at hcon;generalize Lib.compareInt x y=r at hcon ⊢;have HC:=hide hcon;clear hcon;go_enter Tryz.func168,Tryz.ntmps168;go_wp2_with fail;go_quiet ((go_at_call 169;exact Calls.quiet_of_same (unhide HC _)));go_wp2_with fail;go_ret;exact⟨rfl,_,rfl⟩
end Go.Proofs.YtddkhnclmeikfaaGreat
