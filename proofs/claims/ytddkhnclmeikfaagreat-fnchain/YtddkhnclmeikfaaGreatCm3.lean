import Derived.Test.YtddkhnclmeikfaaGreatWf
import Derived.Test.YtddkhnclmeikfaaGreatQe
import Derived.Test.YtddkhnclmeikfaaGreatKe0
import Derived.Test.YtddkhnclmeikfaaGreatTe
import Derived.RangeFuncFrom
set_option maxRecDepth 100000
set_option maxHeartbeats 2000000
namespace Go.Proofs.YtddkhnclmeikfaaGreat
open Go.RowKit
attribute [local go_sem ↓] Go.wp_at_zero Go.wp_at_succ
theorem scan_of{x z:Hp}(r:RestH z x)(hl:z.cells.length=x.cells.length):scanI z=scanI x:=by
 obtain⟨_,_,_,r4,r5,r6,_⟩:=r;unfold scanI;rw[r4,r5,r6,hl]
theorem zis_of{x:Hp}(s:Snd x)(H:Nat→Bool)(hH:∀i,H i=true↔Held x i)(k:Nat)(hk:k<x.cells.length)(hh:H k=true):ZIs x (stTo x H k) k:=by
 have r:=stTo_rest x H k;have hl:=stTo_len x H k;have cu:=stTo_cut x H k;have g:=goneTo_le x H s.ok.p200 k (by omega);have n8:=s.ok.n8;obtain⟨_,_,_,r4,r5,r6,_⟩:=r;have hd:=s.r1.hand;have us:0≤x.used∧x.used≤4000:=by have h3:=s.r3;have h1:=s.r1.room;unfold R3 at h3;omega
 refine⟨hl,fun q=>stTo_st x H k (by omega) q,?_,hk,scan_of (stTo_rest x H k) hl,?_,?_,fun e=>?_,?_,s.ok.p200 k hk⟩
 ·rw[stTo_c x H k (by omega) k,if_neg (by omega)]
 ·rw[r5,hl];omega
 ·rw[r6,hl];exact s.r5.2.2
 ·rw[cu.2,cutTo_sub x H k e k (Nat.le_refl _)];exact scan_sub s hk (((hH k).1 hh).good s.r2 s.r4).2.1 e
 ·rw[cu.1,cutTo_used];omega
theorem settle_any[Inhabited ProtD]{B:Nat}{w:World}{b:Nat}{x:Hp}{ar:Option Addr}{kr:Nat}{v4 v8:Value}{br bn:Nat}{cB cO:Nat→Nat}{pb:Nat→Nat}{pa:Nat→Option Addr}{pk:Nat→Nat}{kn hd:Nat}{vf:Value}{F:List Int}{vk:Value}{K:List Nat}{role:Nat→Nat}(h:SAt B w b x ar kr v4 v8 br cB cO bn pb pa pk kn hd vf F vk K role)(s:Snd x)(a:World)(ha:a.heap.size≤B)(hx:Ext a w):
  Calls Tryz.prog 89 #[.pointer (some ⟨b,0,none⟩)] w fun e w'=>∃H:Nat→Bool,Hid (e=.returned (.tuple #[.int .i64 (goneTo x H x.cells.length),.int .i64 (dueN x H x.cells.length)]))∧Hid (∀i,H i=true↔Held x i)∧Hid (SAt B w' b (settleH x H) ar kr v4 v8 br cB cO bn pb pa pk kn hd vf F vk K role)∧Ext a w':=by
 have n8:=s.ok.n8;have p2:=hide s.ok.p200;have V:=hide (h.vn (by rw[s.r1.regs];omega) s.ok.p200);have QH:=hide (held_any x b w bn 0 (unhide V) s.r2 s.r4 n8 s.ok.p200 (fun w1 h1=>speakers_any x b w1 bn 0 h1 n8));have HS:=hide h;have SN:=hide s;have CP:=hide h.rw.kp;clear h s;go_enter Tryz.func89,Tryz.ntmps89;go_wp2_with fail;refine(unhide QH).mono ?_;rintro e w1 ⟨rfl,Mt,hm,hlt,hh,x1⟩;have S1:=hide ((unhide HS).ext x1);have c13:=(unhide S1).sb.n13;have hb1:b<w1.heap.size:=cell_lt c13;obtain⟨H,hH⟩:∃H:Nat→Bool,H=fun i=>decide (i∈Mt):=⟨_,rfl⟩
 have HH:=hide hH;have HI:=hide (show ∀i,H i=true↔Held x i from fun i=>by rw[hH];show decide (i∈Mt)=true↔_;rw[decide_eq_true_iff];exact unhide hh i)
 have M1:=hide (show MapAt w1 w.heap.size bn (Mt.map (fun i=>i*2))∧w.heap.size<w1.heap.size from by
  refine⟨?_,hlt⟩;have:=hm;simp only [Nat.zero_add] at this;exact this)
 have X1:=hide (hx.trans x1)
 have BL:=hide (show b<w.heap.size∧bn<w.heap.size∧(∀q,q<x.cells.length→cB q<w.heap.size)∧∀q,q<x.cells.length→0<(x.c q).prs.length→pb q<w.heap.size from
  ⟨(unhide HS).sb.nb.1,(unhide HS).sb.lo.2.2.1,fun q hq=>((unhide HS).rw.nc q hq).1.1,fun q hq hl=>((unhide HS).rw.pl q hq ((unhide HS).rw.pw hq hl)).2.1.1⟩)
 have GLE:=hide (goneTo_le x H (unhide p2));clear hm hh hH x1 HS V QH hx;go_wp2_with fail;go_loopw [2,3,17] (fun g d i wr=>∃k:Nat,k≤x.cells.length∧i=.int .i64 k∧g=.int .i64 (goneTo x H k)∧d=.int .i64 (dueN x H k)∧Hid (SAt B wr b (stTo x H k) ar kr v4 v8 br cB cO bn pb pa pk kn hd vf F vk K role)∧Hid (MapAt wr w.heap.size bn (Mt.map (fun i=>i*2))∧w.heap.size<wr.heap.size)∧Hid (Ext a wr)) (fun _ _ i _=>x.cells.length-(intOf i).toNat)
 case atStart=>exact⟨0,Nat.zero_le _,rfl,rfl,rfl,unhide S1,unhide M1,unhide X1⟩
 case round=>
  clear S1 M1 X1 c13 hb1;obtain⟨k,hk,rfl,rfl,rfl,hS,hM,hX⟩:=hrel;by_cases hlt2:k<x.cells.length
  ·have c13:=(unhide hS).sb.n13;rw[stTo_len] at c13;have hb2:b<wr.heap.size:=cell_lt c13;have hk0:(0:Int)≤(k:Int):=by omega
   have hk1:(k:Int)<(x.cells.length:Int):=by omega
   have gle:=unhide GLE k (by omega);have gle2:=unhide GLE (k+1) (by omega);have dle:=dueN_le x H k;have hzk:k<(stTo x H k).cells.length:=by rw[stTo_len];exact hlt2
   go_wp2_with fail;refine(has_any w.heap.size bn (k*2) _ _ (unhide hM).1).mono ?_;rintro e w2 ⟨rfl,q2⟩;have D:=hide (show decide (k*2∈Mt.map (fun i=>i*2))=H k by rw[unhide HH,decide_eq_decide];exact mem_two);rw[unhide D];have S2:=hide ((unhide hS).ext q2);have M2:=hide (show MapAt w2 w.heap.size bn (Mt.map (fun i=>i*2))∧w.heap.size<w2.heap.size from⟨(unhide hM).1.block (q2.block _ (unhide hM).2),Nat.lt_of_lt_of_le (unhide hM).2 q2.size⟩);have X2:=hide ((unhide hX).trans q2);clear hS hM hX q2 c13 hb2 D;cases t:H k
   ·have CK:=hide (show(stTo x H k).c k=x.c k by rw[stTo_c x H k (by omega) k,if_neg (by omega)]);have GN:=hide (show goneTo x H (k+1)=goneTo x H k by show(if H k=true then _ else _)=_;rw[if_neg (by simp [t])]);have m1:=((unhide S2).sb.nd k hzk).2;have s7:=(unhide S2).rw.s k hzk;rw[unhide CK] at s7;have p3:=s7.2.2.2.1;have hm1:bn<w2.heap.size:=cell_lt m1;have hp3:cB k<w2.heap.size:=cell_lt p3;cases tl:((x.c k).last == 1)
    ·have E:=hide (show stTo x H (k+1)=stTo x H k by show stNext x H k _=_;unfold stNext;rw[if_neg (by simp [t]),if_neg (by simpa using tl)]);have DN:=hide (show dueN x H (k+1)=dueN x H k by show(if dueB x H k=true then _ else _)=_;rw[if_neg (by simp [dueB,tl])]);clear s7;go_wp2_with fail;go_roundw
     case rel=>exact⟨k+1,by omega,by go_num,by rw[unhide GN],by rw[unhide DN],by rw[unhide E];exact unhide S2,unhide M2,unhide X2⟩
     case measure=>simp [intOf];omega
    ·have E:=hide (show stTo x H (k+1)={ stTo x H k with cells:=(stTo x H k).cells.set k (dueC (x.c k)) } by show stNext x H k _=_;unfold stNext;rw[if_neg (by simp [t]),if_pos (by simpa using tl)]);have DN:=hide (show dueN x H (k+1)=dueN x H k+1 by show(if dueB x H k=true then _ else _)=_;rw[if_pos (by simp [dueB,tl,t])]);have nf:=((unhide S2).rw.nc k hzk).1;have f3:=nf.2 (cO k+3)
     have R:=hide (show SAt B (w2.setCell ⟨cB k,cO k+3,none⟩ (iv 2)) b (stTo x H (k+1)) ar kr v4 v8 br cB cO bn pb pa pk kn hd vf F vk K role∧(MapAt (w2.setCell ⟨cB k,cO k+3,none⟩ (iv 2)) w.heap.size bn (Mt.map (fun i=>i*2))∧w.heap.size<(w2.setCell ⟨cB k,cO k+3,none⟩ (iv 2)).heap.size)∧Ext a (w2.setCell ⟨cB k,cO k+3,none⟩ (iv 2)) from by
      refine⟨?_,⟨(unhide M2).1.block (Below.heap_setCell _ _ _ _ (by show w.heap.size≠cB k;have:=(unhide BL).2.2.1 k hlt2;omega)),by have:=(unhide M2).2;simpa [World.setCell] using this⟩,(unhide X2).setCell (p:=⟨cB k,cO k+3,none⟩) (Nat.le_trans ha ((unhide S2).rw.nc k hzk).2) _⟩;rw[unhide E];refine(unhide S2).setc hzk (by rw[unhide CK];rfl) (Only.setCell (S:=fun q=>q=cB k) (Only.refl _ w2) (p:=⟨cB k,cO k+3,none⟩) rfl _) ?_ (fun j hj=>cell_other _ (.inr (by omega))) (nf.set _ _);obtain⟨a0,a1,a2,a3,a4,a5,a6⟩:=s7;refine⟨?_,?_,?_,World.cell?_setCell_same _ _ _ a3,?_,?_,?_⟩
      ·rw[cell_other _ (.inr (by omega))];exact a0
      ·rw[cell_other _ (.inr (by omega))];exact a1
      ·rw[cell_other _ (.inr (by omega))];exact a2
      ·rw[cell_other _ (.inr (by omega))];exact a4
      ·rw[cell_other _ (.inr (by omega))];exact a5
      ·rw[cell_other _ (.inr (by omega))];exact a6)
     clear s7;go_wp2_with fail;go_roundw
     case rel=>exact⟨k+1,by omega,by go_num,by rw[unhide GN],by rw[unhide DN];go_num,(unhide R).1,(unhide R).2.1,(unhide R).2.2⟩
     case measure=>simp [intOf];omega
   ·have GN:=hide (show goneTo x H (k+1)=goneTo x H k+goes x H (x.c k) (x.c k).prs by show(if H k=true then _ else _)=_;rw[if_pos t]);have DN:=hide (show dueN x H (k+1)=dueN x H k by show(if dueB x H k=true then _ else _)=_;rw[if_neg (by simp [dueB,t])]);have E:=hide (show stTo x H (k+1)=goH x H k (stTo x H k) by show stNext x H k _=_;unfold stNext;rw[if_pos t];rfl);have QL:=hide (letGo_any (unhide S2) w.heap.size Mt k (unhide M2).1 (unhide M2).2 ⟨by have:=(unhide BL).1;omega,fun j hj=>by have:=(unhide BL).2.2.1 j hj;omega,by have:=(unhide BL).2.1;omega,fun q=>by have:=(unhide BL).2.2.2 k hlt2 q;omega⟩ (zis_of (unhide SN) H (unhide HI) k hlt2 t) (unhide SN).r2 (fun j hj=>may_pair (unhide SN).r2 (unhide SN).r4 k j (((unhide HI k).1 t).good (unhide SN).r2 (unhide SN).r4) hj) (unhide CP k hlt2) a ha (unhide X2));rw[←unhide HH] at QL;have ggl:goneTo x H k+goes x H (x.c k) (x.c k).prs≤2000000:=by rw[←unhide GN];omega
    go_wp2_with fail;refine(unhide QL).mono ?_;rintro e w3 ⟨rfl,S3,M3,X3⟩;clear S2 M2 X2 QL;go_wp2_with fail;go_roundw
    case rel=>exact⟨k+1,by omega,by go_num,by rw[unhide GN];go_num,by rw[unhide DN],by rw[unhide E];exact unhide S3,unhide M3,X3⟩
    case measure=>simp [intOf];omega
  ·have ke:k=x.cells.length:=by omega
   subst ke;rw[stTo_all] at hS;go_wp2_with fail;go_ret2;exact⟨H,rfl,unhide HI,unhide hS,unhide hX⟩
theorem way_17[Inhabited ProtD]{C B:Nat}{w:World}{b bd:Nat}{x:Hp}{a p c:Nat}{n:Int}{rv:Value}(h:SOq C B w b x)(s:Snd x)(hd:(default:ProtD).z bd=some (deedO b 17 a p c n rv))(ha:a<16)(v:World)(hx:Ext v w):
  Calls Tryz.prog 306 #[.pointer (some ⟨bd,0,none⟩)] w fun e w'=>WayPost C B b x a p c n 17 v e w':=by
 have D:=hide (Deed.of (h.obj hd));have H:=hide h;obtain⟨br,kr,hr⟩:=h.regs s;have R:=hide hr;obtain⟨d0,d1,d2,d3,d4,d5,d6⟩:=unhide D;have hdw:bd<w.heap.size:=cell_lt d0;have QA:=hide (fun(W:World) (xW:Ext w W)=>dA_any ((unhide R).ext xW) ((unhide D).ext xW) ha);by_cases hk:(x.r a).k=2
 ·obtain⟨en,ea,hi,st,nd⟩:=s.at a ha hk;obtain⟨i,hI⟩:∃i,i=x.at a:=⟨_,rfl⟩;have HI:=hide hI;rw[←hI] at ea hi st nd;have HK:=hide hk;obtain⟨bn,kn,cb,co,ap,kp,hc⟩:=h.cel i hi;have CE:=hide hc;have QC:=hide (fun(W:World) (xW:Ext w W)=>cellOf_yes ((unhide R).ext xW) ((unhide CE).ext xW) ((unhide D).ext xW) ha hk ea hi);clear h s hd hr hk ea en hI hc st nd;go_enter Tryz.func306,Tryz.ntmps306;go_wp2_with fail;refine(unhide QA _ (Ext.refl w)).mono ?_;rintro e w5 ⟨rfl,x5⟩;go_wp2_with fail;refine(unhide QC _ x5).mono ?_;rintro e w6 ⟨rfl,x6⟩;have X6:=hide (x5.trans x6);have C6:=hide ((unhide CE).ext (unhide X6));have m1:=(unhide C6).m1;have p7:=(unhide C6).p7;obtain⟨q0,q1,q2,q3,q4,q5,q6⟩:=(unhide C6).s;have fc:=(unhide C6).f;have hn6:bn<w6.heap.size:=cell_lt m1;have hc6:cb<w6.heap.size:=cell_lt q0;have D6:=hide ((unhide D).ext (unhide X6));have e4:=(unhide D6).d4;have hd6:bd<w6.heap.size:=cell_lt e4;clear x5 x6;go_wp2_with fail;go_ret2;exact⟨x,0,((x.c i).prs.length:Nat),rfl,.inr ⟨unhide HK,by rw[←unhide HI];exact⟨rfl,rfl,rfl⟩⟩,((unhide H).wide (show C≤C+64000 by omega)).ext (unhide X6),hx.trans (unhide X6)⟩
 ·have HK:=hide hk;have QC:=hide (fun(W:World) (xW:Ext w W)=>cellOf_no ((unhide R).ext xW) ((unhide D).ext xW) ha hk);clear h s hd hr hk;go_enter Tryz.func306,Tryz.ntmps306;go_wp2_with fail;refine(unhide QA _ (Ext.refl w)).mono ?_;rintro e w5 ⟨rfl,x5⟩;go_wp2_with fail;refine(unhide QC _ x5).mono ?_;rintro e w6 ⟨rfl,x6⟩;have X6:=hide (x5.trans x6);clear x5 x6;go_wp2_with fail;go_ret2;exact⟨x,2,0,rfl,.inl ⟨unhide HK,rfl,rfl,rfl⟩,((unhide H).wide (show C≤C+64000 by omega)).ext (unhide X6),hx.trans (unhide X6)⟩
theorem way_11[Inhabited ProtD]{C B:Nat}{w:World}{b bd:Nat}{x:Hp}{a p c:Nat}{n:Int}{rv:Value}(h:SOq C B w b x)(s:Snd x)(hd:(default:ProtD).z bd=some (deedO b 11 a p c n rv))(ha:a<16)(v:World)(hv:v.heap.size≤B)(hx:Ext v w):
  Calls Tryz.prog 300 #[.pointer (some ⟨bd,0,none⟩)] w fun e w'=>WayPost C B b x a p c n 11 v e w':=by
 have D:=hide (Deed.of (h.obj hd));have H:=hide h;obtain⟨br,kr,hr⟩:=h.regs s;have R:=hide hr;obtain⟨d0,d1,d2,d3,d4,d5,d6⟩:=unhide D;have hdw:bd<w.heap.size:=cell_lt d0;have QA:=hide (fun(W:World) (xW:Ext w W)=>dA_any ((unhide R).ext xW) ((unhide D).ext xW) ha);by_cases hk:(x.r a).k=2
 ·obtain⟨en,ea,hi,st,nd⟩:=s.at a ha hk;obtain⟨i,hI⟩:∃i,i=x.at a:=⟨_,rfl⟩;have HI:=hide hI;rw[←hI] at ea hi st nd;have HK:=hide hk;obtain⟨bn,kn,cb,co,ap,kp,hc⟩:=h.cel i hi;have CE:=hide hc;have QC:=hide (fun(W:World) (xW:Ext w W)=>cellOf_yes ((unhide R).ext xW) ((unhide CE).ext xW) ((unhide D).ext xW) ha hk ea hi);clear h s hd hr hk ea en hI hc st nd;go_enter Tryz.func300,Tryz.ntmps300;go_wp2_with fail;refine(unhide QA _ (Ext.refl w)).mono ?_;rintro e w5 ⟨rfl,x5⟩;go_wp2_with fail;refine(unhide QC _ x5).mono ?_;rintro e w6 ⟨rfl,x6⟩;have X6:=hide (x5.trans x6);have C6:=hide ((unhide CE).ext (unhide X6));have m1:=(unhide C6).m1;have p7:=(unhide C6).p7;obtain⟨q0,q1,q2,q3,q4,q5,q6⟩:=(unhide C6).s;have fc:=(unhide C6).f;have hn6:bn<w6.heap.size:=cell_lt m1;have hc6:cb<w6.heap.size:=cell_lt q0;have D6:=hide ((unhide D).ext (unhide X6));have e4:=(unhide D6).d4;have hd6:bd<w6.heap.size:=cell_lt e4;clear x5 x6;have FN:=hide (show SOq (C+64000) B (w6.setCell ⟨cb,co+2,none⟩ (iv c)) b (setcH x i (weakC (x.c i) c))∧Ext v (w6.setCell ⟨cb,co+2,none⟩ (iv c)) from⟨((unhide C6).set2 w6 c (Ext.refl _)).wide (by omega),(hx.trans (unhide X6)).setCell (p:=⟨cb,co+2,none⟩) (Nat.le_trans hv (unhide C6).lo.1) _⟩);go_wp2_with fail
  first | (go_ret2;exact⟨_,0,0,rfl,.inr ⟨unhide HK,by rw[←unhide HI];exact⟨rfl,rfl,rfl⟩⟩,(unhide FN).1,(unhide FN).2⟩) | (go_region;all_goals (go_wp2_with fail;go_ret2;exact⟨_,0,0,rfl,.inr ⟨unhide HK,by rw[←unhide HI];exact⟨rfl,rfl,rfl⟩⟩,(unhide FN).1.ext (Ext.refl _).drew,(unhide FN).2.drew⟩))
 ·have HK:=hide hk;have QC:=hide (fun(W:World) (xW:Ext w W)=>cellOf_no ((unhide R).ext xW) ((unhide D).ext xW) ha hk);clear h s hd hr hk;go_enter Tryz.func300,Tryz.ntmps300;go_wp2_with fail;refine(unhide QA _ (Ext.refl w)).mono ?_;rintro e w5 ⟨rfl,x5⟩;go_wp2_with fail;refine(unhide QC _ x5).mono ?_;rintro e w6 ⟨rfl,x6⟩;have X6:=hide (x5.trans x6);clear x5 x6;go_wp2_with fail;go_ret2;exact⟨x,2,0,rfl,.inl ⟨unhide HK,rfl,rfl,rfl⟩,((unhide H).wide (show C≤C+64000 by omega)).ext (unhide X6),hx.trans (unhide X6)⟩
theorem way_4[Inhabited ProtD]{C B:Nat}{w:World}{b bd:Nat}{x:Hp}{a p c:Nat}{n:Int}{rv:Value}(h:SOq C B w b x)(s:Snd x)(hd:(default:ProtD).z bd=some (deedO b 4 a p c n rv))(ha:a<16)(hp:p<16)(v:World)(hv:v.heap.size≤B)(hx:Ext v w):
  Calls Tryz.prog 295 #[.pointer (some ⟨bd,0,none⟩)] w fun e w'=>WayPost C B b x a p c n 4 v e w':=by
 have D:=hide (Deed.of (h.obj hd));obtain⟨br,kr,hr⟩:=h.regs s;have R:=hide hr;obtain⟨d0,d1,d2,d3,d4,d5,d6⟩:=unhide D;obtain⟨r0,r1,r2⟩:=hr.r a ha;obtain⟨s0,s1,s2⟩:=hr.r p hp;have QB:=hide (fun(W:World) (xW:Ext w W)=>dB_any ((unhide R).ext xW) ((unhide D).ext xW) hp);have f:=hr.f;have hb1:br<w.heap.size:=cell_lt r0;have hbB:=hr.lo.1;have hdw:bd<w.heap.size:=cell_lt d0;have QA:=hide (fun(W:World) (xW:Ext w W)=>dA_any ((unhide R).ext xW) ((unhide D).ext xW) ha);have FN:=hide (show ∀W,Ext w W→SOq (C+64000) B (wordO W br (a*3) (x.r p)) b (regTo x a (x.r p))∧Ext v (wordO W br (a*3) (x.r p)) from fun W xW=>⟨(hr.set W a (x.r p) xW ha).wide (by omega),(wordO_only W br (a*3) (x.r p)).ext (hx.trans xW) (fun q hq e=>by omega)⟩);unfold wordO at FN;clear h s hd hr;go_enter Tryz.func295,Tryz.ntmps295;go_wp2_with fail;refine(unhide QA _ (Ext.refl w)).mono ?_;rintro e w5 ⟨rfl,x5⟩;go_wp2_with fail;refine(unhide QB _ x5).mono ?_;rintro e w6 ⟨rfl,x6⟩;have x56:=x5.trans x6;have k0:=x56.keep r0;have k1:=x56.keep r1;have k2:=x56.keep r2;have l0:=x56.keep s0;have l1:=x56.keep s1;have l2:=x56.keep s2;have kf:=fun m=>((bcell x56).2 br m hb1).trans (f m)
 have hb6:br<w6.heap.size:=cell_lt k0;have F6:=hide (unhide FN w6 x56);clear x5 x6 x56;go_wp2_with fail;go_ret2;exact⟨_,0,0,rfl,⟨rfl,rfl,rfl⟩,(unhide F6).1,(unhide F6).2⟩
theorem Sm.first(n:Nat)(t:Snd (regTo (makeH (frH 1000) 0 n) 0 ⟨2,0,fstFree (frH 1000)⟩)):
  Sm (regTo (makeH (frH 1000) 0 n) 0 ⟨2,0,fstFree (frH 1000)⟩) (fun _=>0) 1 n 0 (upd (fun _=>none) 0 (some 0)) (fun _=>none) (fun _=>none) (n+1):=by
 have f0:fstFree (frH 1000)=0:=rfl;rw[f0] at t ⊢;obtain⟨y,hy⟩:∃y,y=regTo (makeH (frH 1000) 0 n) 0 ⟨2,0,((0:Nat):Int)⟩:=⟨_,rfl⟩;have yc:y.cells=[newC 1 0 n 0]:=by rw[hy];rfl
 have c0:y.c 0=newC 1 0 n 0:=by unfold Hp.c;rw[yc];rfl
 have yr:∀k,k<16→y.r k=if k=0 then ⟨2,0,0⟩ else Wd0:=fun k hk=>by
  rw[hy,r_regTo _ 0 _ (by simp [makeH,frH])]
  split
  ·rfl
  ·unfold Hp.r
   have e:∀m,(List.replicate m Wd0).getD k Wd0=Wd0:=fun m=>by
    simp only [List.getD_eq_getElem?_getD,List.getElem?_replicate]
    split <;> rfl
   exact e 16
 have yp:y.phase=0:=by rw[hy];rfl
 have e1:y.per=0∧y.room=1000∧y.used=0+(1+(n:Int))∧y.born=0+1:=by rw[hy];exact⟨rfl,rfl,rfl,rfl⟩
 rw[←hy] at t ⊢
 have pn:∀p,p<n→(y.c 0).p p=Pr0:=fun p hp=>by
  rw[c0];unfold Cl.p newC;simp [List.getD_eq_getElem?_getD,hp]
 exact {
  s:=t,m0:=by omega
  gd:=fun j _=>⟨by rw[yc];simp,by rw[c0];rfl,fun d=>by have:=d.1;omega⟩
  ij:=fun i j a b _=>by omega
  rg:=fun k hk=>by
   rw[yr k hk];unfold upd
   split
   ·refine⟨by omega,rfl,?_⟩;show lead2 y (0:Int).toNat=0;exact lead_no (by show(y.c 0).st≠2;rw[c0];show(1:Int)≠2;omega)
   ·show(0:Int)≠2;omega
  l0:=by rw[c0];simp [newC]
  wk:=by rw[c0];rfl
  lj:=fun j a b=>by omega
  ky:=fun p hp=>by rw[pn p hp];show(0:Int)≠2;omega
  vl:=fun p hp=>by rw[pn p hp];show(0:Int)≠2;omega
  ns:=not_speaks t fun i g sp=>by
   have:=g.1;rw[yc] at this;have e:i=0:=by simpa using this
   rw[e,c0] at sp;unfold Speaks newC at sp;rcases sp with e | e <;> simp at e
  per:=e1.1,rm:=e1.2.1,us:=by omega,bn:=by omega }
theorem S0_add(F G:Nat→Nat):∀k,S0 (fun i=>F i+G i) k=S0 F k+S0 G k
 | 0=>rfl
 | k+1=>by unfold S0;rw[S0_add F G k];omega
theorem S0_zero:∀k,S0 (fun _=>0) k=0
 | 0=>rfl
 | k+1=>by unfold S0;rw[S0_zero k]
theorem S0_point(W:Nat→Nat)(a:Nat):∀k,S0 (fun i=>if i=a then W i else 0) k=if a<k then W a else 0
 | 0=>by simp [S0]
 | k+1=>by
  unfold S0;rw[S0_point W a k];by_cases e:k=a
  ·subst e;simp
  ·rw[if_neg e];by_cases l:a<k
   ·rw[if_pos l,if_pos (by omega)];rfl
   ·rw[if_neg l,if_neg (by omega)]
theorem S0_img(W F:Nat→Nat)(N:Nat):∀(m:Nat) (p:Nat→Bool),(∀j,j<m→F j<N)→(∀i j,i<m→j<m→F i=F j→i=j)→(∀i,p i=true↔∃j,j<m∧i=F j)→S0 (fun i=>if p i=true then W i else 0) N=S0 (fun j=>W (F j)) m
 | 0,p,_,_,hp=>by
  have:∀i,i<N→(if p i=true then W i else 0)=(fun _=>0) i:=fun i _=>if_neg (fun h=>by obtain⟨j,hj,_⟩:=(hp i).1 h;omega)
  rw[S0_congr N this,S0_zero];rfl
 | m+1,p,hF,hi,hp=>by
  classical
  have ih:=S0_img W F N m (fun i=>decide (∃j,j<m∧i=F j)) (fun j h=>hF j (by omega)) (fun i j a b=>hi i j (by omega) (by omega)) (fun i=>by simp)
  have e:∀i,i<N→(if p i=true then W i else 0)=(fun i=>(if decide (∃j,j<m∧i=F j)=true then W i else 0)+(if i=F m then W i else 0)) i:=fun i _=>by
   by_cases a:i=F m
   ·have n:¬∃j,j<m∧i=F j:=fun⟨j,hj,q⟩=>by have:=hi j m (by omega) (by omega) (q.symm.trans a);omega
    show _=(if decide (∃j,j<m∧i=F j)=true then W i else 0)+(if i=F m then W i else 0);rw[if_pos ((hp i).2 ⟨m,by omega,a⟩),if_pos a,decide_eq_false n];simp
   ·by_cases b:∃j,j<m∧i=F j
    ·obtain⟨j,hj,q⟩:=b;rw[if_pos ((hp i).2 ⟨j,by omega,q⟩)];have b:∃j,j<m∧i=F j:=⟨j,hj,q⟩;show _=(if decide (∃j,j<m∧i=F j)=true then W i else 0)+(if i=F m then W i else 0);rw[if_neg a,decide_eq_true b];simp
    ·rw[if_neg (fun h=>by
      obtain⟨j,hj,q⟩:=(hp i).1 h;by_cases c:j=m
      ·subst c;exact a q
      ·exact b ⟨j,by omega,q⟩)]
     show _=(if decide (∃j,j<m∧i=F j)=true then W i else 0)+(if i=F m then W i else 0);rw[if_neg a,decide_eq_false b];simp
  rw[S0_congr N e,S0_add,ih,S0_point,if_pos (hF m (by omega))];rfl
theorem Sm.sum{x:Hp}{F:Nat→Nat}{m n:Nat}{wk:Int}{R K V:Nat→Option Nat}{U:Int}(h:Sm x F m n wk R K V U){P:Nat→Prop}{nm:Int}(q:Nat)(hq:q+1≤m)(hP:∀i,P i↔∃j,j<q+1∧i=F j)(s:SumIs x P nm):nm=q+1+n:=by
 obtain⟨p,hp,rfl⟩:=s;rw[S0_sum,S0_img (fun i=>1+(x.c i).prs.length) F x.cells.length (q+1) p (fun j hj=>(h.gd j (by omega)).1) (fun i j a b=>h.ij i j (by omega) (by omega)) (fun i=>(hp i).trans (hP i))]
 have key:∀k,k≤q→S0 (fun j=>1+(x.c (F j)).prs.length) (k+1)=k+1+n:=fun k=>by
  induction k with
  | zero=>intro _;simp [S0,h.l0]
  | succ k ih=>intro hk;unfold S0;rw[ih (by omega),h.lj (k+1) (by omega) (by omega)];omega
 rw[key q (Nat.le_refl _)];omega
theorem Sm.held{x:Hp}{F:Nat→Nat}{n:Nat}{R K V:Nat→Option Nat}{U:Int}(h:Sm x F (n+2) n 1 R K V U)(r0:R 0=some 0)(r3:R 3=some 1)(hK:∀p,p<n→K p=some (p+1))(hV:∀p,p<n→V p=some (p+2)):∀j,j<n+2→Held x (F j):=by
 have reg:∀k j,k<16→R k=some j→Held x (F j):=fun k j hk e=>by
  have a:k<x.regs.length:=by rw[h.s.n16];exact hk
  have q:=h.rg k hk;rw[e] at q;rw[←q.2.2,←Hp.r_eq x k a];exact Held.reg k a (by rw[Hp.r_eq x k a];exact q.2.1)
 have h0:=reg 0 0 (by omega) r0
 have key:∀j,j<n+1→Held x (F (j+1)):=fun j=>by
  induction j with
  | zero=>intro _;exact reg 3 1 (by omega) r3
  | succ j ih=>
   intro hj;have q:=h.vl j (by omega);have k:=h.ky j (by omega);rw[hV j (by omega)] at q;rw[hK j (by omega)] at k;rw[←q.2.2];exact Held.val _ j h0 (by rw[h.l0];omega) ⟨by rw[h.wk];omega,by rw[h.wk];omega⟩ (fun _=>by rw[k.2.2];exact ih (by omega)) q.2.1
 intro j hj;by_cases e:j=0
 ·rw[e];exact h0
 ·have:=key (j-1) (by omega);rw[show j-1+1=j by omega] at this;exact this
theorem Sm.heldOne{x:Hp}{F:Nat→Nat}{m n:Nat}{R K V:Nat→Option Nat}{U:Int}(h:Sm x F m n 1 R K V U)(r0:R 0=some 0)(hR:∀k,k≠0→R k=none)(hK:∀p,p<n→K p=some (p+1))(i:Nat):Held x i↔i=F 0:=by
 constructor
 ·intro hh;refine hh (fun i=>i=F 0) (fun k hk e=>?_) (fun i hi e=>(h.ns i (.inr e)).elim) (fun j p hj hp sk _=>?_) (fun j p hj hp _ kk e=>?_)
  ·rw[Hp.r_eq x k hk] at e ⊢;have q:=h.rg k (by rw[←h.s.n16];exact hk);by_cases z:k=0
   ·rw[z,r0] at q;rw[z];exact q.2.2
   ·rw[hR k z] at q;exact(q e).elim
  ·rw[hj] at sk;exact(sk.1 h.wk).elim
  ·subst hj;rw[h.l0] at hp;have k:=h.ky p hp;rw[hK p hp] at k;have:=kk k.2.1;rw[k.2.2] at this;have:=h.ij (p+1) 0 k.1 h.m0 this;omega
 ·rintro rfl;have a:0<x.regs.length:=by rw[h.s.n16];omega
  have q:=h.rg 0 (by omega);rw[r0] at q;rw[←q.2.2,←Hp.r_eq x 0 a];exact Held.reg 0 a (by rw[Hp.r_eq x 0 a];exact q.2.1)
theorem due_none{x:Hp}(ns:∀i,¬Speaks (x.c i))(H:Nat→Bool):∀k,dueN x H k=0
 | 0=>rfl
 | k+1=>by
  unfold dueN;rw[if_neg (fun e=>ns k (.inl (by unfold dueB at e;rw[Bool.and_eq_true] at e;simpa using e.2)))];exact due_none ns H k
theorem rst_settle(x:Hp)(H:Nat→Bool):Rst x (settleH x H):=by
 have r:=(dueTo_rest x (cutTo x H x.cells.length) H x.cells.length).1;have c:=cutTo_rest x H x.cells.length;exact⟨r.2.2.2.2.2.2.1.trans c.2.2.2.2.2.2.1,r.1.trans c.1,r.2.1.trans c.2.1,by rw[settle_used];omega⟩
theorem Sm.settle{x:Hp}{F:Nat→Nat}{m n n':Nat}{wk:Int}{R K V K' V':Nat→Option Nat}{U:Int}(h:Sm x F m n wk R K V U)(H:Nat→Bool)(h0:H (F 0)=true)(t:Snd (settleH x H))(hn:(stay x H (x.c (F 0)) (x.c (F 0)).prs).length=n')
  (hk:∀p,p<n'→Mt x F m ((letC x H (x.c (F 0))).p p).key (K' p)) (hv:∀p,p<n'→Mt x F m ((letC x H (x.c (F 0))).p p).val (V' p)):Sm (settleH x H) F m n' wk R K' V' U:=by
 have r:=(dueTo_rest x (cutTo x H x.cells.length) H x.cells.length).1;have c:=cutTo_rest x H x.cells.length
 have hc:∀q,(settleH x H).c q=if H q=true∧q<x.cells.length then letC x H (x.c q) else x.c q:=fun q=>by
  rcases Nat.lt_or_ge q x.cells.length with l | l
  ·rw[settle_c x H q l];unfold stlC;by_cases e:H q=true
   ·rw[if_pos e,if_pos ⟨e,l⟩]
   ·rw[if_neg e,if_neg (fun z=>h.ns q (.inl z)),if_neg (fun z=>e z.1)]
  ·rw[Hp.c_out (by rw[settle_len];exact l),if_neg (by omega),Hp.c_out l]
 have c0:(settleH x H).c (F 0)=letC x H (x.c (F 0)):=by rw[hc,if_pos ⟨h0,(h.gd 0 h.m0).1⟩]
 refine h.turn t (settle_regs x H) (settle_len x H) (r.2.2.2.1.trans c.2.2.2.1) (r.2.2.2.2.1.trans c.2.2.2.2.1) (fun q=>?_) (fun q z=>?_) (fun j a b=>?_) (by rw[c0];exact hn) (by rw[c0];exact h.wk) (fun p b=>by rw[c0];exact hk p b) (fun p b=>by rw[c0];exact hv p b) (rst_settle x H)
 ·rw[hc];split <;> exact⟨rfl,rfl,rfl⟩
 ·rw[hc];split <;> exact z
 ·have e:=h.lj j a b;rw[hc];split
  ·show(stay x H (x.c (F j)) (x.c (F j)).prs).length=0;have:=stay_goes x H (x.c (F j)) (x.c (F j)).prs;omega
  ·exact e
theorem res_tgt(x:Hp)(u:Wd):(resW x u).k=u.k∧(u.k=2→(resW x u).a.toNat=tgt x u):=by
 unfold resW
 split
 ·rename_i e;exact⟨e.1.symm,fun _=>(lead_yes e.2).symm⟩
 ·rename_i e;exact⟨rfl,fun k=>(lead_no (fun z=>e ⟨k,z⟩)).symm⟩
theorem Sm.goes{x:Hp}{F:Nat→Nat}{m n:Nat}{R K V:Nat→Option Nat}{U:Int}(h:Sm x F m n 1 R K V U)(H:Nat→Bool)(hK:∀p,p<n→K p=some (p+1))(b:Bool)(hH:∀p,p<n→H (F (p+1))=b):stay x H (x.c (F 0)) (x.c (F 0)).prs=if b then (x.c (F 0)).prs else []:=by
 have key:∀q,q∈(x.c (F 0)).prs→(!goB x H (x.c (F 0)) q)=b:=fun q hq=>by
  obtain⟨p,hp,e⟩:=List.getElem_of_mem hq;have e2:(x.c (F 0)).p p=q:=by unfold Cl.p;rw[←e];simp [List.getD_eq_getElem?_getD,hp]
  rw[h.l0] at hp;have k:=h.ky p hp;rw[hK p hp,e2] at k;have r:=res_tgt x q.key;unfold goB wkB wvB lostB;rw[h.wk,r.1,r.2 k.2.1,k.2.1,k.2.2,hH p hp];cases b <;> rfl
 unfold stay;cases b
 ·rw[List.filter_eq_nil_iff.2 (fun q hq=>by rw[key q hq];simp)];rfl
 ·rw[List.filter_eq_self.2 (fun q hq=>key q hq)];rfl
theorem Sm.one{x:Hp}{F:Nat→Nat}{m:Nat}{wk:Int}{R K V:Nat→Option Nat}{U:Int}(h:Sm x F m 0 wk R K V U)(hR:∀k j,R k=some j→j=0):Sm x F 1 0 wk R K V U:=
 { h with
  m0:=by omega
  gd:=fun j _=>h.gd j (by have:=h.m0;omega)
  ij:=fun i j _ _ _=>by omega
  rg:=fun k hk=>by
   have q:=h.rg k hk;cases e:R k with
   | none=>rw[e] at q;exact q
   | some j=>rw[e] at q;have:=hR k j e;exact⟨by omega,q.2⟩
  lj:=fun j a b=>by omega
  ky:=fun p hp=>by omega
  vl:=fun p hp=>by omega }
end Go.Proofs.YtddkhnclmeikfaaGreat
