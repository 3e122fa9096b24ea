import Derived.Test.YtddkhnclmeikfaaGreatJr0
import Derived.Test.YtddkhnclmeikfaaGreatQer
import Derived.Test.YtddkhnclmeikfaaGreatCm3
import Derived.Test.YtddkhnclmeikfaaGreatQd
import Derived.Test.YtddkhnclmeikfaaGreatTa
set_option maxRecDepth 100000
set_option maxHeartbeats 1000000
namespace Go.Proofs.YtddkhnclmeikfaaGreat
open Go.RowKit
attribute [local go_sem ↓] Go.wp_at_zero Go.wp_at_succ
theorem SOq.boxN[Inhabited ProtD]{C B:Nat}{w:World}{b:Nat}{x:Hp}(h:SOq C B w b x):(∃v,w.cell? ⟨b,9,none⟩=some v)∧(∃v,w.cell? ⟨b,10,none⟩=some v)∧(∀j,w.frozen? ⟨b,j,none⟩=false)∧B≤b∧b<w.heap.size:=by
 obtain⟨ar,kr,a4,n4,k4,a8,m8,k8,br,cB,cO,bn,pb,pa,pk,kn,hd,vf,F,vk,K,role,h,i,k⟩:=h;obtain⟨c0,c1,c2,c3,c4,c5,c6,c7,c8,c9,c10,c11,c12⟩:=h.sb.bx;exact⟨⟨_,c9⟩,⟨_,c10⟩,h.sb.nb.2,h.sb.lo.1,h.sb.nb.1⟩
theorem way_22[Inhabited ProtD]{C B:Nat}{w:World}{b bd:Nat}{x:Hp}{a p c:Nat}{n:Int}{rv:Value}(h:SOq C B w b x)(s:Snd x)(hd:(default:ProtD).z bd=some (deedO b 22 a p c n rv))(hC:C+64000≤1000000000)(hc:c≤100000)(v:World)(hv:v.heap.size≤B)(hx:Ext v w):
  Calls Tryz.prog 311 #[.pointer (some ⟨bd,0,none⟩)] w fun e w'=>WayPost C B b x a p c n 22 v e w':=by
 have D:=hide (Deed.of (h.obj hd));have H:=hide h;have S:=hide s;obtain⟨d0,d1,d2,d3,d4,d5,d6⟩:=unhide D;have hdw:bd<w.heap.size:=cell_lt d0;clear h s hd;have QS:=hide (fun(W:World) (xW:Ext w W)=>step_any c ((unhide H).ext xW) (by omega) (unhide S) hc v hv (hx.trans xW));go_enter Tryz.func311,Tryz.ntmps311;go_wp2_with fail;go_region_with (go_at_call 80;refine(unhide QS _ (Ext.refl w).drew).mono ?_;rintro e w5 ⟨k,rfl,st,h5,x5⟩;have H5:=hide ((unhide h5).wide (show C+16000≤C+64000 by omega));have X5:=hide x5;clear h5 x5)
 all_goals
  go_wp2_with fail;go_ret2;exact⟨_,0,0,rfl,⟨rfl,rfl,k,unhide st,rfl⟩,unhide H5,unhide X5⟩
theorem way_18[Inhabited ProtD]{C B:Nat}{w:World}{b bd:Nat}{x:Hp}{a p c:Nat}{n:Int}{rv:Value}(h:SOq C B w b x)(s:Snd x)(hd:(default:ProtD).z bd=some (deedO b 18 a p c n rv))(v:World)(hv:v.heap.size≤B)(hx:Ext v w):
  Calls Tryz.prog 307 #[.pointer (some ⟨bd,0,none⟩)] w fun e w'=>WayPost C B b x a p c n 18 v e w':=by
 have D:=hide (Deed.of (h.obj hd));have H:=hide h;have S:=hide s;obtain⟨d0,d1,d2,d3,d4,d5,d6⟩:=unhide D;have hdw:bd<w.heap.size:=cell_lt d0;clear h s hd
 have QS:=hide (show Calls Tryz.prog 89 #[.pointer (some ⟨b,0,none⟩)] w fun e w'=>∃G:Nat→Bool,Hid (e=.returned (.tuple #[.int .i64 (goneTo x G x.cells.length),.int .i64 (dueN x G x.cells.length)]))∧Hid (∀i,G i=true↔Held x i)∧Hid (SOq C B w' b (settleH x G))∧Ext v w' from by
  obtain⟨ar,kr,a4,n4,k4,a8,m8,k8,br,cB,cO,bn,pb,pa,pk,kn,hd,vf,F,vk,K,role,h,i,k⟩:=unhide H;refine(settle_any h (unhide S) v hv hx).mono ?_;rintro e w' ⟨G,he,hG,h2,x2⟩;have r:=stTo_rest x G x.cells.length;refine⟨G,he,hG,⟨ar,kr,a4,n4,k4,a8,m8,k8,br,cB,cO,bn,pb,pa,pk,kn,hd,vf,F,vk,K,role,unhide h2,i.alike ⟨?_,fun q=>?_⟩ ?_ ?_,?_⟩,x2⟩
  ·rw[←stTo_all,stTo_len]
  ·rw[←stTo_all];exact(stTo_st x G x.cells.length (Nat.le_refl _) q).1
  ·rw[←stTo_all];exact r.2.2.2.1
  ·rw[←stTo_all];exact r.2.2.2.2.1
  ·rw[←stTo_all,r.1];exact k)
 go_enter Tryz.func307,Tryz.ntmps307;go_wp2_with fail;refine(unhide QS).mono ?_;rintro e w5 ⟨G,he,hG,h5,x5⟩;have e2:=unhide he;subst e2;have H5:=hide ((unhide h5).wide (show C≤C+64000 by omega));clear h5 he QS;go_wp2_with fail;go_ret2;exact⟨_,0,_,rfl,⟨rfl,G,unhide hG,rfl,rfl⟩,unhide H5,x5⟩
theorem way_20[Inhabited ProtD]{C B:Nat}{w:World}{b bd:Nat}{x:Hp}{a p c:Nat}{n:Int}{rv:Value}(h:SOq C B w b x)(s:Snd x)(hd:(default:ProtD).z bd=some (deedO b 20 a p c n rv))(v:World)(hx:Ext v w):
  Calls Tryz.prog 309 #[.pointer (some ⟨bd,0,none⟩)] w fun e w'=>WayPost C B b x a p c n 20 v e w':=by
 have D:=hide (Deed.of (h.obj hd));have H:=hide h;have S:=hide s;obtain⟨d0,d1,d2,d3,d4,d5,d6⟩:=unhide D;have hdw:bd<w.heap.size:=cell_lt d0;clear h s hd
 obtain⟨ar,kr,ac,bn,kn,V⟩:∃(ar:Option Addr) (kr:Nat) (ac:Nat→Option Addr) (bn kn:Nat),Hid (VNt w b x ar kr ac (some ⟨bn,0,none⟩) kn):=by
  obtain⟨ar,kr,a4,n4,k4,a8,m8,k8,br,cB,cO,bn,pb,pa,pk,kn,hd,vf,F,vk,K,role,h,i,k⟩:=unhide H;exact⟨ar,kr,_,bn,kn,h.vn (by rw[(unhide S).r1.regs];omega) (unhide S).ok.p200⟩
 have QH:=hide (show ∀W,Ext w W→Calls Tryz.prog 72 #[.pointer (some ⟨b,0,none⟩)] W fun e w'=>∃(r:Nat) (Mt:List Nat),e=.returned (Value.map (some r))∧Hid (MapAt w' r bn (Mt.map (fun i=>0+i*2)))∧r<w'.heap.size∧Hid (∀i,i∈Mt↔Held x i)∧Ext W w' from fun W xW=>by
  refine(held_any x b W bn 0 ((unhide V).ext xW) (unhide S).r2 (unhide S).r4 (unhide S).ok.n8 (unhide S).ok.p200 (fun w1 h1=>speakers_any x b w1 bn 0 h1 (unhide S).ok.n8)).mono ?_;rintro e w' ⟨h1,Mt,h2,h3,h4,h5⟩;exact⟨_,Mt,h1,h2,h3,h4,h5⟩)
 have hbw:b<w.heap.size:=(unhide H).boxN.2.2.2.2;go_enter Tryz.func309,Tryz.ntmps309;go_wp2_with fail;go_region_with (first | (go_at_call 70;refine(sum_any x b r Mt w5 bn 0 ((unhide V).ext (unhide X5)) (unhide hm) hlt (unhide S).ok.n8 (unhide S).ok.p200).mono ?_;rintro e w6 ⟨u,he,hu,x6⟩;have e2:=unhide he;subst e2;have X6:=hide ((unhide X5).trans x6);clear he x6) | (go_at_call 72;refine(unhide QH _ (Ext.refl w).drew).mono ?_;rintro e w5 ⟨r,Mt,rfl,hm,hlt,hh,x5⟩;have x15:=Ext.trans (Ext.refl w).drew x5;have l0:=x15.keep d0;have X5:=hide x15;clear x5 x15))
 all_goals
  go_wp2_with fail;go_ret2;exact⟨x,0,u,rfl,⟨rfl,rfl,fun i=>decide (i∈Mt),fun i=>by rw[decide_eq_true_iff];exact unhide hh i,by rw[unhide hu]⟩,((unhide H).wide (show C≤C+64000 by omega)).ext (unhide X6),hx.trans (unhide X6)⟩
theorem way_21[Inhabited ProtD]{C B:Nat}{w:World}{b bd:Nat}{x:Hp}{a p c:Nat}{n:Int}{rv:Value}(h:SOq C B w b x)(s:Snd x)(hd:(default:ProtD).z bd=some (deedO b 21 a p c n rv))(v:World)(hx:Ext v w):
  Calls Tryz.prog 310 #[.pointer (some ⟨bd,0,none⟩)] w fun e w'=>WayPost C B b x a p c n 21 v e w':=by
 have D:=hide (Deed.of (h.obj hd));have H:=hide h;have S:=hide s;obtain⟨d0,d1,d2,d3,d4,d5,d6⟩:=unhide D;have hdw:bd<w.heap.size:=cell_lt d0;clear h s hd
 obtain⟨ar,kr,ac,bn,kn,V⟩:∃(ar:Option Addr) (kr:Nat) (ac:Nat→Option Addr) (bn kn:Nat),Hid (VNt w b x ar kr ac (some ⟨bn,0,none⟩) kn):=by
  obtain⟨ar,kr,a4,n4,k4,a8,m8,k8,br,cB,cO,bn,pb,pa,pk,kn,hd,vf,F,vk,K,role,h,i,k⟩:=unhide H;exact⟨ar,kr,_,bn,kn,h.vn (by rw[(unhide S).r1.regs];omega) (unhide S).ok.p200⟩
 have QH:=hide (show ∀W,Ext w W→Calls Tryz.prog 71 #[.pointer (some ⟨b,0,none⟩)] W fun e w'=>∃(r:Nat) (Mt:List Nat),e=.returned (Value.map (some r))∧Hid (MapAt w' r bn (Mt.map (fun i=>0+i*2)))∧r<w'.heap.size∧Hid (∀i,i∈Mt↔Reached x i)∧Ext W w' from fun W xW=>by
  refine(reached_any x b W bn 0 ((unhide V).ext xW) (unhide S).r2 (unhide S).r4 (unhide S).ok.n8 (unhide S).ok.p200 (fun w1 h1=>speakers_any x b w1 bn 0 h1 (unhide S).ok.n8)).mono ?_;rintro e w' ⟨h1,Mt,h2,h3,h4,h5⟩;exact⟨_,Mt,h1,h2,h3,h4,h5⟩)
 have hbw:b<w.heap.size:=(unhide H).boxN.2.2.2.2;go_enter Tryz.func310,Tryz.ntmps310;go_wp2_with fail;go_region_with (first | (go_at_call 70;refine(sum_any x b r Mt w5 bn 0 ((unhide V).ext (unhide X5)) (unhide hm) hlt (unhide S).ok.n8 (unhide S).ok.p200).mono ?_;rintro e w6 ⟨u,he,hu,x6⟩;have e2:=unhide he;subst e2;have X6:=hide ((unhide X5).trans x6);clear he x6) | (go_at_call 71;refine(unhide QH _ (Ext.refl w).drew).mono ?_;rintro e w5 ⟨r,Mt,rfl,hm,hlt,hh,x5⟩;have x15:=Ext.trans (Ext.refl w).drew x5;have l0:=x15.keep d0;have X5:=hide x15;clear x5 x15))
 all_goals
  go_wp2_with fail;go_ret2;exact⟨x,0,u,rfl,⟨rfl,rfl,fun i=>decide (i∈Mt),fun i=>by rw[decide_eq_true_iff];exact unhide hh i,by rw[unhide hu]⟩,((unhide H).wide (show C≤C+64000 by omega)).ext (unhide X6),hx.trans (unhide X6)⟩
abbrev roomV(ba bs:Nat):Value:=.func (.func 286) #[] #[.pointer (some ⟨ba,0,none⟩),.pointer (some ⟨bs,0,none⟩)]
theorem roomFor_any(b:Nat)(op a p c n:Int)(w:World):
  Calls Tryz.prog 283 #[.pointer (some ⟨b,0,none⟩),actV op a p c n] w fun e w'=>e=.returned (roomV (w.heap.size+1) w.heap.size)∧w'=(w.alloc (.cells #[.pointer (some ⟨b,0,none⟩)] 86)).alloc (.cells #[iv op,iv a,iv p,iv c,iv n] 39):=by
 go_enter Tryz.func283,Tryz.ntmps283;go_wp2_with fail;go_ret;exact⟨rfl,rfl⟩
theorem SOq.nums[Inhabited ProtD]{C B:Nat}{w:World}{b:Nat}{x:Hp}(h:SOq C B w b x):w.cell? ⟨b,0,none⟩=some (iv x.room)∧w.cell? ⟨b,1,none⟩=some (iv x.used)∧w.cell? ⟨b,2,none⟩=some (iv x.born)∧w.cell? ⟨b,5,none⟩=some (iv x.phase)∧w.cell? ⟨b,9,none⟩=some (iv x.per)∧w.cell? ⟨b,10,none⟩=some (iv x.start)∧w.cell? ⟨b,12,none⟩=some (iv x.forced):=by
 obtain⟨ar,kr,a4,n4,k4,a8,m8,k8,br,cB,cO,bn,pb,pa,pk,kn,hd,vf,F,vk,K,role,h,i,k⟩:=h;obtain⟨c0,c1,c2,c3,c4,c5,c6,c7,c8,c9,c10,c11,c12⟩:=h.sb.bx;exact⟨c0,c1,c2,c5,c9,c10,c12⟩
theorem SOq.set12[Inhabited ProtD]{C B:Nat}{w:World}{b:Nat}{x:Hp}(h:SOq C B w b x)(u:Int):SOq C B (w.setCell ⟨b,12,none⟩ (iv u)) b { x with forced:=u }:=by
 obtain⟨ar,kr,a4,n4,k4,a8,m8,k8,br,cB,cO,bn,pb,pa,pk,kn,hd,vf,F,vk,K,role,h,i,k⟩:=h;exact⟨ar,kr,a4,n4,k4,a8,m8,k8,br,cB,cO,bn,pb,pa,pk,kn,hd,vf,F,vk,K,role,h.boxed (x':={ x with forced:=u }) (Only.setCell (S:=fun q=>q=b) (Only.refl _ w) (p:=⟨b,12,none⟩) rfl _) (h.sb.nb.set _ _) rfl rfl rfl (h.sb.bx.set12 u) (fun k hk=>cell_other _ (.inr (by omega))),i.alike (SameSt.cells rfl) rfl rfl,k⟩
theorem fits_any[Inhabited ProtD]{C B:Nat}{w:World}{b:Nat}{x:Hp}(h:SOq C B w b x)(s:Snd x)(u:Nat)(hu:u≤201):Calls Tryz.prog 287 #[.pointer (some ⟨b,0,none⟩),.int .i64 u] w fun e w'=>e=.returned (.bool (fitsB x u))∧Ext w w':=by
 obtain⟨c0,c1,_⟩:=h.nums;have us:0≤x.used∧x.used≤4000:=by have h3:=s.r3;have h1:=s.r1.room;unfold R3 at h3;omega
 have wu:wrap64 (x.used+(u:Int))=x.used+(u:Int):=wrap_fit _ (by omega) (by omega);have hbw:b<w.heap.size:=cell_lt c0;clear h s;go_enter Tryz.func287,Tryz.ntmps287;go_wp2_with fail;go_quiet (fail);go_wp2_with fail;go_ret;exact⟨rfl,Ext.drewN (Ext.refl _) _⟩
def boxS(b:Nat):Obj:=.cells #[.pointer (some ⟨b,0,none⟩)] 86
def boxA(op a p c n:Int):Obj:=.cells #[iv op,iv a,iv p,iv c,iv n] 39
def RoomPost(x:Hp)(op:Int)(u:Nat)(y:Hp)(cd:Int):Prop:=((op=1∧x.born=1000000000)∧y=x∧cd=4)∨(¬(op=1∧x.born=1000000000)∧RoomIs x u y∧cd=if fitsB y u=true then 0 else 4)
theorem room_any[Inhabited ProtD]{C B:Nat}{w:World}{b ba bs:Nat}{x:Hp}{op a p c n:Int}(h:SOq C B w b x)(hC:C+16000≤1000000000)(s:Snd x)(za:(default:ProtD).z ba=some (boxA op a p c n))(zs:(default:ProtD).z bs=some (boxS b))(u:Nat)(hu:u≤201)(v:World)(hv:v.heap.size≤B)(hx:Ext v w):
  Calls Tryz.prog 286 #[.int .i64 u,.pointer (some ⟨ba,0,none⟩),.pointer (some ⟨bs,0,none⟩)] w fun e w'=>∃(y:Hp) (cd:Int),Hid (e=.returned (errV cd))∧Hid (RoomPost x op u y cd)∧Hid (SOq (C+16000) B w' b y)∧Ext v w':=by
 have H:=hide h;have S:=hide s;have ca:=fun j=>cell_of_row w ba j _ _ (0,0) (h.obj za)
 have cs:=fun j=>cell_of_row w bs j _ _ (0,0) (h.obj zs)
 have a0:w.cell? ⟨ba,0,none⟩=some (iv op):=ca 0;have s0:w.cell? ⟨bs,0,none⟩=some (.pointer (some ⟨b,0,none⟩)):=cs 0;obtain⟨c0,c1,c2,c5,c9,c10,c12⟩:=h.nums;have fz:=h.boxN.2.2.1;have lo:v.heap.size≤b:=Nat.le_trans hv h.boxN.2.2.2.1;have fo:=s.r1.forced;have hbw:b<w.heap.size:=cell_lt c0;have haw:ba<w.heap.size:=cell_lt a0;have hsw:bs<w.heap.size:=cell_lt s0;have BS:=hide (show ∀(W:World) (z:Hp) (K:Nat),SOq K B W b z→W.cell? ⟨bs,0,none⟩=some (.pointer (some ⟨b,0,none⟩)) from fun W z K hz=>cell_of_row W bs 0 _ _ (0,0) (hz.obj zs));clear h s ca cs za zs c5 c9 c10;by_cases hop:op=1∧x.born=1000000000
 ·have R:=hide (show RoomPost x op u x 4 from .inl ⟨hop,rfl,rfl⟩);obtain⟨rfl,hb⟩:=hop;rw[hb] at c2;clear hb;go_enter Tryz.func286,Tryz.ntmps286;go_wp2_with fail;go_ret;exact⟨x,4,rfl,unhide R,(unhide H).wide (by omega),hx⟩
 ·have RP:=hide (show ∀y cd,RoomIs x u y→(cd=if fitsB y u=true then 0 else 4)→RoomPost x op u y cd from fun y cd r e=>.inr ⟨hop,r,e⟩);have Q1:=hide (fun(W:World) (xW:Ext w W)=>fits_any ((unhide H).ext xW) (unhide S) u hu);go_enter Tryz.func286,Tryz.ntmps286;rcases (show(op=1∧x.born≠1000000000)∨op≠1 from(Decidable.em (op=1)).elim (fun h1=>.inl ⟨h1,fun e=>hop ⟨h1,e⟩⟩) .inr) with⟨rfl,hb⟩ | hb
  all_goals
   clear hop;go_wp2_with fail;refine(unhide Q1 _ (Ext.refl w)).mono ?_;rintro e w1 ⟨rfl,x1⟩;have X1:=hide x1;have t0:=x1.keep s0;have d0:=x1.keep c0;have d12:=x1.keep c12;have fz1:=fun j=>((bcell x1).2 b j hbw).trans (fz j)
   have hb1:b<w1.heap.size:=cell_lt d0;have hs1:bs<w1.heap.size:=cell_lt t0;clear x1;cases hf:fitsB x u
   ·go_wp2_with fail
    go_region
    all_goals
     go_wp2_with fail
     have FH:SOq C B (w1.setCell ⟨b,12,none⟩ (iv (min (x.forced+1) 1000000000))).drew b (forceTo x):=by
      rw[show forceTo x={ x with forced:=min (x.forced+1) 1000000000 } from by unfold forceTo;congr 1;split <;> omega];exact(((unhide H).ext (unhide X1)).set12 _).ext (Ext.refl _).drew
     refine(round_any FH hC (unhide S).forceTo v hv (((hx.trans (unhide X1)).setCell (p:=⟨b,12,none⟩) lo _).drew)).mono ?_;clear FH;rintro e w2 ⟨y,z,rfl,he,h2,x2⟩;have RM:=hide (show RoomIs x u z from .inr ⟨hf,y,(unhide he).1,(unhide he).2⟩);have Sz:=hide ((unhide RM).snd (unhide S));have Q2:=hide (fits_any (unhide h2) (unhide Sz) u hu);have t2:=unhide BS w2 z _ (unhide h2);have u2:bs<w2.heap.size:=cell_lt t2;clear he;go_wp2_with fail;refine(unhide Q2).mono ?_;rintro e w3 ⟨rfl,x3⟩;cases hg:fitsB z u
     ·go_wp2_with fail;go_ret;exact⟨z,4,rfl,unhide RP z 4 (unhide RM) (by rw[hg];rfl),(unhide h2).ext x3,x2.trans x3⟩
     ·go_wp2_with fail;go_ret;exact⟨z,0,rfl,unhide RP z 0 (unhide RM) (by rw[hg];rfl),(unhide h2).ext x3,x2.trans x3⟩
   ·go_wp2_with fail;refine(unhide Q1 _ (unhide X1)).mono ?_;rintro e w2 ⟨rfl,x2⟩;rw[hf];go_wp2_with fail;go_ret;exact⟨x,0,rfl,unhide RP x 0 (.inl ⟨hf,rfl⟩) (by rw[hf];rfl),(((unhide H).ext ((unhide X1).trans x2)).wide (by omega)),hx.trans ((unhide X1).trans x2)⟩
theorem Own.sub{p p1:Inhabited ProtD}{lo hi:Nat}{c:World}(o:Own p lo hi c p1):∀q ob,(@default ProtD p).z q=some ob→(@default ProtD p1).z q=some ob:=fun q ob hq=>by
 rw[o.z,if_neg (fun e=>by have:=o.l q ob hq;omega)];exact hq
theorem none_less{p p1:Inhabited ProtD}(hz:∀q ob,(@default ProtD p).z q=some ob→(@default ProtD p1).z q=some ob){q:Nat}(h:(@default ProtD p1).z q=none):(@default ProtD p).z q=none:=by
 cases e:(@default ProtD p).z q with
 | none=>rfl
 | some ob=>rw[hz q ob e] at h;cases h
theorem SOq.less{p p1:Inhabited ProtD}{C B:Nat}{w:World}{b:Nat}{x:Hp}(h:@SOq p1 C B w b x)(hz:∀q ob,(@default ProtD p).z q=some ob→(@default ProtD p1).z q=some ob):@SOq p C B w b x:=by
 obtain⟨ar,kr,a4,n4,k4,a8,m8,k8,br,cB,cO,bn,pb,pa,pk,kn,hd,vf,F,vk,K,role,h,i,k⟩:=h;have h0:=h;obtain⟨_,_,_,pr⟩:=h0;exact⟨ar,kr,a4,n4,k4,a8,m8,k8,br,cB,cO,bn,pb,pa,pk,kn,hd,vf,F,vk,K,role,SAt.far (z:=(@default ProtD p1).z) (z2:=(@default ProtD p).z) h (Nat.le_refl _) (fun _ _ _=>rfl) (fun _ _ _=>rfl) (fun q o hq=>pr q o (hz q o hq)),i,k.1,none_less hz k.2⟩
def WayOk(p:Inhabited ProtD)(C B b:Nat)(x:Hp)(a q c:Nat)(n:Int)(k:Nat)(v:World)(rv:Value):Prop:=
 ∀(p1:Inhabited ProtD) (bd:Nat) (W:World),@SOq p1 C B W b x→(@default ProtD p1).z bd=some (deedO b k a q c n rv)→(∀m ob,(@default ProtD p).z m=some ob→(@default ProtD p1).z m=some ob)→Ext v W→Calls Tryz.prog (wayF k) #[.pointer (some ⟨bd,0,none⟩)] W fun e w'=>@WayPost p1 C B b x a q c n k v e w'
theorem call_way(k:Nat)(h1:1≤k)(h2:k≤24)(args:Array Value)(W:World):(callFunc (wayF k) args).run Tryz.prog W=.ok (.enter (wayF k) args) W:=by
 have h:k=1∨k=2∨k=3∨k=4∨k=5∨k=6∨k=7∨k=8∨k=9∨k=10∨k=11∨k=12∨k=13∨k=14∨k=15∨k=16∨k=17∨k=18∨k=19∨k=20∨k=21∨k=22∨k=23∨k=24:=by omega
 rcases h with rfl | rfl | rfl | rfl | rfl | rfl | rfl | rfl | rfl | rfl | rfl | rfl | rfl | rfl | rfl | rfl | rfl | rfl | rfl | rfl | rfl | rfl | rfl | rfl <;> first | exact(by kernel_rfl) | rfl
theorem attempt_in[p:Inhabited ProtD]{C B:Nat}{w:World}{b:Nat}{x:Hp}{a q c:Nat}{n:Int}{k ba bs:Nat}(h:SOq C B w b x)(h1:1≤k)(h2:k≤24)(h3:(n != 0)=false∨((n != 0)=true∧((k:Int) != 2)=false))(hr:(decide (0≤(a:Int)∧(a:Int)≤actA k) && (decide (0≤(q:Int)∧(q:Int)≤actB k) && decide (0≤(c:Int)∧(c:Int)≤actC k)))=true)(v:World)(hx:Ext v w)(Y:WayOk p C B b x a q c n k v (roomV ba bs)):
  Calls Tryz.prog 282 #[.pointer (some ⟨b,0,none⟩),actV k a q c n,roomV ba bs] w fun e w'=>WayPost C B b x a q c n k v e w':=by
 have H:=hide h;have YY:=hide Y;have QW:=hide (fun W=>wayOf_in k a q c n W h1 h2 h3 true hr);obtain⟨fw,hf⟩:∃f,f=wayF k:=⟨_,rfl⟩;obtain⟨m1,hm1⟩:∃m,m=actA k:=⟨_,rfl⟩;obtain⟨m2,hm2⟩:∃m,m=actB k:=⟨_,rfl⟩;obtain⟨m3,hm3⟩:∃m,m=actC k:=⟨_,rfl⟩;rw[←hf,←hm1,←hm2,←hm3] at QW;have CW:=hide (call_way k h1 h2);rw[←hf] at CW;have HF:=hide hf;clear h Y h1 h2 h3 hr hf hm1 hm2 hm3;go_enter Tryz.func282,Tryz.ntmps282;go_wp2_with fail;refine(unhide QW _).mono ?_;rintro e w1 ⟨rfl,x1⟩;have bx:w1.heap[w.heap.size]?=some (boxA k a q c n):=(x1.block w.heap.size (by simp [go_sem])).trans (show((w.heap.push _)[w.heap.size]?)=_ by rw[Array.getElem?_push_size];rfl);have ce:=fun j=>cell_of_row w1 w.heap.size j _ _ (0,0) bx
 have t0:w1.cell? ⟨w.heap.size,0,none⟩=some (iv k):=ce 0;have t1:w1.cell? ⟨w.heap.size,1,none⟩=some (iv a):=ce 1;have t2:w1.cell? ⟨w.heap.size,2,none⟩=some (iv q):=ce 2;have t3:w1.cell? ⟨w.heap.size,3,none⟩=some (iv c):=ce 3;have t4:w1.cell? ⟨w.heap.size,4,none⟩=some (iv n):=ce 4;have l1:w.heap.size<w1.heap.size:=cell_lt t0;have X1:=hide (show Ext w w1 from((Ext.refl w).alloc _).trans x1);clear bx ce x1;go_wp2_with fail;rw[unhide CW,Oper.upon_enter];obtain⟨W3,hW3⟩:∃W,W=(w1.alloc (.cells #[.int .i64 m1,.int .i64 m2,.int .i64 m3,.func (.func fw) #[] #[]] 288)).alloc (deedO b k a q c n (roomV ba bs)):=⟨_,rfl⟩;have x13:Ext w1 W3:=by rw[hW3];exact((Ext.refl w1).alloc _).alloc _
 have ob:W3.heap[w1.heap.size+1]?=some (deedO b k a q c n (roomV ba bs)):=by
  rw[hW3];show(((w1.heap.push _).push _)[w1.heap.size+1]?)=_;rw[←Array.size_push,Array.getElem?_push_size]
 have lt:=obj_lt ob;obtain⟨p1,o1,g1⟩:=SOq.enter ((unhide H).ext (unhide X1)) x13;have zd:(@default ProtD p1).z (w1.heap.size+1)=some (deedO b k a q c n (roomV ba bs)):=by rw[o1.z,if_pos ⟨by omega,lt⟩];exact ob
 have Y3:=unhide YY p1 (w1.heap.size+1) W3 g1 zd o1.sub (hx.trans ((unhide X1).trans x13));rw[←unhide HF] at Y3;unfold deedO at hW3;rw[←hW3];refine Y3.mono ?_;clear Y3 zd g1 ob lt hW3 t0 t1 t2 t3 t4 x13;have O1:=hide o1.sub;clear o1;rintro e w4 ⟨y,cd,nm,he,dr,g4,x4⟩;have he2:=unhide he;subst he2;have G4:=hide (show @SOq p (C+64000) B w4 b y from @SOq.less p p1 _ _ _ _ _ (unhide g4) (unhide O1));clear he g4;go_wp2_with fail;go_ret2;exact⟨y,cd,nm,rfl,unhide dr,unhide G4,x4⟩
def WaysOk(p:Inhabited ProtD)(C B b:Nat)(x:Hp)(a q c:Nat)(n:Int)(k:Nat)(v:World):Prop:=
 ∀(p1:Inhabited ProtD) (ba bs:Nat),(@default ProtD p1).z ba=some (boxA k a q c n)→(@default ProtD p1).z bs=some (boxS b)→(∀m ob,(@default ProtD p).z m=some ob→(@default ProtD p1).z m=some ob)→WayOk p1 C B b x a q c n k v (roomV ba bs)
theorem SOq.set1[Inhabited ProtD]{C B:Nat}{w:World}{b:Nat}{x:Hp}(h:SOq C B w b x)(u:Int):SOq C B (w.setCell ⟨b,1,none⟩ (iv u)) b { x with used:=u }:=by
 obtain⟨ar,kr,a4,n4,k4,a8,m8,k8,br,cB,cO,bn,pb,pa,pk,kn,hd,vf,F,vk,K,role,h,i,k⟩:=h;exact⟨ar,kr,a4,n4,k4,a8,m8,k8,br,cB,cO,bn,pb,pa,pk,kn,hd,vf,F,vk,K,role,h.boxed (x':={ x with used:=u }) (Only.setCell (S:=fun q=>q=b) (Only.refl _ w) (p:=⟨b,1,none⟩) rfl _) (h.sb.nb.set _ _) rfl rfl rfl (h.sb.bx.set1 u) (fun k hk=>cell_other _ (.inr (by omega))),i.alike (SameSt.cells rfl) rfl rfl,k⟩
theorem step_idle{x:Hp}{n k:Nat}(h:StepIs x n k)(hp:x.phase=0):itU k x=x:=by
 have e:k=0:=by
  rcases Nat.eq_zero_or_pos k with e | e
  ·exact e
  ·exact absurd hp (h.1 0 e)
 rw[e];rfl
def usedH(x:Hp)(u:Nat):Hp:={ x with used:=x.used+u }
theorem made_any[Inhabited ProtD]{C B:Nat}{w:World}{b:Nat}{x:Hp}(h:SOq C B w b x)(hC:C+16000≤1000000000)(u:Nat)(hu:u≤201)(s:Snd (usedH x u))(v:World)(hv:v.heap.size≤B)(hx:Ext v w):
  Calls Tryz.prog 321 #[.pointer (some ⟨b,0,none⟩),.int .i64 u] w fun e w'=>∃y,Hid (e=.returned (.tuple #[]))∧Hid (PaceIs (usedH x u) u y)∧Hid (SOq (C+16000) B w' b y)∧Ext v w':=by
 obtain⟨c0,c1,c2,c5,c9,c10,c12⟩:=h.nums;have fz:=h.boxN.2.2.1;have lo:v.heap.size≤b:=Nat.le_trans hv h.boxN.2.2.2.1;have us:0≤x.used+u∧x.used+u≤4000:=by have h3:=s.r3;have h1:=s.r1.room;unfold R3 at h3;simp only [usedH] at h3 h1;omega
 have wu:wrap64 (x.used+(u:Int))=x.used+(u:Int):=wrap_fit _ (by omega) (by omega);have pe:0≤x.per∧x.per≤64:=s.r1.per;have hbw:b<w.heap.size:=cell_lt c0;have H1:=hide (show SOq C B (w.setCell ⟨b,1,none⟩ (iv (x.used+u))) b (usedH x u) from h.set1 _);have X1:=hide (show Ext v (w.setCell ⟨b,1,none⟩ (iv (x.used+u))) from hx.setCell (p:=⟨b,1,none⟩) lo _);have S:=hide s;clear h s;by_cases h0:u=0∨x.per=0
 ·have PA:=hide (show PaceIs (usedH x u) u (usedH x u) from .inl ⟨by
   unfold paceB usedH;rcases h0 with e | e
   ·rw[e];simp
   ·rw[e];rfl,rfl⟩)
  rcases (show u=0∨(u≠0∧x.per=0) by omega) with e | ⟨e,e2⟩
  ·have e':((u:Int) == 0)=true:=by rw[e];rfl
   clear e h0;go_enter Tryz.func321,Tryz.ntmps321;go_wp2_with fail;refine bodyPost_ret (results_none rfl _ _ _) rfl ?_;exact⟨_,rfl,unhide PA,(unhide H1).wide (by omega),unhide X1⟩
  ·have e':((u:Int) == 0)=false:=by simp only [beq_eq_false_iff_ne];omega
   rw[e2] at c9;go_enter Tryz.func321,Tryz.ntmps321;go_wp2_with fail;refine bodyPost_ret (results_none rfl _ _ _) rfl ?_;exact⟨_,rfl,unhide PA,(unhide H1).wide (by omega),unhide X1⟩
 ·have e1:((u:Int) == 0)=false:=by simp only [beq_eq_false_iff_ne];omega
  have e2:(x.per == 0)=false:=by simp only [beq_eq_false_iff_ne];omega
  obtain⟨m,hm⟩:∃m,m=x.per.toNat*u:=⟨_,rfl⟩
  have wp:wrap64 (x.per*(u:Int))=(m:Int):=by
   rw[hm]
   have m:x.per*(u:Int)=((x.per.toNat*u:Nat):Int):=by
    have:((x.per.toNat:Nat):Int)=x.per:=Int.toNat_of_nonneg pe.1;rw[Int.natCast_mul,this]
   have m2:x.per.toNat*u≤64*201:=Nat.mul_le_mul (by omega) hu;rw[m];exact wrap_fit _ (by omega) (by omega)
  have nz:m≠0:=by rw[hm];exact Nat.mul_ne_zero (by omega) (by omega)
  by_cases hp:x.phase=0
  ·by_cases hs:x.used+u > x.start
   ·have ST:stepH (usedH x u) ((usedH x u).per.toNat*u)=toPh (usedH x u) 1 0:=by unfold stepH;rw[if_pos ⟨hp,hm ▸ nz⟩]
    have PB:paceB (usedH x u) u=false:=by
     unfold paceB usedH;have:(u == 0)=false:=by simp only [beq_eq_false_iff_ne];omega
     have n2:decide (x.used+(u:Int)≤x.start)=false:=decide_eq_false (by omega);simp only [e2,this,n2,Bool.and_false,Bool.or_false]
    have PA:=hide (show ∀k,StepIs (toPh (usedH x u) 1 0) m k→PaceIs (usedH x u) u (itU k (toPh (usedH x u) 1 0)) from fun k hk=>.inr ⟨PB,k,by rw[ST];exact hm ▸ hk,by rw[ST]⟩);have SB:=hide ((unhide S).begin hp);have hP:=hide hp;rw[hp] at c5;clear PB ST nz hp hm;go_enter Tryz.func321,Tryz.ntmps321;go_wp2_with fail;go_quiet (fail);go_wp2_with fail;refine(begin_any ((unhide H1).ext (Ext.drewN (Ext.refl _) nq)) (unhide hP) v hv (Ext.drewN (unhide X1) nq)).mono ?_;rintro e w1 ⟨rfl,h1,x1⟩;have d9:w1.cell? ⟨b,9,none⟩=some (iv x.per):=(unhide h1).nums.2.2.2.2.1;have hb1:b<w1.heap.size:=cell_lt d9;go_wp2_with fail;refine(work_any m (unhide h1) hC (unhide SB) v hv x1).mono ?_;rintro e w2 ⟨k,rfl,st,h2,x2⟩;go_wp2_with fail
    go_end0
    exact⟨_,rfl,unhide PA k (unhide st),unhide h2,x2⟩
   ·have PA:=hide (show PaceIs (usedH x u) u (usedH x u) from .inl ⟨by
     unfold paceB usedH;have n2:decide (x.used+(u:Int)≤x.start)=true:=decide_eq_true (by omega);simp only [hp,n2,Bool.and_true,beq_self_eq_true,Bool.or_true],rfl⟩)
    have hP:=hide hp;rw[hp] at c5;clear nz hp hm;go_enter Tryz.func321,Tryz.ntmps321;go_wp2_with fail;go_quiet (fail);go_wp2_with fail;refine(work_any m (((unhide H1).wide (show C≤C+16000 by omega)).ext (Ext.drewN (Ext.refl _) nq)) hC (unhide S) v hv (Ext.drewN (unhide X1) nq)).mono ?_;rintro e w2 ⟨k,rfl,st,h2,x2⟩;rw[step_idle (unhide st) (unhide hP)] at h2;go_wp2_with fail
    go_end0
    exact⟨_,rfl,unhide PA,unhide h2,x2⟩
  ·have ST:stepH (usedH x u) ((usedH x u).per.toNat*u)=usedH x u:=by unfold stepH;rw[if_neg (fun h=>hp h.1)]
   have pf:(x.phase == 0)=false:=by simpa using hp
   have PB:paceB (usedH x u) u=false:=by
    unfold paceB usedH;have:(u == 0)=false:=by simp only [beq_eq_false_iff_ne];omega
    simp only [e2,this,pf,Bool.false_and,Bool.or_false]
   have PA:=hide (show ∀k,StepIs (usedH x u) m k→PaceIs (usedH x u) u (itU k (usedH x u)) from fun k hk=>.inr ⟨PB,k,by rw[ST];exact hm ▸ hk,by rw[ST]⟩);clear PB ST nz hp hm;go_enter Tryz.func321,Tryz.ntmps321;go_wp2_with fail;go_quiet (fail);go_wp2_with fail;refine(work_any m (((unhide H1).wide (show C≤C+16000 by omega)).ext (Ext.drewN (Ext.refl _) nq)) hC (unhide S) v hv (Ext.drewN (unhide X1) nq)).mono ?_;rintro e w2 ⟨k,rfl,st,h2,x2⟩;go_wp2_with fail
   go_end0
   exact⟨_,rfl,unhide PA k (unhide st),unhide h2,x2⟩
theorem SOq.poke{p p1:Inhabited ProtD}{lo hi:Nat}{cw:World}(o:Own p lo hi cw p1){C B:Nat}{w w':World}{b:Nat}{x:Hp}(h:@SOq p1 C B w b x)(r:Nat)(hr:lo≤r∧r<hi)(rm:1≤x.room)(hn:w.cell? ⟨r,2,none⟩=none)(on:Only (fun q=>q=r) w w'):@SOq p C B w' b x:=by
 obtain⟨ar,kr,a4,n4,k4,a8,m8,k8,br,cB,cO,bn,pb,pa,pk,kn,hd,vf,F,vk,K,role,h,i,k⟩:=h;have h0:=h;obtain⟨sb,_,_,pr⟩:=h0
 have nb:bn≠r:=fun e=>by
  obtain⟨⟨u,hu⟩,_⟩:=sb.lo.2.2.2 2 (by omega);rw[e,hn] at hu;cases hu
 obtain⟨ob,hb⟩:=obj_some (w:=cw) (q:=r) (by have:=o.h;omega);have r1:=(pr r ob (by rw[o.z r,if_pos hr];exact hb)).1;refine⟨ar,kr,a4,n4,k4,a8,m8,k8,br,cB,cO,bn,pb,pa,pk,kn,hd,vf,F,vk,K,role,SAt.far (z:=(@default ProtD p1).z) (z2:=(@default ProtD p).z) h on.size (fun q hq hc=>on.block q hq (fun e=>?_)) (fun _ _ _=>rfl) (fun q o2 hq=>?_),i,k.1,none_less o.sub k.2⟩
 ·rcases hc with hc | hc
  ·exact hc (by rw[e];exact r1)
  ·exact nb (hc.symm.trans e)
 ·obtain⟨a1,a2⟩:=pr q o2 (o.sub q o2 hq);exact⟨a1,(on.block q (obj_lt a2) (fun e=>by have:=o.l q o2 hq;omega)).trans a2⟩
theorem answer_fine[p:Inhabited ProtD]{C B:Nat}{w:World}{b:Nat}{x:Hp}{a q c:Nat}{n:Int}{k:Nat}(h:SOq C B w b x)(h1:1≤k)(h2:k≤24)(h3:(n != 0)=false∨((n != 0)=true∧((k:Int) != 2)=false))(hr:(decide (0≤(a:Int)∧(a:Int)≤actA k) && (decide (0≤(q:Int)∧(q:Int)≤actB k) && decide (0≤(c:Int)∧(c:Int)≤actC k)))=true)(v:World)(hx:Ext v w)(hz:∀y cd nm,DoR x a q c n y cd nm k→cd=0)(hm:∀y cd nm,DoR x a q c n y cd nm k→1≤y.room)(Y:∀p1,(∀m ob,(@default ProtD p).z m=some ob→(@default ProtD p1).z m=some ob)→WaysOk p1 C B b x a q c n k v):
  Calls Tryz.prog 280 #[.pointer (some ⟨b,0,none⟩),actV k a q c n] w fun e w'=>∃(y:Hp) (nm:Int),Hid (e=.returned (ansV 0 nm))∧Hid (DoR x a q c n y 0 nm k)∧Hid (SOq (C+64000) B w' b y)∧Ext v w':=by
 have xw:Ext w (ansW w k a q c n):=((Ext.refl w).alloc _).alloc _;obtain⟨p1,o1,g1⟩:=SOq.enter h xw;rw[ansW_size] at o1
 have QA:=hide (show Calls Tryz.prog 282 #[.pointer (some ⟨b,0,none⟩),actV k a q c n,roomV (w.heap.size+1+1+1) (w.heap.size+1+1)] ((((w.alloc (.cells #[iv k,iv a,iv q,iv c,iv n] 39)).alloc (.cells #[.int .i64 0,.int .i64 0] 41)).alloc (.cells #[.pointer (some ⟨b,0,none⟩)] 86)).alloc (.cells #[iv k,iv a,iv q,iv c,iv n] 39)).drew fun e w'=>∃(y:Hp) (nm:Int),e=.returned (.tuple #[iv nm,.nilIface])∧Hid (DoR x a q c n y 0 nm k)∧Hid (@SOq p1 (C+64000) B w' b y)∧Ext v w' from by
  obtain⟨V,hV⟩:∃V,V=ansW w k a q c n:=⟨_,rfl⟩;have sV:V.heap.size=w.heap.size+1+1:=by rw[hV,ansW_size]
  show Calls _ _ _ (((ansW w k a q c n).alloc (boxS b)).alloc (boxA k a q c n)).drew _;rw[←hV,←sV];rw[←hV] at g1 xw;obtain⟨W,hW⟩:∃W,W=((V.alloc (boxS b)).alloc (boxA k a q c n)).drew:=⟨_,rfl⟩;have xW:Ext V W:=by rw[hW];exact(((Ext.refl V).alloc _).alloc _).drew
  have e2:W.heap[V.heap.size+1]?=some (boxA k a q c n):=by
   rw[hW];show(((V.heap.push _).push _)[V.heap.size+1]?)=_;rw[←Array.size_push,Array.getElem?_push_size]
  have e1:W.heap[V.heap.size]?=some (boxS b):=by
   rw[hW];show(((V.heap.push _).push _)[V.heap.size]?)=_;rw[Array.getElem?_push_lt (by rw[Array.size_push];omega),←Array.getElem?_eq_getElem,Array.getElem?_push_size]
  rw[←hW];obtain⟨p2,o2,g2⟩:=@SOq.enter p1 _ _ _ _ _ _ g1 xW;have l1:=obj_lt e1;have l2:=obj_lt e2;have z1:(@default ProtD p2).z V.heap.size=some (boxS b):=by rw[o2.z,if_pos ⟨by omega,l1⟩];exact e1
  have z2:(@default ProtD p2).z (V.heap.size+1)=some (boxA k a q c n):=by rw[o2.z,if_pos ⟨by omega,l2⟩];exact e2
  refine(@attempt_in p2 C B W b x a q c n k (V.heap.size+1) V.heap.size g2 h1 h2 h3 hr v (hx.trans (xw.trans xW)) (Y p1 o1.sub p2 _ _ z2 z1 o2.sub)).mono ?_;rintro e w' ⟨y,cd,nm,he,dr,g4,x4⟩;have c0:=hz y cd nm (unhide dr);subst c0;exact⟨y,nm,by have:=unhide he;simpa [errV] using this,dr,@SOq.less p1 p2 _ _ _ _ _ (unhide g4) o2.sub,x4⟩)
 have QR:=hide (fun W=>roomFor_any b k a q c n W);have BO:=hide (show ∀W z,@SOq p1 (C+64000) B W b z→W.heap[w.heap.size+1]?=some (.cells #[iv 0,iv 0] 41) from fun W z hz=>(SOq.own o1 hz (w.heap.size+1) (by omega) (by omega)).trans (ansW_obj w k a q c n));have BF:=hide (show ∀W z,@SOq p1 (C+64000) B W b z→∀j,W.frozen? ⟨w.heap.size+1,j,none⟩=false from fun W z hz j=>(World.frozen?_of_block (a:=⟨w.heap.size+1,j,none⟩) (SOq.own o1 hz (w.heap.size+1) (by omega) (by omega))).trans (by unfold ansW;simp [go_sem]));have PK:=hide (show ∀W W' z,@SOq p1 (C+64000) B W b z→1≤z.room→W.cell? ⟨w.heap.size+1,2,none⟩=none→Only (fun m=>m=w.heap.size+1) W W'→@SOq p (C+64000) B W' b z from fun W W' z hz hrm hn on=>SOq.poke o1 hz (w.heap.size+1) ⟨by omega,by omega⟩ hrm hn on);have HM:=hide hm;have hvw:=hx.size;clear h h1 h2 h3 hr Y hm hz g1 o1 xw;go_enter Tryz.func280,Tryz.ntmps280;go_wp2_with fail;go_region_with (first | (go_at_call 281;refine(answered_fine nm w3).mono ?_;rintro e w4 ⟨rfl,x4⟩;have bf:=fun m=>((bcell x4).2 (w.heap.size+1) m (cell_lt u0)).trans (bf m);have u0:=x4.keep u0;have u1:=x4.keep u1;have hb4:w.heap.size+1<w4.heap.size:=cell_lt u0;have X4:=hide x4;clear x4) | (go_at_call 282;refine(unhide QA).mono ?_;rintro e w3 ⟨y,nm,rfl,dr,g3,x3⟩;have bo:=unhide BO w3 y (unhide g3);have bf:=unhide BF w3 y (unhide g3);have u0:w3.cell? ⟨w.heap.size+1,0,none⟩=some (iv 0):=cell_of_row w3 _ 0 _ _ (0,0) bo;have u1:w3.cell? ⟨w.heap.size+1,1,none⟩=some (iv 0):=cell_of_row w3 _ 1 _ _ (0,0) bo;have u2:w3.cell? ⟨w.heap.size+1,2,none⟩=none:=cell_of_row w3 _ 2 _ _ (0,0) bo;have BX:=hide bo;have X3:=hide x3;clear bo x3) | (go_at_call 283;refine(unhide QR _).mono ?_;rintro e w2 ⟨rfl,rfl⟩))
 all_goals
  have u24:w4.cell? ⟨w.heap.size+1,2,none⟩=none:=(World.cell?_of_block (a:=⟨w.heap.size+1,2,none⟩) ((unhide X4).block _ (obj_lt (unhide BX)))).trans u2;have GF:=hide (unhide PK w4 ((w4.setCell ⟨w.heap.size+1,0,none⟩ (.int .i64 0)).setCell ⟨w.heap.size+1,1,none⟩ (.int .i64 nm)) y (@SOq.ext p1 _ _ _ _ _ _ (unhide g3) (unhide X4)) (unhide HM y 0 nm (unhide dr)) u24 ((Only.setCell (S:=fun m=>m=w.heap.size+1) (Only.refl _ w4) (p:=⟨w.heap.size+1,0,none⟩) rfl _).setCell (p:=⟨w.heap.size+1,1,none⟩) rfl _));have XF:=hide (show Ext v ((w4.setCell ⟨w.heap.size+1,0,none⟩ (.int .i64 0)).setCell ⟨w.heap.size+1,1,none⟩ (.int .i64 nm)) from(((unhide X3).trans (unhide X4)).setCell (p:=⟨w.heap.size+1,0,none⟩) (show v.heap.size≤w.heap.size+1 by omega) _).setCell (p:=⟨w.heap.size+1,1,none⟩) (show v.heap.size≤w.heap.size+1 by omega) _);clear u24;go_wp2_with fail;refine bodyPost_ret (v:=ansV 0 nm) (by simp [results,Tryz.results280,go_sem,u0,u1]) rfl ?_;exact⟨y,nm,rfl,unhide dr,unhide GF,unhide XF⟩
theorem ways_3(p:Inhabited ProtD){C B b:Nat}{x:Hp}{a q c:Nat}{n:Int}{v:World}(s:Snd x)(ha:(a:Int)≤actA 3)(hv:v.heap.size≤B):WaysOk p C B b x a q c n 3 v:=fun _ _ _ _ _ _ p2 bd W g zd _ xv=>@way_3 p2 C B W b bd x a q c n _ g s zd (by have:(a:Int)≤15:=ha;omega) v hv xv
theorem ways_4(p:Inhabited ProtD){C B b:Nat}{x:Hp}{a q c:Nat}{n:Int}{v:World}(s:Snd x)(ha:(a:Int)≤actA 4)(hq:(q:Int)≤actB 4)(hv:v.heap.size≤B):WaysOk p C B b x a q c n 4 v:=fun _ _ _ _ _ _ p2 bd W g zd _ xv=>@way_4 p2 C B W b bd x a q c n _ g s zd (by have:(a:Int)≤15:=ha;omega) (by have:(q:Int)≤15:=hq;omega) v hv xv
theorem ways_7(p:Inhabited ProtD){C B b:Nat}{x:Hp}{a q c:Nat}{n:Int}{v:World}(s:Snd x)(ha:(a:Int)≤actA 7)(hq:(q:Int)≤actB 7)(hv:v.heap.size≤B):WaysOk p C B b x a q c n 7 v:=fun _ _ _ _ _ _ p2 bd W g zd _ xv=>@way_7 p2 C B W b bd x a q c n _ g s zd (by have:(a:Int)≤15:=ha;omega) (by have:(q:Int)≤15:=hq;omega) v hv xv
theorem ways_8(p:Inhabited ProtD){C B b:Nat}{x:Hp}{a q c:Nat}{n:Int}{v:World}(s:Snd x)(ha:(a:Int)≤actA 8)(hq:(q:Int)≤actB 8)(hv:v.heap.size≤B):WaysOk p C B b x a q c n 8 v:=fun _ _ _ _ _ _ p2 bd W g zd _ xv=>@way_8 p2 C B W b bd x a q c n _ g s zd (by have:(a:Int)≤15:=ha;omega) (by have:(q:Int)≤15:=hq;omega) v hv xv
theorem ways_11(p:Inhabited ProtD){C B b:Nat}{x:Hp}{a q c:Nat}{n:Int}{v:World}(s:Snd x)(ha:(a:Int)≤actA 11)(hv:v.heap.size≤B):WaysOk p C B b x a q c n 11 v:=fun _ _ _ _ _ _ p2 bd W g zd _ xv=>@way_11 p2 C B W b bd x a q c n _ g s zd (by have:(a:Int)≤15:=ha;omega) v hv xv
theorem ways_17(p:Inhabited ProtD){C B b:Nat}{x:Hp}{a q c:Nat}{n:Int}{v:World}(s:Snd x)(ha:(a:Int)≤actA 17):WaysOk p C B b x a q c n 17 v:=fun _ _ _ _ _ _ p2 bd W g zd _ xv=>@way_17 p2 C B W b bd x a q c n _ g s zd (by have:(a:Int)≤15:=ha;omega) v xv
theorem ways_18(p:Inhabited ProtD){C B b:Nat}{x:Hp}{a q c:Nat}{n:Int}{v:World}(s:Snd x)(hv:v.heap.size≤B):WaysOk p C B b x a q c n 18 v:=fun _ _ _ _ _ _ p2 bd W g zd _ xv=>@way_18 p2 C B W b bd x a q c n _ g s zd v hv xv
theorem ways_20(p:Inhabited ProtD){C B b:Nat}{x:Hp}{a q c:Nat}{n:Int}{v:World}(s:Snd x):WaysOk p C B b x a q c n 20 v:=fun _ _ _ _ _ _ p2 bd W g zd _ xv=>@way_20 p2 C B W b bd x a q c n _ g s zd v xv
theorem ways_21(p:Inhabited ProtD){C B b:Nat}{x:Hp}{a q c:Nat}{n:Int}{v:World}(s:Snd x):WaysOk p C B b x a q c n 21 v:=fun _ _ _ _ _ _ p2 bd W g zd _ xv=>@way_21 p2 C B W b bd x a q c n _ g s zd v xv
theorem ways_22(p:Inhabited ProtD){C B b:Nat}{x:Hp}{a q c:Nat}{n:Int}{v:World}(s:Snd x)(hC:C+64000≤1000000000)(hc:(c:Int)≤actC 22)(hv:v.heap.size≤B):WaysOk p C B b x a q c n 22 v:=fun _ _ _ _ _ _ p2 bd W g zd _ xv=>@way_22 p2 C B W b bd x a q c n _ g s zd hC (by have:(c:Int)≤100000:=hc;omega) v hv xv
end Go.Proofs.YtddkhnclmeikfaaGreat
