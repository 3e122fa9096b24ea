import Derived.Test.YtnegjhddmfiefaaGreatDoorDn20
import Derived.Test.YtnegjhddmfiefaaGreatDoorEa
set_option maxRecDepth 100000
set_option maxHeartbeats 1000000
namespace Go.Proofs.YtnegjhddmfiefaaGreatDoor
open Go.RowKit
attribute [local go_sem ↓] Go.wp_at_zero Go.wp_at_succ
structure GCel[Inhabited ProtD](B:Nat)(w:World)(g:Nat)(x:Hp)(i bc kc:Nat)(ap:Option Addr)(kp:Nat):Prop where
 c4:w.cell? ⟨g,4,none⟩=some (.slice (some ⟨bc,0,none⟩) x.cells.length kc)
 s:S7 w bc (i*8) (x.c i)
 p7:w.cell? ⟨bc,i*8+7,none⟩=some (.slice ap (x.c i).prs.length kp)
 f:∀j,w.frozen? ⟨bc,j,none⟩=false
 lo:B≤bc∧bc<w.heap.size
 set2:∀(W:World) (u:Int),Ext w W→GOk B (W.setCell ⟨bc,i*8+2,none⟩ (iv u)) g (setcH x i (weakC (x.c i) u))
 set3:∀(W:World) (u:Int),Ext w W→GOk B (W.setCell ⟨bc,i*8+3,none⟩ (iv u)) g (setcH x i (lastC (x.c i) u))
theorem GOk.cel[Inhabited ProtD]{B:Nat}{w:World}{g:Nat}{x:Hp}(h:GOk B w g x)(i:Nat)(hi:i<x.cells.length):∃bc kc ap kp,GCel B w g x i bc kc ap kp:=by
 obtain⟨ar,kr,ac,kc,vg,br,bc,pb,pa,pk,role,h⟩:=h;have hn:0<x.cells.length:=by omega
 refine⟨bc,kc,pa i,pk i,?_,h.rw.s i hi,h.rw.p7 i hi,(h.rw.nc hn).1.2,⟨(h.rw.nc hn).2,(h.rw.nc hn).1.1⟩,fun W u e=>?_,fun W u e=>?_⟩
 ·have:=h.bx.2.2.2.2.1;rw[h.hc hn] at this;exact this
 ·have g1:=h.ext e;obtain⟨a0,a1,a2,a3,a4,a5,a6⟩:=g1.rw.s i hi;refine⟨ar,kr,ac,kc,vg,br,bc,pb,pa,pk,role,g1.setc hi rfl (Only.setCell (S:=fun q=>q=bc) (Only.refl _ W) (p:=⟨bc,i*8+2,none⟩) rfl _) ⟨?_,?_,World.cell?_setCell_same _ _ _ a2,?_,?_,?_,?_⟩ (fun j hj=>cell_other _ (.inr (by omega))) ((g1.rw.nc hn).1.set _ _)⟩
  ·rw[cell_other _ (.inr (by omega))];exact a0
  ·rw[cell_other _ (.inr (by omega))];exact a1
  ·rw[cell_other _ (.inr (by omega))];exact a3
  ·rw[cell_other _ (.inr (by omega))];exact a4
  ·rw[cell_other _ (.inr (by omega))];exact a5
  ·rw[cell_other _ (.inr (by omega))];exact a6
 ·have g1:=h.ext e;obtain⟨a0,a1,a2,a3,a4,a5,a6⟩:=g1.rw.s i hi;refine⟨ar,kr,ac,kc,vg,br,bc,pb,pa,pk,role,g1.setc hi rfl (Only.setCell (S:=fun q=>q=bc) (Only.refl _ W) (p:=⟨bc,i*8+3,none⟩) rfl _) ⟨?_,?_,?_,World.cell?_setCell_same _ _ _ a3,?_,?_,?_⟩ (fun j hj=>cell_other _ (.inr (by omega))) ((g1.rw.nc hn).1.set _ _)⟩
  ·rw[cell_other _ (.inr (by omega))];exact a0
  ·rw[cell_other _ (.inr (by omega))];exact a1
  ·rw[cell_other _ (.inr (by omega))];exact a2
  ·rw[cell_other _ (.inr (by omega))];exact a4
  ·rw[cell_other _ (.inr (by omega))];exact a5
  ·rw[cell_other _ (.inr (by omega))];exact a6
abbrev doW1(w:World):World:=w.alloc (.cells #[iv 0,iv 0] 193)
structure ABox(w W:World):Prop where
 r0:W.cell? ⟨w.heap.size,0,none⟩=some (iv 0)
 r1:W.cell? ⟨w.heap.size,1,none⟩=some (iv 0)
 rf:∀j,W.frozen? ⟨w.heap.size,j,none⟩=false
theorem ABox.new(w:World):ABox w (doW1 w):=⟨by simp [go_sem],by simp [go_sem],fun j=>by simp [go_sem]⟩
theorem GOk.abox{p p1:Inhabited ProtD}{B:Nat}{w W:World}{g:Nat}{y:Hp}(o:Own p w.heap.size (doW1 w).heap.size (doW1 w) p1)(h:@GOk p1 B W g y):ABox w W:=by
 have e:=GOk.own o h w.heap.size (Nat.le_refl _) (by simp [doW1]);have n:=ABox.new w;exact⟨(World.cell?_of_block (a:=⟨w.heap.size,0,none⟩) e).trans n.r0,(World.cell?_of_block (a:=⟨w.heap.size,1,none⟩) e).trans n.r1,fun j=>(World.frozen?_of_block (a:=⟨w.heap.size,j,none⟩) e).trans (n.rf j)⟩
theorem GOk.done1{p p1:Inhabited ProtD}{B:Nat}{w W:World}{g:Nat}{y:Hp}(o:Own p w.heap.size (doW1 w).heap.size (doW1 w) p1)(h:@GOk p1 B W g y)(cd nm:Int):@GOk p B (putA W w.heap.size cd nm) g y:=
 GOk.leave o h (Only.setCell (Only.setCell (Only.refl _ W) (p:=⟨w.heap.size,0,none⟩) ⟨Nat.le_refl _,by simp [doW1]⟩ _) (p:=⟨w.heap.size,1,none⟩) ⟨Nat.le_refl _,by simp [doW1]⟩ _)
theorem l5due_any[p:Inhabited ProtD](B g:Nat)(x:Hp)(a:Nat)(w:World)(h:GOk B w g x)(s:Snd x)(ha:a<16)(v:World)(hv:v.heap.size≤B)(hx:Ext v w):
  Calls Tryz.prog 181 #[.pointer (some ⟨g,0,none⟩),.int .i64 a] w fun e w'=>∃(y:Hp) (nm:Int),e=.returned (ansV 0 nm)∧Hid (TellIs x a y nm)∧Hid (GOk B w' g y)∧Ext v w':=by
 obtain⟨p1,o1,g1⟩:=GOk.enter h (w0:=doW1 w) ((Ext.refl w).alloc _);have O1:=hide o1;have G0:=hide g1;have r16:=hide s.r1.regs
 have QN:=hide (show Calls Tryz.prog 217 #[.pointer (some ⟨g,0,none⟩)] (doW1 w) fun e w'=>∃r:Int,e=.returned (.int .i64 r)∧Hid (DueTo x x.cells.length r)∧Ext (doW1 w) w' from by
  obtain⟨ar,kr,ac,kc,vg,br,bc,pb,pa,pk,role,h⟩:=g1;obtain⟨ag,kg,hat⟩:=h.hat s;refine(l4next_any x g _ hat s.ok.n8).mono ?_;rintro e w' h2;exact h2)
 have V0:=hide (show v.heap.size≤w.heap.size from hx.size);have XD:=hide (show Ext v (doW1 w) from hx.alloc _);have i0:(0:Int)≤(a:Int):=by omega
 have i1:(a:Int)<16:=by omega
 clear h s o1 g1;go_enter Tryz.func181,Tryz.ntmps181;go_wp2_with fail;refine(unhide QN).mono ?_;rintro e w1 ⟨r,rfl,hd,x1⟩;have X1:=hide ((unhide XD).trans x1);have G1:=hide ((unhide G0).ext x1);clear x1 XD G0 QN;by_cases h0:r<0
 ·have D:=hide (show DueTo x x.cells.length (-1) by
   rcases unhide hd with⟨e,h⟩ | ⟨i,e,_⟩
   ·exact .inl ⟨rfl,h⟩
   ·omega)
  clear hd;obtain⟨br,kr,hr⟩:=(unhide G1).regs (unhide r16);have R1:=hide hr;have c3:=hr.c3;obtain⟨r0,r1,r2⟩:=hr.r a ha;have f:=hr.f;have hg1:g<w1.heap.size:=cell_lt c3;have hb1:br<w1.heap.size:=cell_lt r0;have hbB:=hr.lo.1;have FN:=hide (show GOk B (wordO w1 br (a*3) Wd0) g (regTo x a Wd0)∧Ext v (wordO w1 br (a*3) Wd0) from⟨hr.set w1 a Wd0 (Ext.refl _) ha,(wordO_only w1 br (a*3) Wd0).ext (unhide X1) (fun q hq e=>by omega)⟩);obtain⟨W2,hW2⟩:∃W,W=wordO w1 br (a*3) Wd0:=⟨_,rfl⟩;rw[←hW2] at FN;unfold wordO Wd0 at hW2;clear hr;go_wp2_with fail;rw[←hW2];refine(l5fine_any 0 _).mono ?_;rintro e w3 ⟨rfl,x3⟩;have G3:=hide ((unhide FN).1.ext x3);have X3:=hide ((unhide FN).2.trans x3);obtain⟨u5,u6,u7⟩:=GOk.abox (unhide O1) (unhide G3);have hw3:w.heap.size<w3.heap.size:=cell_lt u5;clear x3 FN hW2 c3 r0 r1 r2 f;go_wp2_with fail;refine bodyPost_ret (v:=ansV 0 0) (by simp [results,Tryz.results181,go_sem,u5,u6]) rfl ?_;exact⟨_,0,rfl,.inl ⟨unhide D,rfl,rfl⟩,GOk.done1 (unhide O1) (unhide G3) 0 0,putA_ext (unhide X3) (unhide V0) 0 0⟩
 ·obtain⟨i,hi,hil,D⟩:∃i:Nat,r=(i:Int)∧i<x.cells.length∧Hid (DueTo x x.cells.length (i:Int)):=by
   rcases (unhide hd).form with e | ⟨i,e,h⟩
   ·omega
   ·exact⟨i,e,h,by have:=unhide hd;rw[e] at this;exact this⟩
  subst hi;clear hd;obtain⟨bc,kc,ap,kp,hc⟩:=(unhide G1).cel i hil;have c4:=hc.c4;obtain⟨q0,q1,q2,q3,q4,q5,q6⟩:=hc.s;have fc:=hc.f;have hg0:g<w1.heap.size:=cell_lt c4;have hb0:bc<w1.heap.size:=cell_lt q3;have k0:(0:Int)≤(i:Int):=by omega
  have k1:(i:Int)<(x.cells.length:Int):=by omega
  have G2:=hide (hc.set3 w1 3 (Ext.refl _));have X2:=hide ((unhide X1).setCell (p:=⟨bc,i*8+3,none⟩) (Nat.le_trans hv hc.lo.1) (iv 3));obtain⟨W1,hW1⟩:∃W,W=w1.setCell ⟨bc,i*8+3,none⟩ (iv 3):=⟨_,rfl⟩;rw[←hW1] at G2 X2;obtain⟨br,kr,hr⟩:=(unhide G2).regs (show(setcH x i (lastC (x.c i) 3)).regs.length=16 from unhide r16);have c3:=hr.c3;obtain⟨r0,r1,r2⟩:=hr.r a ha;have f:=hr.f;have hg1:g<W1.heap.size:=cell_lt c3;have hb1:br<W1.heap.size:=cell_lt r0;have hbB:=hr.lo.1;have FN:=hide (show GOk B (wordO W1 br (a*3) ⟨2,0,i⟩) g (regTo (setcH x i (lastC (x.c i) 3)) a ⟨2,0,i⟩)∧Ext v (wordO W1 br (a*3) ⟨2,0,i⟩) from⟨hr.set W1 a ⟨2,0,i⟩ (Ext.refl _) ha,(wordO_only W1 br (a*3) ⟨2,0,i⟩).ext (unhide X2) (fun q hq e=>by omega)⟩);obtain⟨W2,hW2⟩:∃W,W=wordO W1 br (a*3) ⟨2,0,i⟩:=⟨_,rfl⟩;rw[←hW2] at FN;unfold wordO at hW2;clear hr hc
  go_upto_region 6 with(fail)
  rw[←hW1];clear hW1 c4 q0 q1 q2 q3 q4 q5 q6 fc hg0 hb0;go_wp2_with fail;rw[←hW2];refine(l5fine_any 1 _).mono ?_;rintro e w3 ⟨rfl,x3⟩;have G3:=hide ((unhide FN).1.ext x3);have X3:=hide ((unhide FN).2.trans x3);obtain⟨u5,u6,u7⟩:=GOk.abox (unhide O1) (unhide G3);have hw3:w.heap.size<w3.heap.size:=cell_lt u5;clear x3 FN hW2 c3 r0 r1 r2 f;go_wp2_with fail;refine bodyPost_ret (v:=ansV 0 1) (by simp [results,Tryz.results181,go_sem,u5,u6]) rfl ?_;exact⟨_,1,rfl,.inr ⟨i,unhide D,rfl,rfl⟩,GOk.done1 (unhide O1) (unhide G3) 0 1,putA_ext (unhide X3) (unhide V0) 0 1⟩
theorem l4settle_any[Inhabited ProtD]{B:Nat}{w:World}{g:Nat}{x:Hp}{ar:Option Addr}{kr:Nat}{ac:Option Addr}{kc:Nat}{vg:Value}{br bc:Nat}(h:GK B w g x ar kr ac kc vg br bc)(s:Snd x)(a:World)(ha:a.heap.size≤B)(hx:Ext a w):
  Calls Tryz.prog 180 #[.pointer (some ⟨g,0,none⟩)] w fun e w'=>∃H:Nat→Bool,e=.returned (.tuple #[.int .i64 (goneTo x H x.cells.length),.int .i64 (dueN x H x.cells.length)])∧Hid (∀i,H i=true↔Held x i)∧GOk B w' g (settleH x H)∧Ext a w':=by
 have G0:=hide h;have S:=hide s;obtain⟨pb,pa,pk,role,h⟩:=h;obtain⟨ag,kg,hat⟩:=h.hat s;have QH:=hide (l2holds_any x g w hat s.r2 s.r4 s.ok.n8);have n8:=s.ok.n8;have hgw:g<w.heap.size:=h.nf.1;have r0:0<x.regs.length:=by rw[s.r1.regs];omega
 have USED:=hide (show 0≤x.used∧x.used≤4000 by have h1:=s.r3.1;have h2:=s.r3.2;have h3:=s.r1.room;omega);have BC:=hide (show 0<x.cells.length→bc<w.heap.size from fun hn=>(h.rw.nc hn).1.1);clear h s hat;go_enter Tryz.func180,Tryz.ntmps180;go_wp2_with fail;refine(unhide QH).mono ?_;rintro e w1 ⟨v,L,rfl,sn,hL,q1⟩;obtain⟨H,hH⟩:∃H:Nat→Bool,H=(fun i:Nat=>decide ((i:Int)∈L)):=⟨_,rfl⟩;have HI:=hide (show ∀i,H i=true↔Held x i from fun i=>by rw[hH];simp only [decide_eq_true_eq];exact unhide hL i);have SN:=hide (show ∀j,j<x.cells.length→w1.cell? ⟨w.heap.size,j,none⟩=some (.bool (H j)) from fun j hj=>by rw[hH];exact sn.s j hj);have hs1:w.heap.size<w1.heap.size:=sn.hb.2;have G1:=hide ((unhide G0).ext q1);have X1:=hide (hx.trans q1);have c4:w1.cell? ⟨g,4,none⟩=some (.slice ac x.cells.length kc):=by obtain⟨_,_,_,_,h1⟩:=unhide G1;exact h1.bx.2.2.2.2.1
 have hg1:g<w1.heap.size:=cell_lt c4;clear hH sn hL QH G0;go_wp2_with fail;go_loopw [5,19] (fun gn si wr=>∃i:Nat,i≤x.cells.length∧si=.int .i64 i∧gn=.int .i64 (goneTo x H i)∧Hid (GK B wr g (cutTo x H i) ar kr ac kc vg br bc)∧Hid (∀j,j<x.cells.length→wr.cell? ⟨w.heap.size,j,none⟩=some (.bool (H j)))∧Hid (Ext a wr)) (fun _ si _=>x.cells.length-(intOf si).toNat)
 case atStart=>exact⟨0,Nat.zero_le _,rfl,rfl,unhide G1,unhide SN,unhide X1⟩
 case round=>
  clear G1 SN X1 c4 hg1 hs1;obtain⟨i,hi,rfl,rfl,hG,hS,hX⟩:=hrel;by_cases hlt:i<x.cells.length
  ·have c0:=unhide hS i hlt;have k0:(0:Int)≤(i:Int):=by omega
   have k1:(i:Int)<(x.cells.length:Int):=by omega
   cases hh:H i
   ·rw[hh] at c0;have E:=hide (show cutTo x H (i+1)=cutTo x H i by show(if H i=true then _ else _)=_;rw[if_neg (by simp [hh])]);have E2:=hide (show goneTo x H (i+1)=goneTo x H i by show(if H i=true then _ else _)=_;rw[if_neg (by simp [hh])]);go_wp2_with fail;go_roundw
    case rel=>exact⟨i+1,by omega,by go_num,by rw[unhide E2],by rw[unhide E];exact unhide hG,unhide hS,unhide hX⟩
    case measure=>simp [intOf];omega
   ·rw[hh] at c0;have HD:=hide ((unhide HI i).1 hh);obtain⟨pb1,pa1,pk1,role1,g1⟩:=unhide hG;have LEN:=hide (cutTo_len x H i);have CI:=hide (show(cutTo x H i).c i=x.c i by rw[cutTo_c x H i hi i,if_neg (by omega)]);have hn:0<(cutTo x H i).cells.length:=by rw[unhide LEN];omega
    have c4:=g1.bx.2.2.2.2.1;rw[g1.hc hn,unhide LEN] at c4;have p7:=g1.rw.p7 i (by rw[unhide LEN];exact hlt);rw[unhide CI] at p7;have hgr:g<wr.heap.size:=cell_lt c4;have hbr:bc<wr.heap.size:=cell_lt p7;have l200:=(unhide S).ok.p200 i hlt;have TOP:=hide (inH_top x H (cutTo x H i) i (by rw[unhide LEN];exact hlt) (unhide CI));have GT:=hide (show GK B wr g (inH x H (cutTo x H i) i (x.c i).prs.length) ar kr ac kc vg br bc by rw[unhide TOP];exact unhide hG);have NIL:=hide (show goes x H (x.c i) ((x.c i).prs.drop (x.c i).prs.length)=0 by rw[List.drop_length];rfl);clear g1;go_wp2_with fail;go_loopw [5,7] (fun gn sk wr=>∃k:Nat,k≤(x.c i).prs.length∧sk=.int .i64 ((k:Int)-1)∧gn=.int .i64 ((goneTo x H i:Int)+(goes x H (x.c i) ((x.c i).prs.drop k):Int))∧Hid (GK B wr g (inH x H (cutTo x H i) i k) ar kr ac kc vg br bc)∧Hid (∀j,j<x.cells.length→wr.cell? ⟨w.heap.size,j,none⟩=some (.bool (H j)))∧Hid (Ext a wr)) (fun _ sk _=>(intOf sk+1).toNat)
    case atStart=>exact⟨(x.c i).prs.length,Nat.le_refl _,rfl,by rw[unhide NIL];simp,unhide GT,unhide hS,unhide hX⟩
    case round=>
     clear GT hS hX hG c0 c4 p7 hgr hbr TOP NIL;obtain⟨k,hk,rfl,rfl,hG,hS,hX⟩:=hrel;cases k with
     | zero=>
      have E:=hide (cutTo_inH x H i hh);have E2:=hide (show goneTo x H (i+1)=goneTo x H i+goes x H (x.c i) ((x.c i).prs.drop 0) by show(if H i=true then _ else _)=_;rw[if_pos hh];rfl);go_wp2_with fail;go_roundw
      case rel=>exact⟨i+1,by omega,by go_num,by rw[unhide E2];simp,by rw[unhide E];exact unhide hG,unhide hS,unhide hX⟩
      case measure=>simp [intOf];omega
     | succ k=>
      have ek:(((k+1:Nat):Int)-1)=(k:Int):=by omega
      rw[ek];have hkl:k<(x.c i).prs.length:=by omega
      obtain⟨z,hz⟩:∃z,z=inH x H (cutTo x H i) i (k+1):=⟨_,rfl⟩;have HZ:=hide hz;rw[←hz] at hG;have ZL:=hide (show z.cells.length=x.cells.length by rw[hz,inH_len,unhide LEN]);have ZC:=hide (show z.c i={ x.c i with prs:=(x.c i).prs.take (k+1)++stay x H (x.c i) ((x.c i).prs.drop (k+1)) } by rw[hz];exact inH_c x H _ i (k+1) (by rw[unhide LEN];exact hlt));have ZST:=hide (show ∀q,(z.c q).st=(x.c q).st∧(z.c q).to=(x.c q).to from fun q=>by rw[hz];exact inH_st x H _ i (k+1) (by rw[unhide LEN];exact hlt) (cutTo_st x H i hi) q);obtain⟨m,hm⟩:∃m,m=(z.c i).prs.length:=⟨_,rfl⟩;have hmk:k<m:=by rw[hm,unhide ZC];simp;omega
      have hm200:m≤200:=by have h1:=stay_goes x H (x.c i) ((x.c i).prs.drop (k+1));rw[hm,unhide ZC];simp at h1 ⊢;omega
      obtain⟨pb2,pa2,pk2,role2,g2⟩:=unhide hG;have hiz:i<z.cells.length:=by rw[unhide ZL];exact hlt
      have hn:0<z.cells.length:=by omega
      have c4:=g2.bx.2.2.2.2.1;rw[g2.hc hn,unhide ZL] at c4;have p7:=g2.rw.p7 i hiz;rw[(g2.rw.pl i hiz (g2.rw.pw hiz (by rw[←hm];omega))).1,←hm] at p7;have s2:=(g2.rw.s i hiz).2.2.1;have wk:(z.c i).weak=(x.c i).weak:=by rw[unhide ZC]
      rw[wk] at s2;obtain⟨y,hy⟩:∃y,y=(x.c i).prs[k]:=⟨_,rfl⟩
      have PY:=hide (show PrAt wr (pb2 i) (k*6) y by
       have h1:=g2.rw.p i hiz k (by rw[←hm];exact hmk)
       have h2:(z.c i).p k=y:=by
        rw[hy,unhide ZC];simp only [Cl.p];rw[List.getD_eq_getElem?_getD,List.getElem?_append_left (by simp;omega),List.getElem?_take,if_pos (by omega),List.getElem?_eq_getElem hkl];rfl
       rw[h2] at h1;exact h1)
      obtain⟨e0,e1,e2,e3,e4,e5⟩:=unhide PY;have hgr:g<wr.heap.size:=cell_lt c4;have hbr:bc<wr.heap.size:=cell_lt p7;have hpr:pb2 i<wr.heap.size:=cell_lt e0;have t0:(0:Int)≤(k:Int):=by omega
      have t1:(k:Int)<(m:Int):=by omega
      have UO:=hide (show(x.c i).st=1∧0≤(x.c i).weak∧(x.c i).weak≤3 by
       have g:=(unhide HD).good (unhide S).r2 (unhide S).r4;have:=(unhide S).r2.1 i hlt;unfold CellOk UsedOk at this;have:=g.2.1;omega)
      have SEENW:=hide (show ∀W,Ext wr W→∀j,j<z.cells.length→W.cell? ⟨w.heap.size,j,none⟩=some (.bool (H j)) from fun W xw j hj=>xw.keep (unhide hS j (by rw[unhide ZL] at hj;exact hj)))
      have FK:=hide (show Formed y.key x.cells.length∧Formed y.val x.cells.length by
       have:=held_pair (unhide S) (unhide HD) k hkl;rw[←Cl.p_eq _ _ hkl,←hy] at this;exact this)
      have LOST:=hide (show ∀u,Formed u x.cells.length→∀W,Ext wr W→Calls Tryz.prog 215 #[.pointer (some ⟨g,0,none⟩),.slice (some ⟨w.heap.size,0,none⟩) x.cells.length x.cells.length,u.v] W fun e w'=>e=.returned (.bool (lostB x H u))∧Ext W w' from fun u hu W xw=>by
       have:=l4lost_any (g2.ext xw) H w.heap.size (unhide SEENW W xw) u (by rw[unhide ZL];exact hu) (by rw[res_same (unhide ZST),unhide ZL];exact res_in (unhide S).r2 hu);rw[unhide ZL,lost_same (unhide ZST)] at this;exact this)
      have SC:=hide (show scanI x=(i:Int)→0≤(cutTo x H i).sub∧(cutTo x H i).sub≤(x.c i).prs.length from fun e=>by rw[cutTo_sub x H i e i (Nat.le_refl _)];exact scan_sub (unhide S) hlt (unhide UO).1 e);have GONE:=hide (fun q:goB x H (x.c i) y=true=>hide (show goes x H (x.c i) ((x.c i).prs.drop k)=goes x H (x.c i) ((x.c i).prs.drop (k+1))+1 by rw[drop_cons _ k hkl,goes_cons,←hy,if_pos q]));have KEEP:=hide (fun q:goB x H (x.c i) y=false=>And.intro (hide (show goes x H (x.c i) ((x.c i).prs.drop k)=goes x H (x.c i) ((x.c i).prs.drop (k+1)) by rw[drop_cons _ k hkl,goes_cons,←hy,if_neg (by simp [q])])) (hide (show inH x H (cutTo x H i) i k=z by rw[unhide HZ];exact inH_keep x H _ i k hkl (by rw[←hy];exact q) (fun e=>(unhide SC e).2))));have NUM:=hide (inH_num x H (fun q hq=>(unhide S).ok.p200 q hq) i (k+1) hlt n8 (unhide USED) (unhide S).r1.sub);rw[←unhide HZ] at NUM;have SIZ:=hide (show w.heap.size<wr.heap.size from cell_lt (unhide hS i hlt))
      have CUT:=hide (fun q:goB x H (x.c i) y=true=>show ∀W,Ext wr W→Calls Tryz.prog 216 #[.pointer (some ⟨g,0,none⟩),.int .i64 i,.int .i64 k] W fun e w'=>e=.returned (.tuple #[])∧GK B w' g (inH x H (cutTo x H i) i k) ar kr ac kc vg br bc∧(∀j,j<x.cells.length→w'.cell? ⟨w.heap.size,j,none⟩=some (.bool (H j)))∧Ext a w' from fun W xw=>by
       have zr:z.regs.length=x.regs.length:=by rw[unhide HZ];show(cutTo x H i).regs.length=_;rw[(cutTo_same x H i).2.2.2]
       refine(l4cut_any ((unhide hG).ext xw) i k hiz (by rw[←hm];exact hmk) (by rw[zr];exact r0) (by rw[←hm];exact hm200) (unhide NUM).1 (unhide NUM).2 (by rw[unhide ZL];exact n8) a ha ((unhide hX).trans xw)).mono ?_;rintro e w4 ⟨rfl,g4,f4,x4⟩;refine⟨rfl,?_,fun j hj=>?_,x4⟩
       ·rw[unhide HZ] at g4;rw[←inH_cut x H (cutTo x H i) i k (by rw[unhide LEN];exact hlt) hkl (by rw[←hy];exact q) (unhide SC) (cutTo_scan x H i)];exact g4
       ·refine(World.cell?_of_block (a:=⟨w.heap.size,j,none⟩) (f4.2 w.heap.size (Nat.lt_of_lt_of_le (unhide SIZ) xw.size) (by omega) (by have:=unhide BC (by omega);omega))).trans (xw.keep (unhide hS j hj)))
      have GB:=hide (show goB x H (x.c i) y=((wkB (x.c i) && lostB x H y.key) || (wvB (x.c i) && lostB x H y.val)) from rfl)
      have WG:=hide (show wrap64 ((goneTo x H i:Int)+(goes x H (x.c i) ((x.c i).prs.drop (k+1)):Int)+1)=(goneTo x H i:Int)+(goes x H (x.c i) ((x.c i).prs.drop (k+1)):Int)+1 from by
       have h1:=goneTo_le x H (fun q hq=>(unhide S).ok.p200 q hq) i hi;have h2:=goes_le x H (x.c i) ((x.c i).prs.drop (k+1));have h3:((x.c i).prs.drop (k+1)).length≤200:=by simp;omega
       exact wrap_wide _ (by omega) (by omega))
      have HM:=hide hm;clear g2 hy hz hm wk ek;have hw:(x.c i).weak=0∨(x.c i).weak=1∨(x.c i).weak=2∨(x.c i).weak=3:=by have:=(unhide UO).2;omega
      rcases hw with e | e | e | e
      ·rw[e] at s2;have t:goB x H (x.c i) y=false:=by rw[unhide GB];simp [wkB,wvB,e]
       clear e GB;go_wp2_with fail;go_roundw
       case rel=>exact⟨k,by omega,by go_num,by rw[unhide (unhide KEEP t).1],by rw[unhide (unhide KEEP t).2];exact(unhide hG).ext ((Ext.refl wr).alloc (.cells #[iv y.key.k,iv y.key.n,iv y.key.a,iv y.val.k,iv y.val.n,iv y.val.a] 178)),fun j hj=>(((Ext.refl wr).alloc (.cells #[iv y.key.k,iv y.key.n,iv y.key.a,iv y.val.k,iv y.val.n,iv y.val.a] 178))).keep (unhide hS j hj),(unhide hX).trans ((Ext.refl wr).alloc (.cells #[iv y.key.k,iv y.key.n,iv y.key.a,iv y.val.k,iv y.val.n,iv y.val.a] 178))⟩
       case measure=>simp [intOf]
      ·rw[e] at s2;have T:=hide (show goB x H (x.c i) y=lostB x H y.key by rw[unhide GB];simp [wkB,wvB,e]);clear e GB;go_wp2_with fail;refine(unhide LOST y.key (unhide FK).1 _ ((Ext.refl wr).alloc (.cells #[iv y.key.k,iv y.key.n,iv y.key.a,iv y.val.k,iv y.val.n,iv y.val.a] 178))).mono ?_;rintro e w2 ⟨rfl,q2⟩;have xq:=((Ext.refl wr).alloc (.cells #[iv y.key.k,iv y.key.n,iv y.key.a,iv y.val.k,iv y.val.n,iv y.val.a] 178)).trans q2;cases t0:lostB x H y.key
       ·have t:goB x H (x.c i) y=false:=by rw[unhide T];exact t0
        go_wp2_with fail;go_roundw
        case rel=>exact⟨k,by omega,by go_num,by rw[unhide (unhide KEEP t).1],by rw[unhide (unhide KEEP t).2];exact(unhide hG).ext xq,fun j hj=>(xq).keep (unhide hS j hj),(unhide hX).trans xq⟩
        case measure=>simp [intOf]
       ·have t:goB x H (x.c i) y=true:=by rw[unhide T];exact t0
        go_wp2_with fail;refine(unhide CUT t _ xq).mono ?_;rintro e w4 ⟨rfl,g4,s4,x4⟩;have G4:=hide g4;have S4:=hide s4;have X4:=hide x4;have EG:=hide (unhide (unhide GONE t));clear g4 s4 x4;go_wp2_with fail;go_roundw
        case rel=>exact⟨k,by omega,by go_num,by rw[unhide EG,unhide WG];refine congrArg (Value.int IntKind.i64) ?_;omega,unhide G4,unhide S4,unhide X4⟩
        case measure=>simp [intOf]
      ·rw[e] at s2;have T:=hide (show goB x H (x.c i) y=lostB x H y.val by rw[unhide GB];simp [wkB,wvB,e]);clear e GB;go_wp2_with fail;refine(unhide LOST y.val (unhide FK).2 _ ((Ext.refl wr).alloc (.cells #[iv y.key.k,iv y.key.n,iv y.key.a,iv y.val.k,iv y.val.n,iv y.val.a] 178))).mono ?_;rintro e w2 ⟨rfl,q2⟩;have xq:=((Ext.refl wr).alloc (.cells #[iv y.key.k,iv y.key.n,iv y.key.a,iv y.val.k,iv y.val.n,iv y.val.a] 178)).trans q2;cases t0:lostB x H y.val
       ·have t:goB x H (x.c i) y=false:=by rw[unhide T];exact t0
        go_wp2_with fail;go_roundw
        case rel=>exact⟨k,by omega,by go_num,by rw[unhide (unhide KEEP t).1],by rw[unhide (unhide KEEP t).2];exact(unhide hG).ext xq,fun j hj=>(xq).keep (unhide hS j hj),(unhide hX).trans xq⟩
        case measure=>simp [intOf]
       ·have t:goB x H (x.c i) y=true:=by rw[unhide T];exact t0
        go_wp2_with fail;refine(unhide CUT t _ xq).mono ?_;rintro e w4 ⟨rfl,g4,s4,x4⟩;have G4:=hide g4;have S4:=hide s4;have X4:=hide x4;have EG:=hide (unhide (unhide GONE t));clear g4 s4 x4;go_wp2_with fail;go_roundw
        case rel=>exact⟨k,by omega,by go_num,by rw[unhide EG,unhide WG];refine congrArg (Value.int IntKind.i64) ?_;omega,unhide G4,unhide S4,unhide X4⟩
        case measure=>simp [intOf]
      ·rw[e] at s2;have T:=hide (show goB x H (x.c i) y=(lostB x H y.key || lostB x H y.val) by rw[unhide GB];simp [wkB,wvB,e]);clear e GB;go_wp2_with fail;refine(unhide LOST y.key (unhide FK).1 _ ((Ext.refl wr).alloc (.cells #[iv y.key.k,iv y.key.n,iv y.key.a,iv y.val.k,iv y.val.n,iv y.val.a] 178))).mono ?_;rintro e w2 ⟨rfl,q2⟩;have xq:=((Ext.refl wr).alloc (.cells #[iv y.key.k,iv y.key.n,iv y.key.a,iv y.val.k,iv y.val.n,iv y.val.a] 178)).trans q2;cases t0:lostB x H y.key
       ·have b3:w2.cell? ⟨wr.heap.size,3,none⟩=some (iv y.val.k):=q2.keep (by simp [go_sem]);have b4:w2.cell? ⟨wr.heap.size,4,none⟩=some (iv y.val.n):=q2.keep (by simp [go_sem]);have b5:w2.cell? ⟨wr.heap.size,5,none⟩=some (iv y.val.a):=q2.keep (by simp [go_sem]);go_wp2_with fail;refine(unhide LOST y.val (unhide FK).2 _ xq).mono ?_;rintro e w3 ⟨rfl,q3⟩;have xr:=xq.trans q3;cases t1:lostB x H y.val
        ·have t:goB x H (x.c i) y=false:=by rw[unhide T,t0,t1];rfl
         go_wp2_with fail;go_roundw
         case rel=>exact⟨k,by omega,by go_num,by rw[unhide (unhide KEEP t).1],by rw[unhide (unhide KEEP t).2];exact(unhide hG).ext xr,fun j hj=>(xr).keep (unhide hS j hj),(unhide hX).trans xr⟩
         case measure=>simp [intOf]
        ·have t:goB x H (x.c i) y=true:=by rw[unhide T,t0,t1];rfl
         go_wp2_with fail;refine(unhide CUT t _ xr).mono ?_;rintro e w4 ⟨rfl,g4,s4,x4⟩;have G4:=hide g4;have S4:=hide s4;have X4:=hide x4;have EG:=hide (unhide (unhide GONE t));clear g4 s4 x4;go_wp2_with fail;go_roundw
         case rel=>exact⟨k,by omega,by go_num,by rw[unhide EG,unhide WG];refine congrArg (Value.int IntKind.i64) ?_;omega,unhide G4,unhide S4,unhide X4⟩
         case measure=>simp [intOf]
       ·have t:goB x H (x.c i) y=true:=by rw[unhide T,t0];rfl
        go_wp2_with fail;refine(unhide CUT t _ xq).mono ?_;rintro e w4 ⟨rfl,g4,s4,x4⟩;have G4:=hide g4;have S4:=hide s4;have X4:=hide x4;have EG:=hide (unhide (unhide GONE t));clear g4 s4 x4;go_wp2_with fail;go_roundw
        case rel=>exact⟨k,by omega,by go_num,by rw[unhide EG,unhide WG];refine congrArg (Value.int IntKind.i64) ?_;omega,unhide G4,unhide S4,unhide X4⟩
        case measure=>simp [intOf]
  ·have ie:i=x.cells.length:=by omega
   subst ie;have LEN:=hide (cutTo_len x H x.cells.length);have c4:wr.cell? ⟨g,4,none⟩=some (.slice ac x.cells.length kc):=by obtain⟨_,_,_,_,g1⟩:=unhide hG;have:=g1.bx.2.2.2.2.1;rw[unhide LEN] at this;exact this
   have hgr:g<wr.heap.size:=cell_lt c4;obtain⟨z,hz⟩:∃z,z=cutTo x H x.cells.length:=⟨_,rfl⟩;have ZE:=hide (show settleH x H=dueTo x z H x.cells.length by rw[hz];rfl);have ZLEN:=hide (show z.cells.length=x.cells.length by rw[hz];exact unhide LEN)
   have ZC:=hide (show ∀q,(z.c q).last=(x.c q).last∧(H q=false→z.c q=x.c q) from fun q=>by
    rw[hz,cutTo_c x H _ (Nat.le_refl _) q]
    split
    ·rename_i h;exact⟨rfl,fun e=>by rw[e] at h;exact absurd h.2 (by simp)⟩
    ·exact⟨rfl,fun _=>rfl⟩)
   rw[←hz] at hG;clear hz LEN;go_wp2_with fail;go_loopw [10,94] (fun dn si wr=>∃j:Nat,j≤x.cells.length∧si=.int .i64 j∧dn=.int .i64 (dueN x H j)∧Hid (GK B wr g (dueTo x z H j) ar kr ac kc vg br bc)∧Hid (∀j,j<x.cells.length→wr.cell? ⟨w.heap.size,j,none⟩=some (.bool (H j)))∧Hid (Ext a wr)) (fun _ si _=>x.cells.length-(intOf si).toNat)
   case atStart=>exact⟨0,Nat.zero_le _,rfl,rfl,unhide hG,unhide hS,unhide hX⟩
   case round=>
    clear hG hS hX c4 hgr;obtain⟨j,hj,rfl,rfl,hG,hS,hX⟩:=hrel;by_cases hlt:j<x.cells.length
    ·obtain⟨pb2,pa2,pk2,role2,g2⟩:=unhide hG;have DL:=hide (show(dueTo x z H j).cells.length=x.cells.length by rw[dueTo_len,unhide ZLEN]);have hjz:j<(dueTo x z H j).cells.length:=by rw[unhide DL];exact hlt
     have hn:0<(dueTo x z H j).cells.length:=by omega
     have DC:=hide (dueTo_c x z H j (by rw[unhide ZLEN];exact hj) j (Nat.le_refl _));have c4:=g2.bx.2.2.2.2.1;rw[g2.hc hn,unhide DL] at c4;have s7:=g2.rw.s j hjz;have p3:=s7.2.2.2.1;rw[unhide DC,(unhide ZC j).1] at p3;have c0:=unhide hS j hlt;have fc:=(g2.rw.nc hn).1.2 (j*8+3);have hgr:g<wr.heap.size:=cell_lt c4;have hbr:bc<wr.heap.size:=cell_lt p3;have k0:(0:Int)≤(j:Int):=by omega
     have k1:(j:Int)<(x.cells.length:Int):=by omega
     have wd:=hide (wrap_wide ((dueN x H j:Int)+1) (by omega) (by have:=dueN_le x H j;omega));have SB:=hide (show w.heap.size≠bc by have:=unhide BC (by omega);omega);have NO:=hide (fun q:dueB x H j=false=>And.intro (show dueN x H (j+1)=dueN x H j by show(if dueB x H j=true then _ else _)=_;rw[if_neg (by simp [q])]) (show dueTo x z H (j+1)=dueTo x z H j by show(if dueB x H j=true then _ else _)=_;rw[if_neg (by simp [q])]));cases q1:((x.c j).last == 1)
     ·have N:=hide (unhide NO (by simp [dueB,q1]));clear g2 s7;go_wp2_with fail;go_roundw
      case rel=>exact⟨j+1,by omega,by go_num,by rw[(unhide N).1],by rw[(unhide N).2];exact unhide hG,unhide hS,unhide hX⟩
      case measure=>simp [intOf];omega
     ·cases hh:H j
      ·rw[hh] at c0;have Q:=hide (show dueB x H j=true by simp [dueB,q1,hh]);have EN:=hide (show dueN x H (j+1)=dueN x H j+1 by show(if dueB x H j=true then _ else _)=_;rw[if_pos (unhide Q)]);have ET:=hide (show dueTo x z H (j+1)={ dueTo x z H j with cells:=(dueTo x z H j).cells.set j (dueC (x.c j)) } by show(if dueB x H j=true then _ else _)=_;rw[if_pos (unhide Q)]);have EC:=hide (show(dueTo x z H j).c j=x.c j by rw[unhide DC];exact(unhide ZC j).2 hh)
       have GN:=hide (show GK B (wr.setCell ⟨bc,j*8+3,none⟩ (iv 2)) g (dueTo x z H (j+1)) ar kr ac kc vg br bc by
        rw[unhide ET];refine⟨pb2,pa2,pk2,role2,g2.setc hjz (by rw[unhide EC];rfl) (Only.setCell (S:=fun q=>q=bc) (Only.refl _ wr) (p:=⟨bc,j*8+3,none⟩) rfl _) ?_ (fun k hk=>cell_other _ (.inr (by omega))) ((g2.rw.nc hn).1.set _ _)⟩;rw[unhide EC] at s7;obtain⟨a0,a1,a2,a3,a4,a5,a6⟩:=s7;refine⟨?_,?_,?_,World.cell?_setCell_same _ _ _ a3,?_,?_,?_⟩
        ·rw[cell_other _ (.inr (by omega))];exact a0
        ·rw[cell_other _ (.inr (by omega))];exact a1
        ·rw[cell_other _ (.inr (by omega))];exact a2
        ·rw[cell_other _ (.inr (by omega))];exact a4
        ·rw[cell_other _ (.inr (by omega))];exact a5
        ·rw[cell_other _ (.inr (by omega))];exact a6)
       have XN:=hide (show Ext a (wr.setCell ⟨bc,j*8+3,none⟩ (iv 2)) from(unhide hX).setCell (p:=⟨bc,j*8+3,none⟩) (Nat.le_trans ha (g2.rw.nc hn).2) _);have SNN:=hide (show ∀q,q<x.cells.length→(wr.setCell ⟨bc,j*8+3,none⟩ (iv 2)).cell? ⟨w.heap.size,q,none⟩=some (.bool (H q)) from fun q hq=>by rw[cell_other _ (.inl (fun e=>unhide SB e.symm))];exact unhide hS q hq);clear g2 s7;go_wp2_with fail;go_roundw
       case rel=>exact⟨j+1,by omega,by go_num,by rw[unhide EN,unhide wd];refine congrArg (Value.int IntKind.i64) ?_;omega,unhide GN,unhide SNN,unhide XN⟩
       case measure=>simp [intOf];omega
      ·rw[hh] at c0;have N:=hide (unhide NO (by simp [dueB,hh]));clear g2 s7;go_wp2_with fail;go_roundw
       case rel=>exact⟨j+1,by omega,by go_num,by rw[(unhide N).1],by rw[(unhide N).2];exact unhide hG,unhide hS,unhide hX⟩
       case measure=>simp [intOf];omega
    ·have je:j=x.cells.length:=by omega
     subst je;go_wp2_with fail;go_ret2;exact⟨H,rfl,unhide HI,by rw[unhide ZE];exact(unhide hG).ok,unhide hX⟩
end Go.Proofs.YtnegjhddmfiefaaGreatDoor
