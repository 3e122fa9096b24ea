import Derived.Test.YtnegjhddmfiefaaGreatDoorVg
set_option maxRecDepth 100000
set_option maxHeartbeats 6000000
namespace Go.Proofs.YtnegjhddmfiefaaGreatDoor
open Go.RowKit
attribute [local go_sem ↓] Go.wp_at_zero Go.wp_at_succ
theorem HBox.set9{w:World}{B:Nat}{x:Hp}{vr vc vg:Value}(h:HBox w B x vr vc vg)(u:Int):HBox (w.setCell ⟨B,9,none⟩ (iv u)) B { x with per:=u } vr vc vg:=by
 obtain⟨h0,h1,h2,h3,h4,h5,h6,h7,h8,h9,h10,h11,h12⟩:=h;refine⟨?_,?_,?_,?_,?_,?_,?_,?_,?_,?_,?_,?_,?_⟩ <;> first | exact(cell_other _ (by omega)).trans (by assumption) | exact World.cell?_setCell_same _ _ _ (by assumption)
theorem HBox.set10{w:World}{B:Nat}{x:Hp}{vr vc vg:Value}(h:HBox w B x vr vc vg)(u:Int):HBox (w.setCell ⟨B,10,none⟩ (iv u)) B { x with start:=u } vr vc vg:=by
 obtain⟨h0,h1,h2,h3,h4,h5,h6,h7,h8,h9,h10,h11,h12⟩:=h;refine⟨?_,?_,?_,?_,?_,?_,?_,?_,?_,?_,?_,?_,?_⟩ <;> first | exact(cell_other _ (by omega)).trans (by assumption) | exact World.cell?_setCell_same _ _ _ (by assumption)
theorem GOk.set9[Inhabited ProtD]{B:Nat}{w:World}{g:Nat}{x:Hp}(h:GOk B w g x)(v:Int):GOk B (w.setCell ⟨g,9,none⟩ (iv v)) g { x with per:=v }:=by
 obtain⟨ar,kr,ac,kc,vg,br,bc,pb,pa,pk,role,h⟩:=h;exact⟨_,_,_,_,_,_,_,_,_,_,_,h.boxed (x':={ x with per:=v }) (Only.setCell (S:=fun q=>q=g) (Only.refl _ w) (p:=⟨g,9,none⟩) rfl _) (h.nf.set _ _) rfl rfl rfl (h.bx.set9 v)⟩
theorem GOk.set10[Inhabited ProtD]{B:Nat}{w:World}{g:Nat}{x:Hp}(h:GOk B w g x)(v:Int):GOk B (w.setCell ⟨g,10,none⟩ (iv v)) g { x with start:=v }:=by
 obtain⟨ar,kr,ac,kc,vg,br,bc,pb,pa,pk,role,h⟩:=h;exact⟨_,_,_,_,_,_,_,_,_,_,_,h.boxed (x':={ x with start:=v }) (Only.setCell (S:=fun q=>q=g) (Only.refl _ w) (p:=⟨g,10,none⟩) rfl _) (h.nf.set _ _) rfl rfl rfl (h.bx.set10 v)⟩
theorem l5do_reg[p:Inhabited ProtD](B g:Nat)(x:Hp)(k:Nat)(op:Int)(a b c:Nat)(n:Int)(w:World)(hk:(k=2∧op=2)∨(k=3∧op=3)∨(k=4∧op=4)∨(k=13∧op=13)∨(k=14∧op=14)∨(k=15∧op=15))(h:GOk B w g x)(s:Snd x)(ok:actOkB op a b c n=true)(v:World)(hv:v.heap.size≤B)(hx:Ext v w)(ha:a<16)(hB:k=4∨k=13→b<16):
  Calls Tryz.prog 147 #[.pointer (some ⟨g,0,none⟩),actV op a b c n] w fun e w'=>DoPost B g x a b c n k v e w':=by
 obtain⟨p1,o1,g1⟩:=GOk.enter h (w0:=doW w op a b c n) (((Ext.refl w).alloc _).alloc _);obtain⟨br,kr,hr⟩:=g1.regs s.r1.regs;have HR:=hide hr;have i0:(0:Int)≤(a:Int):=by omega
 have i1:(a:Int)<16:=by omega
 have HG:=hide g1;have O1:=hide o1;have QA:=hide (fun W=>specActOk_any op a b c n W);rw[ok] at QA;have V0:=hide (show v.heap.size≤w.heap.size+1 by have:=hx.size;omega);have XD:=hide (show Ext v (doW w op a b c n) from(hx.alloc _).alloc _);have BX:=hide (Boxes.new w op a b c n);clear h s hr o1 g1;rcases hk with⟨rfl,rfl⟩ | ⟨rfl,rfl⟩ | ⟨rfl,rfl⟩ | ⟨rfl,rfl⟩ | ⟨rfl,rfl⟩ | ⟨rfl,rfl⟩
 all_goals
  go_enter Tryz.func147,Tryz.ntmps147;go_wp2_with fail;refine(unhide QA _).mono ?_;rintro e w1 ⟨rfl,x1⟩;have X1:=hide ((unhide XD).trans x1);have BX1:=hide ((unhide BX).ext x1);obtain⟨t0,t1,t2,t3,t4,t5,t6,t7⟩:=unhide BX1;have hw1:w.heap.size+1<w1.heap.size:=cell_lt t5;have hw0:w.heap.size<w1.heap.size:=cell_lt t0;have G1:=hide ((unhide HG).ext x1);have R1:=hide ((unhide HR).ext x1);have c3:=(unhide R1).c3;obtain⟨r0,r1,r2⟩:=(unhide R1).r a ha;have hg1:g<w1.heap.size:=cell_lt c3;have hb1:br<w1.heap.size:=cell_lt r0;clear x1 QA BX1 BX XD HG HR
 ·have f:=(unhide R1).f;have hbB:=(unhide R1).lo.1;have FN:=hide (show GOk B (wordO w1 br (a*3) ⟨1,n,0⟩) g (regTo x a ⟨1,n,0⟩)∧Ext v (wordO w1 br (a*3) ⟨1,n,0⟩) from⟨(unhide R1).set w1 a ⟨1,n,0⟩ (Ext.refl _) ha,(wordO_only w1 br (a*3) ⟨1,n,0⟩).ext (unhide X1) (fun q hq e=>by omega)⟩);obtain⟨W2,hW2⟩:∃W,W=wordO w1 br (a*3) ⟨1,n,0⟩:=⟨_,rfl⟩;rw[←hW2] at FN;unfold wordO at hW2;clear t2 t3;go_wp2_with fail
  go_region
  go_wp2_with fail;rw[←hW2];refine(l5fine_any 0 _).mono ?_;rintro e w3 ⟨rfl,x3⟩;have x23:=Ext.trans (Ext.refl W2).drew x3;have G3:=hide ((unhide FN).1.ext x23);have X3:=hide ((unhide FN).2.trans x23);obtain⟨u0,u1,u2,u3,u4,u5,u6,u7⟩:=(unhide G3).boxes (unhide O1);have hw3:w.heap.size+1<w3.heap.size:=cell_lt u5;clear hW2 FN c3 r0 r1 r2 f t0 t1 t4 t5 t6 t7 x3 x23;go_wp2_with fail;refine bodyPost_ret (v:=ansV 0 0) (by simp [results,Tryz.results147,go_sem,u5,u6]) rfl ?_;exact do_fin (unhide O1) (unhide G3) (unhide X3) (unhide V0) (⟨rfl,rfl,rfl⟩)
 ·have f:=(unhide R1).f;have hbB:=(unhide R1).lo.1;have FN:=hide (show GOk B (wordO w1 br (a*3) Wd0) g (regTo x a Wd0)∧Ext v (wordO w1 br (a*3) Wd0) from⟨(unhide R1).set w1 a Wd0 (Ext.refl _) ha,(wordO_only w1 br (a*3) Wd0).ext (unhide X1) (fun q hq e=>by omega)⟩);obtain⟨W2,hW2⟩:∃W,W=wordO w1 br (a*3) Wd0:=⟨_,rfl⟩;rw[←hW2] at FN;unfold wordO Wd0 at hW2;go_wp2_with fail
  go_region
  go_wp2_with fail;rw[←hW2];refine(l5fine_any 0 _).mono ?_;rintro e w3 ⟨rfl,x3⟩;have x23:=Ext.trans (Ext.refl W2).drew x3;have G3:=hide ((unhide FN).1.ext x23);have X3:=hide ((unhide FN).2.trans x23);clear hW2 FN c3 r0 r1 r2 f t0 t1 t2 t3 t4 t5 t6 t7 x3 x23;obtain⟨u0,u1,u2,u3,u4,u5,u6,u7⟩:=(unhide G3).boxes (unhide O1);have hw3:w.heap.size+1<w3.heap.size:=cell_lt u5;go_wp2_with fail;refine bodyPost_ret (v:=ansV 0 0) (by simp [results,Tryz.results147,go_sem,u5,u6]) rfl ?_;exact do_fin (unhide O1) (unhide G3) (unhide X3) (unhide V0) (⟨rfl,rfl,rfl⟩)
 ·have hb:=hB (by simp);have j0:(0:Int)≤(b:Int):=by omega
  have j1:(b:Int)<16:=by omega
  obtain⟨s0,s1,s2⟩:=(unhide R1).r b hb;have f:=(unhide R1).f;have hbB:=(unhide R1).lo.1;have FN:=hide (show GOk B (wordO w1 br (a*3) (x.r b)) g (regTo x a (x.r b))∧Ext v (wordO w1 br (a*3) (x.r b)) from⟨(unhide R1).set w1 a (x.r b) (Ext.refl _) ha,(wordO_only w1 br (a*3) (x.r b)).ext (unhide X1) (fun q hq e=>by omega)⟩);obtain⟨W2,hW2⟩:∃W,W=wordO w1 br (a*3) (x.r b):=⟨_,rfl⟩;rw[←hW2] at FN;unfold wordO at hW2;go_wp2_with fail
  go_region
  go_wp2_with fail;rw[←hW2];refine(l5fine_any 0 _).mono ?_;rintro e w3 ⟨rfl,x3⟩;have x23:=Ext.trans (Ext.refl W2).drew x3;have G3:=hide ((unhide FN).1.ext x23);have X3:=hide ((unhide FN).2.trans x23);clear hW2 FN c3 r0 r1 r2 f t0 t1 t2 t3 t4 t5 t6 t7 x3 x23 s0 s1 s2;obtain⟨u0,u1,u2,u3,u4,u5,u6,u7⟩:=(unhide G3).boxes (unhide O1);have hw3:w.heap.size+1<w3.heap.size:=cell_lt u5;go_wp2_with fail;refine bodyPost_ret (v:=ansV 0 0) (by simp [results,Tryz.results147,go_sem,u5,u6]) rfl ?_;exact do_fin (unhide O1) (unhide G3) (unhide X3) (unhide V0) (⟨rfl,rfl,rfl⟩)
 ·have hb:=hB (by simp);have j0:(0:Int)≤(b:Int):=by omega
  have j1:(b:Int)<16:=by omega
  cases q:wdB (x.r a) (x.r b)
  ·have we:=fun W=>wd_eq (x.r a) (x.r b) W
   rw[q] at we;have Q:=hide q;clear q;obtain⟨s0,s1,s2⟩:=(unhide R1).r b hb;go_wp2_with fail;go_quiet (fail);obtain⟨W2,hW2⟩:∃W,W=w1.drewN nq:=⟨_,rfl⟩;rw[←hW2];have x12:Ext w1 W2:=by rw[hW2];exact Ext.drewN (Ext.refl w1) nq
   clear hW2;go_wp2_with fail;refine(l5fine_any 0 _).mono ?_;rintro e w3 ⟨rfl,x3⟩;have G3:=hide ((unhide G1).ext (x12.trans x3));have X3:=hide ((unhide X1).trans (x12.trans x3));clear c3 r0 r1 r2 s0 s1 s2 t0 t1 t2 t3 t4 t5 t6 t7 x3 x12 we;obtain⟨u0,u1,u2,u3,u4,u5,u6,u7⟩:=(unhide G3).boxes (unhide O1);have hw3:w.heap.size+1<w3.heap.size:=cell_lt u5;go_wp2_with fail;refine bodyPost_ret (v:=ansV 0 0) (by simp [results,Tryz.results147,go_sem,u5,u6]) rfl ?_;exact do_fin (unhide O1) (unhide G3) (unhide X3) (unhide V0) (⟨rfl,rfl,by rw[unhide Q];rfl⟩)
  ·have we:=fun W=>wd_eq (x.r a) (x.r b) W
   rw[q] at we;have Q:=hide q;clear q;obtain⟨s0,s1,s2⟩:=(unhide R1).r b hb;go_wp2_with fail;go_quiet (fail);obtain⟨W2,hW2⟩:∃W,W=w1.drewN nq:=⟨_,rfl⟩;rw[←hW2];have x12:Ext w1 W2:=by rw[hW2];exact Ext.drewN (Ext.refl w1) nq
   clear hW2;go_wp2_with fail;refine(l5fine_any 1 _).mono ?_;rintro e w3 ⟨rfl,x3⟩;have G3:=hide ((unhide G1).ext (x12.trans x3));have X3:=hide ((unhide X1).trans (x12.trans x3));clear c3 r0 r1 r2 s0 s1 s2 t0 t1 t2 t3 t4 t5 t6 t7 x3 x12 we;obtain⟨u0,u1,u2,u3,u4,u5,u6,u7⟩:=(unhide G3).boxes (unhide O1);have hw3:w.heap.size+1<w3.heap.size:=cell_lt u5;go_wp2_with fail;refine bodyPost_ret (v:=ansV 0 1) (by simp [results,Tryz.results147,go_sem,u5,u6]) rfl ?_;exact do_fin (unhide O1) (unhide G3) (unhide X3) (unhide V0) (⟨rfl,rfl,by rw[unhide Q];rfl⟩)
 ·go_wp2_with fail;go_region_with (go_at_call 179;refine(l5fine_any (x.r a).k _).mono ?_;rintro e w3 ⟨rfl,x3⟩;have x13:=Ext.trans (Ext.refl w1).drew x3;have G3:=hide ((unhide G1).ext x13);have X3:=hide ((unhide X1).trans x13);obtain⟨u0,u1,u2,u3,u4,u5,u6,u7⟩:=(unhide G3).boxes (unhide O1);have hw3:w.heap.size+1<w3.heap.size:=cell_lt u5;clear x3 x13)
  all_goals
   go_wp2_with fail;refine bodyPost_ret (v:=ansV 0 (x.r a).k) (by simp [results,Tryz.results147,go_sem,u5,u6]) rfl ?_;exact do_fin (unhide O1) (unhide G3) (unhide X3) (unhide V0) (⟨rfl,rfl,rfl⟩)
 ·cases q:((x.r a).k == 1)
  ·have q2:((x.r a).k != 1)=true:=by simpa using q
   have QD:=hide (show(x.r a).k≠1 by simpa using q);clear q;go_wp2_with fail;go_quiet (fail);obtain⟨W2,hW2⟩:∃W,W=w1.drewN nq:=⟨_,rfl⟩;rw[←hW2];have x12:Ext w1 W2:=by rw[hW2];exact Ext.drewN (Ext.refl w1) nq
   clear hW2;go_wp2_with fail;refine(l5bad_any 2 _).mono ?_;rintro e w3 ⟨rfl,x3⟩;have G3:=hide ((unhide G1).ext (x12.trans x3));have X3:=hide ((unhide X1).trans (x12.trans x3));clear c3 r0 r1 r2 t0 t1 t2 t3 t4 t5 t6 t7 x3;obtain⟨u0,u1,u2,u3,u4,u5,u6,u7⟩:=(unhide G3).boxes (unhide O1);have hw3:w.heap.size+1<w3.heap.size:=cell_lt u5;go_wp2_with fail;refine bodyPost_ret (v:=ansV 2 0) (by simp [results,Tryz.results147,go_sem,u5,u6]) rfl ?_;exact do_fin (unhide O1) (unhide G3) (unhide X3) (unhide V0) (⟨rfl,.inl ⟨unhide QD,rfl,rfl⟩⟩)
  ·have q2:((x.r a).k != 1)=false:=by simpa using q
   have QD:=hide (show(x.r a).k=1 by simpa using q);clear q;go_wp2_with fail;go_quiet (fail);obtain⟨W2,hW2⟩:∃W,W=w1.drewN nq:=⟨_,rfl⟩;rw[←hW2];have x12:Ext w1 W2:=by rw[hW2];exact Ext.drewN (Ext.refl w1) nq
   have G2:=hide ((unhide G1).ext x12);have X2:=hide ((unhide X1).trans x12);have e3:=x12.keep c3;have e0:=x12.keep r0;have e1:=x12.keep r1;obtain⟨u0,u1,u2,u3,u4,u5,u6,u7⟩:=(unhide G2).boxes (unhide O1);have hw3:w.heap.size+1<W2.heap.size:=cell_lt u5;have hw4:w.heap.size<W2.heap.size:=cell_lt u0;have hg2:g<W2.heap.size:=cell_lt e3;have hb2:br<W2.heap.size:=cell_lt e0;clear hW2 x12 c3 r0 r1 r2 t0 t1 t2 t3 t4 t5 t6 t7;go_wp2_with fail
   go_region
   all_goals
    go_wp2_with fail;refine bodyPost_ret (v:=ansV 0 (x.r a).n) (by simp [results,Tryz.results147,go_sem,u5,u6]) rfl ?_;exact⟨x,0,(x.r a).n,rfl,⟨rfl,.inr ⟨unhide QD,rfl,rfl⟩⟩,GOk.doneD (unhide O1) (unhide G2) 0 (x.r a).n,(putA_ext (unhide X2) (unhide V0) 0 (x.r a).n).drew⟩
theorem l5do_in[p:Inhabited ProtD](B g:Nat)(x:Hp)(k:Nat)(op:Int)(a b c:Nat)(n:Int)(w:World)(hk:(k=18∧op=18)∨(k=19∧op=19)∨(k=20∧op=20)∨(k=21∧op=21)∨(k=22∧op=22)∨(k=23∧op=23)∨(k=24∧op=24))(h:GOk B w g x)(s:Snd x)(ok:actOkB op a b c n=true)(v:World)(hv:v.heap.size≤B)(hx:Ext v w)(ha:a<16)(hC:k=22→c≤100000):
  Calls Tryz.prog 147 #[.pointer (some ⟨g,0,none⟩),actV op a b c n] w fun e w'=>DoPost B g x a b c n k v e w':=by
 obtain⟨p1,o1,g1⟩:=GOk.enter h (w0:=doW w op a b c n) (((Ext.refl w).alloc _).alloc _);have S:=hide s;have HG:=hide g1;have O1:=hide o1;have QA:=hide (fun W=>specActOk_any op a b c n W);rw[ok] at QA;have V0:=hide (show v.heap.size≤w.heap.size+1 by have:=hx.size;omega);have XD:=hide (show Ext v (doW w op a b c n) from(hx.alloc _).alloc _);have BX:=hide (Boxes.new w op a b c n);clear h s o1 g1;rcases hk with⟨rfl,rfl⟩ | ⟨rfl,rfl⟩ | ⟨rfl,rfl⟩ | ⟨rfl,rfl⟩ | ⟨rfl,rfl⟩ | ⟨rfl,rfl⟩ | ⟨rfl,rfl⟩
 all_goals
  go_enter Tryz.func147,Tryz.ntmps147;go_wp2_with fail;refine(unhide QA _).mono ?_;rintro e w1 ⟨rfl,x1⟩;have X1:=hide ((unhide XD).trans x1);have BX1:=hide ((unhide BX).ext x1);obtain⟨t0,t1,t2,t3,t4,t5,t6,t7⟩:=unhide BX1;have hw1:w.heap.size+1<w1.heap.size:=cell_lt t5;have hw0:w.heap.size<w1.heap.size:=cell_lt t0;have G1:=hide ((unhide HG).ext x1);clear x1 QA BX1 BX XD HG
 ·have QS:=hide (show Calls Tryz.prog 180 #[.pointer (some ⟨g,0,none⟩)] w1 fun e w'=>∃H:Nat→Bool,e=.returned (.tuple #[.int .i64 (goneTo x H x.cells.length),.int .i64 (dueN x H x.cells.length)])∧Hid (∀i,H i=true↔Held x i)∧GOk B w' g (settleH x H)∧Ext v w' from by
   obtain⟨ar,kr,ac,kc,vg,br,bc,pb,pa,pk,role,h⟩:=unhide G1;exact l4settle_any ⟨pb,pa,pk,role,h⟩ (unhide S) v hv (unhide X1))
  go_wp2_with fail;refine(unhide QS).mono ?_;rintro e w2 ⟨H,rfl,hh,h2,x2⟩;have G2:=hide h2;clear h2;go_wp2_with fail;refine(l5fine_any (dueN x H x.cells.length:Nat) _).mono ?_;rintro e w3 ⟨rfl,x3⟩;have G3:=hide ((unhide G2).ext x3);have X3:=hide (x2.trans x3);clear x3 t0 t1 t2 t3 t4 t5 t6 t7;obtain⟨u0,u1,u2,u3,u4,u5,u6,u7⟩:=(unhide G3).boxes (unhide O1);have hw3:w.heap.size+1<w3.heap.size:=cell_lt u5;go_wp2_with fail;refine bodyPost_ret (v:=ansV 0 (dueN x H x.cells.length:Nat)) (by simp [results,Tryz.results147,go_sem,u5,u6]) rfl ?_;exact do_fin (unhide O1) (unhide G3) (unhide X3) (unhide V0) (⟨rfl,H,unhide hh,rfl,rfl⟩)
 ·have QP:=hide (fun(W:World) (xW:Ext w1 W)=>l5due_any B g x a W ((unhide G1).ext xW) (unhide S) ha v hv ((unhide X1).trans xW));go_wp2_with fail;refine(unhide QP _ (Ext.refl _)).mono ?_;rintro e w3 ⟨y,nm,rfl,dr0,g3,x3⟩;obtain⟨cd,hcd⟩:∃cd:Int,cd=0:=⟨_,rfl⟩;have dr:=hide (show DoR x a b c n y cd nm 19 from⟨hcd,unhide dr0⟩);have G3:=hide (unhide g3);have X3:=hide x3;rw[←hcd];clear g3 x3 QP hcd dr0;obtain⟨u0,u1,u2,u3,u4,u5,u6,u7⟩:=(unhide G3).boxes (unhide O1);have hw3:w.heap.size+1<w3.heap.size:=cell_lt u5;clear t0 t1 t2 t3 t4 t5 t6 t7;go_wp2_with fail;refine bodyPost_ret (v:=ansV cd nm) (by simp [results,Tryz.results147,go_sem,u5,u6]) rfl ?_;exact do_fin (unhide O1) (unhide G3) (unhide X3) (unhide V0) (unhide dr)
 ·obtain⟨ag,ar,kr,ac,kc,kg,HT⟩:∃ag ar kr ac kc kg,Hid (HAt w1 g x ar kr ac kc ag kg):=by
   obtain⟨ar,kr,ac,kc,vg,br,bc,pb,pa,pk,role,h⟩:=unhide G1;obtain⟨ag,kg,hat⟩:=h.hat (unhide S);exact⟨ag,ar,kr,ac,kc,kg,hat⟩
  go_wp2_with fail;refine(l2holds_any x g w1 (unhide HT) (unhide S).r2 (unhide S).r4 (unhide S).ok.n8).mono ?_;rintro e w2 ⟨vv,L,rfl,sn,hL,q2⟩;have SN:=hide sn;have H2:=hide ((unhide HT).ext q2);have G2:=hide ((unhide G1).ext q2);have x2:=(unhide X1).trans q2;clear sn q2;go_wp2_with fail;refine(l2sum_any x g w1.heap.size (fun i=>decide ((i:Int)∈L)) w2 (unhide H2) (unhide SN).s (unhide S).ok.n8 (unhide S).ok.p200).mono ?_;rintro e w2' ⟨rfl,rfl⟩;go_wp2_with fail;refine(l5fine_any (sumTo x (fun i=>decide ((i:Int)∈L)) x.cells.length:Nat) _).mono ?_;rintro e w3 ⟨rfl,x3⟩;have G3:=hide ((unhide G2).ext x3);have X3:=hide (x2.trans x3);clear x3 t0 t1 t2 t3 t4 t5 t6 t7;obtain⟨u0,u1,u2,u3,u4,u5,u6,u7⟩:=(unhide G3).boxes (unhide O1);have hw3:w.heap.size+1<w3.heap.size:=cell_lt u5;go_wp2_with fail;refine bodyPost_ret (v:=ansV 0 (sumTo x (fun i=>decide ((i:Int)∈L)) x.cells.length:Nat)) (by simp [results,Tryz.results147,go_sem,u5,u6]) rfl ?_;exact⟨_,0,(sumTo x (fun i=>decide ((i:Int)∈L)) x.cells.length:Nat),rfl,⟨rfl,rfl,fun i=>decide ((i:Int)∈L),fun i=>by rw[decide_eq_true_iff];exact unhide hL i,rfl⟩,GOk.done (unhide O1) (unhide G3) 0 (sumTo x (fun i=>decide ((i:Int)∈L)) x.cells.length:Nat),putA_ext (unhide X3) (unhide V0) 0 (sumTo x (fun i=>decide ((i:Int)∈L)) x.cells.length:Nat)⟩
 ·have QL:=hide (show Calls Tryz.prog 184 #[.pointer (some ⟨g,0,none⟩)] w1 fun e w'=>∃r:Nat,Hid (e=.returned (.int .i64 (r:Int)))∧LiveIs x r∧Ext w1 w' from by
   obtain⟨ar,kr,ac,kc,vg,br,bc,pb,pa,pk,role,h⟩:=unhide G1;obtain⟨ag,kg,hat⟩:=h.hat (unhide S);exact l2live_any x g w1 hat (unhide S).ok)
  go_wp2_with fail;refine(unhide QL).mono ?_;rintro e w2 ⟨r,rfl,lv,q2⟩
  have LV:=hide (show SumIs x (Reached x) r from by
   rcases lv with⟨_,pp,h1,h2⟩ | ⟨h1,_⟩
   ·exact⟨pp,h1,by rw[h2]⟩
   ·exact absurd (unhide S).ok h1)
  have G2:=hide ((unhide G1).ext q2);have x2:=(unhide X1).trans q2;clear lv q2;go_wp2_with fail;refine(l5fine_any r _).mono ?_;rintro e w3 ⟨rfl,x3⟩;have G3:=hide ((unhide G2).ext x3);have X3:=hide (x2.trans x3);clear x3 t0 t1 t2 t3 t4 t5 t6 t7;obtain⟨u0,u1,u2,u3,u4,u5,u6,u7⟩:=(unhide G3).boxes (unhide O1);have hw3:w.heap.size+1<w3.heap.size:=cell_lt u5;go_wp2_with fail;refine bodyPost_ret (v:=ansV 0 r) (by simp [results,Tryz.results147,go_sem,u5,u6]) rfl ?_;exact do_fin (unhide O1) (unhide G3) (unhide X3) (unhide V0) (⟨rfl,rfl,unhide LV⟩)
 ·have hc:=hC (by simp);go_wp2_with fail;refine(l3step_any B g x c _ (unhide G1) (unhide S) hc v hv (unhide X1)).mono ?_;rintro e w2 ⟨k,rfl,st,h2,x2⟩;have G2:=hide h2;clear h2;go_wp2_with fail;refine(l5fine_any 0 _).mono ?_;rintro e w3 ⟨rfl,x3⟩;have G3:=hide ((unhide G2).ext x3);have X3:=hide (x2.trans x3);clear x3 t0 t1 t2 t3 t4 t5 t6 t7;obtain⟨u0,u1,u2,u3,u4,u5,u6,u7⟩:=(unhide G3).boxes (unhide O1);have hw3:w.heap.size+1<w3.heap.size:=cell_lt u5;go_wp2_with fail;refine bodyPost_ret (v:=ansV 0 0) (by simp [results,Tryz.results147,go_sem,u5,u6]) rfl ?_;exact do_fin (unhide O1) (unhide G3) (unhide X3) (unhide V0) (⟨rfl,rfl,k,unhide st,rfl⟩)
 ·obtain⟨c0,c1,c2,c5,c9,c10,c12⟩:=(unhide G1).nums;have fz:=(unhide G1).box.2.2.2.1;have lo:v.heap.size≤g:=Nat.le_trans hv (unhide G1).box.2.2.2.2.1;have hg1:g<w1.heap.size:=cell_lt c0;have FN:=hide (show GOk B ((w1.setCell ⟨g,9,none⟩ (iv b)).setCell ⟨g,10,none⟩ (iv c)) g (paceTo x b c)∧Ext v ((w1.setCell ⟨g,9,none⟩ (iv b)).setCell ⟨g,10,none⟩ (iv c)) from⟨((unhide G1).set9 b).set10 c,((unhide X1).setCell (p:=⟨g,9,none⟩) lo _).setCell (p:=⟨g,10,none⟩) lo _⟩);clear c0 c1 c2 c5 c12;go_wp2_with fail;refine(l5fine_any 0 _).mono ?_;rintro e w3 ⟨rfl,x3⟩;have G3:=hide ((unhide FN).1.ext x3);have X3:=hide ((unhide FN).2.trans x3);clear x3 t0 t1 t2 t3 t4 t5 t6 t7 c9 c10 FN;obtain⟨u0,u1,u2,u3,u4,u5,u6,u7⟩:=(unhide G3).boxes (unhide O1);have hw3:w.heap.size+1<w3.heap.size:=cell_lt u5;go_wp2_with fail;refine bodyPost_ret (v:=ansV 0 0) (by simp [results,Tryz.results147,go_sem,u5,u6]) rfl ?_;exact do_fin (unhide O1) (unhide G3) (unhide X3) (unhide V0) (⟨rfl,rfl,rfl⟩)
 ·go_wp2_with fail;refine(l3round_any B g x _ (unhide G1) (unhide S) v hv (unhide X1)).mono ?_;rintro e w2 ⟨y,z,rfl,rr,h2,x2⟩;have G2:=hide h2;clear h2;go_wp2_with fail;refine(l5fine_any 0 _).mono ?_;rintro e w3 ⟨rfl,x3⟩;have G3:=hide ((unhide G2).ext x3);have X3:=hide (x2.trans x3);clear x3 t0 t1 t2 t3 t4 t5 t6 t7;obtain⟨u0,u1,u2,u3,u4,u5,u6,u7⟩:=(unhide G3).boxes (unhide O1);have hw3:w.heap.size+1<w3.heap.size:=cell_lt u5;go_wp2_with fail;refine bodyPost_ret (v:=ansV 0 0) (by simp [results,Tryz.results147,go_sem,u5,u6]) rfl ?_;exact do_fin (unhide O1) (unhide G3) (unhide X3) (unhide V0) (⟨rfl,rfl,y,(unhide rr).1,(unhide rr).2⟩)
theorem shortH_top(x:Hp)(i:Nat)(hi:i<x.cells.length)(n:Nat)(hn:(x.c i).prs.length≤n)(hs:scanI x=(i:Int)→x.sub≤(x.c i).prs.length):shortH x i n=x:=by
 have e1:shortC (x.c i) n=x.c i:=by unfold shortC;rw[List.take_of_length_le hn]
 have e2:x.cells.set i (x.c i)=x.cells:=by rw[←Hp.c_eq x i hi];exact List.set_getElem_self _
 unfold shortH;rw[e1,e2,if_neg (fun h=>by have:=hs h.1;omega),show(x.c i).prs.length-n=0 by omega];simp
theorem shortH_c(x:Hp)(i n:Nat)(hi:i<x.cells.length)(q:Nat):(shortH x i n).c q=if q=i then shortC (x.c i) n else x.c q:=Hp.c_set x i (shortC (x.c i) n) hi q
theorem shortH_scan(x:Hp)(i n:Nat):scanI (shortH x i n)=scanI x:=by unfold scanI shortH;simp
theorem shortH_cut(x:Hp)(i m:Nat)(hi:i<x.cells.length)(hm:m<(x.c i).prs.length):cutH (shortH x i (m+1)) i m=shortH x i m:=by
 have hc:=shortH_c x i (m+1) hi i;rw[if_pos rfl] at hc
 have e1:(shortC (x.c i) (m+1)).prs.eraseIdx m=(x.c i).prs.take m:=by
  unfold shortC;show((x.c i).prs.take (m+1)).eraseIdx m=_;rw[List.take_succ_eq_append_getElem hm,List.eraseIdx_append_of_length_le (by simp;omega)];have:m-((x.c i).prs.take m).length=0:=by simp;omega
  rw[this];simp
 have e2:({ (shortH x i (m+1)).c i with prs:=((shortH x i (m+1)).c i).prs.eraseIdx m }:Cl)=shortC (x.c i) m:=by
  rw[hc,e1];rfl
 unfold cutH;rw[e2,shortH_scan];unfold shortH;simp only [List.set_set];by_cases sc:scanI x=(i:Int)
 ·by_cases h1:(m:Int)<x.sub
  ·by_cases h2:((m+1:Nat):Int)<x.sub
   ·simp only [sc,h2,h1,if_true,and_true];rw[if_pos (by omega)];simp only [Hp.mk.injEq,true_and,and_true];refine⟨by omega,by omega⟩
   ·have:x.sub=(m:Int)+1:=by omega
    simp only [sc,h2,h1,true_and,if_true,if_false,and_true];simp only [Hp.mk.injEq,true_and,and_true];refine⟨by omega,by omega⟩
  ·have h2:¬((m+1:Nat):Int)<x.sub:=by omega
   simp only [sc,h2,h1,true_and,if_false,and_true];simp only [Hp.mk.injEq,true_and,and_true];omega
 ·simp only [sc,false_and,and_false,if_false];simp only [Hp.mk.injEq,true_and,and_true];omega
theorem l5cut_any[Inhabited ProtD](B g:Nat)(x:Hp)(i n:Nat)(w:World)(h:GOk B w g x)(s:Snd x)(hi:i<x.cells.length)(h1:(x.c i).st=1)(a:World)(ha:a.heap.size≤B)(hx:Ext a w):
  Calls Tryz.prog 214 #[.pointer (some ⟨g,0,none⟩),.int .i64 i,.int .i64 n] w fun e w'=>e=.returned (.tuple #[])∧Hid (GOk B w' g (shortH x i n))∧Ext a w':=by
 obtain⟨ar,kr,ac,kc,vg,br,bc,pb,pa,pk,role,h⟩:=h;have GK0:=hide (show GK B w g x ar kr ac kc vg br bc from⟨pb,pa,pk,role,h⟩);have l200:=s.ok.p200 i hi;have n8:=s.ok.n8;have SUB:=hide (show scanI x=(i:Int)→x.sub≤(x.c i).prs.length from fun e=>(scan_sub s hi h1 e).2);have US:=hide (show 0≤x.used∧x.used≤4000 by have h3:=s.r3;have h1:=s.r1.room;unfold R3 at h3;omega);have SB:=hide s.r1.sub;have r0:0<x.regs.length:=by rw[s.r1.regs];omega
 have TOP:=hide (shortH_top x i hi (x.c i).prs.length (Nat.le_refl _) (unhide SUB));have HI:=hide hi;have i0:(0:Int)≤(i:Int):=by omega
 have i1:(i:Int)<(x.cells.length:Int):=by omega
 have R0:=hide r0;clear h h1 s r0;go_enter Tryz.func214,Tryz.ntmps214;go_wp2_with fail
 go_loopg [] ((x.c i).prs.length) (fun gk wr=>∃m:Nat,m=gk∧m≤(x.c i).prs.length∧Hid ((x.c i).prs.length≤n→m=(x.c i).prs.length)∧Hid (n≤(x.c i).prs.length→n≤m)∧Hid (GK B wr g (shortH x i m) ar kr ac kc vg br bc)∧Ext a wr)
 case atStart=>exact⟨_,rfl,Nat.le_refl _,fun _=>rfl,id,by rw[unhide TOP];exact unhide GK0,hx⟩
 case round=>
  clear GK0 hx;obtain⟨m,rfl,hm,hA,hB,hG,hxr⟩:=hrel;obtain⟨z,hz⟩:∃z,z=shortH x i m:=⟨_,rfl⟩;have HZ:=hide hz;rw[←hz] at hG;have ZL:=hide (show z.cells.length=x.cells.length by rw[hz];simp [shortH]);have ZC:=hide (show z.c i=shortC (x.c i) m by rw[hz,shortH_c x i m (unhide HI) i,if_pos rfl]);have ZP:=hide (show(z.c i).prs.length=m by rw[unhide ZC];simp [shortC];omega)
  have ZN:=hide (show -3000000≤z.used∧z.used≤1000000∧-3000000≤z.sub∧z.sub≤1000000 by
   have h1:=unhide US;have h2:=unhide SB;rw[hz];unfold shortH;refine⟨?_,?_,?_,?_⟩
   ·show -3000000≤x.used-(((x.c i).prs.length-m:Nat):Int);omega
   ·show x.used-(((x.c i).prs.length-m:Nat):Int)≤1000000;omega
   ·show -3000000≤(if scanI x=(i:Int)∧(m:Int)<x.sub then (m:Int) else x.sub);split <;> omega
   ·show(if scanI x=(i:Int)∧(m:Int)<x.sub then (m:Int) else x.sub)≤1000000;split <;> omega)
  have ZR:=hide (show 0<z.regs.length by rw[hz];exact unhide R0);clear hz;obtain⟨pb,pa,pk,role,h⟩:=unhide hG;have hn:0<z.cells.length:=by rw[unhide ZL];omega
  have hiz:i<z.cells.length:=by rw[unhide ZL];omega
  have c4:=h.bx.2.2.2.2.1;rw[h.hc hn,unhide ZL] at c4;have p7:=h.rw.p7 i hiz;rw[unhide ZP] at p7;have hg1:g<wr.heap.size:=cell_lt c4;have hb1:bc<wr.heap.size:=cell_lt p7;clear h;by_cases hc:n<m
  ·have q1:(m:Int) > (n:Int):=by omega
   have wm:wrap64 ((m:Int)-1)=((m-1:Nat):Int):=by rw[wrap_fit _ (by omega) (by omega)];omega
   have CUT:=hide (show cutH z i (m-1)=shortH x i (m-1) by
    rw[unhide HZ];have:=shortH_cut x i (m-1) (unhide HI) (by omega);rw[show m-1+1=m by omega] at this;exact this)
   have QC:=hide (l4cut_any (unhide hG) i (m-1) hiz (by rw[unhide ZP];omega) (unhide ZR) (by rw[unhide ZP];omega) ⟨(unhide ZN).1,(unhide ZN).2.1⟩ ⟨(unhide ZN).2.2.1,(unhide ZN).2.2.2⟩ (by rw[unhide ZL];exact n8) a ha hxr);go_wp2_with fail;rw[show((m:Int)-1)=((m-1:Nat):Int) by omega];refine(unhide QC).mono ?_;rintro e w2 ⟨rfl,h2,_,x2⟩;rw[unhide CUT] at h2;have G2:=hide h2;have B2:=hide (unhide hB);clear h2 QC CUT c4 p7 hG;go_wp2_with fail
   go_roundg (m-1)
   case measure=>omega
   case rel=>exact⟨m-1,rfl,by omega,fun h=>by omega,fun h=>by have:=unhide B2 h;omega,unhide G2,x2⟩
  ·have q1:¬(m:Int) > (n:Int):=by omega
   have E:=hide (show shortH x i n=z by
    rw[unhide HZ];rcases Nat.lt_or_ge (x.c i).prs.length n with l | l
    ·have:=unhide hA (by omega);rw[shortH_top x i (unhide HI) n (by omega) (unhide SUB),this,unhide TOP]
    ·have:=unhide hB l;have:n=m:=by omega
     rw[this])
   go_wp2_with fail
   go_end0
   exact⟨rfl,by rw[unhide E];exact(unhide hG).ok,hxr⟩
theorem Snd.reg{x:Hp}(s:Snd x)(f:Nat)(hf:f<16):Leads x (x.r f) False:=by
 have h:=s.r4.1 f (by rw[s.r1.regs];exact hf);rw[Hp.r_eq] at h;exact h
theorem Snd.at{x:Hp}(s:Snd x)(f:Nat)(hf:f<16)(h2:(x.r f).k=2):(x.r f).n=0∧(x.r f).a=(x.at f:Int)∧x.at f<x.cells.length∧(x.c (x.at f)).st=1∧¬Doomed x (x.at f):=by
 have h:=s.reg f hf;have h1:=h.1;unfold Formed at h1;have ha:(x.r f).a=((x.r f).a.toNat:Int):=by omega
 rcases h.2 h2 with o | o
 ·exact o.2.elim
 ·exact⟨by omega,ha,by unfold Hp.at;omega,o.1,o.2⟩
structure GPr[Inhabited ProtD](B:Nat)(w:World)(g:Nat)(x:Hp)(i k bc kc bp kp:Nat):Prop where
 c4:w.cell? ⟨g,4,none⟩=some (.slice (some ⟨bc,0,none⟩) x.cells.length kc)
 p7:w.cell? ⟨bc,i*8+7,none⟩=some (.slice (some ⟨bp,0,none⟩) (x.c i).prs.length kp)
 pr:PrAt w bp (k*6) ((x.c i).p k)
 f:∀j,w.frozen? ⟨bp,j,none⟩=false
 lo:B≤bp∧bp<w.heap.size
 set:∀(W:World) (q:Pr),Ext w W→GOk B (pairO W bp (k*6) q) g (setcH x i { x.c i with prs:=(x.c i).prs.set k q })
theorem GOk.prw[Inhabited ProtD]{B:Nat}{w:World}{g:Nat}{x:Hp}(h:GOk B w g x)(i:Nat)(hi:i<x.cells.length)(k:Nat)(hk:k<(x.c i).prs.length):∃bc kc bp kp,GPr B w g x i k bc kc bp kp:=by
 obtain⟨ar,kr,ac,kc,vg,br,bc,pb,pa,pk,role,h⟩:=h;have hn:0<x.cells.length:=by omega
 have hl:0<(x.c i).prs.length:=by omega
 obtain⟨e1,e2,_,e4⟩:=h.rw.pl i hi (h.rw.pw hi hl);refine⟨bc,kc,pb i,pk i,?_,?_,h.rw.p i hi k hk,e2.2,⟨e4,e2.1⟩,fun W q e=>?_⟩
 ·have:=h.bx.2.2.2.2.1;rw[h.hc hn] at this;exact this
 ·have:=h.rw.p7 i hi;rw[e1] at this;exact this
 ·have g1:=h.ext e;exact⟨ar,kr,ac,kc,vg,br,bc,pb,pa,pk,role,g1.setp i hi k hk q (pairO_only _ _ _ _) (pairO_nf (g1.rw.pl i hi (g1.rw.pw hi hl)).2.1.n1 _ _) (pairO_at _ _ _ _ _ (g1.rw.p i hi k hk)) (fun j hj=>pairO_other _ _ _ _ j hj)⟩
theorem GPr.ext[Inhabited ProtD]{B:Nat}{w w':World}{g:Nat}{x:Hp}{i k bc kc bp kp:Nat}(h:GPr B w g x i k bc kc bp kp)(e:Ext w w'):GPr B w' g x i k bc kc bp kp:=
 ⟨e.keep h.c4,e.keep h.p7,h.pr.ext e,fun j=>((bcell e).2 bp j h.lo.2).trans (h.f j),⟨h.lo.1,Nat.lt_of_lt_of_le h.lo.2 e.size⟩,fun W q e2=>h.set W q (e.trans e2)⟩
end Go.Proofs.YtnegjhddmfiefaaGreatDoor
