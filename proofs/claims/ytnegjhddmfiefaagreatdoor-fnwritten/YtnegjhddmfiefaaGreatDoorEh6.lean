import Derived.Test.YtnegjhddmfiefaaGreatDoorEh0
set_option maxRecDepth 100000
set_option maxHeartbeats 1000000
namespace Go.Proofs.YtnegjhddmfiefaaGreatDoor
open Go.RowKit
attribute [local go_sem ↓] Go.wp_at_zero Go.wp_at_succ
theorem l5pair_6[p:Inhabited ProtD](B g:Nat)(x:Hp)(a b c:Nat)(n:Int)(w:World)(h:GOk B w g x)(s:Snd x)(ha:a<16)(hb:b<16)(v:World)(hv:v.heap.size≤B)(hx:Ext v w):
  Calls Tryz.prog 177 #[.pointer (some ⟨g,0,none⟩),actV 6 a b c n] w fun e w'=>DoPost B g x a b c n 6 v e w':=by
 obtain⟨p1,o1,g1⟩:=GOk.enter h (w0:=doW w 6 a b c n) (((Ext.refl w).alloc _).alloc _);obtain⟨br,kr,hr⟩:=g1.regs s.r1.regs;have O1:=hide o1;have G1:=hide g1;have R1:=hide hr;have S:=hide s;have V0:=hide (show v.heap.size≤w.heap.size+1 by have:=hx.size;omega);have X1:=hide (show Ext v (doW w 6 a b c n) from(hx.alloc _).alloc _);obtain⟨t0,t1,t2,t3,t4,t5,t6,t7⟩:=Boxes.new w 6 a b c n;have c3:=hr.c3;obtain⟨r0,r1,r2⟩:=hr.r b hb;have j0:(0:Int)≤(b:Int):=by omega
 have j1:(b:Int)<16:=by omega
 clear h s hr o1 g1;cases q2:((x.r b).k == 2)
 ·have q2b:((x.r b).k != 2)=true:=by simpa using q2
  have D:=hide (show(x.r b).k≠2 by simpa using q2);clear q2;go_enter Tryz.func177,Tryz.ntmps177;go_wp2_with fail;refine(l5bad_any 2 _).mono ?_;rintro e w3 ⟨rfl,x3⟩;have G3:=hide ((unhide G1).ext x3);have X3:=hide ((unhide X1).trans x3);clear x3 c3 r0 r1 r2 t0 t1 t2 t3 t4 t5 t6 t7;obtain⟨u0,u1,u2,u3,u4,u5,u6,u7⟩:=(unhide G3).boxes (unhide O1);have hw3:w.heap.size+1<w3.heap.size:=cell_lt u5;go_wp2_with fail;refine bodyPost_ret (v:=ansV 2 0) (by simp [results,Tryz.results177,go_sem,u5,u6]) rfl ?_;exact⟨_,2,0,rfl,.inl ⟨unhide D,rfl,rfl,rfl⟩,GOk.done (unhide O1) (unhide G3) 2 0,putA_ext (unhide X3) (unhide V0) 2 0⟩
 ·have q2b:((x.r b).k != 2)=false:=by simpa using q2
  have D:=hide (show(x.r b).k=2 by simpa using q2);obtain⟨_,ea,hi,_,_⟩:=(unhide S).at b hb (unhide D);have L200:=(unhide S).ok.p200 _ hi;obtain⟨i,hI⟩:∃i,i=x.at b:=⟨_,rfl⟩;have HI:=hide hI;rw[←hI] at ea hi L200;rw[ea] at r2;clear q2 ea hI;have i0:(0:Int)≤(i:Int):=by omega
  have i1:(i:Int)<(x.cells.length:Int):=by omega
  by_cases hc:c<(x.c i).prs.length
  ·have hc1:¬((c:Int)≥((x.c i).prs.length:Int)):=by omega
   have hc2:(c:Int)<((x.c i).prs.length:Int):=by omega
   have hc0:(0:Int)≤(c:Int):=by omega
   obtain⟨bc,kc,bp,kp,hp⟩:=(unhide G1).prw i hi c hc;have P1:=hide hp;have c4:=hp.c4;have p7:=hp.p7;obtain⟨e0,e1,e2,e3,e4,e5⟩:=hp.pr;clear hp;go_enter Tryz.func177,Tryz.ntmps177;go_wp2_with fail;go_quiet (fail);obtain⟨W2,hW2⟩:∃W,W=(doW w 6 a b c n).drewN nq:=⟨_,rfl⟩;rw[←hW2];have x12:Ext (doW w 6 a b c n) W2:=by rw[hW2];exact Ext.drewN (Ext.refl _) nq
   have G2:=hide ((unhide G1).ext x12);have X2:=hide ((unhide X1).trans x12);have c4:=x12.keep c4;have p7:=x12.keep p7;have t0:=x12.keep t0;have t3:=x12.keep t3;have e0:=x12.keep e0;have e1:=x12.keep e1;have e2:=x12.keep e2;have e3:=x12.keep e3;have e4:=x12.keep e4;have e5:=x12.keep e5;have hg2:g<W2.heap.size:=cell_lt c4;have hb2:bc<W2.heap.size:=cell_lt p7;have hp2:bp<W2.heap.size:=cell_lt e0;have hw2:w.heap.size<W2.heap.size:=cell_lt t0;clear hW2 x12;clear c3 r0 r1 r2 t1 t2 t4 t5 t6 t7;go_wp2_with fail
   go_region
   obtain⟨W3,hW3⟩:∃W,W=(W2.alloc (.cells #[.int .i64 ((x.c i).p c).key.k,.int .i64 ((x.c i).p c).key.n,.int .i64 ((x.c i).p c).key.a,.int .i64 ((x.c i).p c).val.k,.int .i64 ((x.c i).p c).val.n,.int .i64 ((x.c i).p c).val.a] 178)).drew:=⟨_,rfl⟩;rw[←hW3];have x23:Ext W2 W3:=by rw[hW3];exact((Ext.refl W2).alloc _).drew
   have PB:PrAt W3 W2.heap.size 0 ((x.c i).p c):=by rw[hW3];exact⟨by simp [go_sem],by simp [go_sem],by simp [go_sem],by simp [go_sem],by simp [go_sem],by simp [go_sem]⟩
   obtain⟨y0,y1,y2,y3,y4,y5⟩:=PB;have G3:=hide ((unhide G2).ext x23);have X3:=hide ((unhide X2).trans x23);clear hW3 x23 c4 p7 t0 t3 e0 e1 e2 e3 e4 e5 hg2 hb2 hp2 hw2;obtain⟨t0,t1,t2,t3,t4,t5,t6,t7⟩:=(unhide G3).boxes (unhide O1);obtain⟨br',kr',hr⟩:=(unhide G3).regs (unhide S).r1.regs;have R3:=hide hr;have c3:=hr.c3;obtain⟨r0,r1,r2⟩:=hr.r a ha;have f:=hr.f;have hg3:g<W3.heap.size:=cell_lt c3;have hb3:br'<W3.heap.size:=cell_lt r0;have hbB:=hr.lo.1;have hw3:w.heap.size<W3.heap.size:=cell_lt t0;have hy3:W2.heap.size<W3.heap.size:=cell_lt y0;have a0:(0:Int)≤(a:Int):=by omega
   have a1:(a:Int)<16:=by omega
   have FK:=hide (show Formed ((x.c i).p c).key x.cells.length∧Formed ((x.c i).p c).val x.cells.length from by
    have:=(((unhide S).r4.2 i hi).2 c hc).2 (by rw[unhide HI];exact((unhide S).at b hb (unhide D)).2.2.2.2);exact⟨this.1.1,this.2.1⟩)
   obtain⟨rr,hrr⟩:∃r,r=resW x ((x.c i).p c).val:=⟨_,rfl⟩
   have QR:=hide (show ∀W,Ext W3 W→Calls Tryz.prog 211 #[.pointer (some ⟨g,0,none⟩),(((x.c i).p c).val).v] W fun e w'=>e=.returned rr.v∧Ext W w' from fun W xW=>by
    rw[hrr];obtain⟨ar,kr,ac,kc,vg,br,bc,pb,pa,pk,role,h⟩:=(unhide G3).ext xW;exact gres_any ((x.c i).p c).val W h (unhide FK).2)
   have HR:=hide hrr;have FN:=hide (show ∀W,Ext W3 W→GOk B (wordO W br' (a*3) rr) g (regTo x a rr)∧Ext v (wordO W br' (a*3) rr) from fun W xW=>⟨(unhide R3).set W a rr xW ha,(wordO_only W br' (a*3) rr).ext ((unhide X3).trans xW) (fun q hq e=>by omega)⟩);unfold wordO at FN;clear hr hrr;go_wp2_with fail;go_cut [] (fun wx=>Hid (GOk B wx g (regTo x a rr))∧Hid (Ext v wx))
   case first=>
    go_region_with (go_at_call 211;refine(unhide QR _ (Ext.refl W3).drew).mono ?_;rintro e w5 ⟨rfl,x5⟩;have xw5:=Ext.trans (Ext.refl W3).drew x5;have k3:=xw5.keep c3;have k0:=xw5.keep r0;have k1:=xw5.keep r1;have k2:=xw5.keep r2;have kf:=fun m=>((bcell xw5).2 br' m hb3).trans (f m);have ka:=xw5.keep t1;have F5:=hide (unhide FN w5 xw5);clear x5 xw5)
    all_goals
     go_wp2_with fail;go_meet;exact⟨(unhide F5).1,(unhide F5).2⟩
   case rest=>
    obtain⟨G5,X5⟩:=hcut;clear c3 r0 r1 r2 f t0 t1 t2 t3 t4 t5 t6 t7 y0 y1 y2 y3 y4 y5 FN QR;go_wp2_with fail;refine(l5fine_any 0 _).mono ?_;rintro e w6 ⟨rfl,x6⟩;have G6:=hide ((unhide G5).ext x6);have X6:=hide ((unhide X5).trans x6);obtain⟨u0,u1,u2,u3,u4,u5,u6,u7⟩:=(unhide G6).boxes (unhide O1);have hw6:w.heap.size+1<w6.heap.size:=cell_lt u5;clear x6;go_wp2_with fail;refine bodyPost_ret (v:=ansV 0 0) (by simp [results,Tryz.results177,go_sem,u5,u6]) rfl ?_;exact⟨_,0,0,rfl,.inr (.inr ⟨unhide D,by rw[←unhide HI];exact hc,by rw[←unhide HI];show regTo x a rr=regTo x a (resW x ((x.c i).p c).val);rw[←unhide HR],rfl,rfl⟩),GOk.done (unhide O1) (unhide G6) 0 0,putA_ext (unhide X6) (unhide V0) 0 0⟩
  ·have hc1:(c:Int)≥((x.c i).prs.length:Int):=by omega
   obtain⟨bc,kc,ap,kp,hce⟩:=(unhide G1).cel i hi;have c4:=hce.c4;have p7:=hce.p7;clear hce;go_enter Tryz.func177,Tryz.ntmps177;go_wp2_with fail;go_quiet (fail);obtain⟨W2,hW2⟩:∃W,W=(doW w 6 a b c n).drewN nq:=⟨_,rfl⟩;rw[←hW2];have x12:Ext (doW w 6 a b c n) W2:=by rw[hW2];exact Ext.drewN (Ext.refl _) nq
   clear hW2;go_wp2_with fail;refine(l5bad_any 3 _).mono ?_;rintro e w3 ⟨rfl,x3⟩;have G3:=hide ((unhide G1).ext (x12.trans x3));have X3:=hide ((unhide X1).trans (x12.trans x3));clear x3 x12 c3 r0 r1 r2 t0 t1 t2 t3 t4 t5 t6 t7 c4 p7;obtain⟨u0,u1,u2,u3,u4,u5,u6,u7⟩:=(unhide G3).boxes (unhide O1);have hw3:w.heap.size+1<w3.heap.size:=cell_lt u5;go_wp2_with fail;refine bodyPost_ret (v:=ansV 3 0) (by simp [results,Tryz.results177,go_sem,u5,u6]) rfl ?_;exact⟨_,3,0,rfl,.inr (.inl ⟨unhide D,by rw[←unhide HI];omega,rfl,rfl,rfl⟩),GOk.done (unhide O1) (unhide G3) 3 0,putA_ext (unhide X3) (unhide V0) 3 0⟩
end Go.Proofs.YtnegjhddmfiefaaGreatDoor
