import Derived.Test.YtddkhnclmeikfaaGreatFb3
namespace Go.Proofs.YtddkhnclmeikfaaGreat
set_option maxRecDepth 100000
set_option maxHeartbeats 8000000
open Go.RowKit
attribute [local go_sem ↓] Go.wp_at_zero Go.wp_at_succ
def IP(K:KW)(B:Nat)(v:World)(s:Nat)(R:Int)(g:List Wd)(T:List (List Pr))(br:Nat)(e:Ending)(w':World):Prop:=∃vt pb,Hid (e=.returned (ansV 0 0))∧Hid (IW K B w' s R g T br vt pb)∧Ext v w'
section
variable {K : KW} {B : Nat} {w : World} {s : Nat} {R : Int} {g : List Wd} {T : List (List Pr)} {br : Nat} {vt : Value} {pb : Nat → Nat}
abbrev doI(w:World)(op a b c n:Int):World:=(w.alloc (.cells #[iv op,iv a,iv b,iv c,iv n] 39)).alloc (.cells #[iv 0,iv 0] 41)
theorem doI_x(w:World)(op a b c n:Int):Ext w (doI w op a b c n):=((Ext.refl w).alloc _).alloc _
structure Bx(w W:World)(op a b c n:Int):Prop where
 t0:W.cell? ⟨w.heap.size,0,none⟩=some (iv op)
 t1:W.cell? ⟨w.heap.size,1,none⟩=some (iv a)
 t2:W.cell? ⟨w.heap.size,2,none⟩=some (iv b)
 t3:W.cell? ⟨w.heap.size,3,none⟩=some (iv c)
 t4:W.cell? ⟨w.heap.size,4,none⟩=some (iv n)
 t5:W.cell? ⟨w.heap.size+1,0,none⟩=some (iv 0)
 t6:W.cell? ⟨w.heap.size+1,1,none⟩=some (iv 0)
 t7:∀j,W.frozen? ⟨w.heap.size+1,j,none⟩=false
theorem Bx.new(w:World)(op a b c n:Int):Bx w (doI w op a b c n) op a b c n:=⟨by simp [go_sem],by simp [go_sem],by simp [go_sem],by simp [go_sem],by simp [go_sem],by simp [go_sem],by simp [go_sem],fun j=>by simp [go_sem]⟩
theorem Bx.ext{w W W':World}{op a b c n:Int}(h:Bx w W op a b c n)(e:Ext W W'):Bx w W' op a b c n:=⟨e.keep h.t0,e.keep h.t1,e.keep h.t2,e.keep h.t3,e.keep h.t4,e.keep h.t5,e.keep h.t6,fun j=>((bcell e).2 _ j (cell_lt h.t5)).trans (h.t7 j)⟩
theorem Bx.only{w W W':World}{op a b c n:Int}{S:Nat→Prop}(h:Bx w W op a b c n)(o:Only S W W')(h0:¬S w.heap.size)(h1:¬S (w.heap.size+1)):Bx w W' op a b c n:=by
 have e0:=o.block _ (cell_lt h.t0) h0;have e1:=o.block _ (cell_lt h.t5) h1;have k0:∀j x,W.cell? ⟨w.heap.size,j,none⟩=some x→W'.cell? ⟨w.heap.size,j,none⟩=some x:=fun j x c=>(World.cell?_of_block (a:=⟨w.heap.size,j,none⟩) e0).trans c
 have k1:∀j x,W.cell? ⟨w.heap.size+1,j,none⟩=some x→W'.cell? ⟨w.heap.size+1,j,none⟩=some x:=fun j x c=>(World.cell?_of_block (a:=⟨w.heap.size+1,j,none⟩) e1).trans c
 exact⟨k0 _ _ h.t0,k0 _ _ h.t1,k0 _ _ h.t2,k0 _ _ h.t3,k0 _ _ h.t4,k1 _ _ h.t5,k1 _ _ h.t6,fun j=>(World.frozen?_of_block (a:=⟨w.heap.size+1,j,none⟩) e1).trans (h.t7 j)⟩
theorem IW.ans(h:IW K B w s R g T br vt pb){k:Nat}(hk:k≠s∧k≠br∧vt.ownBlock≠some k∧(∀i,i<T.length→k≠pb i)∧¬K.S k)(x y:Value):IW K B ((w.setCell ⟨k,0,none⟩ x).setCell ⟨k,1,none⟩ y) s R g T br vt pb:=
 h.blk (by simp [World.setCell]) (fun q _ m=>by
  have n:q≠k:=by
   rcases m with m | m | m | ⟨i,hi,m⟩ | m
   ·rw[m];exact fun e=>hk.1 e.symm
   ·rw[m];exact fun e=>hk.2.1 e.symm
   ·exact fun e=>hk.2.2.1 (e ▸ m)
   ·rw[m];exact fun e=>hk.2.2.2.1 i hi e.symm
   ·exact fun e=>hk.2.2.2.2 (e ▸ m)
  rw[Below.heap_setCell _ _ _ _ n,Below.heap_setCell _ _ _ _ n])
theorem IW.far(h:IW K B w s R g T br vt pb){k:Nat}(hk:w.heap.size≤k):k≠s∧k≠br∧vt.ownBlock≠some k∧(∀i,i<T.length→k≠pb i)∧¬K.S k:=by
 have:=h.nfs.1;have:=h.nfb.1;exact⟨by omega,by omega,fun e=>by have:=(h.row.lt k e).2;omega,fun i hi=>by have:=(h.pn i hi).2.1.1;omega,fun e=>by have:=(h.kq k e).1;omega⟩
theorem ido_3(h:IW K B w s R g T br vt pb)(a:Nat)(ha:a<16)(v:World)(hv:v.heap.size≤B)(hx:Ext v w):
  Calls Tryz.prog 101 #[.pointer (some ⟨s,0,none⟩),actV 3 a 0 0 0] w (IP K B v s R (g.set a Wd0) T br):=by
 have ok:actOkB 3 a 0 0 0=true:=ok_of (op:=3) (a:=a) (b:=0) (c:=0) (by omega) (by omega) (by show(a:Int)≤15;omega) (by decide) (by decide);have FR0:=hide (h.far (k:=w.heap.size) (Nat.le_refl _));have FR:=hide (h.far (k:=w.heap.size+1) (by omega));have X0:=hide hx;have V0:=hide (show v.heap.size≤w.heap.size+1 by have:=hx.size;omega);have HI:=hide (h.ext (doI_x w 3 a 0 0 0));have BX:=hide (Bx.new w 3 a 0 0 0);have QA:=hide (specActOk_any 3 a 0 0 0 (doI w 3 a 0 0 0));rw[ok] at QA;clear ok h hx;go_enter Tryz.func101,Tryz.ntmps101;obtain⟨t0,t1,t2,t3,t4,t5,t6,t7⟩:=unhide BX;go_wp2_with fail;refine(unhide QA).mono ?_;rintro e w1 ⟨rfl,x1⟩;have H1:=hide ((unhide HI).ext x1);have B1:=hide ((unhide BX).ext x1);have X1:=hide ((unhide X0).trans ((doI_x w 3 a 0 0 0).trans x1));clear t0 t1 t2 t3 t4 t5 t6 t7 QA HI BX X0 x1;obtain⟨t0,t1,t2,t3,t4,t5,t6,t7⟩:=unhide B1;have c1:=(unhide H1).c1;obtain⟨r0,r1,r2⟩:=(unhide H1).rg a ha;have f:=(unhide H1).nfb.2;have hbb:=(unhide H1).bs;have j0:(0:Int)≤(a:Int):=by omega
 have j1:(a:Int)<16:=by omega
 have hs1:s<w1.heap.size:=(unhide H1).nfs.1;have hb1:br<w1.heap.size:=(unhide H1).nfb.1;have hw1:w.heap.size<w1.heap.size:=cell_lt t0;have FN:=hide (show IW K B (wordO w1 br (a*3) Wd0) s R (g.set a Wd0) T br vt pb∧Ext v (wordO w1 br (a*3) Wd0)∧Bx w (wordO w1 br (a*3) Wd0) 3 a 0 0 0 from⟨(unhide H1).reg a ha Wd0,(wordO_only w1 br (a*3) Wd0).ext (unhide X1) (fun q hq e=>by omega),(unhide B1).only (wordO_only w1 br (a*3) Wd0) (unhide FR0).2.1 (unhide FR).2.1⟩);obtain⟨W2,hW2⟩:∃W,W=wordO w1 br (a*3) Wd0:=⟨_,rfl⟩;rw[←hW2] at FN;unfold wordO Wd0 at hW2;go_wp2_with fail
 go_region
 go_wp2_with fail;rw[←hW2];refine(l5fine_any 0 _).mono ?_;rintro e w3 ⟨rfl,x3⟩;have x23:=Ext.trans (Ext.refl W2).drew x3;have G3:=hide ((unhide FN).1.ext x23);have X3:=hide ((unhide FN).2.1.trans x23);have B3:=hide ((unhide FN).2.2.ext x23);clear hW2 FN c1 r0 r1 r2 f t0 t1 t2 t3 t4 t5 t6 t7 x3 x23;obtain⟨u0,u1,u2,u3,u4,u5,u6,u7⟩:=unhide B3;have hw3:w.heap.size+1<w3.heap.size:=cell_lt u5;go_wp2_with fail;refine bodyPost_ret (v:=ansV 0 0) (by simp [results,Tryz.results101,go_sem,u5,u6]) rfl ?_;exact⟨vt,pb,rfl,(unhide G3).ans (unhide FR) _ _,((unhide X3).setCell (p:=⟨w.heap.size+1,0,none⟩) (unhide V0) _).setCell (p:=⟨w.heap.size+1,1,none⟩) (unhide V0) _⟩
theorem ido_23(h:IW K B w s R g T br vt pb)(b c:Nat)(hb:b≤64)(hc:c≤4000)(v:World)(hx:Ext v w):
  Calls Tryz.prog 101 #[.pointer (some ⟨s,0,none⟩),actV 23 0 b c 0] w (IP K B v s R g T br):=by
 have ok:actOkB 23 0 b c 0=true:=ok_of (op:=23) (a:=0) (b:=b) (c:=c) (by omega) (by omega) (by decide) (by show(b:Int)≤64;omega) (by show(c:Int)≤4000;omega);have FR:=hide (h.far (k:=w.heap.size+1) (by omega));have X0:=hide hx;have V0:=hide (show v.heap.size≤w.heap.size+1 by have:=hx.size;omega);have HI:=hide (h.ext (doI_x w 23 0 b c 0));have BX:=hide (Bx.new w 23 0 b c 0);have QA:=hide (specActOk_any 23 0 b c 0 (doI w 23 0 b c 0));rw[ok] at QA;clear ok h hx;go_enter Tryz.func101,Tryz.ntmps101;obtain⟨t0,t1,t2,t3,t4,t5,t6,t7⟩:=unhide BX;go_wp2_with fail;refine(unhide QA).mono ?_;rintro e w1 ⟨rfl,x1⟩;have H1:=hide ((unhide HI).ext x1);have B1:=hide ((unhide BX).ext x1);have X1:=hide ((unhide X0).trans ((doI_x w 23 0 b c 0).trans x1));clear t0 t1 t2 t3 t4 t5 t6 t7 QA HI BX X0 x1;obtain⟨t0,t1,t2,t3,t4,t5,t6,t7⟩:=unhide B1;go_wp2_with fail;refine(l5fine_any 0 _).mono ?_;rintro e w3 ⟨rfl,x3⟩;have G3:=hide ((unhide H1).ext x3);have X3:=hide ((unhide X1).trans x3);have B3:=hide ((unhide B1).ext x3);clear t0 t1 t2 t3 t4 t5 t6 t7 x3;obtain⟨u0,u1,u2,u3,u4,u5,u6,u7⟩:=unhide B3;have hw3:w.heap.size+1<w3.heap.size:=cell_lt u5;go_wp2_with fail;refine bodyPost_ret (v:=ansV 0 0) (by simp [results,Tryz.results101,go_sem,u5,u6]) rfl ?_;exact⟨vt,pb,rfl,(unhide G3).ans (unhide FR) _ _,((unhide X3).setCell (p:=⟨w.heap.size+1,0,none⟩) (unhide V0) _).setCell (p:=⟨w.heap.size+1,1,none⟩) (unhide V0) _⟩
theorem ipair_6(h:IW K B w s R g T br vt pb)(a b c i:Nat)(ha:a<16)(hi:i<T.length)(hc:c<(tI T i).length):
  Calls Tryz.prog 223 #[.pointer (some ⟨s,0,none⟩),actV 6 a b c 0,.int .i64 i] w fun e w'=>e=.returned (.tuple #[])∧Hid (IW K B w' s R (g.set a (pI (tI T i) c).val) T br vt pb)∧Hid (Only (fun q=>q=br) w w'):=by
 have x0:Ext w (w.alloc (.cells #[iv 6,iv a,iv b,iv c,iv 0] 39)):=(Ext.refl w).alloc _;obtain⟨w1,hw1⟩:∃W,W=w.alloc (.cells #[iv 6,iv a,iv b,iv c,iv 0] 39):=⟨_,rfl⟩;have HW1:=hide hw1;rw[←hw1] at x0;have H1:=hide (h.ext x0);have X0:=hide x0;have BX:=hide (show w1.cell? ⟨w.heap.size,0,none⟩=some (iv 6)∧w1.cell? ⟨w.heap.size,1,none⟩=some (iv a)∧w1.cell? ⟨w.heap.size,2,none⟩=some (iv b)∧w1.cell? ⟨w.heap.size,3,none⟩=some (iv c) by rw[hw1];exact⟨by simp [go_sem],by simp [go_sem],by simp [go_sem],by simp [go_sem]⟩);clear h x0 hw1;obtain⟨t0,t1,t2,t3⟩:=unhide BX;obtain⟨ad,kt,ev,ir⟩:=(unhide H1).form;have c1:=(unhide H1).c1;have c2:=(unhide H1).c2;rw[ev] at c2;obtain⟨b5,e5,nd⟩:=ir.th i hi;rw[e5] at c2;have n4:=nd.c4;obtain⟨y0,y1,y2,y3,y4,y5⟩:=nd.pr c hc;obtain⟨r0,r1,r2⟩:=(unhide H1).rg a ha;have f:=(unhide H1).nfb.2;have j0:(0:Int)≤(a:Int):=by omega
 have j1:(a:Int)<16:=by omega
 have i0:(0:Int)≤(i:Int):=by omega
 have i1:(i:Int)<(T.length:Int):=by omega
 have k0:(0:Int)≤(c:Int):=by omega
 have k1:(c:Int)<((tI T i).length:Int):=by omega
 have hs1:s<w1.heap.size:=(unhide H1).nfs.1;have hb1:br<w1.heap.size:=(unhide H1).nfb.1;have hw:w.heap.size<w1.heap.size:=cell_lt t0;have h5:b5<w1.heap.size:=cell_lt n4;have hp:pb i<w1.heap.size:=cell_lt y0;obtain⟨uv,huv⟩:∃u,u=(pI (tI T i) c).val:=⟨_,rfl⟩;rw[←huv] at y3 y4 y5 ⊢;have FN:=hide (show IW K B (wordO w1 br (a*3) uv) s R (g.set a uv) T br vt pb∧Only (fun q=>q=br) w (wordO w1 br (a*3) uv) from⟨(unhide H1).reg a ha uv,(Only.of_ext (unhide X0)).trans (wordO_only w1 br (a*3) uv)⟩);obtain⟨W2,hW2⟩:∃W,W=wordO w1 br (a*3) uv:=⟨_,rfl⟩;rw[←hW2] at FN;unfold wordO at hW2;clear nd ir ev huv e5;go_enter Tryz.func223,Tryz.ntmps223;go_wp2_with fail;rw[←unhide HW1]
 go_region
 rw[←hW2];go_wp2_with fail
 go_end0
 exact⟨rfl,(unhide FN).1.ext (Ext.refl W2).drew,(unhide FN).2.drew⟩
theorem ipair_8(h:IW K B w s R g T br vt pb)(a b c i:Nat)(hb:b<16)(hi:i<T.length)(hc:c<(tI T i).length):
  Calls Tryz.prog 223 #[.pointer (some ⟨s,0,none⟩),actV 8 a b c 0,.int .i64 i] w fun e w'=>e=.returned (.tuple #[])∧Hid (IW K B w' s R g (putV T i c (rI g b)) br vt pb)∧Hid (Only (fun q=>q=pb i) w w'):=by
 have x0:Ext w (w.alloc (.cells #[iv 8,iv a,iv b,iv c,iv 0] 39)):=(Ext.refl w).alloc _;obtain⟨w1,hw1⟩:∃W,W=w.alloc (.cells #[iv 8,iv a,iv b,iv c,iv 0] 39):=⟨_,rfl⟩;have HW1:=hide hw1;rw[←hw1] at x0;have H1:=hide (h.ext x0);have X0:=hide x0;have BX:=hide (show w1.cell? ⟨w.heap.size,0,none⟩=some (iv 8)∧w1.cell? ⟨w.heap.size,1,none⟩=some (iv a)∧w1.cell? ⟨w.heap.size,2,none⟩=some (iv b)∧w1.cell? ⟨w.heap.size,3,none⟩=some (iv c) by rw[hw1];exact⟨by simp [go_sem],by simp [go_sem],by simp [go_sem],by simp [go_sem]⟩);clear h x0 hw1;obtain⟨t0,t1,t2,t3⟩:=unhide BX;obtain⟨ad,kt,ev,ir⟩:=(unhide H1).form;have c1:=(unhide H1).c1;have c2:=(unhide H1).c2;rw[ev] at c2;obtain⟨b5,e5,nd⟩:=ir.th i hi;rw[e5] at c2;have n4:=nd.c4;obtain⟨y0,y1,y2,y3,y4,y5⟩:=nd.pr c hc;obtain⟨r0,r1,r2⟩:=(unhide H1).rg b hb;have f:=((unhide H1).pn i hi).2.1.2;have j0:(0:Int)≤(b:Int):=by omega
 have j1:(b:Int)<16:=by omega
 have i0:(0:Int)≤(i:Int):=by omega
 have i1:(i:Int)<(T.length:Int):=by omega
 have k0:(0:Int)≤(c:Int):=by omega
 have k1:(c:Int)<((tI T i).length:Int):=by omega
 have hs1:s<w1.heap.size:=(unhide H1).nfs.1;have hb1:br<w1.heap.size:=(unhide H1).nfb.1;have hw:w.heap.size<w1.heap.size:=cell_lt t0;have h5:b5<w1.heap.size:=cell_lt n4;have hp:pb i<w1.heap.size:=cell_lt y0;obtain⟨uv,huv⟩:∃u,u=rI g b:=⟨_,rfl⟩;rw[←huv] at r0 r1 r2 ⊢;have FN:=hide (show IW K B (wordO w1 (pb i) (c*6+3) uv) s R g (putV T i c uv) br vt pb∧Only (fun q=>q=pb i) w (wordO w1 (pb i) (c*6+3) uv) from⟨(unhide H1).val i c hi hc uv,(Only.of_ext (unhide X0)).trans (wordO_only w1 (pb i) (c*6+3) uv)⟩);obtain⟨W2,hW2⟩:∃W,W=wordO w1 (pb i) (c*6+3) uv:=⟨_,rfl⟩;rw[←hW2] at FN;unfold wordO at hW2;clear nd ir ev huv e5;go_enter Tryz.func223,Tryz.ntmps223;go_wp2_with fail;rw[←unhide HW1]
 go_region
 rw[←hW2];go_wp2_with fail
 go_end0
 exact⟨rfl,(unhide FN).1.ext (Ext.refl W2).drew,(unhide FN).2.drew⟩
theorem ithing(op f:Nat)(a b c i:Nat)(hop:(op=6∧f=b)∨(op=8∧f=a))(hf:f<16)(hi:i<T.length)(hc:c<(tI T i).length)(h2:(rI g f).k=2)(hai:(rI g f).a=i)(h:IW K B w s R g T br vt pb){g':List Wd}{T':List (List Pr)}(z:Nat)(hz:z≠w.heap.size∧z≠w.heap.size+1)(l3:T'.length=T.length)
  (qp:∀W,Ext w W→Calls Tryz.prog 223 #[.pointer (some ⟨s,0,none⟩),actV op a b c 0,.int .i64 i] W fun e w'=>e=.returned (.tuple #[])∧Hid (IW K B w' s R g' T' br vt pb)∧Hid (Only (fun q=>q=z) W w')) :
  Calls Tryz.prog 165 #[.pointer (some ⟨s,0,none⟩),actV op a b c 0] w fun e w'=>e=.returned (ansV 0 0)∧Hid (IW K B w' s R g' T' br vt pb)∧Hid (Only (fun q=>q=z) w w'):=by
 have QP:=hide qp;have FR:=hide (h.far (k:=w.heap.size+1) (by omega));obtain⟨w1,hw1⟩:∃W,W=doI w op a b c 0:=⟨_,rfl⟩;have x0:Ext w w1:=by rw[hw1];exact doI_x w op a b c 0
 have HI:=hide (h.ext x0);have X0:=hide x0;have BX:=hide (show Bx w w1 op a b c 0 by rw[hw1];exact Bx.new w op a b c 0);have HW1:=hide hw1;clear h qp hw1 x0;obtain⟨t0,t1,t2,t3,t4,t5,t6,t7⟩:=unhide BX;obtain⟨ad,kt,ev,ir⟩:=(unhide HI).form;have c1:=(unhide HI).c1;have c2:=(unhide HI).c2;rw[ev] at c2;obtain⟨b5,e5,nd⟩:=ir.th i hi;rw[e5] at c2;have n4:=nd.c4;obtain⟨r0,r1,r2⟩:=(unhide HI).rg f hf;rw[h2] at r0;rw[hai] at r2;have j0:(0:Int)≤(f:Int):=by omega
 have j1:(f:Int)<16:=by omega
 have i0:(0:Int)≤(i:Int):=by omega
 have i1:(i:Int)<(T.length:Int):=by omega
 have k1:¬((c:Int)≥((tI T i).length:Int)):=by omega
 have hs1:s<w1.heap.size:=(unhide HI).nfs.1;have hb1:br<w1.heap.size:=(unhide HI).nfb.1;have hw:w.heap.size<w1.heap.size:=cell_lt t0;have h5:b5<w1.heap.size:=cell_lt n4;have QP1:=hide (unhide QP w1 (unhide X0));clear nd ir ev e5 h2 hai QP;rcases hop with⟨rfl,rfl⟩ | ⟨rfl,rfl⟩
 all_goals
  go_enter Tryz.func165,Tryz.ntmps165
  first | have e1:w1=doI w 6 a f c 0:=unhide HW1 | have e1:w1=doI w 8 f b c 0:=unhide HW1
  unfold doI at e1
  go_upto_region 1 with(fail)
  rw[←e1];clear e1;go_wp2_with fail;refine(unhide QP1).mono ?_;rintro e w2 ⟨rfl,H2,O2⟩;have B2:=hide ((unhide BX).only (unhide O2) (fun e=>hz.1 e.symm) (fun e=>hz.2 e.symm));clear t0 t1 t2 t3 t4 t5 t6 t7 c1 c2 n4 r0 r1 r2 QP1;obtain⟨t0,t1,t2,t3,t4,t5,t6,t7⟩:=unhide B2;have hw2:w.heap.size<w2.heap.size:=cell_lt t0;go_wp2_with fail;refine(l5fine_any 0 _).mono ?_;rintro e w3 ⟨rfl,x3⟩;have G3:=hide ((unhide H2).ext x3);have B3:=hide ((unhide B2).ext x3);have O3:=hide (((Only.of_ext (unhide X0)).trans (unhide O2)).trans (Only.of_ext x3));clear t0 t1 t2 t3 t4 t5 t6 t7 x3;obtain⟨u0,u1,u2,u3,u4,u5,u6,u7⟩:=unhide B3;have hw3:w.heap.size+1<w3.heap.size:=cell_lt u5;go_wp2_with fail;refine bodyPost_ret (v:=ansV 0 0) (by simp [results,Tryz.results165,go_sem,u5,u6]) rfl ?_;have FR2:w.heap.size+1≠s∧w.heap.size+1≠br∧vt.ownBlock≠some (w.heap.size+1)∧(∀i,i<T'.length→w.heap.size+1≠pb i)∧¬K.S (w.heap.size+1):=by rw[l3];exact unhide FR
  refine⟨rfl,(unhide G3).ans FR2 _ _,?_⟩;exact⟨(unhide O3).os,(unhide O3).tape,(unhide O3).output,by simpa [World.setCell] using (unhide O3).size,fun k hk n=>by rw[Below.heap_setCell _ _ _ _ (by show k≠w.heap.size+1;omega),Below.heap_setCell _ _ _ _ (by show k≠w.heap.size+1;omega)];exact(unhide O3).block k hk n⟩
theorem ido_t(op f:Nat)(a b c i:Nat)(hop:(op=6∧f=b)∨(op=8∧f=a))(ha:a<16)(hb:b<16)(hi:i<T.length)(hc:c<(tI T i).length)(c2:c<200)(h2:(rI g f).k=2)(hai:(rI g f).a=i)(h:IW K B w s R g T br vt pb){g':List Wd}{T':List (List Pr)}(z:Nat)(hz:z<w.heap.size)(l3:T'.length=T.length)
  (qp:∀W,Ext w W→Calls Tryz.prog 223 #[.pointer (some ⟨s,0,none⟩),actV op a b c 0,.int .i64 i] W fun e w'=>e=.returned (.tuple #[])∧Hid (IW K B w' s R g' T' br vt pb)∧Hid (Only (fun q=>q=z) W w')) (v:World) (hv:v.heap.size≤z) (hx:Ext v w) :
  Calls Tryz.prog 101 #[.pointer (some ⟨s,0,none⟩),actV op a b c 0] w (IP K B v s R g' T' br):=by
 have ok:actOkB op a b c 0=true:=by
  rcases hop with⟨rfl,_⟩ | ⟨rfl,_⟩
  ·exact ok_of (by omega) (by omega) (by show(a:Int)≤15;omega) (by show(b:Int)≤15;omega) (by show(c:Int)≤199;omega)
  ·exact ok_of (by omega) (by omega) (by show(a:Int)≤15;omega) (by show(b:Int)≤15;omega) (by show(c:Int)≤199;omega)
 have hf:f<16:=by omega
 have QT:=hide (fun W (e:Ext w W)=>ithing op f a b c i hop hf hi hc h2 hai (h.ext e) (g':=g') (T':=T') z ⟨by have:=e.size;omega,by have:=e.size;omega⟩ l3 (fun W' e'=>qp W' (e.trans e')));have FR:=hide (h.far (k:=w.heap.size+1) (by omega));have X0:=hide hx;have V0:=hide (show v.heap.size≤w.heap.size+1 by omega);obtain⟨w1,hw1⟩:∃W,W=doI w op a b c 0:=⟨_,rfl⟩;have x0:Ext w w1:=by rw[hw1];exact doI_x w op a b c 0
 have XX:=hide x0;have BX:=hide (show Bx w w1 op a b c 0 by rw[hw1];exact Bx.new w op a b c 0);have QA:=hide (specActOk_any op a b c 0 w1);rw[ok] at QA;have HW1:=hide hw1;clear ok h hx qp hw1 x0 h2 hai;rcases hop with⟨rfl,rfl⟩ | ⟨rfl,rfl⟩
 all_goals
  go_enter Tryz.func101,Tryz.ntmps101
  first | have e1:w1=doI w 6 a f c 0:=unhide HW1 | have e1:w1=doI w 8 f b c 0:=unhide HW1
  unfold doI at e1
  go_upto_region 1 with(fail)
  rw[←e1];clear e1;obtain⟨t0,t1,t2,t3,t4,t5,t6,t7⟩:=unhide BX;go_wp2_with fail;refine(unhide QA).mono ?_;rintro e w2 ⟨rfl,x2⟩;have X2:=hide ((unhide XX).trans x2);have B2:=hide ((unhide BX).ext x2);clear t0 t1 t2 t3 t4 t5 t6 t7 QA BX x2 XX;obtain⟨t0,t1,t2,t3,t4,t5,t6,t7⟩:=unhide B2;go_wp2_with fail;refine(unhide QT _ (unhide X2)).mono ?_;rintro e w3 ⟨rfl,H3,O3⟩;have B3:=hide ((unhide B2).only (unhide O3) (fun e=>by omega) (fun e=>by omega));have X3:=hide ((unhide O3).ext ((unhide X0).trans (unhide X2)) (fun k hk e=>by omega));clear t0 t1 t2 t3 t4 t5 t6 t7 B2 QT;obtain⟨u0,u1,u2,u3,u4,u5,u6,u7⟩:=unhide B3;have hw3:w.heap.size+1<w3.heap.size:=cell_lt u5;go_wp2_with fail;refine bodyPost_ret (v:=ansV 0 0) (by simp [results,Tryz.results101,go_sem,u5,u6]) rfl ?_;have FR2:w.heap.size+1≠s∧w.heap.size+1≠br∧vt.ownBlock≠some (w.heap.size+1)∧(∀i,i<T'.length→w.heap.size+1≠pb i)∧¬K.S (w.heap.size+1):=by rw[l3];exact unhide FR
  exact⟨vt,pb,rfl,(unhide H3).ans FR2 _ _,((unhide X3).setCell (p:=⟨w.heap.size+1,0,none⟩) (unhide V0) _).setCell (p:=⟨w.heap.size+1,1,none⟩) (unhide V0) _⟩
theorem ido_6(a b c i:Nat)(ha:a<16)(hb:b<16)(hi:i<T.length)(hc:c<(tI T i).length)(c2:c<200)(h2:(rI g b).k=2)(hai:(rI g b).a=i)(h:IW K B w s R g T br vt pb)(v:World)(hv:v.heap.size≤B)(hx:Ext v w):
  Calls Tryz.prog 101 #[.pointer (some ⟨s,0,none⟩),actV 6 a b c 0] w (IP K B v s R (g.set a (pI (tI T i) c).val) T br):=
 ido_t 6 b a b c i (.inl ⟨rfl,rfl⟩) ha hb hi hc c2 h2 hai h br h.nfb.1 rfl (fun _ e=>ipair_6 (h.ext e) a b c i ha hi hc) v (Nat.le_trans hv h.bs.2.1) hx
theorem ido_8(a b c i:Nat)(ha:a<16)(hb:b<16)(hi:i<T.length)(hc:c<(tI T i).length)(c2:c<200)(h2:(rI g a).k=2)(hai:(rI g a).a=i)(h:IW K B w s R g T br vt pb)(v:World)(hv:v.heap.size≤B)(hx:Ext v w):
  Calls Tryz.prog 101 #[.pointer (some ⟨s,0,none⟩),actV 8 a b c 0] w (IP K B v s R g (putV T i c (rI g b)) br):=
 ido_t 8 a a b c i (.inr ⟨rfl,rfl⟩) ha hb hi hc c2 h2 hai h (pb i) (h.pn i hi).2.1.1 (by simp [putV]) (fun _ e=>ipair_8 (h.ext e) a b c i hb hi hc) v (Nat.le_trans hv (h.pn i hi).1) hx
end
end Go.Proofs.YtddkhnclmeikfaaGreat
