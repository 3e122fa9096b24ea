import Derived.Test.YtddkhnclmeikfaaGreatJq
import Derived.Test.YtddkhnclmeikfaaGreatKa5
import Derived.Test.YtddkhnclmeikfaaGreatCm4
set_option maxRecDepth 100000
set_option maxHeartbeats 100000000
namespace Go.Proofs.YtddkhnclmeikfaaGreat
open Go.RowKit
attribute [local go_sem ↓] Go.wp_at_zero Go.wp_at_succ
theorem cellW_alloc(w:World)(b o:Nat)(k:Cl)(vv:Value)(ob:Obj)(h:b<w.heap.size):cellW (w.alloc ob) b o k vv=(cellW w b o k vv).alloc ob:=by
 unfold cellW;simp only [World.setCell_alloc_past _ _ _ _ h,World.setCell_alloc_past,World.size_setCell,h]
theorem way_1[Inhabited ProtD]{C B:Nat}{w:World}{b bd ba bs:Nat}{x:Hp}{a p c:Nat}{n:Int}(h:SOq C B w b x)(s:Snd x)(hd:(default:ProtD).z bd=some (deedO b 1 a p c n (roomV ba bs)))(za:(default:ProtD).z ba=some (boxA 1 a p c n))(zs:(default:ProtD).z bs=some (boxS b))(hC:C+64000≤1000000000)(ha:a<16)(hpp:p≤255)(hcc:c≤200)(v:World)(hv:v.heap.size≤B)(hx:Ext v w):
  Calls Tryz.prog 292 #[.pointer (some ⟨bd,0,none⟩)] w fun e w'=>WayPost C B b x a p c n 1 v e w':=by
 have D:=hide (Deed.of (h.obj hd));have H:=hide h;have HD:=hide hd;have S:=hide s;obtain⟨d0,d1,d2,d3,d4,d5,d6⟩:=unhide D;have hdw:bd<w.heap.size:=cell_lt d0;have QR:=hide (fun(W:World) (xW:Ext w W)=>room_any (op:=1) (a:=a) (p:=p) (c:=c) (n:=n) ((unhide H).ext xW) (by omega) (unhide S) za zs (1+c) (by omega) v hv (hx.trans xW));have U1:=hide (show((1+c:Nat):Int)=1+(c:Int) by omega);rw[unhide U1] at QR;clear h s hd za zs;go_enter Tryz.func292,Tryz.ntmps292;go_wp2_with fail;refine(unhide QR _ (Ext.refl w)).mono ?_;rintro e w8 ⟨z,cd,he,hp,g8,x8⟩;have e2:=unhide he;subst e2;have G8:=hide (unhide g8);have X8:=hide x8;have HP:=hide (unhide hp);clear he g8 x8 hp QR d0 d1 d2 d3 d4 d5 d6 hdw;by_cases hcd:cd=4
 ·subst hcd;rw[show errV 4=.iface 283 (.agg #[iv 4]) from rfl];go_wp2_with fail;go_ret2;refine⟨z,4,0,rfl,⟨rfl,?_⟩,(unhide G8).wide (by omega),unhide X8⟩;rcases unhide HP with q | q
  ·exact .inl ⟨q.1.2,q.2.1,rfl⟩
  ·refine .inr ⟨fun e=>q.1 ⟨rfl,e⟩,z,q.2.1,.inl ⟨?_,rfl,rfl⟩⟩;cases hf:fitsB z (1+c)
   ·rfl
   ·have:=q.2.2;rw[hf] at this;simp at this
 ·have RI:x.born≠1000000000∧RoomIs x (1+c) z∧fitsB z (1+c)=true∧cd=0:=by
   rcases unhide HP with q | q
   ·exact absurd q.2.2 hcd
   ·have h2:=q.2.2;cases hf:fitsB z (1+c)
    ·rw[hf] at h2;simp at h2;exact absurd h2 hcd
    ·rw[hf] at h2;simp at h2;exact⟨fun e=>q.1 ⟨rfl,e⟩,q.2.1,rfl,h2⟩
  obtain⟨nb,hz,hf,rfl⟩:=RI;have NB:=hide nb;have HZ:=hide hz;have HF:=hide hf;clear nb hz hf HP hcd;rw[show errV 0=.nilIface from rfl];have SZ:=hide ((unhide HZ).snd (unhide S));have FIT:=hide (show z.used+(1+(c:Int))≤z.room by have e:=unhide HF;unfold fitsB at e;have:=of_decide_eq_true e;omega);have D8:=hide (Deed.of ((unhide G8).obj (unhide HD)));obtain⟨d0,d1,d2,d3,d4,d5,d6⟩:=unhide D8;have hd8:bd<w8.heap.size:=cell_lt d0;have QP:=hide (fun(W:World) (xW:Ext w8 W)=>((unhide G8).ext xW).plc (unhide SZ) (by omega) c (unhide FIT) v hv ((unhide X8).trans xW));go_wp2_with fail;refine(unhide QP _ (Ext.refl w8)).mono ?_;rintro e w9 ⟨t,bn,cb,co,rfl,hpl,x9⟩;have PL:=hide (unhide hpl);have X9:=hide x9;clear hpl x9 QP d0 d1 d2 d3 d4 d5 d6 hd8 D8;have D9:=hide (Deed.of ((unhide PL).dd bd _ (unhide HD)));obtain⟨d0,d1,d2,d3,d4,d5,d6⟩:=unhide D9;have hd9:bd<w9.heap.size:=cell_lt d0;have b2:=(unhide PL).b2;have f2:=(unhide PL).f2;have hb9:b<w9.heap.size:=cell_lt b2;have hlo:=(unhide PL).lo
  have bo:0≤z.born∧z.born<1000000000:=by
   have eb:=(unhide HZ).bornE;have b1:=(unhide S).r1.born;have:=unhide NB;omega
  obtain⟨u,hu⟩:∃u:Int,u=z.born+1:=⟨_,rfl⟩;have HU:=hide hu;go_wp2_with fail;rw[←hu];obtain⟨W10,hW10⟩:∃W,W=w9.setCell ⟨b,2,none⟩ (.int .i64 u):=⟨_,rfl⟩;have PM:=hide ((unhide PL).mid u W10 (by rw[hW10];exact Ext.refl _));have X10:=hide (show Ext v W10 by rw[hW10];exact(unhide X9).setCell (p:=⟨b,2,none⟩) (Nat.le_trans hv hlo) _);have FT:=hide (unhide PL).ft;rw[←hW10];clear hW10 hu PL X9 b2 f2 hb9 bo d0 d1 d2 d3 d4 d5 d6 hd9 D9;have D10:=hide (Deed.of ((unhide PM).dd bd _ (unhide HD)));obtain⟨d0,d1,d2,d3,d4,d5,d6⟩:=unhide D10;obtain⟨m0,m1,⟨c0,s0,s1,s2,s3,s4,s5,s6⟩,⟨v7,s7⟩,fc,c2,c5,c6,lob,-,⟨nb1,nb2,nb3⟩,-⟩:=unhide PM;have nb4:=nb3 bd _ (unhide HD);have hdw:bd<W10.heap.size:=cell_lt d0;have hbw:b<W10.heap.size:=cell_lt c2;have hnw:bn<W10.heap.size:=cell_lt m0;have hcw:cb<W10.heap.size:=cell_lt s7;have QB:=hide (fun(W:World) (xW:Ext W10 W)=>birthColor_any z b bn t W (xW.keep (unhide PM).c5) (xW.keep (unhide PM).c6) (xW.keep (unhide PM).m0));obtain⟨col,hcol⟩:∃col,col=newCol z t:=⟨_,rfl⟩;rw[←hcol] at QB;have HCOL:=hide hcol;have KP:=hide (fun(W:World) (e:Ext W10 W)=>show W.cell? ⟨bd,0,none⟩=some (.pointer (some ⟨b,0,none⟩))∧W.cell? ⟨bd,3,none⟩=some (.int .i64 p)∧W.cell? ⟨bd,4,none⟩=some (.int .i64 c)∧W.cell? ⟨b,2,none⟩=some (.int .i64 u)∧W.cell? ⟨bn,t*2+1,none⟩=some (.pointer (some ⟨cb,co,none⟩)) from⟨e.keep d0,e.keep d3,e.keep d4,e.keep c2,e.keep m1⟩);have KS:=hide (fun(W:World) (o:Nat) (v:Value) (h:W.cell? ⟨bd,0,none⟩=some (.pointer (some ⟨b,0,none⟩))∧W.cell? ⟨bd,3,none⟩=some (.int .i64 p)∧W.cell? ⟨bd,4,none⟩=some (.int .i64 c)∧W.cell? ⟨b,2,none⟩=some (.int .i64 u)∧W.cell? ⟨bn,t*2+1,none⟩=some (.pointer (some ⟨cb,co,none⟩)))=>show(W.setCell ⟨cb,o,none⟩ v).cell? ⟨bd,0,none⟩=some (.pointer (some ⟨b,0,none⟩))∧(W.setCell ⟨cb,o,none⟩ v).cell? ⟨bd,3,none⟩=some (.int .i64 p)∧(W.setCell ⟨cb,o,none⟩ v).cell? ⟨bd,4,none⟩=some (.int .i64 c)∧(W.setCell ⟨cb,o,none⟩ v).cell? ⟨b,2,none⟩=some (.int .i64 u)∧(W.setCell ⟨cb,o,none⟩ v).cell? ⟨bn,t*2+1,none⟩=some (.pointer (some ⟨cb,co,none⟩)) from⟨(World.cell?_setCell_far _ _ _ _ nb4).trans h.1,(World.cell?_setCell_far _ _ _ _ nb4).trans h.2.1,(World.cell?_setCell_far _ _ _ _ nb4).trans h.2.2.1,(World.cell?_setCell_far _ _ _ _ nb1).trans h.2.2.2.1,(World.cell?_setCell_far _ _ _ _ nb2).trans h.2.2.2.2⟩);have KA:=hide (fun(W:World) (o:Obj) (h:W.cell? ⟨bd,0,none⟩=some (.pointer (some ⟨b,0,none⟩))∧W.cell? ⟨bd,3,none⟩=some (.int .i64 p)∧W.cell? ⟨bd,4,none⟩=some (.int .i64 c)∧W.cell? ⟨b,2,none⟩=some (.int .i64 u)∧W.cell? ⟨bn,t*2+1,none⟩=some (.pointer (some ⟨cb,co,none⟩)))=>show(W.alloc o).cell? ⟨bd,0,none⟩=some (.pointer (some ⟨b,0,none⟩))∧(W.alloc o).cell? ⟨bd,3,none⟩=some (.int .i64 p)∧(W.alloc o).cell? ⟨bd,4,none⟩=some (.int .i64 c)∧(W.alloc o).cell? ⟨b,2,none⟩=some (.int .i64 u)∧(W.alloc o).cell? ⟨bn,t*2+1,none⟩=some (.pointer (some ⟨cb,co,none⟩)) from⟨((Ext.refl W).alloc o).keep h.1,((Ext.refl W).alloc o).keep h.2.1,((Ext.refl W).alloc o).keep h.2.2.1,((Ext.refl W).alloc o).keep h.2.2.2.1,((Ext.refl W).alloc o).keep h.2.2.2.2⟩);have MK:=hide (fun(W:World) (k:Cl) (vv:Value) (e:Ext W10 W)=>show(cellW W cb co k vv).cell? ⟨bn,t*2,none⟩=some (iv t) from(World.cell?_of_block (a:=⟨bn,t*2,none⟩) ((cellW_only W cb co k vv).block bn (Nat.lt_of_lt_of_le (cell_lt (unhide PM).m0) e.size) (fun e=>(unhide PM).ne.2.1 e.symm))).trans (e.keep (unhide PM).m0));clear hcol nb3 c5 c6 m0;have mk:=fun W=>mkPairsZ c (by omega) W
  go_cut [] (fun wx=>Hid (SOq (C+16000+1) B wx b { z with born:=u,cells:=newCs z t (newC u p c col) })∧Hid (Ext v wx)∧Hid (wx.cell? ⟨bn,t*2,none⟩=some (iv t)))
  case first=>
   go_region_held3 (fun W=>W.cell? ⟨bd,0,none⟩=some (.pointer (some ⟨b,0,none⟩))∧W.cell? ⟨bd,3,none⟩=some (.int .i64 p)∧W.cell? ⟨bd,4,none⟩=some (.int .i64 c)∧W.cell? ⟨b,2,none⟩=some (.int .i64 u)∧W.cell? ⟨bn,t*2+1,none⟩=some (.pointer (some ⟨cb,co,none⟩)))
    (first
     | (with_reducible (iterate 8 (refine unhide KS _ _ _ ?_));with_reducible assumption)
     | (with_reducible refine unhide KP _ ?_;with_reducible (first | assumption | exact(Ext.refl W10).drew | exact(Ext.refl W10).drew.alloc _ | exact((Ext.refl W10).alloc _).drew | exact(Ext.refl W10).alloc _ | (refine Ext.alloc ?_ _;assumption)))
     | (with_reducible refine unhide KA _ _ ?_;with_reducible (iterate 8 (refine unhide KS _ _ _ ?_));refine unhide KP _ ?_;with_reducible assumption))
    (first | (go_at_call 318;refine(unhide QB _ (by first | exact Ext.refl _ | exact(Ext.refl W10).drew | exact(Ext.refl W10).alloc _ | exact((Ext.refl W10).alloc _).drew | exact(Ext.refl W10).drew.alloc _)).mono ?_;rintro e wb ⟨rfl,xb⟩;have xw:Ext W10 wb:=(by first | exact xb | exact Ext.trans (Ext.refl W10).drew xb | exact Ext.trans ((Ext.refl W10).alloc _) xb | exact Ext.trans ((Ext.refl W10).alloc _).drew xb | exact Ext.trans ((Ext.refl W10).drew.alloc _) xb);have s0':=xw.keep s0;have s1':=xw.keep s1;have s2':=xw.keep s2;have s3':=xw.keep s3;have s4':=xw.keep s4;have s5':=xw.keep s5;have s6':=xw.keep s6;have s7':=xw.keep s7;have fc':=fun j=>((bcell xw).2 cb j hcw).trans (fc j);have hcb:cb<wb.heap.size:=cell_lt s7';have XB:=hide xb))
   ·go_wp2_with fail;go_meet;have f:=(unhide PM).fin p c col (wb.alloc (.cells (madeCells z6 (c*6)) 154)) wb.heap.size (xw.alloc _) (NewP.made W10 wb c _ xw);rw[cellW_alloc _ _ _ _ _ _ hcb] at f;exact⟨f,((cellW_only wb cb co (newC u p c col) (.slice (some ⟨wb.heap.size,0,none⟩) c c)).ext ((unhide X10).trans xw) (fun q hq e=>by omega)).alloc _,((Ext.refl _).alloc _).keep (unhide MK wb (newC u p c col) _ xw)⟩
   ·go_wp2_with fail;go_meet;exact⟨(unhide PM).fin p c col wb W10.heap.size xw ((NewP.made W10 W10 c _ (Ext.refl W10)).ext (Ext.trans ((Ext.refl _).drew) (unhide XB))),(cellW_only wb cb co (newC u p c col) (.slice (some ⟨W10.heap.size,0,none⟩) c c)).ext ((unhide X10).trans xw) (fun q hq e=>by omega),unhide MK wb (newC u p c col) _ xw⟩
  case rest=>
   obtain⟨w11,hw11⟩:∃W,W=wc:=⟨_,rfl⟩;subst hw11;obtain⟨g11,x11,m11⟩:=hcut;have G11:=hide (unhide g11);have X11:=hide (unhide x11);have m0:=unhide m11;clear g11 x11 m11 d0 d1 d2 d3 d4 d5 d6 m1 s0 s1 s2 s3 s4 s5 s6 s7 fc c2 hdw hbw hnw hcw nb1 nb2 nb4 mk KP KS KA MK QB D10;obtain⟨z1,hz1⟩:∃z1:Hp,z1={ z with born:=u,cells:=newCs z t (newC u p c col) }:=⟨_,rfl⟩;rw[←hz1] at G11
   have EQ:=hide (show usedH (regTo z1 a ⟨2,0,t⟩) (1+c)=regTo (makeH z p c) a ⟨2,0,fstFree z⟩ by
    rw[hz1,unhide HU,unhide HCOL,unhide FT];unfold usedH regTo makeH;simp)
   have R16:=hide (show z1.regs.length=16 by rw[hz1];exact(unhide SZ).r1.regs);clear hz1;obtain⟨br,kr,hr⟩:=(unhide G11).regs16 (unhide R16);have dd:=Deed.of ((unhide G11).obj (unhide HD));have QA:=hide (dA_any hr dd ha);obtain⟨r0,r1,r2⟩:=hr.r a ha;have f:=hr.f;have hb11:br<w11.heap.size:=cell_lt r0;have FN:=hide (show ∀W,Ext w11 W→SOq (C+16000+1) B (wordO W br (a*3) ⟨2,0,t⟩) b (regTo z1 a ⟨2,0,t⟩)∧Ext v (wordO W br (a*3) ⟨2,0,t⟩) from fun W xW=>⟨hr.set W a ⟨2,0,t⟩ xW ha,(wordO_only W br (a*3) ⟨2,0,t⟩).ext ((unhide X11).trans xW) (fun q hq e=>by have:=hr.lo.1;omega)⟩);clear dd hr;go_wp2_with fail;refine(unhide QA).mono ?_;rintro e w12 ⟨rfl,x12⟩;have m12:=x12.keep m0;go_wp2_with fail;refine(sword_any bn (t*2) t _ m12).mono ?_;rintro e w13 ⟨rfl,x13⟩;have xx:=x12.trans x13;have k0:=xx.keep r0;have k1:=xx.keep r1;have k2:=xx.keep r2;have kf:=fun m=>((bcell xx).2 br m hb11).trans (f m)
   have hb13:br<w13.heap.size:=cell_lt k0;have F13:=hide (unhide FN w13 xx);obtain⟨W14,hW14⟩:∃W,W=wordO w13 br (a*3) ⟨2,0,t⟩:=⟨_,rfl⟩;rw[←hW14] at F13;unfold wordO at hW14;clear x12 x13 xx m0 m12 r0 r1 r2 f hb11 FN QA;have G14:=hide (unhide F13).1;have X14:=hide (unhide F13).2;clear F13;have DD:=hide (Deed.of ((unhide G14).obj (unhide HD)))
   have QM:=hide (fun(W:World) (xW:Ext W14 W)=>made_any ((unhide G14).ext xW) (by omega) (1+c) (by omega) (show Snd (usedH (regTo z1 a ⟨2,0,t⟩) (1+c)) by
    rw[unhide EQ];have sm:=(unhide SZ).make p c (by omega) hcc (by have eb:=(unhide HZ).bornE;have b1:=(unhide S).r1.born;have:=unhide NB;omega) (unhide FIT);exact sm.1.regTo a ⟨2,0,fstFree z⟩ ⟨.inr (.inr ⟨rfl,rfl,by show(0:Int)≤(fstFree z:Nat);omega,by show((fstFree z:Nat):Int)<_;have:=sm.2.2.1;omega⟩),fun _=>.inr ⟨sm.2.1,sm.2.2.2⟩⟩) v hv ((unhide X14).trans xW))
   rw[unhide U1] at QM;have e0:(((w13.setCell ⟨br,a*3,none⟩ (.int .i64 2)).setCell ⟨br,a*3+1,none⟩ (.int .i64 0)).setCell ⟨br,a*3+2,none⟩ (.int .i64 t)).cell? ⟨bd,0,none⟩=some (.pointer (some ⟨b,0,none⟩)):=by rw[←hW14];exact(unhide DD).d0
   have HW14:=hide hW14;clear hW14;go_wp2_with fail;refine(unhide QM _ (by rw[unhide HW14];exact Ext.refl _)).mono ?_;rintro e w15 ⟨y,he,hp,g15,x15⟩;have e2:=unhide he;subst e2;have G15:=hide (unhide g15);have X15:=hide x15;have PC:=hide (unhide hp);clear he g15 x15 hp;go_wp2_with fail;go_ret2;exact⟨y,0,0,rfl,⟨rfl,.inr ⟨unhide NB,z,unhide HZ,.inr ⟨unhide HF,rfl,by have q:=unhide PC;rw[unhide EQ] at q;exact q⟩⟩⟩,(unhide G15).wide (by omega),unhide X15⟩
theorem ways_1(p:Inhabited ProtD){C B b:Nat}{x:Hp}{a q c:Nat}{n:Int}{v:World}(s:Snd x)(hC:C+64000≤1000000000)(ha:(a:Int)≤actA 1)(hq:(q:Int)≤actB 1)(hc:(c:Int)≤actC 1)(hv:v.heap.size≤B):WaysOk p C B b x a q c n 1 v:=fun p1 ba bs za zs _ p2 bd W g zd sub xv=>@way_1 p2 C B W b bd ba bs x a q c n g s zd (sub ba _ za) (sub bs _ zs) hC (by have:(a:Int)≤15:=ha;omega) (by have:(q:Int)≤255:=hq;omega) (by have:(c:Int)≤200:=hc;omega) v hv xv
def SG(lo hi C B:Nat)(w:World)(b:Nat)(x:Hp):Prop:=∃p:Inhabited ProtD,(∀q,lo≤q→q<hi→(@default ProtD p).z q=w.heap[q]?∧q<w.heap.size)∧(∀q,¬(lo≤q∧q<hi)→(@default ProtD p).z q=none)∧@SOq p C B w b x
theorem SG.enter{p:Inhabited ProtD}{C B:Nat}{w w0:World}{b:Nat}{x:Hp}(h:@SOq p C B w b x)(hz:∀q,(@default ProtD p).z q=none)(e:Ext w w0):SG w.heap.size w0.heap.size C B w0 b x:=by
 obtain⟨p1,o,g⟩:=SOq.enter h e;exact⟨p1,fun q h1 h2=>⟨by rw[o.z q,if_pos ⟨h1,h2⟩],h2⟩,fun q hq=>by rw[o.z q,if_neg hq];exact hz q,g⟩
theorem SG.ext{lo hi C B:Nat}{w w':World}{b:Nat}{x:Hp}(h:SG lo hi C B w b x)(e:Ext w w'):SG lo hi C B w' b x:=by
 obtain⟨p,a,c,g⟩:=h;exact⟨p,fun q h1 h2=>⟨by rw[(a q h1 h2).1,e.block q (a q h1 h2).2],Nat.lt_of_lt_of_le (a q h1 h2).2 e.size⟩,c,g.ext e⟩
theorem SG.write{lo hi C B:Nat}{w w':World}{b:Nat}{x:Hp}(h:SG lo hi C B w b x)(on:Only (fun q=>lo≤q∧q<hi) w w'):SG lo hi C B w' b x:=by
 obtain⟨p,a,c,g⟩:=h;obtain⟨ar,kr,a4,n4,k4,a8,m8,k8,br,cB,cO,bn,pb,pa,pk,kn,hd,vf,F,vk,K,role,h,i,k⟩:=g;have h0:=h;obtain⟨sb,_,_,pr⟩:=h0
 have r1:∀q,lo≤q∧q<hi→role q=1:=fun q hq=>by
  obtain⟨ob,hb⟩:=obj_some (w:=w) (q:=q) (a q hq.1 hq.2).2;exact(pr q ob ((a q hq.1 hq.2).1.trans hb)).1
 have nb:¬(lo≤bn∧bn<hi):=fun hq=>by
  obtain⟨ob,hb⟩:=obj_some (w:=w) (q:=bn) (a bn hq.1 hq.2).2;have:=(a bn hq.1 hq.2).1.trans hb;rw[k.2] at this;cases this
 refine⟨⟨⟨fun q=>if lo≤q∧q<hi then w'.heap[q]? else none⟩⟩,fun q h1 h2=>⟨if_pos ⟨h1,h2⟩,Nat.lt_of_lt_of_le (a q h1 h2).2 on.size⟩,fun q hq=>if_neg hq,ar,kr,a4,n4,k4,a8,m8,k8,br,cB,cO,bn,pb,pa,pk,kn,hd,vf,F,vk,K,role,SAt.far (z:=(@default ProtD p).z) (z2:=fun q=>if lo≤q∧q<hi then w'.heap[q]? else none) h on.size (fun q hq hc=>on.block q hq (fun e=>?_)) (fun _ _ _=>rfl) (fun q o2 hq=>?_),i,k.1,if_neg nb⟩
 ·rcases hc with hc | hc
  ·exact hc (r1 q e)
  ·exact nb (hc ▸ e)
 ·split at hq
  ·rename_i e;exact⟨r1 q e,hq⟩
  ·cases hq
def OpOk(k:Nat):Prop:=k=1∨k=3∨k=4∨k=7∨k=8∨k=11∨k=17∨k=18∨k=20∨k=21∨k=22
theorem ways_ok(p:Inhabited ProtD){C B b:Nat}{x:Hp}{a q c:Nat}{n:Int}{v:World}(s:Snd x)(hC:C+64000≤1000000000)(hv:v.heap.size≤B){k:Nat}(h:OpOk k)(ha:(a:Int)≤actA k)(hq:(q:Int)≤actB k)(hc:(c:Int)≤actC k):WaysOk p C B b x a q c n k v:=by
 rcases h with rfl | rfl | rfl | rfl | rfl | rfl | rfl | rfl | rfl | rfl | rfl
 ·exact ways_1 p s hC ha hq hc hv
 ·exact ways_3 p s ha hv
 ·exact ways_4 p s ha hq hv
 ·exact ways_7 p s ha hq hv
 ·exact ways_8 p s ha hq hv
 ·exact ways_11 p s ha hv
 ·exact ways_17 p s ha
 ·exact ways_18 p s hv
 ·exact ways_20 p s
 ·exact ways_21 p s
 ·exact ways_22 p s hC hc hv
def OkAct(A:Ak):Prop:=∃op a b c:Nat,A=⟨op,a,b,c,0⟩∧OpOk op∧actOkB op a b c 0=true
theorem act_fine{lo hi C B:Nat}{w:World}{b:Nat}{x:Hp}(h:SG lo hi C B w b x)(s:Snd x)(hC:C+64000≤1000000000)(A:Ak)(hA:OkAct A)(v:World)(hv:v.heap.size≤B)(hx:Ext v w)(hz:∀y cd nm,DoIs x A.op A.a A.b A.c A.n y cd nm→Snd y→cd=0):
  Calls Tryz.prog 280 #[.pointer (some ⟨b,0,none⟩),A.v] w fun e w'=>∃(y:Hp) (nm:Int),Hid (e=.returned (ansV 0 nm))∧Hid (DoIs x A.op A.a A.b A.c A.n y 0 nm)∧Hid (SG lo hi (C+64000) B w' b y)∧Ext v w'∧Hid (∀q,lo≤q→q<hi→w'.heap[q]?=w.heap[q]?):=by
 obtain⟨op,a,q,c,rfl,ho,ok⟩:=hA;obtain⟨p,g1,g2,g⟩:=h;have hb:=act_bounds ok;have hs:1≤op∧op≤24:=by unfold OpOk at ho;omega
 refine(@answer_fine p C B w b x a q c 0 op g hs.1 hs.2 (.inl rfl) (by simp only [Bool.and_eq_true,decide_eq_true_eq];exact⟨hb.2.1,hb.2.2.1,hb.2.2.2⟩) v hx (fun y cd nm d=>?_) (fun y cd nm d=>by rw[d.room];have:=s.r1.room;omega) (fun p1 _=>ways_ok p1 s hC hv ho hb.2.1.2 hb.2.2.1.2 hb.2.2.2.2)).mono ?_
 ·have d2:DoIs x op a q c 0 y cd nm:=.inr ⟨ok,by simpa using d⟩;exact hz y cd nm d2 (DoIs.snd s d2)
 ·rintro e w' ⟨y,nm,h1,h2,h4,h5⟩
  have bl:∀q,lo≤q→q<hi→w'.heap[q]?=w.heap[q]?:=fun q a b=>by
   obtain⟨ob,hb⟩:=obj_some (w:=w) (q:=q) (g1 q a b).2;rw[hb];exact @SOq.obj p _ _ _ _ _ (unhide h4) _ _ ((g1 q a b).1.trans hb)
  refine⟨y,nm,h1,.inr ⟨ok,by simpa using unhide h2⟩,⟨p,fun q a b=>⟨(g1 q a b).1.trans (bl q a b).symm,?_⟩,g2,unhide h4⟩,h5,bl⟩;obtain⟨ob,hb⟩:=obj_some (w:=w) (q:=q) (g1 q a b).2;exact obj_lt ((bl q a b).trans hb)
def AnAt(w:World)(b o:Nat)(x:Int):Prop:=w.cell? ⟨b,o,none⟩=some (iv 0)∧w.cell? ⟨b,o+1,none⟩=some (iv x)
abbrev SlN(w:World)(v:Value)(xs:List Int):Prop:=SlOf (AnAt w) 2 v xs
theorem infoAns:(Tryz.prog.info? 41).map (fun i=>(i.zero,i.size,i.bytes))=some (some (.agg #[iv 0,iv 0]),2,16):=by kernel_rfl
theorem mkAns(n:Nat)(hn:n≤1048576)(w:World):∃z,(Instr.makeSlice 29 (.int .i64 n) (.int .i64 n)).run Tryz.prog w=.ok (.slice (some ⟨w.heap.size,0,none⟩) n n) (w.alloc (.cells (madeCells z (n*2)) 41)):=by
 obtain⟨i0,hi,hz0,hz1,hz2⟩:=info_parts infoAns;have h:=run_make (P:=Tryz.prog) w 29 41 i0 _ Tryz.underlying29 hi hz0 .i64 .i64 n n (by omega) (Int.le_refl _) (by rw[hz2];omega) (by omega);rw[hz1] at h;simp only [Int.toNat_natCast] at h;exact⟨_,h⟩
theorem meth_answer(b : Nat)(w : World): Sem.run Tryz.prog (method 443 86 (.pointer (some ⟨b, 0, none⟩)) "loop.example/spool/impl.answer") w = .ok (280, .pointer (some ⟨b, 0, none⟩)) w := by kernel_rfl
structure AnI(L:List Ak)(Q:Hp→List Int→Prop)(v w0 wr:World)(b B C k:Nat):Prop where
 hk:k≤L.length
 x:∃(x:Hp) (M:List Int),M.length=k∧Snd x∧SG w0.heap.size (w0.heap.size+1) (C+64000*k) B wr b x∧Wp x (L.drop k) (fun z A=>Q z (M++A))∧∀j (hj:j<M.length),AnAt wr w0.heap.size (j*2) M[j]
 e:Ext v wr
 o:∀j,j<L.length*2→Open wr w0.heap.size j
 s:w0.heap.size<wr.heap.size
theorem AnI.step{L:List Ak}{Q:Hp→List Int→Prop}{v w0 wr:World}{b B C k:Nat}(h:AnI L Q v w0 wr b B C k)(hlt:k<L.length)(hC:C+64000*1000≤1000000000)(hn:L.length≤1000)(hv:v.heap.size≤B)(hB:B≤w0.heap.size)(ok:∀A,A∈L→OkAct A)(W:World)(xW:Ext wr W):
  Calls Tryz.prog 280 #[.pointer (some ⟨b,0,none⟩),L[k].v] W fun e w'=>∃nm:Int,Hid (e=.returned (ansV 0 nm))∧(∀j,j<L.length*2→Open w' w0.heap.size j)∧w0.heap.size<w'.heap.size∧Ext v w'∧Hid (∀W',Only (fun q=>q=w0.heap.size) w' W'→(∀j,W'.cell? ⟨w0.heap.size,j,none⟩=if j=k*2 then some (iv 0) else if j=k*2+1 then some (iv nm) else w'.cell? ⟨w0.heap.size,j,none⟩)→(∀j,W'.frozen? ⟨w0.heap.size,j,none⟩=w'.frozen? ⟨w0.heap.size,j,none⟩)→AnI L Q v w0 W' b B C (k+1)):=by
 obtain⟨hk,⟨x,M,hM,s,g,hw,ha⟩,he,ho,hs⟩:=h;rw[List.drop_eq_getElem_cons hlt] at hw;refine(act_fine (g.ext xW) s (by omega) L[k] (ok _ (List.getElem_mem hlt)) v hv (he.trans xW) (fun y cd nm d t=>(hw y cd nm d t).1)).mono ?_;rintro e w' ⟨y,nm,h1,h2,h3,h4,h5⟩;have sy:=DoIs.snd s (unhide h2);have hw':=(hw y 0 nm (unhide h2) sy).2;have bl:=(unhide h5 w0.heap.size (Nat.le_refl _) (by omega)).trans (xW.block _ hs);have cl:∀j,w'.cell? ⟨w0.heap.size,j,none⟩=wr.cell? ⟨w0.heap.size,j,none⟩:=fun j=>World.cell?_of_block (a:=⟨w0.heap.size,j,none⟩) bl
 have fz:∀j,w'.frozen? ⟨w0.heap.size,j,none⟩=wr.frozen? ⟨w0.heap.size,j,none⟩:=fun j=>World.frozen?_of_block (a:=⟨w0.heap.size,j,none⟩) bl
 have hs':w0.heap.size<w'.heap.size:=by
  obtain⟨ob,hb⟩:=obj_some (w:=wr) (q:=w0.heap.size) hs;exact obj_lt (bl.trans hb)
 have op:∀j,j<L.length*2→Open w' w0.heap.size j:=fun j hj=>by
  unfold Open;rw[cl,fz];exact ho j hj
 refine⟨nm,h1,op,hs',h4,fun W' on hc hf=>⟨by omega,⟨y,M++[nm],by simp [hM],sy,?_,?_,fun j hj=>?_⟩,on.ext h4 (fun q hq e=>by omega),fun j hj=>?_,Nat.lt_of_lt_of_le hs' on.size⟩⟩
 ·have g2:=(unhide h3).write (on.mono (fun q e=>by omega));rw[show C+64000*(k+1)=C+64000*k+64000 by omega];exact g2
 ·simpa using hw'
 ·unfold AnAt;rw[hc,hc,cl,cl];by_cases e:j=k
  ·subst e;rw[if_pos rfl,if_neg (by omega),if_pos rfl];refine⟨rfl,?_⟩;simp [←hM]
  ·have hj2:j<M.length:=by simp at hj;omega
   rw[if_neg (by omega),if_neg (by omega),if_neg (by omega),if_neg (by omega),List.getElem_append_left hj2];exact ha j hj2
 ·obtain⟨⟨u,hu⟩,f⟩:=op j hj;refine⟨?_,by rw[hf];exact f⟩;rw[hc]
  split
  ·exact⟨_,rfl⟩
  ·split
   ·exact⟨_,rfl⟩
   ·exact⟨u,hu⟩
theorem answers_any(p:Inhabited ProtD)(hz:∀q,(@default ProtD p).z q=none)(L:List Ak)(va:Value)(v w:World)(b B C:Nat)(x:Hp)(Q:Hp→List Int→Prop)(hn:L.length≤1000)(hC:C+64000*1000≤1000000000)(hS:SlA v va L)(hv:v.heap.size≤B)(hB:B≤w.heap.size)(hx:Ext v w)(s:Snd x)(h:@SOq p C B w b x)(ok:∀A,A∈L→OkAct A)(hw:Wp x L Q):
  Calls Tryz.prog 58 #[.pointer (some ⟨b,0,none⟩),va] w fun e w'=>∃(y:Hp) (M:List Int) (D:Nat),Hid (e=.returned (.slice (some ⟨w.heap.size,0,none⟩) L.length L.length))∧Hid (Q y M∧M.length=L.length)∧Snd y∧Hid (SG w.heap.size (w.heap.size+1) D B w' b y)∧Hid (SlN w' (.slice (some ⟨w.heap.size,0,none⟩) L.length L.length) M)∧Ext v w':=by
 obtain⟨ad,cap,rfl,hl,hxs⟩:=hS;obtain⟨z,hmk⟩:=mkAns L.length (by omega) w;have hme:=meth_answer b;have hB2:=hB;have I0:=hide (show AnI L Q v w (w.alloc (.cells (madeCells z (L.length*2)) 41)) b B C 0 from⟨Nat.zero_le _,⟨x,[],rfl,s,by have:=SG.enter h hz ((Ext.refl w).alloc (.cells (madeCells z (L.length*2)) 41));simpa using this,hw,fun j hj=>absurd hj (by simp)⟩,hx.trans ((Ext.refl w).alloc _),fun j hj=>made_open _ _ _ _ _ hj,by simp⟩);have ST:=hide (fun(wr W:World) (k:Nat) (hi:AnI L Q v w wr b B C k) (hlt:k<L.length) (xW:Ext wr W)=>hi.step hlt hC hn hv hB ok W xW);clear h hw s hz hB hC;go_enter Tryz.func58,Tryz.ntmps58;go_wp2_with fail;go_loopw [13] (fun i wr=>∃k:Nat,i=.int .i64 k∧Hid (AnI L Q v w wr b B C k)) (fun i _=>L.length-(intOf i).toNat)
 case atStart=>exact⟨0,rfl,I0⟩
 case round=>
  obtain⟨k,rfl,hi⟩:=hrel;have hk:=(unhide hi).hk;by_cases hlt:k<L.length
  ·obtain⟨b1,o1,rfl,p0,p1,p2,p3,p4⟩:=hxs k hlt;have e0:=(unhide hi).e.keep p0;have e1:=(unhide hi).e.keep p1;have e2:=(unhide hi).e.keep p2;have e3:=(unhide hi).e.keep p3;have e4:=(unhide hi).e.keep p4;clear p0 p1 p2 p3 p4;have hk0:(0:Int)≤(k:Int):=by omega
   have hk1:(k:Int)<(L.length:Int):=by omega
   go_wp2_with fail;refine(unhide ST wr _ k (unhide hi) hlt ((Ext.refl wr).alloc _)).mono ?_;rintro e w2 ⟨nm,h1,h2,h3,h4,h5⟩;have h1:=unhide h1;subst h1;obtain⟨⟨v0,c0⟩,f0⟩:=h2 (k*2) (by omega);obtain⟨⟨v1,c1⟩,f1⟩:=h2 (k*2+1) (by omega);clear h2 ST I0 hme hmk;go_wp2_with fail;go_roundw
   case rel=>
    refine⟨k+1,by go_num,unhide h5 _ ((Only.setCell (S:=fun q=>q=w.heap.size) (Only.refl _ w2) (p:=⟨w.heap.size,k*2,none⟩) rfl _).setCell (p:=⟨w.heap.size,k*2+1,none⟩) rfl _) (fun j=>?_) (fun j=>by rw[World.frozen?_setCell,World.frozen?_setCell])⟩;by_cases a:j=k*2+1
    ·subst a;rw[if_neg (by omega),if_pos rfl];exact World.cell?_setCell_same _ _ _ ((World.cell?_setCell_other _ _ _ _ (by intro e;simp only [Addr.mk.injEq] at e;omega)).trans c1)
    ·rw[World.cell?_setCell_other _ _ _ _ (by intro e;simp only [Addr.mk.injEq] at e;omega)];by_cases c:j=k*2
     ·subst c;rw[if_pos rfl];exact World.cell?_setCell_same _ _ _ c0
     ·rw[World.cell?_setCell_other _ _ _ _ (by intro e;simp only [Addr.mk.injEq] at e;omega),if_neg c,if_neg a]
   case measure=>simp [intOf];omega
  ·obtain⟨_,⟨y,M,hM,s,g,hw,ha⟩,he,_,_⟩:=unhide hi;have hk2:k=L.length:=by omega
   subst hk2;rw[List.drop_length] at hw;have hw:Q y (M++[]):=hw;rw[List.append_nil] at hw;have R:=hide (show Q y M∧M.length=L.length from⟨hw,hM⟩);have G:=hide g;have A:=hide (show SlN wr (.slice (some ⟨w.heap.size,0,none⟩) L.length L.length) M from⟨_,_,by rw[hM],by rw[hM];exact hl,fun i hi=>⟨_,_,rfl,by simpa using ha i hi⟩⟩);clear hw hM g ha hi ST I0 hme hmk;go_wp2_with fail;go_ret;exact⟨y,M,_,rfl,R,s,G,A,he⟩
end Go.Proofs.YtddkhnclmeikfaaGreat
