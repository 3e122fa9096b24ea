import Derived.Test.YtnegjhddmfiefaaGreatDoorAz
set_option maxRecDepth 100000
set_option maxHeartbeats 6000000
namespace Go.Proofs.YtnegjhddmfiefaaGreatDoor
open Go.RowKit
attribute [local go_sem ↓] Go.wp_at_zero Go.wp_at_succ
structure CBx(w0 W:World)(cb qb:Nat)(cl:Cl)(m:Nat):Prop where
 s:S7 W cb 0 cl
 p:W.cell? ⟨cb,7,none⟩=some (.slice (some ⟨qb,0,none⟩) m m)
 f:∀o,W.frozen? ⟨cb,o,none⟩=false
 lo:w0.heap.size≤cb
 ne:cb≠qb
 np:NewP w0 W qb m
 ex:Ext w0 W
theorem CBx.ext{w0 W W':World}{cb qb:Nat}{cl:Cl}{m:Nat}(h:CBx w0 W cb qb cl m)(e:Ext W W'):CBx w0 W' cb qb cl m:=
 ⟨h.s.of fun _ _=>(bcell e).1 cb _ (cell_lt h.p),e.keep h.p,fun o=>((bcell e).2 cb o (cell_lt h.p)).trans (h.f o),h.lo,h.ne,h.np.ext e,h.ex.trans e⟩
theorem CBx.black{w0 W:World}{cb qb:Nat}{cl:Cl}{m:Nat}(h:CBx w0 W cb qb cl m):CBx w0 (W.setCell ⟨cb,5,none⟩ (iv 2)) cb qb { cl with color:=2 } m:=by
 obtain⟨a0,a1,a2,a3,a4,a5,a6⟩:=h.s;refine⟨⟨?_,?_,?_,?_,?_,?_,?_⟩,?_,fun o=>by rw[World.frozen?_setCell];exact h.f o,h.lo,h.ne,h.np.only (S:=fun q=>q=cb) (Only.setCell (S:=fun q=>q=cb) (Only.refl _ W) (p:=⟨cb,5,none⟩) rfl _) (fun e=>h.ne e.symm),h.ex.setCell (p:=⟨cb,5,none⟩) h.lo _⟩
 ·rw[cell_other _ (.inr (by omega))];exact a0
 ·rw[cell_other _ (.inr (by omega))];exact a1
 ·rw[cell_other _ (.inr (by omega))];exact a2
 ·rw[cell_other _ (.inr (by omega))];exact a3
 ·rw[cell_other _ (.inr (by omega))];exact a4
 ·exact cs_same a5
 ·rw[cell_other _ (.inr (by omega))];exact a6
 ·rw[cell_other _ (.inr (by omega))];exact h.p
theorem CBx.newA(W3:World)(bo b:Int)(c:Nat):CBx W3 (((W3.alloc (.cells (madeCells z6 (c*6)) 178)).alloc (.cells #[iv 1,iv b,iv 0,iv 0,iv bo,iv 0,iv 0,.slice (some ⟨W3.heap.size,0,none⟩) c c] 134))) (W3.heap.size+1) W3.heap.size (newC bo b c 0) c:=
 ⟨⟨by simp [go_sem,newC],by simp [go_sem,newC],by simp [go_sem,newC],by simp [go_sem,newC],by simp [go_sem,newC],by simp [go_sem,newC],by simp [go_sem,newC]⟩,by simp [go_sem],fun _=>by simp [go_sem],by omega,by omega,(NewP.made W3 W3 c 178 (Ext.refl _)).ext ((Ext.refl _).alloc _),((Ext.refl _).alloc _).alloc _⟩
theorem CBx.newB(W3:World)(bo b:Int)(c:Nat):CBx W3 (((W3.alloc (.cells #[iv 1,iv b,iv 0,iv 0,iv bo,iv 0,iv 0,.slice (some ⟨W3.heap.size+1,0,none⟩) c c] 134)).alloc (.cells (madeCells z6 (c*6)) 178))) W3.heap.size (W3.heap.size+1) (newC bo b c 0) c:=by
 have e:=NewP.made W3 (W3.alloc (.cells #[iv 1,iv b,iv 0,iv 0,iv bo,iv 0,iv 0,.slice (some ⟨W3.heap.size+1,0,none⟩) c c] 134)) c 178 ((Ext.refl _).alloc _);rw[show(W3.alloc (.cells #[iv 1,iv b,iv 0,iv 0,iv bo,iv 0,iv 0,.slice (some ⟨W3.heap.size+1,0,none⟩) c c] 134)).heap.size=W3.heap.size+1 by simp] at e;exact⟨⟨by simp [go_sem,newC],by simp [go_sem,newC],by simp [go_sem,newC],by simp [go_sem,newC],by simp [go_sem,newC],by simp [go_sem,newC],by simp [go_sem,newC]⟩,by simp [go_sem],fun _=>by simp [go_sem],by omega,by omega,e,((Ext.refl _).alloc _).alloc _⟩
theorem l5make_any[p:Inhabited ProtD](B g:Nat)(x:Hp)(a b c:Nat)(n:Int)(w:World)(h:GOk B w g x)(s:Snd x)(ha:a<16)(hb:b≤255)(hc:c≤200)(v:World)(hv:v.heap.size≤B)(hx:Ext v w):
  Calls Tryz.prog 176 #[.pointer (some ⟨g,0,none⟩),actV 1 a b c n] w fun e w'=>DoPost B g x a b c n 1 v e w':=by
 have c2:=h.nums.2.2.1;have hgw:g<w.heap.size:=cell_lt c2;obtain⟨p1,o1,g1⟩:=GOk.enter h (w0:=doW w 1 a b c n) (((Ext.refl w).alloc _).alloc _);have x1:Ext v (doW w 1 a b c n):=(hx.alloc _).alloc _;have O1:=hide o1;have G1:=hide g1;have V0:=hide (show v.heap.size≤w.heap.size+1 by have:=hx.size;omega);have X1:=hide x1;have S:=hide s
 have QR:=hide (show Calls Tryz.prog 207 #[.pointer (some ⟨g,0,none⟩),.int .i64 (1+(c:Int))] (doW w 1 a b c n) fun e w'=>∃y,e=.returned (.bool (fitsB y (1+c)))∧Hid (RoomIs x (1+c) y)∧Hid (GOk B w' g y)∧Ext v w' from by
  have:=l5room_any B g x (1+c) (doW w 1 a b c n) (unhide G1) (unhide S) (by omega) v hv (unhide X1);rw[show((1+c:Nat):Int)=1+(c:Int) by omega] at this;exact this)
 clear s h o1 g1 x1;cases qb:(x.born == 1000000000)
 ·have NB:=hide (show x.born≠1000000000 by simpa using qb);go_enter Tryz.func176,Tryz.ntmps176;go_wp2_with fail;refine(unhide QR).mono ?_;rintro e w2 ⟨z,rfl,hz,g2,x2⟩;have G2:=hide (unhide g2);have X2:=hide x2;have HZ:=hide (unhide hz);clear g2 x2 hz QR c2 hgw;obtain⟨t0,t1,t2,t3,t4,t5,t6,t7⟩:=(unhide G2).boxes (unhide O1);have hw2:w.heap.size<w2.heap.size:=cell_lt t0;have hw2':w.heap.size+1<w2.heap.size:=cell_lt t5;cases hf:fitsB z (1+c)
  ·have HF:=hide hf;clear hf;go_wp2_with fail;refine(l5bad_any 4 _).mono ?_;rintro e w3 ⟨rfl,x3⟩;have G3:=hide ((unhide G2).ext x3);have X3:=hide ((unhide X2).trans x3);clear t0 t1 t2 t3 t4 t5 t6 t7;obtain⟨u0,u1,u2,u3,u4,u5,u6,u7⟩:=(unhide G3).boxes (unhide O1);have hw3:w.heap.size+1<w3.heap.size:=cell_lt u5;clear x3;go_wp2_with fail;refine bodyPost_ret (v:=ansV 4 0) (by simp [results,Tryz.results176,go_sem,u5,u6]) rfl ?_;exact⟨_,4,0,rfl,⟨rfl,.inr ⟨unhide NB,z,unhide HZ,.inl ⟨unhide HF,rfl,rfl⟩⟩⟩,GOk.done (unhide O1) (unhide G3) 4 0,putA_ext (unhide X3) (unhide V0) 4 0⟩
  ·have HF:=hide hf;clear hf;have SZ:=hide ((unhide HZ).snd (unhide S));have c2:=(unhide G2).nums.2.2.1;have hgw:g<w2.heap.size:=cell_lt c2;have f2:=(unhide G2).box.2.2.2.1 2;have bo:=(unhide SZ).r1.born;obtain⟨W3,hW3⟩:∃W,W=w2.setCell ⟨g,2,none⟩ (.int .i64 (z.born+1)):=⟨_,rfl⟩;obtain⟨z1,hz1⟩:∃y:Hp,y={ z with born:=z.born+1 }:=⟨_,rfl⟩;have G3:=hide (show GOk B W3 g z1 by rw[hW3,hz1];exact(unhide G2).set2 (z.born+1));have X3:=hide (show Ext v W3 by rw[hW3];exact(unhide X2).setCell (p:=⟨g,2,none⟩) (Nat.le_trans hv (unhide G2).box.2.2.2.2.1) _);have HZ1:=hide hz1;have HW3:=hide hW3;clear hz1 hW3;go_wp2_with fail;rw[←unhide HW3];clear HW3 t0 t1 t2 t3 t4 t5 t6 t7 c2 f2 hgw hw2 hw2' bo G2 X2;obtain⟨t0,t1,t2,t3,t4,t5,t6,t7⟩:=(unhide G3).boxes (unhide O1);have c2:W3.cell? ⟨g,2,none⟩=some (iv (z.born+1)):=by have:=(unhide G3).nums.2.2.1;rw[unhide HZ1] at this;exact this
   have hgw:g<W3.heap.size:=cell_lt c2;have hw3:w.heap.size<W3.heap.size:=cell_lt t0;have hw3':w.heap.size+1<W3.heap.size:=cell_lt t5;have mk:=fun W=>mkPairsZ c (by omega) W
   go_cut [6] (fun s6 wx=>∃cb qb:Nat,s6=.pointer (some ⟨cb,0,none⟩)∧Hid (CBx W3 wx cb qb (newC (z.born+1) b c 0) c))
   case first=>
    go_region
    all_goals
     go_wp2_with fail;go_meet
     first | exact⟨_,_,rfl,CBx.newA W3 (z.born+1) b c⟩ | exact⟨_,_,rfl,(CBx.newA W3 (z.born+1) b c).ext (Ext.refl _).drew⟩ | exact⟨_,_,rfl,CBx.newB W3 (z.born+1) b c⟩ | exact⟨_,_,rfl,(CBx.newB W3 (z.born+1) b c).ext (Ext.refl _).drew⟩
   case rest=>
    obtain⟨cb,qb,rfl,hcb⟩:=hcut;have CX:=hide (unhide hcb);obtain⟨ar,kr,ac,kc,vg,br,bc,pb,pa,pk,role,hg3⟩:=unhide G3;have HG3:=hide hg3;have N8:=hide (show z1.cells.length≤8000 by rw[unhide HZ1];exact(unhide SZ).ok.n8);obtain⟨t,ht⟩:∃t,t=fstFree z1:=⟨_,rfl⟩;have HT:=hide ht;have QF:=hide (l3free_any (hg3.ext (unhide hcb).ex) (unhide N8));rw[←ht] at QF;clear hcb t0 t1 t2 t3 t4 t5 t6 t7 c2 hgw hw3 hw3' mk hg3 ht;go_wp2_with fail;refine(unhide QF).mono ?_;rintro e w4 ⟨rfl,x4⟩;have C4:=hide ((unhide CX).ext x4);clear x4 CX QF;have g4:=(unhide HG3).ext (unhide C4).ex;have c5:=g4.bx.2.2.2.2.2.1;have c6:=g4.bx.2.2.2.2.2.2.1;have hgw:g<w4.heap.size:=cell_lt c5;have a5:=(unhide C4).s.2.2.2.2.2.1;have fb5:=(unhide C4).f 5;have hcw:cb<w4.heap.size:=cell_lt a5;have QM:=hide (l3marking_any z1 g w4 c5);clear g4
    go_upto_region 7 with(fail)
    go_cut [58] (fun s58 wx=>Hid (s58=.bool (newCol z1 t == 2))∧Hid (CBx W3 wx cb qb (newC (z.born+1) b c 0) c))
    case first=>
     cases qm:mkB z1
     ·rw[qm] at QM;cases q3:(z1.phase == 3)
      ·have NC:=hide (show newCol z1 t=0 by
        have h1:z1.phase≠1∧z1.phase≠2:=by simpa [mkB] using qm
        have h3:z1.phase≠3:=by simpa using q3
        unfold newCol;rw[if_neg (by omega)])
       clear qm;go_wp2_with fail;refine(unhide QM).mono ?_;rintro e w5 ⟨rfl,rfl⟩;go_wp2_with fail;go_meet;exact⟨by show _=_;rw[unhide NC];first | rfl | (simp;omega),unhide C4⟩
      ·have h3:z1.phase=3:=by simpa using q3
       have h1:z1.phase≠1∧z1.phase≠2:=by simpa [mkB] using qm
       by_cases hh:z1.hand≤(t:Int)
       ·have NC:=hide (show newCol z1 t=2 by unfold newCol;rw[if_pos (.inr (.inr ⟨h3,hh⟩))]);have hg2:(t:Int)≥z1.hand:=hh;clear qm h3 h1 hh;go_wp2_with fail;refine(unhide QM).mono ?_;rintro e w5 ⟨rfl,rfl⟩;go_wp2_with fail;go_meet;exact⟨by show _=_;rw[unhide NC];first | rfl | (simp;omega),unhide C4⟩
       ·have NC:=hide (show newCol z1 t=0 by unfold newCol;rw[if_neg (by omega)]);have hg2:¬((t:Int)≥z1.hand):=hh;clear qm h3 h1 hh;go_wp2_with fail;refine(unhide QM).mono ?_;rintro e w5 ⟨rfl,rfl⟩;go_wp2_with fail;go_meet;exact⟨by show _=_;rw[unhide NC];first | rfl | (simp;omega),unhide C4⟩
     ·rw[qm] at QM
      have NC:=hide (show newCol z1 t=2 by
       have h1:z1.phase=1∨z1.phase=2:=by simpa [mkB] using qm
       unfold newCol;rw[if_pos (by omega)])
      clear qm;go_wp2_with fail;refine(unhide QM).mono ?_;rintro e w5 ⟨rfl,rfl⟩;go_wp2_with fail;go_meet;exact⟨by show _=_;rw[unhide NC];first | rfl | (simp;omega),unhide C4⟩
    case rest=>
     obtain⟨w5,hw5⟩:∃W,W=wc:=⟨_,rfl⟩;subst hw5;obtain⟨h58,hc5⟩:=hcut;have C5:=hide (unhide hc5);clear hc5 C4 c5 c6 a5 fb5 hgw hcw QM;have a5:=(unhide C5).s.2.2.2.2.2.1;have fb5:=(unhide C5).f 5;have hcw:cb<w5.heap.size:=cell_lt a5
     go_upto_region 8 with(fail)
     go_cut [] (fun wx=>Hid (CBx W3 wx cb qb (newC (z.born+1) b c (newCol z1 t)) c))
     case first=>
      have e58:=unhide h58;subst e58;cases qc:(newCol z1 t == 2)
      ·have NC:=hide (show newCol z1 t=0 by
        have h2:newCol z1 t≠2:=by simpa using qc
        unfold newCol at h2 ⊢
        split at h2
        ·exact absurd rfl h2
        ·rename_i u;rw[if_neg u])
       go_wp2_with fail;go_meet;rw[unhide NC];exact unhide C5
      ·have NC:=hide (show newCol z1 t=2 by simpa using qc);go_wp2_with fail;go_meet;rw[unhide NC];exact(unhide C5).black
     case rest=>
     obtain⟨w6,hw6⟩:∃W,W=wc:=⟨_,rfl⟩;subst hw6;have C6:=hide (unhide hcut);clear hcut C5 a5 fb5 hcw;obtain⟨cl,hcl⟩:∃cl,cl=newC (z.born+1) b c (newCol z1 t):=⟨_,rfl⟩;have HCL:=hide hcl;rw[←hcl] at C6;clear hcl;have g6:=(unhide HG3).ext (unhide C6).ex;have c4:=g6.bx.2.2.2.2.1;have hgw:g<w6.heap.size:=cell_lt c4;have f4:=g6.nf.2 4;obtain⟨d0,d1,d2,d3,d4,d5,d6⟩:=(unhide C6).s;simp only [Nat.zero_add] at d0 d1 d2 d3 d4 d5 d6;have d7:=(unhide C6).p;have hcw:cb<w6.heap.size:=cell_lt d7;have TL:=hide (show t≤z1.cells.length by rw[unhide HT];exact(fstFree_is z1).1);have R0:=hide (show 0<z1.regs.length by rw[unhide HZ1];show 0<z.regs.length;rw[(unhide SZ).r1.regs];omega);have MC:=hide (show cl.prs=List.replicate c Pr0 by rw[unhide HCL];rfl);have hBg:v.heap.size≤g:=Nat.le_trans hv (unhide HG3).lo;by_cases hte:t=z1.cells.length
     ·have hb1:((t:Int) == (z1.cells.length:Int))=true:=by simp [hte]
      have HTE:=hide hte;clear g6 hte
      go_upto_region 10 with(fail)
      go_cut [] (fun wx=>Hid (GOk B wx g (newX z1 t cl))∧Hid (Ext v wx))
      case first=>
       go_region_law (refine step_appC _ rfl _ _ rfl (unhide HG3) (unhide R0) (unhide N8) cl c (unhide MC) qb (by first | exact(unhide C6).ex.alloc _ | exact((unhide C6).ex.alloc _).drew | exact(unhide C6).ex.drew.alloc _) (by first | exact(unhide C6).np.ext ((Ext.refl w6).alloc _) | exact(unhide C6).np.ext ((Ext.refl w6).alloc _).drew | exact(unhide C6).np.ext ((Ext.refl w6).drew.alloc _)) _ 1 (by first | rfl | simp [Act.eval,Act.put]) (by first | rfl | simp [Act.eval,Act.put];rfl) (World.news_of_block (cs:=#[iv cl.st,iv cl.kind,iv cl.weak,iv cl.last,iv cl.born,iv cl.color,iv cl.to,.slice (some ⟨qb,0,none⟩) c c]) (by first | exact heap_alloc_new _ _ | simp)) v hv (unhide X3) ?_;intro b' k' w7 hap;have fg3:=hap.far.trans ((unhide C6).ex.block g (unhide HG3).nf.1).symm;have c4':=(World.cell?_of_block (a:=⟨g,4,none⟩) fg3).trans c4;have f4':=(World.frozen?_of_block (a:=⟨g,4,none⟩) fg3).trans f4;have hg7:g<w7.heap.size:=cell_lt c4';have HP:=hide hap;clear hap fg3)
       all_goals
        go_wp2_with fail;go_meet;exact⟨by rw[unhide HTE];first | exact(unhide HP).gk _ (Ext.refl _) | exact(unhide HP).gk _ (Ext.refl _).drew | exact((unhide HP).gk _ (Ext.refl _)).ext (Ext.refl _).drew,by first | exact(unhide HP).ex.setCell (p:=⟨g,4,none⟩) hBg _ | exact(unhide HP).ex.drew.setCell (p:=⟨g,4,none⟩) hBg _ | exact((unhide HP).ex.setCell (p:=⟨g,4,none⟩) hBg _).drew⟩
      case rest=>
       obtain⟨w8,hw8⟩:∃W,W=wc:=⟨_,rfl⟩;subst hw8;obtain⟨hg8,hx8⟩:=hcut;have G8:=hide (unhide hg8);have X8:=hide (unhide hx8);clear hg8 hx8 c4 f4 hgw hcw d0 d1 d2 d3 d4 d5 d6 d7 C6;have c1:w8.cell? ⟨g,1,none⟩=some (iv z.used):=by have:=(unhide G8).nums.2.1;rw[show(newX z1 t cl).used=z1.used from rfl,unhide HZ1] at this;exact this
       obtain⟨_,_,_,fb,hBg,hgw⟩:=(unhide G8).box;have f1:=fb 1;have hu:0≤z.used∧z.used≤4000:=by have h3:=(unhide SZ).r3;have h1:=(unhide SZ).r1.room;unfold R3 at h3;omega
       obtain⟨W9,hW9⟩:∃W,W=w8.setCell ⟨g,1,none⟩ (.int .i64 (z.used+(1+(c:Int)))):=⟨_,rfl⟩
       have G9:=hide (show GOk B W9 g (makeH z b c) by
        rw[hW9];have:=(unhide G8).set1 (z.used+(1+(c:Int)));rw[unhide HZ1] at this;have e2:cl=newC (z.born+1) b c (newCol z (fstFree z)):=by rw[unhide HCL,unhide HT,unhide HZ1];rfl
        have e3:t=fstFree z:=by rw[unhide HT,unhide HZ1];rfl
        rw[e2,e3] at this;exact this)
       have X9:=hide (show Ext v W9 by rw[hW9];exact(unhide X8).setCell (p:=⟨g,1,none⟩) (Nat.le_trans hv hBg) _);have HW9:=hide hW9;clear hW9 fb;go_wp2_with fail;rw[←unhide HW9];clear HW9 c1 f1 hgw hu;have sm:=(unhide SZ).make b c (by omega) hc (by have eb:=(unhide HZ).bornE;have b1:=(unhide S).r1.born;have:=unhide NB;omega) (by have e:=unhide HF;unfold fitsB at e;have:=of_decide_eq_true e;omega);have SM:=hide sm;have ET:=hide (show(t:Int)=(fstFree z:Nat) by rw[unhide HT,unhide HZ1];rfl);obtain⟨br9,kr9,hr9⟩:=(unhide G9).regs sm.1.r1.regs;have HR:=hide hr9;have c3:=hr9.c3;obtain⟨r0,r1,r2⟩:=hr9.r a ha;have fr:=hr9.f;have hgw:g<W9.heap.size:=cell_lt c3;have hbw:br9<W9.heap.size:=cell_lt r0;have hbB:=hr9.lo.1;obtain⟨t0,t1,t2,t3,t4,t5,t6,t7⟩:=(unhide G9).boxes (unhide O1);have hw9:w.heap.size<W9.heap.size:=cell_lt t0;have i0:(0:Int)≤(a:Int):=by omega
       have i1:(a:Int)<16:=by omega
       have FN:=hide (show GOk B (wordO W9 br9 (a*3) ⟨2,0,t⟩) g (regTo (makeH z b c) a ⟨2,0,t⟩)∧Ext v (wordO W9 br9 (a*3) ⟨2,0,t⟩) from⟨(unhide HR).set W9 a ⟨2,0,t⟩ (Ext.refl _) ha,(wordO_only W9 br9 (a*3) ⟨2,0,t⟩).ext (unhide X9) (fun q hq e=>by omega)⟩);obtain⟨W10,hW10⟩:∃W,W=wordO W9 br9 (a*3) ⟨2,0,t⟩:=⟨_,rfl⟩;rw[←hW10] at FN;unfold wordO at hW10
       have QP:=hide (fun(W:World) (xW:Ext W10 W)=>show Calls Tryz.prog 210 #[.pointer (some ⟨g,0,none⟩),.int .i64 (1+(c:Int))] W fun e w'=>∃y,e=.returned (.tuple #[])∧Hid (PaceIs (regTo (makeH z b c) a ⟨2,0,fstFree z⟩) (1+c) y)∧Hid (GOk B w' g y)∧Ext v w' from by
        have sr:=(unhide SM).1.regTo a ⟨2,0,fstFree z⟩ ⟨.inr (.inr ⟨rfl,rfl,by show(0:Int)≤(fstFree z:Nat);omega,by show((fstFree z:Nat):Int)<_;have:=(unhide SM).2.2.1;omega⟩),fun _=>.inr ⟨(unhide SM).2.1,(unhide SM).2.2.2⟩⟩;have gw:=(unhide FN).1.ext xW;rw[unhide ET] at gw;have:=l5pace_any B g (regTo (makeH z b c) a ⟨2,0,fstFree z⟩) (1+c) W gw sr (by omega) v hv ((unhide FN).2.trans xW);rw[show((1+c:Nat):Int)=1+(c:Int) by omega] at this;exact this)
       clear sm hr9 t2 t3 t4 t5 t6 t7
       go_region
       go_wp2_with fail;rw[←hW10];refine(unhide QP _ (Ext.refl _).drew).mono ?_;rintro e w11 ⟨y,rfl,hpc,g11,x11⟩;have G11:=hide (unhide g11);have X11:=hide x11;have PC:=hide (unhide hpc);clear g11 x11 hpc QP hW10 FN c3 r0 r1 r2 fr t0 t1;go_wp2_with fail;refine(l5fine_any 0 _).mono ?_;rintro e w12 ⟨rfl,x12⟩;have G12:=hide ((unhide G11).ext x12);have X12:=hide ((unhide X11).trans x12);obtain⟨u0,u1,u2,u3,u4,u5,u6,u7⟩:=(unhide G12).boxes (unhide O1);have hw12:w.heap.size+1<w12.heap.size:=cell_lt u5;clear x12;go_wp2_with fail;refine bodyPost_ret (v:=ansV 0 0) (by simp [results,Tryz.results176,go_sem,u5,u6]) rfl ?_;exact⟨_,0,0,rfl,⟨rfl,.inr ⟨unhide NB,z,unhide HZ,.inr ⟨unhide HF,rfl,unhide PC⟩⟩⟩,GOk.done (unhide O1) (unhide G12) 0 0,putA_ext (unhide X12) (unhide V0) 0 0⟩
     ·have hb1:((t:Int) == (z1.cells.length:Int))=false:=by simp;omega
      have htl:t<z1.cells.length:=by have:=unhide TL;omega
      have hn:0<z1.cells.length:=by omega
      rw[g6.hc hn] at c4;obtain⟨y0,y1,y2,y3,y4,y5,y6⟩:=g6.rw.s t htl;have y7:=g6.rw.p7 t htl;have fc:=(g6.rw.nc hn).1.2;have hBc:=(g6.rw.nc hn).2;have hbw:bc<w6.heap.size:=cell_lt y7;have k0:(0:Int)≤(t:Int):=by omega
      have k1:(t:Int)<(z1.cells.length:Int):=by omega
      have NPL:=hide (show GOk B (cellW w6 bc (t*8) cl (.slice (some ⟨qb,0,none⟩) c c)) g (newX z1 t cl)∧Ext v (cellW w6 bc (t*8) cl (.slice (some ⟨qb,0,none⟩) c c)) from⟨newc_place (unhide HG3) (unhide R0) t htl cl c (unhide MC) w6 (unhide C6).ex qb (unhide C6).np,(cellW_only w6 bc (t*8) cl (.slice (some ⟨qb,0,none⟩) c c)).ext ((unhide X3).trans (unhide C6).ex) (fun q hq e=>by omega)⟩);obtain⟨W7,hW7⟩:∃W,W=(cellW w6 bc (t*8) cl (.slice (some ⟨qb,0,none⟩) c c)).drew:=⟨_,rfl⟩;have N7:=hide (show GOk B W7 g (newX z1 t cl)∧Ext v W7 by rw[hW7];exact⟨(unhide NPL).1.ext (Ext.refl _).drew,(unhide NPL).2.trans (Ext.refl _).drew⟩);unfold cellW at hW7;clear g6 NPL
      go_upto_region 11 with(fail)
      go_cut [] (fun wx=>Hid (GOk B wx g (newX z1 t cl))∧Hid (Ext v wx))
      case first=>
       go_region
       rw[←hW7];go_wp2_with fail;go_meet;exact⟨(unhide N7).1,(unhide N7).2⟩
      case rest=>
       clear y0 y1 y2 y3 y4 y5 y6 y7 fc hBc hbw k0 k1 N7 hW7 W7;obtain⟨w8,hw8⟩:∃W,W=wc:=⟨_,rfl⟩;subst hw8;obtain⟨hg8,hx8⟩:=hcut;have G8:=hide (unhide hg8);have X8:=hide (unhide hx8);clear hg8 hx8 c4 f4 hgw hcw d0 d1 d2 d3 d4 d5 d6 d7 C6;have c1:w8.cell? ⟨g,1,none⟩=some (iv z.used):=by have:=(unhide G8).nums.2.1;rw[show(newX z1 t cl).used=z1.used from rfl,unhide HZ1] at this;exact this
       obtain⟨_,_,_,fb,hBg,hgw⟩:=(unhide G8).box;have f1:=fb 1;have hu:0≤z.used∧z.used≤4000:=by have h3:=(unhide SZ).r3;have h1:=(unhide SZ).r1.room;unfold R3 at h3;omega
       obtain⟨W9,hW9⟩:∃W,W=w8.setCell ⟨g,1,none⟩ (.int .i64 (z.used+(1+(c:Int)))):=⟨_,rfl⟩
       have G9:=hide (show GOk B W9 g (makeH z b c) by
        rw[hW9];have:=(unhide G8).set1 (z.used+(1+(c:Int)));rw[unhide HZ1] at this;have e2:cl=newC (z.born+1) b c (newCol z (fstFree z)):=by rw[unhide HCL,unhide HT,unhide HZ1];rfl
        have e3:t=fstFree z:=by rw[unhide HT,unhide HZ1];rfl
        rw[e2,e3] at this;exact this)
       have X9:=hide (show Ext v W9 by rw[hW9];exact(unhide X8).setCell (p:=⟨g,1,none⟩) (Nat.le_trans hv hBg) _);have HW9:=hide hW9;clear hW9 fb;go_wp2_with fail;rw[←unhide HW9];clear HW9 c1 f1 hgw hu;have sm:=(unhide SZ).make b c (by omega) hc (by have eb:=(unhide HZ).bornE;have b1:=(unhide S).r1.born;have:=unhide NB;omega) (by have e:=unhide HF;unfold fitsB at e;have:=of_decide_eq_true e;omega);have SM:=hide sm;have ET:=hide (show(t:Int)=(fstFree z:Nat) by rw[unhide HT,unhide HZ1];rfl);obtain⟨br9,kr9,hr9⟩:=(unhide G9).regs sm.1.r1.regs;have HR:=hide hr9;have c3:=hr9.c3;obtain⟨r0,r1,r2⟩:=hr9.r a ha;have fr:=hr9.f;have hgw:g<W9.heap.size:=cell_lt c3;have hbw:br9<W9.heap.size:=cell_lt r0;have hbB:=hr9.lo.1;obtain⟨t0,t1,t2,t3,t4,t5,t6,t7⟩:=(unhide G9).boxes (unhide O1);have hw9:w.heap.size<W9.heap.size:=cell_lt t0;have i0:(0:Int)≤(a:Int):=by omega
       have i1:(a:Int)<16:=by omega
       have FN:=hide (show GOk B (wordO W9 br9 (a*3) ⟨2,0,t⟩) g (regTo (makeH z b c) a ⟨2,0,t⟩)∧Ext v (wordO W9 br9 (a*3) ⟨2,0,t⟩) from⟨(unhide HR).set W9 a ⟨2,0,t⟩ (Ext.refl _) ha,(wordO_only W9 br9 (a*3) ⟨2,0,t⟩).ext (unhide X9) (fun q hq e=>by omega)⟩);obtain⟨W10,hW10⟩:∃W,W=wordO W9 br9 (a*3) ⟨2,0,t⟩:=⟨_,rfl⟩;rw[←hW10] at FN;unfold wordO at hW10
       have QP:=hide (fun(W:World) (xW:Ext W10 W)=>show Calls Tryz.prog 210 #[.pointer (some ⟨g,0,none⟩),.int .i64 (1+(c:Int))] W fun e w'=>∃y,e=.returned (.tuple #[])∧Hid (PaceIs (regTo (makeH z b c) a ⟨2,0,fstFree z⟩) (1+c) y)∧Hid (GOk B w' g y)∧Ext v w' from by
        have sr:=(unhide SM).1.regTo a ⟨2,0,fstFree z⟩ ⟨.inr (.inr ⟨rfl,rfl,by show(0:Int)≤(fstFree z:Nat);omega,by show((fstFree z:Nat):Int)<_;have:=(unhide SM).2.2.1;omega⟩),fun _=>.inr ⟨(unhide SM).2.1,(unhide SM).2.2.2⟩⟩;have gw:=(unhide FN).1.ext xW;rw[unhide ET] at gw;have:=l5pace_any B g (regTo (makeH z b c) a ⟨2,0,fstFree z⟩) (1+c) W gw sr (by omega) v hv ((unhide FN).2.trans xW);rw[show((1+c:Nat):Int)=1+(c:Int) by omega] at this;exact this)
       clear sm hr9 t2 t3 t4 t5 t6 t7
       go_region
       go_wp2_with fail;rw[←hW10];refine(unhide QP _ (Ext.refl _).drew).mono ?_;rintro e w11 ⟨y,rfl,hpc,g11,x11⟩;have G11:=hide (unhide g11);have X11:=hide x11;have PC:=hide (unhide hpc);clear g11 x11 hpc QP hW10 FN c3 r0 r1 r2 fr t0 t1;go_wp2_with fail;refine(l5fine_any 0 _).mono ?_;rintro e w12 ⟨rfl,x12⟩;have G12:=hide ((unhide G11).ext x12);have X12:=hide ((unhide X11).trans x12);obtain⟨u0,u1,u2,u3,u4,u5,u6,u7⟩:=(unhide G12).boxes (unhide O1);have hw12:w.heap.size+1<w12.heap.size:=cell_lt u5;clear x12;go_wp2_with fail;refine bodyPost_ret (v:=ansV 0 0) (by simp [results,Tryz.results176,go_sem,u5,u6]) rfl ?_;exact⟨_,0,0,rfl,⟨rfl,.inr ⟨unhide NB,z,unhide HZ,.inr ⟨unhide HF,rfl,unhide PC⟩⟩⟩,GOk.done (unhide O1) (unhide G12) 0 0,putA_ext (unhide X12) (unhide V0) 0 0⟩
 ·have NB:=hide (show x.born=1000000000 by simpa using qb);go_enter Tryz.func176,Tryz.ntmps176;go_wp2_with fail;refine(l5bad_any 4 _).mono ?_;rintro e w3 ⟨rfl,x3⟩;have G3:=hide ((unhide G1).ext x3);have X3:=hide ((unhide X1).trans x3);obtain⟨u0,u1,u2,u3,u4,u5,u6,u7⟩:=(unhide G3).boxes (unhide O1);have hw3:w.heap.size+1<w3.heap.size:=cell_lt u5;clear x3;go_wp2_with fail;refine bodyPost_ret (v:=ansV 4 0) (by simp [results,Tryz.results176,go_sem,u5,u6]) rfl ?_;exact⟨_,4,0,rfl,⟨rfl,.inl ⟨unhide NB,rfl,rfl⟩⟩,GOk.done (unhide O1) (unhide G3) 4 0,putA_ext (unhide X3) (unhide V0) 4 0⟩
theorem l5do_1[p:Inhabited ProtD](B g:Nat)(x:Hp)(a b c:Nat)(n:Int)(w:World)(h:GOk B w g x)(s:Snd x)(ok:actOkB 1 a b c n=true)(ha:a<16)(hb:b≤255)(hc:c≤200)(v:World)(hv:v.heap.size≤B)(hx:Ext v w):
  Calls Tryz.prog 147 #[.pointer (some ⟨g,0,none⟩),actV 1 a b c n] w fun e w'=>DoPost B g x a b c n 1 v e w':=by
 obtain⟨p1,o1,g1⟩:=GOk.enter h (w0:=doW w 1 a b c n) (((Ext.refl w).alloc _).alloc _);have HG:=hide g1;have S:=hide s;have O1:=hide o1;have QA:=hide (fun W=>specActOk_any 1 a b c n W);rw[ok] at QA;have V0:=hide (show v.heap.size≤w.heap.size+1 by have:=hx.size;omega);have XD:=hide (show Ext v (doW w 1 a b c n) from(hx.alloc _).alloc _);have BX:=hide (Boxes.new w 1 a b c n);clear h s o1 g1;go_enter Tryz.func147,Tryz.ntmps147;go_wp2_with fail;refine(unhide QA _).mono ?_;rintro e w1 ⟨rfl,x1⟩;have X1:=hide ((unhide XD).trans x1);have BX1:=hide ((unhide BX).ext x1);obtain⟨t0,t1,t2,t3,t4,t5,t6,t7⟩:=unhide BX1;have hw1:w.heap.size+1<w1.heap.size:=cell_lt t5;have hw0:w.heap.size<w1.heap.size:=cell_lt t0;have G1:=hide ((unhide HG).ext x1)
 have QP:=hide (show Calls Tryz.prog 176 #[.pointer (some ⟨g,0,none⟩),actV 1 a b c n] w1 fun e w'=>DoPost B g x a b c n 1 v e w' from by
  exact l5make_any B g x a b c n w1 (unhide G1) (unhide S) ha hb hc v hv (unhide X1))
 clear x1 QA BX1 BX XD HG;go_wp2_with fail;refine(unhide QP).mono ?_;rintro e w3 ⟨y,cd,nm,he,dr,g3,x3⟩;have e2:=unhide he;subst e2;have G3:=hide (unhide g3);have X3:=hide x3;clear he g3 x3 QP;obtain⟨u0,u1,u2,u3,u4,u5,u6,u7⟩:=(unhide G3).boxes (unhide O1);have hw3:w.heap.size+1<w3.heap.size:=cell_lt u5;clear t0 t1 t2 t3 t4 t5 t6 t7;go_wp2_with fail;refine bodyPost_ret (v:=ansV cd nm) (by simp [results,Tryz.results147,go_sem,u5,u6]) rfl ?_;exact⟨y,cd,nm,rfl,unhide dr,GOk.done (unhide O1) (unhide G3) cd nm,putA_ext (unhide X3) (unhide V0) cd nm⟩
end Go.Proofs.YtnegjhddmfiefaaGreatDoor
