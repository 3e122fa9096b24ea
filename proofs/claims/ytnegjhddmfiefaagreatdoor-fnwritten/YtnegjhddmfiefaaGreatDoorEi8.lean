import Derived.Test.YtnegjhddmfiefaaGreatDoorBk
set_option maxRecDepth 100000
set_option maxHeartbeats 100000000
namespace Go.Proofs.YtnegjhddmfiefaaGreatDoor
open Go.RowKit
attribute [local go_sem ↓] Go.wp_at_zero Go.wp_at_succ
theorem l5pair_8[p:Inhabited ProtD](B g:Nat)(x:Hp)(a b c:Nat)(n:Int)(w:World)(h:GOk B w g x)(s:Snd x)(ha:a<16)(hb:b<16)(v:World)(hv:v.heap.size≤B)(hx:Ext v w):
  Calls Tryz.prog 177 #[.pointer (some ⟨g,0,none⟩),actV 8 a b c n] w fun e w'=>DoPost B g x a b c n 8 v e w':=by
 obtain⟨p1,o1,g1⟩:=GOk.enter h (w0:=doW w 8 a b c n) (((Ext.refl w).alloc _).alloc _);obtain⟨br,kr,hr⟩:=g1.regs s.r1.regs;have O1:=hide o1;have G1:=hide g1;have R1:=hide hr;have S:=hide s;have V0:=hide (show v.heap.size≤w.heap.size+1 by have:=hx.size;omega);have X1:=hide (show Ext v (doW w 8 a b c n) from(hx.alloc _).alloc _);obtain⟨t0,t1,t2,t3,t4,t5,t6,t7⟩:=Boxes.new w 8 a b c n;have c3:=hr.c3;obtain⟨r0,r1,r2⟩:=hr.r a ha;have j0:(0:Int)≤(a:Int):=by omega
 have j1:(a:Int)<16:=by omega
 clear h s hr o1 g1;cases q2:((x.r a).k == 2)
 ·have q2b:((x.r a).k != 2)=true:=by simpa using q2
  have D:=hide (show(x.r a).k≠2 by simpa using q2);clear q2;go_enter Tryz.func177,Tryz.ntmps177;go_wp2_with fail;refine(l5bad_any 2 _).mono ?_;rintro e w3 ⟨rfl,x3⟩;have G3:=hide ((unhide G1).ext x3);have X3:=hide ((unhide X1).trans x3);clear x3 c3 r0 r1 r2 t0 t1 t2 t3 t4 t5 t6 t7;obtain⟨u0,u1,u2,u3,u4,u5,u6,u7⟩:=(unhide G3).boxes (unhide O1);have hw3:w.heap.size+1<w3.heap.size:=cell_lt u5;go_wp2_with fail;refine bodyPost_ret (v:=ansV 2 0) (by simp [results,Tryz.results177,go_sem,u5,u6]) rfl ?_;exact⟨_,2,0,rfl,.inl ⟨unhide D,rfl,rfl,rfl⟩,GOk.done (unhide O1) (unhide G3) 2 0,putA_ext (unhide X3) (unhide V0) 2 0⟩
 ·have q2b:((x.r a).k != 2)=false:=by simpa using q2
  have D:=hide (show(x.r a).k=2 by simpa using q2);obtain⟨_,ea,hi,_,_⟩:=(unhide S).at a ha (unhide D);have L200:=(unhide S).ok.p200 _ hi;obtain⟨i,hI⟩:∃i,i=x.at a:=⟨_,rfl⟩;have HI:=hide hI;rw[←hI] at ea hi L200;rw[ea] at r2;clear q2 ea hI;have i0:(0:Int)≤(i:Int):=by omega
  have i1:(i:Int)<(x.cells.length:Int):=by omega
  by_cases hc:c<(x.c i).prs.length
  ·have hc1:¬((c:Int)≥((x.c i).prs.length:Int)):=by omega
   have hc2:(c:Int)<((x.c i).prs.length:Int):=by omega
   have hc0:(0:Int)≤(c:Int):=by omega
   obtain⟨bc,kc,bp,kp,hp⟩:=(unhide G1).prw i hi c hc;have P1:=hide hp;have c4:=hp.c4;have p7:=hp.p7;obtain⟨e0,e1,e2,e3,e4,e5⟩:=hp.pr;clear hp;go_enter Tryz.func177,Tryz.ntmps177;go_wp2_with fail;go_quiet (fail);obtain⟨W2,hW2⟩:∃W,W=(doW w 8 a b c n).drewN nq:=⟨_,rfl⟩;rw[←hW2];have x12:Ext (doW w 8 a b c n) W2:=by rw[hW2];exact Ext.drewN (Ext.refl _) nq
   have G2:=hide ((unhide G1).ext x12);have X12:=hide x12;have X2:=hide ((unhide X1).trans x12);have c4:=x12.keep c4;have p7:=x12.keep p7;have t0:=x12.keep t0;have t3:=x12.keep t3;have e0:=x12.keep e0;have e1:=x12.keep e1;have e2:=x12.keep e2;have e3:=x12.keep e3;have e4:=x12.keep e4;have e5:=x12.keep e5;have hg2:g<W2.heap.size:=cell_lt c4;have hb2:bc<W2.heap.size:=cell_lt p7;have hp2:bp<W2.heap.size:=cell_lt e0;have hw2:w.heap.size<W2.heap.size:=cell_lt t0;clear hW2 x12;clear c3 r0 r1 r2 t1 t2 t4 t5 t6 t7;go_wp2_with fail
   go_region
   obtain⟨W3,hW3⟩:∃W,W=(W2.alloc (.cells #[.int .i64 ((x.c i).p c).key.k,.int .i64 ((x.c i).p c).key.n,.int .i64 ((x.c i).p c).key.a,.int .i64 ((x.c i).p c).val.k,.int .i64 ((x.c i).p c).val.n,.int .i64 ((x.c i).p c).val.a] 178)).drew:=⟨_,rfl⟩;rw[←hW3];have x23:Ext W2 W3:=by rw[hW3];exact((Ext.refl W2).alloc _).drew
   have X23:=hide x23;have yf:∀j,W3.frozen? ⟨W2.heap.size,j,none⟩=false:=fun j=>by rw[hW3];simp [go_sem]
   have PB:PrAt W3 W2.heap.size 0 ((x.c i).p c):=by rw[hW3];exact⟨by simp [go_sem],by simp [go_sem],by simp [go_sem],by simp [go_sem],by simp [go_sem],by simp [go_sem]⟩
   obtain⟨y0,y1,y2,y3,y4,y5⟩:=PB;have G3:=hide ((unhide G2).ext x23);have X3:=hide ((unhide X2).trans x23);clear hW3 x23 c4 p7 t0 t3 e0 e1 e2 e3 e4 e5 hg2 hb2 hp2 hw2;obtain⟨t0,t1,t2,t3,t4,t5,t6,t7⟩:=(unhide G3).boxes (unhide O1)
   as_aux_lemma=>
    obtain⟨br',kr',hr⟩:=(unhide G3).regs (unhide S).r1.regs;have c3:=hr.c3;obtain⟨r0,r1,r2⟩:=hr.r b hb;have hg3:g<W3.heap.size:=cell_lt c3;have hb3:br'<W3.heap.size:=cell_lt r0;have hw3:w.heap.size<W3.heap.size:=cell_lt t0;have hy3:W2.heap.size<W3.heap.size:=cell_lt y0;have b0:(0:Int)≤(b:Int):=by omega
    have b1:(b:Int)<16:=by omega
    clear hr;obtain⟨yy,hyy⟩:∃y,y=x.r b:=⟨_,rfl⟩;have HY:=hide hyy;rw[←hyy] at r0 r1 r2;obtain⟨qq,hqq⟩:∃q:Pr,q=⟨((x.c i).p c).key,yy⟩:=⟨_,rfl⟩;have QQ:=hide hqq;clear hyy hqq;obtain⟨W4,hW4⟩:∃W,W=(wordO W3 W2.heap.size 3 yy).drew:=⟨_,rfl⟩;have x24:Ext W2 W4:=by rw[hW4];exact((wordO_only W3 W2.heap.size 3 yy).ext (unhide X23) (fun q hq e=>by omega)).drew
    have P4:PrAt W4 W2.heap.size 0 qq:=by
     rw[hW4,unhide QQ];have k:=wordO_at W3 W2.heap.size 3 yy ((x.c i).p c).val ⟨y3,y4,y5⟩;refine⟨?_,?_,?_,?_,?_,?_⟩
     ·rw[dcell,wordO_other _ _ _ _ _ (by omega)];exact y0
     ·rw[dcell,wordO_other _ _ _ _ _ (by omega)];exact y1
     ·rw[dcell,wordO_other _ _ _ _ _ (by omega)];exact y2
     ·rw[dcell];exact k.1
     ·rw[dcell];exact k.2.1
     ·rw[dcell];exact k.2.2
    unfold wordO at hW4;go_wp2_with fail
    go_region
    rw[←hW4];have P24:=hide ((unhide P1).ext ((unhide X12).trans x24));have G4:=hide ((unhide G2).ext x24);have X4:=hide ((unhide X2).trans x24);clear hW4 x24 c3 r0 r1 r2 t0 t1 t2 t3 t4 t5 t6 t7 y0 y1 y2 y3 y4 y5 yf hg3 hb3 hw3 hy3;obtain⟨t0,t1,t2,t3,t4,t5,t6,t7⟩:=(unhide G4).boxes (unhide O1);have c4:=(unhide P24).c4;have p7:=(unhide P24).p7;obtain⟨e0,e1,e2,e3,e4,e5⟩:=(unhide P24).pr;obtain⟨y0,y1,y2,y3,y4,y5⟩:=P4;have fp:=(unhide P24).f;have hg4:g<W4.heap.size:=cell_lt c4;have hb4:bc<W4.heap.size:=cell_lt p7;have hp4:bp<W4.heap.size:=cell_lt e0;have hw4:w.heap.size<W4.heap.size:=cell_lt t0;have hy4:W2.heap.size<W4.heap.size:=cell_lt y0;have FN:=hide (show GOk B (pairO W4 bp (c*6) qq).drew g (setcH x i { x.c i with prs:=(x.c i).prs.set c qq })∧Ext v (pairO W4 bp (c*6) qq).drew from⟨((unhide P24).set W4 qq (Ext.refl _)).ext (Ext.refl _).drew,((pairO_only W4 bp (c*6) qq).ext (unhide X4) (fun q hq e=>by have:=(unhide P24).lo.1;omega)).drew⟩);obtain⟨W5,hW5⟩:∃W,W=(pairO W4 bp (c*6) qq).drew:=⟨_,rfl⟩;rw[←hW5] at FN;unfold pairO at hW5;go_wp2_with fail
    go_region
    rw[←hW5];clear hW5 c4 p7 e0 e1 e2 e3 e4 e5 y0 y1 y2 y3 y4 y5 fp hg4 hb4 hp4 hw4 hy4 t0 t1 t2 t3 t4 t5 t6 t7
    as_aux_lemma=>
     obtain⟨z,hz⟩:∃z,z=setcH x i { x.c i with prs:=(x.c i).prs.set c qq }:=⟨_,rfl⟩;rw[←hz] at FN;have ZR:=hide (show z.regs=x.regs∧z.cells.length=x.cells.length∧z.gray=x.gray from by rw[hz];exact⟨rfl,by simp [setcH],rfl⟩)
     have ZS:=hide (show ∀q,(z.c q).st=(x.c q).st from fun q=>by
      rw[hz];show(({ x with cells:=x.cells.set i _ }:Hp).c q).st=_;rw[Hp.c_set x i _ hi q];by_cases e:q=i
      ·rw[if_pos e,e]
      ·rw[if_neg e])
     have HZ:=hide hz;clear hz;obtain⟨br2,kr2,hr2⟩:=(unhide FN).1.regs (by rw[(unhide ZR).1];exact(unhide S).r1.regs);have c3:=hr2.c3;obtain⟨r0,r1,r2⟩:=hr2.r b hb;have er:z.r b=yy:=by rw[unhide HY];unfold Hp.r;rw[(unhide ZR).1]
     rw[er] at r0 r1 r2;have hg5:g<W5.heap.size:=cell_lt c3;have hb5:br2<W5.heap.size:=cell_lt r0;obtain⟨t0,t1,t2,t3,t4,t5,t6,t7⟩:=(unhide FN).1.boxes (unhide O1);have hw5:w.heap.size<W5.heap.size:=cell_lt t0
     have GD:=hide (show Good1 z yy∧(yy.k=2→0≤yy.a) from by
      have l:=(unhide S).reg b hb;rw[←unhide HY] at l;have l1:=l.1;unfold Formed at l1
      exact⟨fun hk=>⟨by rw[(unhide ZR).2.1];omega,by
       rw[unhide ZS];rcases l.2 hk with o | o
       ·exact o.2.elim
       ·exact o.1⟩,fun hk=>by omega⟩)
     have QS:=hide (show ∀W,Ext W5 W→Calls Tryz.prog 212 #[.pointer (some ⟨g,0,none⟩),yy.v] W fun e w'=>∃r:Bool,e=.returned (.bool r)∧Hid (GOk B w' g (shadeW z yy))∧Ext v w' from fun W xW=>by
      refine(gshade_l B g z yy W ((unhide FN).1.ext xW) (by rw[(unhide ZR).2.1];exact(unhide S).ok.n8) (by rw[(unhide ZR).2.2];have:=(unhide S).r1.gray;have:=(unhide S).ok.n8;omega) (unhide GD).1 (unhide GD).2 v hv ((unhide FN).2.trans xW) ?_).mono ?_
      ·have:=((unhide FN).1.ext xW).box.2.2.2.2;omega
      ·rintro e w' h;exact⟨_,h.1,h.2.1,h.2.2⟩)
     clear hr2 er;go_wp2_with fail;go_cut [] (fun wx=>Hid (GOk B wx g (shadeW z yy))∧Hid (Ext v wx))
     case first=>
      go_region_with (go_at_call 212;refine(unhide QS _ (Ext.refl W5).drew).mono ?_;rintro e w6 ⟨r,rfl,g6,x6⟩;have X6:=hide x6;clear x6)
      all_goals
       go_wp2_with fail;go_meet;exact⟨unhide g6,unhide X6⟩
     case rest=>as_aux_lemma=>
      obtain⟨G5,X5⟩:=hcut;clear c3 r0 r1 r2 t0 t1 t2 t3 t4 t5 t6 t7 FN QS;go_wp2_with fail;refine(l5fine_any 0 _).mono ?_;rintro e w6 ⟨rfl,x6⟩;have G6:=hide ((unhide G5).ext x6);have X6:=hide ((unhide X5).trans x6);obtain⟨u0,u1,u2,u3,u4,u5,u6,u7⟩:=(unhide G6).boxes (unhide O1);have hw6:w.heap.size+1<w6.heap.size:=cell_lt u5;clear x6;go_wp2_with fail;refine bodyPost_ret (v:=ansV 0 0) (by simp [results,Tryz.results177,go_sem,u5,u6]) rfl ?_;exact⟨_,0,0,rfl,.inr (.inr ⟨unhide D,by rw[←unhide HI];exact hc,by rw[←unhide HI];show shadeW z yy=shadeW (setcH x i (valC (x.c i) c (x.r b))) (x.r b);rw[←unhide HY,unhide HZ,unhide QQ];rfl,rfl,rfl⟩),GOk.done (unhide O1) (unhide G6) 0 0,putA_ext (unhide X6) (unhide V0) 0 0⟩
  ·have hc1:(c:Int)≥((x.c i).prs.length:Int):=by omega
   obtain⟨bc,kc,ap,kp,hce⟩:=(unhide G1).cel i hi;have c4:=hce.c4;have p7:=hce.p7;clear hce;go_enter Tryz.func177,Tryz.ntmps177;go_wp2_with fail;go_quiet (fail);obtain⟨W2,hW2⟩:∃W,W=(doW w 8 a b c n).drewN nq:=⟨_,rfl⟩;rw[←hW2];have x12:Ext (doW w 8 a b c n) W2:=by rw[hW2];exact Ext.drewN (Ext.refl _) nq
   clear hW2;go_wp2_with fail;refine(l5bad_any 3 _).mono ?_;rintro e w3 ⟨rfl,x3⟩;have G3:=hide ((unhide G1).ext (x12.trans x3));have X3:=hide ((unhide X1).trans (x12.trans x3));clear x3 x12 c3 r0 r1 r2 t0 t1 t2 t3 t4 t5 t6 t7 c4 p7;obtain⟨u0,u1,u2,u3,u4,u5,u6,u7⟩:=(unhide G3).boxes (unhide O1);have hw3:w.heap.size+1<w3.heap.size:=cell_lt u5;go_wp2_with fail;refine bodyPost_ret (v:=ansV 3 0) (by simp [results,Tryz.results177,go_sem,u5,u6]) rfl ?_;exact⟨_,3,0,rfl,.inr (.inl ⟨unhide D,by rw[←unhide HI];omega,rfl,rfl,rfl⟩),GOk.done (unhide O1) (unhide G3) 3 0,putA_ext (unhide X3) (unhide V0) 3 0⟩
end Go.Proofs.YtnegjhddmfiefaaGreatDoor
