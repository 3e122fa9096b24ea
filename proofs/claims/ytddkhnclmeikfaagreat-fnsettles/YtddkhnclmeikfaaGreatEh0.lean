import Derived.Test.YtddkhnclmeikfaaGreatEb
set_option maxRecDepth 100000
set_option maxHeartbeats 6000000
namespace Go.Proofs.YtddkhnclmeikfaaGreat
open Go.RowKit
attribute [local go_sem ↓] Go.wp_at_zero Go.wp_at_succ
variable{B g kc k:Nat}{w W:World}{x y:Hp}{vr vc vg:Value}
theorem wd_eq0(a b:Wd)(w:World):(Op.equalIn 10000 152 (.agg #[iv a.k,iv a.n,iv a.a]) (.agg #[iv b.k,iv b.n,iv b.a])).run Tryz.prog w=.ok (wdB a b) w:=by
 rw[run_equalIn_struct w 9999 _ _ _ (by kernel_rfl) (by kernel_rfl)];simp [go_sem,wdB]
 repeat' split
 all_goals simp_all
theorem wd_eq(a b:Wd)(w:World):(binOp .eql 152 (.agg #[iv a.k,iv a.n,iv a.a]) (.agg #[iv b.k,iv b.n,iv b.a])).run Tryz.prog w=.ok (.bool (wdB a b)) w:=by
 rw[run_eql_struct,wd_eq0];rfl
theorem b4k(x:Hp)(b:Nat)(w:World){ar:Option Addr}{kr:Nat}{ac:Option Addr}{ag:Option Addr}{kg:Nat}(h:HAt w b x ar kr ac kc ag kg)(hn8:x.cells.length<=8000):
  Calls Tryz.prog 92 #[.pointer (some ⟨b,0,none⟩)] w λe w'=>∃r:Int,Hid (e=.returned (.int .i64 r))/\Hid (qV x x.cells.length r)/\Ext w w':=by
 have HH:=uU h;have c4:=h.c4;clear h;go_enter Tryz.func92,Tryz.ntmps92;go_wp2_with fail;go_loopw [3,11] (λa i wr=>∃(k:Nat) (r:Int),k<=x.cells.length/\i=.int .i64 k/\a=.int .i64 r/\Hid (qV x k r)/\Ext w wr) (λ_ i _=>x.cells.length-(intOf i).toNat)
 case atStart=>exact⟨0,-1,Nat.zero_le _,rfl,rfl,.inl ⟨rfl,λi hi=>by omega⟩,Ext.refl w⟩
 case round=>
  clear c4;obtain⟨k,r,hk,rfl,rfl,hd,hbl⟩:=hrel;by_cases hlt:k<x.cells.length
  ·have hh:=HH.ext hbl;have c4:=hh.c4;obtain⟨bc,oc,ap,kp,rfl,C⟩:=hh.cell k hlt;have HC:=uU C;have p0:=C.p0;have p1:=C.p1;have p2:=C.p2;have p3:=C.p3;have p4:=C.p4;have p5:=C.p5;have p6:=C.p6;have p7:=C.p7;have hbc:bc<wr.heap.size:=uL p0;have hbb:b<wr.heap.size:=uL c4;have hk0:(0:Int)<=(k:Int):=by omega
   have hk1:(k:Int)<(x.cells.length:Int):=by omega
   clear C;cases t:((x.c k).last == 2)
   ·have D:=uU (show qV x (k+1) r from hd.no (by simpa using t));go_wp2_with fail;go_quiet (fail);go_wp2_with fail;go_roundw
    case rel=>exact⟨k+1,r,by omega,by go_num,rfl,D,(hbl.alloc _).drewN _⟩
    case measure=>simp [intOf];omega
   ·have T:=uU (show(x.c k).last=2 by simpa using t);rcases hd.form with rfl | ⟨i,rfl,hi⟩
    ·have D:=uU (hd.first T);go_wp2_with fail;go_quiet (fail);go_wp2_with fail;go_roundw
     case rel=>exact⟨k+1,k,by omega,by go_num,rfl,D,(hbl.alloc _).drewN _⟩
     case measure=>simp [intOf];omega
    ·obtain⟨bc',oc',ap',kp',e1,C'⟩:=hh.cell i (by omega);cases e1;have q4:=C'.p4;have hi0:¬(i:Int)<0:=by omega
     have hi1:(i:Int)<(x.cells.length:Int):=by omega
     have hi2:(0:Int)<=(i:Int):=by omega
     clear C';by_cases hl:(x.c k).born<(x.c i).born
     ·have D:=uU (hd.less T hl);go_wp2_with fail;go_quiet (fail);go_wp2_with fail;go_roundw
      case rel=>exact⟨k+1,k,by omega,by go_num,rfl,D,(hbl.alloc _).drewN _⟩
      case measure=>simp [intOf];omega
     ·have D:=uU (hd.more (by omega));go_wp2_with fail;go_quiet (fail);go_wp2_with fail;go_roundw
      case rel=>exact⟨k+1,i,by omega,by go_num,rfl,D,(hbl.alloc _).drewN _⟩
      case measure=>simp [intOf];omega
  ·have hk2:k=x.cells.length:=by omega
   have D:=uU (show qV x x.cells.length r by have:=uH hd;rw[hk2] at this;exact this);clear hk2 hd;go_wp2_with fail;go_ret;exact⟨r,rfl,D,hbl⟩
structure GCel[Inhabited uZ](B:Nat)(w:World)(g:Nat)(x:Hp)(i bc kc:Nat)(ap:Option Addr)(kp:Nat):Prop where
 c4:w.cell? ⟨g,4,none⟩=some (.slice (some ⟨bc,0,none⟩) x.cells.length kc)
 s:S7 w bc (i*8) (x.c i)
 p7:w.cell? ⟨bc,i*8+7,none⟩=some (.slice ap (x.c i).prs.length kp)
 f:∀j,w.frozen? ⟨bc,j,none⟩=false
 lo:B<=bc/\bc<w.heap.size
 set2:∀(W:World) (u:Int),Ext w W->GOk B (W.setCell ⟨bc,i*8+2,none⟩ (iv u)) g (dE x i (c3u (x.c i) u))
 set3:∀(W:World) (u:Int),Ext w W->GOk B (W.setCell ⟨bc,i*8+3,none⟩ (iv u)) g (dE x i (a2g (x.c i) u))
theorem GOk.cel[Inhabited uZ](h:GOk B w g x)(i:Nat)(hi:i<x.cells.length):∃bc kc ap kp,GCel B w g x i bc kc ap kp:=by
 obtain⟨ar,kr,ac,kc,vg,br,bc,pb,pa,pk,role,h⟩:=h;have hn:0<x.cells.length:=by omega
 refine⟨bc,kc,pa i,pk i,?_,h.rw.s i hi,h.rw.p7 i hi,(h.rw.nc hn).1.2,⟨(h.rw.nc hn).2,(h.rw.nc hn).1.1⟩,λW u e=>?_,λW u e=>?_⟩
 ·have:=h.bx.2.2.2.2.1;rw[h.hc hn] at this;exact this
 ·have g1:=h.ext e;obtain⟨a0,a1,a2,a3,a4,a5,a6⟩:=g1.rw.s i hi;refine⟨ar,kr,ac,kc,vg,br,bc,pb,pa,pk,role,g1.setc hi rfl (uX.setCell (S:=λq=>q=bc) (uX.refl _ W) (p:=⟨bc,i*8+2,none⟩) rfl _) ⟨?_,?_,World.cell?_setCell_same _ _ _ a2,?_,?_,?_,?_⟩ (λj hj=>uC _ (.inr (by omega))) ((g1.rw.nc hn).1.set _ _)⟩
  ·rw[uC _ (.inr (by omega))];exact a0
  ·rw[uC _ (.inr (by omega))];exact a1
  ·rw[uC _ (.inr (by omega))];exact a3
  ·rw[uC _ (.inr (by omega))];exact a4
  ·rw[uC _ (.inr (by omega))];exact a5
  ·rw[uC _ (.inr (by omega))];exact a6
 ·have g1:=h.ext e;obtain⟨a0,a1,a2,a3,a4,a5,a6⟩:=g1.rw.s i hi;refine⟨ar,kr,ac,kc,vg,br,bc,pb,pa,pk,role,g1.setc hi rfl (uX.setCell (S:=λq=>q=bc) (uX.refl _ W) (p:=⟨bc,i*8+3,none⟩) rfl _) ⟨?_,?_,?_,World.cell?_setCell_same _ _ _ a3,?_,?_,?_⟩ (λj hj=>uC _ (.inr (by omega))) ((g1.rw.nc hn).1.set _ _)⟩
  ·rw[uC _ (.inr (by omega))];exact a0
  ·rw[uC _ (.inr (by omega))];exact a1
  ·rw[uC _ (.inr (by omega))];exact a2
  ·rw[uC _ (.inr (by omega))];exact a4
  ·rw[uC _ (.inr (by omega))];exact a5
  ·rw[uC _ (.inr (by omega))];exact a6
abbrev b2f(w:World):World:=w.alloc (.cells #[iv 0,iv 0] 41)
structure ABox(w W:World):Prop where
 r0:W.cell? ⟨w.heap.size,0,none⟩=some (iv 0)
 r1:W.cell? ⟨w.heap.size,1,none⟩=some (iv 0)
 rf:∀j,W.frozen? ⟨w.heap.size,j,none⟩=false
theorem ABox.new(w:World):ABox w (b2f w):=⟨by simp [go_sem],by simp [go_sem],λj=>by simp [go_sem]⟩
theorem GOk.abox{p p1:Inhabited uZ}(o:Own p w.heap.size (b2f w).heap.size (b2f w) p1)(h:@GOk p1 B W g y):ABox w W:=by
 have e:=GOk.own o h w.heap.size (Nat.le_refl _) (by simp [b2f]);have n:=ABox.new w;exact⟨(World.cell?_of_block (a:=⟨w.heap.size,0,none⟩) e).trans n.r0,(World.cell?_of_block (a:=⟨w.heap.size,1,none⟩) e).trans n.r1,λj=>(World.frozen?_of_block (a:=⟨w.heap.size,j,none⟩) e).trans (n.rf j)⟩
theorem GOk.done1{p p1:Inhabited uZ}(o:Own p w.heap.size (b2f w).heap.size (b2f w) p1)(h:@GOk p1 B W g y)(cd nm:Int):@GOk p B (putA W w.heap.size cd nm) g y:=
 GOk.leave o h (uX.setCell (uX.setCell (uX.refl _ W) (p:=⟨w.heap.size,0,none⟩) ⟨Nat.le_refl _,by simp [b2f]⟩ _) (p:=⟨w.heap.size,1,none⟩) ⟨Nat.le_refl _,by simp [b2f]⟩ _)
theorem c6d[p:Inhabited uZ](B g:Nat)(x:Hp)(a:Nat)(w:World)(h:GOk B w g x)(s:Snd x)(ha:a<16)(v:World)(hv:v.heap.size<=B)(hx:Ext v w):
  Calls Tryz.prog 254 #[.pointer (some ⟨g,0,none⟩),.int .i64 a] w λe w'=>∃(y:Hp) (nm:Int),e=.returned (eK 0 nm)/\Hid (c8o x a y nm)/\Hid (GOk B w' g y)/\Ext v w':=by
 obtain⟨p1,o1,g1⟩:=GOk.enter h (w0:=b2f w) ((Ext.refl w).alloc _);have O1:=uU o1;have G0:=uU g1;have r16:=uU s.r1.regs
 have QN:=uU (show Calls Tryz.prog 92 #[.pointer (some ⟨g,0,none⟩)] (b2f w) λe w'=>∃r:Int,e=.returned (.int .i64 r)/\Hid (qV x x.cells.length r)/\Ext (b2f w) w' from by
  obtain⟨ar,kr,ac,kc,vg,br,bc,pb,pa,pk,role,h⟩:=g1;obtain⟨ag,kg,hat⟩:=h.hat s;refine(b4k x g _ hat s.ok.n8).mono ?_;rintro e w' h2;exact h2)
 have V0:=uU (show v.heap.size<=w.heap.size from hx.size);have XD:=uU (show Ext v (b2f w) from hx.alloc _);have i0:(0:Int)<=(a:Int):=by omega
 have i1:(a:Int)<16:=by omega
 clear h s o1 g1;go_enter Tryz.func254,Tryz.ntmps254;go_wp2_with fail;refine QN.mono ?_;rintro e w1 ⟨r,rfl,hd,x1⟩;have X1:=uU (XD.trans x1);have G1:=uU (G0.ext x1);clear x1 XD G0 QN;by_cases h0:r<0
 ·have D:=uU (show qV x x.cells.length (-1) by
   rcases uH hd with⟨e,h⟩ | ⟨i,e,_⟩
   ·exact .inl ⟨rfl,h⟩
   ·omega)
  clear hd;obtain⟨br,kr,hr⟩:=G1.regs r16;have R1:=uU hr;have c3:=hr.c3;obtain⟨r0,r1,r2⟩:=hr.r a ha;have f:=hr.f;have hg1:g<w1.heap.size:=uL c3;have hb1:br<w1.heap.size:=uL r0;have hbB:=hr.lo.1;have FN:=uU (show GOk B (dV w1 br (a*3) Wd0) g (regTo x a Wd0)/\Ext v (dV w1 br (a*3) Wd0) from⟨hr.set w1 a Wd0 (Ext.refl _) ha,(a0e w1 br (a*3) Wd0).ext X1 (λq hq e=>by omega)⟩);obtain⟨W2,hW2⟩:∃W,W=dV w1 br (a*3) Wd0:=⟨_,rfl⟩;rw[<-hW2] at FN;unfold dV Wd0 at hW2;clear hr;go_wp2_with fail;rw[<-hW2];refine(cE 0 _).mono ?_;rintro e w3 ⟨rfl,x3⟩;have G3:=uU (FN.1.ext x3);have X3:=uU (FN.2.trans x3);obtain⟨u5,u6,u7⟩:=GOk.abox O1 G3;have hw3:w.heap.size<w3.heap.size:=uL u5;clear x3 FN hW2 c3 r0 r1 r2 f;go_wp2_with fail;refine bodyPost_ret (v:=eK 0 0) (by simp [results,Tryz.results254,go_sem,u5,u6]) rfl ?_;exact⟨_,0,rfl,.inl ⟨D,rfl,rfl⟩,GOk.done1 O1 G3 0 0,cV X3 V0 0 0⟩
 ·obtain⟨i,hi,hil,D⟩:∃i:Nat,r=(i:Int)/\i<x.cells.length/\Hid (qV x x.cells.length (i:Int)):=by
   rcases hd.form with e | ⟨i,e,h⟩
   ·omega
   ·exact⟨i,e,h,by have:=uH hd;rw[e] at this;exact this⟩
  subst hi;clear hd;obtain⟨bc,kc,ap,kp,hc⟩:=G1.cel i hil;have c4:=hc.c4;obtain⟨q0,q1,q2,q3,q4,q5,q6⟩:=hc.s;have fc:=hc.f;have hg0:g<w1.heap.size:=uL c4;have hb0:bc<w1.heap.size:=uL q3;have k0:(0:Int)<=(i:Int):=by omega
  have k1:(i:Int)<(x.cells.length:Int):=by omega
  have G2:=uU (hc.set3 w1 3 (Ext.refl _));have X2:=uU (X1.setCell (p:=⟨bc,i*8+3,none⟩) (Nat.le_trans hv hc.lo.1) (iv 3));obtain⟨W1,hW1⟩:∃W,W=w1.setCell ⟨bc,i*8+3,none⟩ (iv 3):=⟨_,rfl⟩;rw[<-hW1] at G2 X2;obtain⟨br,kr,hr⟩:=G2.regs (show(dE x i (a2g (x.c i) 3)).regs.length=16 from uH r16);have c3:=hr.c3;obtain⟨r0,r1,r2⟩:=hr.r a ha;have f:=hr.f;have hg1:g<W1.heap.size:=uL c3;have hb1:br<W1.heap.size:=uL r0;have hbB:=hr.lo.1;have FN:=uU (show GOk B (dV W1 br (a*3) ⟨2,0,i⟩) g (regTo (dE x i (a2g (x.c i) 3)) a ⟨2,0,i⟩)/\Ext v (dV W1 br (a*3) ⟨2,0,i⟩) from⟨hr.set W1 a ⟨2,0,i⟩ (Ext.refl _) ha,(a0e W1 br (a*3) ⟨2,0,i⟩).ext X2 (λq hq e=>by omega)⟩);obtain⟨W2,hW2⟩:∃W,W=dV W1 br (a*3) ⟨2,0,i⟩:=⟨_,rfl⟩;rw[<-hW2] at FN;unfold dV at hW2;clear hr hc
  go_upto_region 6 with(fail)
  rw[<-hW1];clear hW1 c4 q0 q1 q2 q3 q4 q5 q6 fc hg0 hb0;go_wp2_with fail;rw[<-hW2];refine(cE 1 _).mono ?_;rintro e w3 ⟨rfl,x3⟩;have G3:=uU (FN.1.ext x3);have X3:=uU (FN.2.trans x3);obtain⟨u5,u6,u7⟩:=GOk.abox O1 G3;have hw3:w.heap.size<w3.heap.size:=uL u5;clear x3 FN hW2 c3 r0 r1 r2 f;go_wp2_with fail;refine bodyPost_ret (v:=eK 0 1) (by simp [results,Tryz.results254,go_sem,u5,u6]) rfl ?_;exact⟨_,1,rfl,.inr ⟨i,D,rfl,rfl⟩,GOk.done1 O1 G3 0 1,cV X3 V0 0 1⟩
theorem dY.set9(h:dY w B x vr vc vg)(u:Int):dY (w.setCell ⟨B,9,none⟩ (iv u)) B { x with per:=u } vr vc vg:=by
 obtain⟨h0,h1,h2,h3,h4,h5,h6,h7,h8,h9,h10,h11,h12⟩:=h;exact⟨by rw[uC _ (.inr (by omega))];exact h0,by rw[uC _ (.inr (by omega))];exact h1,by rw[uC _ (.inr (by omega))];exact h2,by rw[uC _ (.inr (by omega))];exact h3,by rw[uC _ (.inr (by omega))];exact h4,by rw[uC _ (.inr (by omega))];exact h5,by rw[uC _ (.inr (by omega))];exact h6,by rw[uC _ (.inr (by omega))];exact h7,by rw[uC _ (.inr (by omega))];exact h8,World.cell?_setCell_same _ _ _ h9,by rw[uC _ (.inr (by omega))];exact h10,by rw[uC _ (.inr (by omega))];exact h11,by rw[uC _ (.inr (by omega))];exact h12⟩
theorem dY.set10(h:dY w B x vr vc vg)(u:Int):dY (w.setCell ⟨B,10,none⟩ (iv u)) B { x with start:=u } vr vc vg:=by
 obtain⟨h0,h1,h2,h3,h4,h5,h6,h7,h8,h9,h10,h11,h12⟩:=h;exact⟨by rw[uC _ (.inr (by omega))];exact h0,by rw[uC _ (.inr (by omega))];exact h1,by rw[uC _ (.inr (by omega))];exact h2,by rw[uC _ (.inr (by omega))];exact h3,by rw[uC _ (.inr (by omega))];exact h4,by rw[uC _ (.inr (by omega))];exact h5,by rw[uC _ (.inr (by omega))];exact h6,by rw[uC _ (.inr (by omega))];exact h7,by rw[uC _ (.inr (by omega))];exact h8,by rw[uC _ (.inr (by omega))];exact h9,World.cell?_setCell_same _ _ _ h10,by rw[uC _ (.inr (by omega))];exact h11,by rw[uC _ (.inr (by omega))];exact h12⟩
theorem GOk.set9[Inhabited uZ](h:GOk B w g x)(v:Int):GOk B (w.setCell ⟨g,9,none⟩ (iv v)) g { x with per:=v }:=by
 obtain⟨ar,kr,ac,kc,vg,br,bc,pb,pa,pk,role,h⟩:=h;exact⟨_,_,_,_,_,_,_,_,_,_,_,h.boxed (x':={ x with per:=v }) (uX.setCell (S:=λq=>q=g) (uX.refl _ w) (p:=⟨g,9,none⟩) rfl _) (h.nf.set _ _) rfl rfl rfl (h.bx.set9 v)⟩
theorem GOk.set10[Inhabited uZ](h:GOk B w g x)(v:Int):GOk B (w.setCell ⟨g,10,none⟩ (iv v)) g { x with start:=v }:=by
 obtain⟨ar,kr,ac,kc,vg,br,bc,pb,pa,pk,role,h⟩:=h;exact⟨_,_,_,_,_,_,_,_,_,_,_,h.boxed (x':={ x with start:=v }) (uX.setCell (S:=λq=>q=g) (uX.refl _ w) (p:=⟨g,10,none⟩) rfl _) (h.nf.set _ _) rfl rfl rfl (h.bx.set10 v)⟩
theorem a2y{p p1:Inhabited uZ}{a b c:Nat}{op n:Int}{v:World}{cd nm:Int}(o:Own p w.heap.size (doW w op a b c n).heap.size (doW w op a b c n) p1)(h:@GOk p1 B W g y)(e:Ext v W)(l:v.heap.size<=w.heap.size+1)(d:DoR x a b c n y cd nm k):@qX p B g x a b c n k v (.returned (eK cd nm)) (putA W (w.heap.size+1) cd nm):=
 ⟨y,cd,nm,rfl,d,GOk.done o h cd nm,cV e l cd nm⟩
theorem a5h[p:Inhabited uZ](B g:Nat)(x:Hp)(k:Nat)(op:Int)(a b c:Nat)(n:Int)(w:World)(hk:(k=2/\op=2)\/(k=3/\op=3)\/(k=4/\op=4)\/(k=13/\op=13)\/(k=14/\op=14)\/(k=15/\op=15))(h:GOk B w g x)(s:Snd x)(ok:eD op a b c n=true)(v:World)(hv:v.heap.size<=B)(hx:Ext v w)(ha:a<16)(hB:k=4\/k=13->b<16):
  Calls Tryz.prog 234 #[.pointer (some ⟨g,0,none⟩),tJ op a b c n] w λe w'=>qX B g x a b c n k v e w':=by
 obtain⟨p1,o1,g1⟩:=GOk.enter h (w0:=doW w op a b c n) (((Ext.refl w).alloc _).alloc _);obtain⟨br,kr,hr⟩:=g1.regs s.r1.regs;have HR:=uU hr;have i0:(0:Int)<=(a:Int):=by omega
 have i1:(a:Int)<16:=by omega
 have HG:=uU g1;have O1:=uU o1;have QA:=uU (λW=>a1g op a b c n W);rw[ok] at QA;have V0:=uU (show v.heap.size<=w.heap.size+1 by have:=hx.size;omega);have XD:=uU (show Ext v (doW w op a b c n) from(hx.alloc _).alloc _);have BX:=uU (zL.new w op a b c n);clear h s hr o1 g1;rcases hk with⟨rfl,rfl⟩ | ⟨rfl,rfl⟩ | ⟨rfl,rfl⟩ | ⟨rfl,rfl⟩ | ⟨rfl,rfl⟩ | ⟨rfl,rfl⟩
 all_goals
  go_enter Tryz.func234,Tryz.ntmps234;go_wp2_with fail;refine(QA _).mono ?_;rintro e w1 ⟨rfl,x1⟩;have X1:=uU (XD.trans x1);have BX1:=uU (BX.ext x1);obtain⟨t0,t1,t2,t3,t4,t5,t6,t7⟩:=uH BX1;have hw1:w.heap.size+1<w1.heap.size:=uL t5;have hw0:w.heap.size<w1.heap.size:=uL t0;have G1:=uU (HG.ext x1);have R1:=uU (HR.ext x1);have c3:=R1.c3;obtain⟨r0,r1,r2⟩:=R1.r a ha;have hg1:g<w1.heap.size:=uL c3;have hb1:br<w1.heap.size:=uL r0;clear x1 QA BX1 BX XD HG HR
 ·have f:=R1.f;have hbB:=R1.lo.1;have FN:=uU (show GOk B (dV w1 br (a*3) ⟨1,n,0⟩) g (regTo x a ⟨1,n,0⟩)/\Ext v (dV w1 br (a*3) ⟨1,n,0⟩) from⟨R1.set w1 a ⟨1,n,0⟩ (Ext.refl _) ha,(a0e w1 br (a*3) ⟨1,n,0⟩).ext X1 (λq hq e=>by omega)⟩);obtain⟨W2,hW2⟩:∃W,W=dV w1 br (a*3) ⟨1,n,0⟩:=⟨_,rfl⟩;rw[<-hW2] at FN;unfold dV at hW2;clear t2 t3;go_wp2_with fail
  go_region
  go_wp2_with fail;rw[<-hW2];refine(cE 0 _).mono ?_;rintro e w3 ⟨rfl,x3⟩;have x23:=Ext.trans (Ext.refl W2).drew x3;have G3:=uU (FN.1.ext x23);have X3:=uU (FN.2.trans x23);obtain⟨u0,u1,u2,u3,u4,u5,u6,u7⟩:=G3.boxes O1;have hw3:w.heap.size+1<w3.heap.size:=uL u5;clear hW2 FN c3 r0 r1 r2 f t0 t1 t4 t5 t6 t7 x3 x23;go_wp2_with fail;refine bodyPost_ret (v:=eK 0 0) (by simp [results,Tryz.results234,go_sem,u5,u6]) rfl ?_;exact a2y O1 G3 X3 V0 (⟨rfl,rfl,rfl⟩)
 ·have f:=R1.f;have hbB:=R1.lo.1;have FN:=uU (show GOk B (dV w1 br (a*3) Wd0) g (regTo x a Wd0)/\Ext v (dV w1 br (a*3) Wd0) from⟨R1.set w1 a Wd0 (Ext.refl _) ha,(a0e w1 br (a*3) Wd0).ext X1 (λq hq e=>by omega)⟩);obtain⟨W2,hW2⟩:∃W,W=dV w1 br (a*3) Wd0:=⟨_,rfl⟩;rw[<-hW2] at FN;unfold dV Wd0 at hW2;go_wp2_with fail
  go_region
  go_wp2_with fail;rw[<-hW2];refine(cE 0 _).mono ?_;rintro e w3 ⟨rfl,x3⟩;have x23:=Ext.trans (Ext.refl W2).drew x3;have G3:=uU (FN.1.ext x23);have X3:=uU (FN.2.trans x23);clear hW2 FN c3 r0 r1 r2 f t0 t1 t2 t3 t4 t5 t6 t7 x3 x23;obtain⟨u0,u1,u2,u3,u4,u5,u6,u7⟩:=G3.boxes O1;have hw3:w.heap.size+1<w3.heap.size:=uL u5;go_wp2_with fail;refine bodyPost_ret (v:=eK 0 0) (by simp [results,Tryz.results234,go_sem,u5,u6]) rfl ?_;exact a2y O1 G3 X3 V0 (⟨rfl,rfl,rfl⟩)
 ·have hb:=hB (by simp);have j0:(0:Int)<=(b:Int):=by omega
  have j1:(b:Int)<16:=by omega
  obtain⟨s0,s1,s2⟩:=R1.r b hb;have f:=R1.f;have hbB:=R1.lo.1;have FN:=uU (show GOk B (dV w1 br (a*3) (x.r b)) g (regTo x a (x.r b))/\Ext v (dV w1 br (a*3) (x.r b)) from⟨R1.set w1 a (x.r b) (Ext.refl _) ha,(a0e w1 br (a*3) (x.r b)).ext X1 (λq hq e=>by omega)⟩);obtain⟨W2,hW2⟩:∃W,W=dV w1 br (a*3) (x.r b):=⟨_,rfl⟩;rw[<-hW2] at FN;unfold dV at hW2;go_wp2_with fail
  go_region
  go_wp2_with fail;rw[<-hW2];refine(cE 0 _).mono ?_;rintro e w3 ⟨rfl,x3⟩;have x23:=Ext.trans (Ext.refl W2).drew x3;have G3:=uU (FN.1.ext x23);have X3:=uU (FN.2.trans x23);clear hW2 FN c3 r0 r1 r2 f t0 t1 t2 t3 t4 t5 t6 t7 x3 x23 s0 s1 s2;obtain⟨u0,u1,u2,u3,u4,u5,u6,u7⟩:=G3.boxes O1;have hw3:w.heap.size+1<w3.heap.size:=uL u5;go_wp2_with fail;refine bodyPost_ret (v:=eK 0 0) (by simp [results,Tryz.results234,go_sem,u5,u6]) rfl ?_;exact a2y O1 G3 X3 V0 (⟨rfl,rfl,rfl⟩)
 ·have hb:=hB (by simp);have j0:(0:Int)<=(b:Int):=by omega
  have j1:(b:Int)<16:=by omega
  cases q:wdB (x.r a) (x.r b)
  ·have we:=λW=>wd_eq (x.r a) (x.r b) W
   rw[q] at we;have Q:=uU q;clear q;obtain⟨s0,s1,s2⟩:=R1.r b hb;go_wp2_with fail;go_quiet (fail);obtain⟨W2,hW2⟩:∃W,W=w1.drewN nq:=⟨_,rfl⟩;rw[<-hW2];have x12:Ext w1 W2:=by rw[hW2];exact Ext.drewN (Ext.refl w1) nq
   clear hW2;go_wp2_with fail;refine(cE 0 _).mono ?_;rintro e w3 ⟨rfl,x3⟩;have G3:=uU (G1.ext (x12.trans x3));have X3:=uU (X1.trans (x12.trans x3));clear c3 r0 r1 r2 s0 s1 s2 t0 t1 t2 t3 t4 t5 t6 t7 x3 x12 we;obtain⟨u0,u1,u2,u3,u4,u5,u6,u7⟩:=G3.boxes O1;have hw3:w.heap.size+1<w3.heap.size:=uL u5;go_wp2_with fail;refine bodyPost_ret (v:=eK 0 0) (by simp [results,Tryz.results234,go_sem,u5,u6]) rfl ?_;exact a2y O1 G3 X3 V0 (⟨rfl,rfl,by rw[uH Q];rfl⟩)
  ·have we:=λW=>wd_eq (x.r a) (x.r b) W
   rw[q] at we;have Q:=uU q;clear q;obtain⟨s0,s1,s2⟩:=R1.r b hb;go_wp2_with fail;go_quiet (fail);obtain⟨W2,hW2⟩:∃W,W=w1.drewN nq:=⟨_,rfl⟩;rw[<-hW2];have x12:Ext w1 W2:=by rw[hW2];exact Ext.drewN (Ext.refl w1) nq
   clear hW2;go_wp2_with fail;refine(cE 1 _).mono ?_;rintro e w3 ⟨rfl,x3⟩;have G3:=uU (G1.ext (x12.trans x3));have X3:=uU (X1.trans (x12.trans x3));clear c3 r0 r1 r2 s0 s1 s2 t0 t1 t2 t3 t4 t5 t6 t7 x3 x12 we;obtain⟨u0,u1,u2,u3,u4,u5,u6,u7⟩:=G3.boxes O1;have hw3:w.heap.size+1<w3.heap.size:=uL u5;go_wp2_with fail;refine bodyPost_ret (v:=eK 0 1) (by simp [results,Tryz.results234,go_sem,u5,u6]) rfl ?_;exact a2y O1 G3 X3 V0 (⟨rfl,rfl,by rw[uH Q];rfl⟩)
 ·go_wp2_with fail;go_region_with (go_at_call 161;refine(cE (x.r a).k _).mono ?_;rintro e w3 ⟨rfl,x3⟩;have x13:=Ext.trans (Ext.refl w1).drew x3;have G3:=uU (G1.ext x13);have X3:=uU (X1.trans x13);obtain⟨u0,u1,u2,u3,u4,u5,u6,u7⟩:=G3.boxes O1;have hw3:w.heap.size+1<w3.heap.size:=uL u5;clear x3 x13)
  all_goals
   go_wp2_with fail;refine bodyPost_ret (v:=eK 0 (x.r a).k) (by simp [results,Tryz.results234,go_sem,u5,u6]) rfl ?_;exact a2y O1 G3 X3 V0 (⟨rfl,rfl,rfl⟩)
 ·cases q:((x.r a).k == 1)
  ·have q2:((x.r a).k != 1)=true:=by simpa using q
   have QD:=uU (show(x.r a).k≠1 by simpa using q);clear q;go_wp2_with fail;go_quiet (fail);obtain⟨W2,hW2⟩:∃W,W=w1.drewN nq:=⟨_,rfl⟩;rw[<-hW2];have x12:Ext w1 W2:=by rw[hW2];exact Ext.drewN (Ext.refl w1) nq
   clear hW2;go_wp2_with fail;refine(a0g 2 _).mono ?_;rintro e w3 ⟨rfl,x3⟩;have G3:=uU (G1.ext (x12.trans x3));have X3:=uU (X1.trans (x12.trans x3));clear c3 r0 r1 r2 t0 t1 t2 t3 t4 t5 t6 t7 x3;obtain⟨u0,u1,u2,u3,u4,u5,u6,u7⟩:=G3.boxes O1;have hw3:w.heap.size+1<w3.heap.size:=uL u5;go_wp2_with fail;refine bodyPost_ret (v:=eK 2 0) (by simp [results,Tryz.results234,go_sem,u5,u6]) rfl ?_;exact a2y O1 G3 X3 V0 (⟨rfl,.inl ⟨QD,rfl,rfl⟩⟩)
  ·have q2:((x.r a).k != 1)=false:=by simpa using q
   have QD:=uU (show(x.r a).k=1 by simpa using q);clear q;go_wp2_with fail;go_quiet (fail);obtain⟨W2,hW2⟩:∃W,W=w1.drewN nq:=⟨_,rfl⟩;rw[<-hW2];have x12:Ext w1 W2:=by rw[hW2];exact Ext.drewN (Ext.refl w1) nq
   have G2:=uU (G1.ext x12);have X2:=uU (X1.trans x12);have e3:=x12.keep c3;have e0:=x12.keep r0;have e1:=x12.keep r1;obtain⟨u0,u1,u2,u3,u4,u5,u6,u7⟩:=G2.boxes O1;have hw3:w.heap.size+1<W2.heap.size:=uL u5;have hw4:w.heap.size<W2.heap.size:=uL u0;have hg2:g<W2.heap.size:=uL e3;have hb2:br<W2.heap.size:=uL e0;clear hW2 x12 c3 r0 r1 r2 t0 t1 t2 t3 t4 t5 t6 t7;go_wp2_with fail
   go_region
   all_goals
    go_wp2_with fail;refine bodyPost_ret (v:=eK 0 (x.r a).n) (by simp [results,Tryz.results234,go_sem,u5,u6]) rfl ?_;exact⟨x,0,(x.r a).n,rfl,⟨rfl,.inr ⟨QD,rfl,rfl⟩⟩,GOk.doneD O1 G2 0 (x.r a).n,(cV X2 V0 0 (x.r a).n).drew⟩
theorem a6e[p:Inhabited uZ](B g:Nat)(x:Hp)(k:Nat)(op:Int)(a b c:Nat)(n:Int)(w:World)(hk:(k=18/\op=18)\/(k=19/\op=19)\/(k=20/\op=20)\/(k=21/\op=21)\/(k=22/\op=22)\/(k=23/\op=23)\/(k=24/\op=24))(h:GOk B w g x)(s:Snd x)(ok:eD op a b c n=true)(v:World)(hv:v.heap.size<=B)(hx:Ext v w)(ha:a<16)(hC:k=22->c<=100000):
  Calls Tryz.prog 234 #[.pointer (some ⟨g,0,none⟩),tJ op a b c n] w λe w'=>qX B g x a b c n k v e w':=by
 obtain⟨p1,o1,g1⟩:=GOk.enter h (w0:=doW w op a b c n) (((Ext.refl w).alloc _).alloc _);have S:=uU s;have HG:=uU g1;have O1:=uU o1;have QA:=uU (λW=>a1g op a b c n W);rw[ok] at QA;have V0:=uU (show v.heap.size<=w.heap.size+1 by have:=hx.size;omega);have XD:=uU (show Ext v (doW w op a b c n) from(hx.alloc _).alloc _);have BX:=uU (zL.new w op a b c n);clear h s o1 g1;rcases hk with⟨rfl,rfl⟩ | ⟨rfl,rfl⟩ | ⟨rfl,rfl⟩ | ⟨rfl,rfl⟩ | ⟨rfl,rfl⟩ | ⟨rfl,rfl⟩ | ⟨rfl,rfl⟩
 all_goals
  go_enter Tryz.func234,Tryz.ntmps234;go_wp2_with fail;refine(QA _).mono ?_;rintro e w1 ⟨rfl,x1⟩;have X1:=uU (XD.trans x1);have BX1:=uU (BX.ext x1);obtain⟨t0,t1,t2,t3,t4,t5,t6,t7⟩:=uH BX1;have hw1:w.heap.size+1<w1.heap.size:=uL t5;have hw0:w.heap.size<w1.heap.size:=uL t0;have G1:=uU (HG.ext x1);clear x1 QA BX1 BX XD HG
 ·have QS:=uU (show Calls Tryz.prog 90 #[.pointer (some ⟨g,0,none⟩)] w1 λe w'=>∃H:Nat->Bool,e=.returned (.tuple #[.int .i64 (eC x H x.cells.length),.int .i64 (tQ x H x.cells.length)])/\Hid (∀i,H i=true↔dK x i)/\GOk B w' g (dD x H)/\Ext v w' from by
   obtain⟨ar,kr,ac,kc,vg,br,bc,pb,pa,pk,role,h⟩:=G1;exact a9y ⟨pb,pa,pk,role,h⟩ S v hv X1)
  go_wp2_with fail;refine QS.mono ?_;rintro e w2 ⟨H,rfl,hh,h2,x2⟩;have G2:=uU h2;clear h2;go_wp2_with fail;refine(cE (tQ x H x.cells.length:Nat) _).mono ?_;rintro e w3 ⟨rfl,x3⟩;have G3:=uU (G2.ext x3);have X3:=uU (x2.trans x3);clear x3 t0 t1 t2 t3 t4 t5 t6 t7;obtain⟨u0,u1,u2,u3,u4,u5,u6,u7⟩:=G3.boxes O1;have hw3:w.heap.size+1<w3.heap.size:=uL u5;go_wp2_with fail;refine bodyPost_ret (v:=eK 0 (tQ x H x.cells.length:Nat)) (by simp [results,Tryz.results234,go_sem,u5,u6]) rfl ?_;exact a2y O1 G3 X3 V0 (⟨rfl,H,hh,rfl,rfl⟩)
 ·have QP:=uU (λ(W:World) (xW:Ext w1 W)=>c6d B g x a W (G1.ext xW) S ha v hv (X1.trans xW));go_wp2_with fail;refine(QP _ (Ext.refl _)).mono ?_;rintro e w3 ⟨y,nm,rfl,dr0,g3,x3⟩;obtain⟨cd,hcd⟩:∃cd:Int,cd=0:=⟨_,rfl⟩;have dr:=uU (show DoR x a b c n y cd nm 19 from⟨hcd,dr0⟩);have G3:=uU g3;have X3:=uU x3;rw[<-hcd];clear g3 x3 QP hcd dr0;obtain⟨u0,u1,u2,u3,u4,u5,u6,u7⟩:=G3.boxes O1;have hw3:w.heap.size+1<w3.heap.size:=uL u5;clear t0 t1 t2 t3 t4 t5 t6 t7;go_wp2_with fail;refine bodyPost_ret (v:=eK cd nm) (by simp [results,Tryz.results234,go_sem,u5,u6]) rfl ?_;exact a2y O1 G3 X3 V0 dr
 ·obtain⟨ag,ar,kr,ac,kc,kg,HT⟩:∃ag ar kr ac kc kg,Hid (HAt w1 g x ar kr ac kc ag kg):=by
   obtain⟨ar,kr,ac,kc,vg,br,bc,pb,pa,pk,role,h⟩:=G1;obtain⟨ag,kg,hat⟩:=h.hat S;exact⟨ag,ar,kr,ac,kc,kg,hat⟩
  go_wp2_with fail;refine(b1o x g w1 HT S.r2 S.r4 S.ok.n8).mono ?_;rintro e w2 ⟨vv,L,rfl,sn,hL,q2⟩;have SN:=uU sn;have H2:=uU (HT.ext q2);have G2:=uU (G1.ext q2);have x2:=X1.trans q2;clear sn q2;go_wp2_with fail;refine(b5p x g w1.heap.size (λi=>decide ((i:Int)∈L)) w2 H2 SN.s S.ok.n8 S.ok.p200).mono ?_;rintro e w2' ⟨rfl,rfl⟩;go_wp2_with fail;refine(cE (qY x (λi=>decide ((i:Int)∈L)) x.cells.length:Nat) _).mono ?_;rintro e w3 ⟨rfl,x3⟩;have G3:=uU (G2.ext x3);have X3:=uU (x2.trans x3);clear x3 t0 t1 t2 t3 t4 t5 t6 t7;obtain⟨u0,u1,u2,u3,u4,u5,u6,u7⟩:=G3.boxes O1;have hw3:w.heap.size+1<w3.heap.size:=uL u5;go_wp2_with fail;refine bodyPost_ret (v:=eK 0 (qY x (λi=>decide ((i:Int)∈L)) x.cells.length:Nat)) (by simp [results,Tryz.results234,go_sem,u5,u6]) rfl ?_;exact⟨_,0,(qY x (λi=>decide ((i:Int)∈L)) x.cells.length:Nat),rfl,⟨rfl,rfl,λi=>decide ((i:Int)∈L),λi=>by rw[decide_eq_true_iff];exact hL i,rfl⟩,GOk.done O1 G3 0 (qY x (λi=>decide ((i:Int)∈L)) x.cells.length:Nat),cV X3 V0 0 (qY x (λi=>decide ((i:Int)∈L)) x.cells.length:Nat)⟩
 ·have QL:=uU (show Calls Tryz.prog 75 #[.pointer (some ⟨g,0,none⟩)] w1 λe w'=>∃r:Nat,Hid (e=.returned (.int .i64 (r:Int)))/\c7u x r/\Ext w1 w' from by
   obtain⟨ar,kr,ac,kc,vg,br,bc,pb,pa,pk,role,h⟩:=G1;obtain⟨ag,kg,hat⟩:=h.hat S;exact c1r x g w1 hat S.ok)
  go_wp2_with fail;refine QL.mono ?_;rintro e w2 ⟨r,rfl,lv,q2⟩
  have LV:=uU (show SumIs x (cY x) r from by
   rcases lv with⟨_,pp,h1,h2⟩ | ⟨h1,_⟩
   ·exact⟨pp,h1,by rw[h2]⟩
   ·exact absurd S.ok h1)
  have G2:=uU (G1.ext q2);have x2:=X1.trans q2;clear lv q2;go_wp2_with fail;refine(cE r _).mono ?_;rintro e w3 ⟨rfl,x3⟩;have G3:=uU (G2.ext x3);have X3:=uU (x2.trans x3);clear x3 t0 t1 t2 t3 t4 t5 t6 t7;obtain⟨u0,u1,u2,u3,u4,u5,u6,u7⟩:=G3.boxes O1;have hw3:w.heap.size+1<w3.heap.size:=uL u5;go_wp2_with fail;refine bodyPost_ret (v:=eK 0 r) (by simp [results,Tryz.results234,go_sem,u5,u6]) rfl ?_;exact a2y O1 G3 X3 V0 (⟨rfl,rfl,LV⟩)
 ·have hc:=hC (by simp);go_wp2_with fail;refine(a8y B g x c _ G1 S hc v hv X1).mono ?_;rintro e w2 ⟨k,rfl,st,h2,x2⟩;have G2:=uU h2;clear h2;go_wp2_with fail;refine(cE 0 _).mono ?_;rintro e w3 ⟨rfl,x3⟩;have G3:=uU (G2.ext x3);have X3:=uU (x2.trans x3);clear x3 t0 t1 t2 t3 t4 t5 t6 t7;obtain⟨u0,u1,u2,u3,u4,u5,u6,u7⟩:=G3.boxes O1;have hw3:w.heap.size+1<w3.heap.size:=uL u5;go_wp2_with fail;refine bodyPost_ret (v:=eK 0 0) (by simp [results,Tryz.results234,go_sem,u5,u6]) rfl ?_;exact a2y O1 G3 X3 V0 (⟨rfl,rfl,k,st,rfl⟩)
 ·obtain⟨c0,c1,c2,c5,c9,c10,c12⟩:=G1.nums;have fz:=G1.box.2.2.2.1;have lo:v.heap.size<=g:=Nat.le_trans hv G1.box.2.2.2.2.1;have hg1:g<w1.heap.size:=uL c0;have FN:=uU (show GOk B ((w1.setCell ⟨g,9,none⟩ (iv b)).setCell ⟨g,10,none⟩ (iv c)) g (paceTo x b c)/\Ext v ((w1.setCell ⟨g,9,none⟩ (iv b)).setCell ⟨g,10,none⟩ (iv c)) from⟨(G1.set9 b).set10 c,(X1.setCell (p:=⟨g,9,none⟩) lo _).setCell (p:=⟨g,10,none⟩) lo _⟩);clear c0 c1 c2 c5 c12;go_wp2_with fail;refine(cE 0 _).mono ?_;rintro e w3 ⟨rfl,x3⟩;have G3:=uU (FN.1.ext x3);have X3:=uU (FN.2.trans x3);clear x3 t0 t1 t2 t3 t4 t5 t6 t7 c9 c10 FN;obtain⟨u0,u1,u2,u3,u4,u5,u6,u7⟩:=G3.boxes O1;have hw3:w.heap.size+1<w3.heap.size:=uL u5;go_wp2_with fail;refine bodyPost_ret (v:=eK 0 0) (by simp [results,Tryz.results234,go_sem,u5,u6]) rfl ?_;exact a2y O1 G3 X3 V0 (⟨rfl,rfl,rfl⟩)
 ·go_wp2_with fail;refine(b1v B g x _ G1 S v hv X1).mono ?_;rintro e w2 ⟨y,z,rfl,rr,h2,x2⟩;have G2:=uU h2;clear h2;go_wp2_with fail;refine(cE 0 _).mono ?_;rintro e w3 ⟨rfl,x3⟩;have G3:=uU (G2.ext x3);have X3:=uU (x2.trans x3);clear x3 t0 t1 t2 t3 t4 t5 t6 t7;obtain⟨u0,u1,u2,u3,u4,u5,u6,u7⟩:=G3.boxes O1;have hw3:w.heap.size+1<w3.heap.size:=uL u5;go_wp2_with fail;refine bodyPost_ret (v:=eK 0 0) (by simp [results,Tryz.results234,go_sem,u5,u6]) rfl ?_;exact a2y O1 G3 X3 V0 (⟨rfl,rfl,y,rr.1,rr.2⟩)
theorem b4m(x:Hp)(i:Nat)(hi:i<x.cells.length)(n:Nat)(hn:(x.c i).prs.length<=n)(hs:uV x=(i:Int)->x.sub<=(x.c i).prs.length):qE x i n=x:=by
 have e1:a1d (x.c i) n=x.c i:=by unfold a1d;rw[List.take_of_length_le hn]
 have e2:x.cells.set i (x.c i)=x.cells:=by rw[<-Hp.c_eq x i hi];exact List.set_getElem_self _
 unfold qE;rw[e1,e2,if_neg (λh=>by have:=hs h.1;omega),show(x.c i).prs.length-n=0 by omega];simp
theorem c0i(x:Hp)(i n:Nat)(hi:i<x.cells.length)(q:Nat):(qE x i n).c q=if q=i then a1d (x.c i) n else x.c q:=Hp.c_set x i (a1d (x.c i) n) hi q
theorem c0j(x:Hp)(i n:Nat):uV (qE x i n)=uV x:=by unfold uV qE;simp
theorem c2k(x:Hp)(i m:Nat)(hi:i<x.cells.length)(hm:m<(x.c i).prs.length):b1z (qE x i (m+1)) i m=qE x i m:=by
 have hc:=c0i x i (m+1) hi i;rw[if_pos rfl] at hc
 have e1:(a1d (x.c i) (m+1)).prs.eraseIdx m=(x.c i).prs.take m:=by
  unfold a1d;show((x.c i).prs.take (m+1)).eraseIdx m=_;rw[List.take_succ_eq_append_getElem hm,List.eraseIdx_append_of_length_le (by simp;omega)];have:m-((x.c i).prs.take m).length=0:=by simp;omega
  rw[this];simp
 have e2:({ (qE x i (m+1)).c i with prs:=((qE x i (m+1)).c i).prs.eraseIdx m }:Cl)=a1d (x.c i) m:=by
  rw[hc,e1];rfl
 unfold b1z;rw[e2,c0j];unfold qE;simp only [List.set_set];by_cases sc:uV x=(i:Int)
 ·by_cases h1:(m:Int)<x.sub
  ·by_cases h2:((m+1:Nat):Int)<x.sub
   ·simp only [sc,h2,h1,if_true,and_true];rw[if_pos (by omega)];simp only [Hp.mk.injEq,true_and,and_true];refine⟨by omega,by omega⟩
   ·have:x.sub=(m:Int)+1:=by omega
    simp only [sc,h2,h1,true_and,if_true,if_false,and_true];simp only [Hp.mk.injEq,true_and,and_true];refine⟨by omega,by omega⟩
  ·have h2:¬((m+1:Nat):Int)<x.sub:=by omega
   simp only [sc,h2,h1,true_and,if_false,and_true];simp only [Hp.mk.injEq,true_and,and_true];omega
 ·simp only [sc,false_and,and_false,if_false];simp only [Hp.mk.injEq,true_and,and_true];omega
theorem c6e[Inhabited uZ](B g:Nat)(x:Hp)(i n:Nat)(w:World)(h:GOk B w g x)(s:Snd x)(hi:i<x.cells.length)(h1:(x.c i).st=1)(a:World)(ha:a.heap.size<=B)(hx:Ext a w):
  Calls Tryz.prog 263 #[.pointer (some ⟨g,0,none⟩),.int .i64 i,.int .i64 n] w λe w'=>e=.returned (.tuple #[])/\Hid (GOk B w' g (qE x i n))/\Ext a w':=by
 obtain⟨ar,kr,ac,kc,vg,br,bc,pb,pa,pk,role,h⟩:=h;have GK0:=uU (show GK B w g x ar kr ac kc vg br bc from⟨pb,pa,pk,role,h⟩);have l200:=s.ok.p200 i hi;have n8:=s.ok.n8;have SUB:=uU (show uV x=(i:Int)->x.sub<=(x.c i).prs.length from λe=>(b3h s hi h1 e).2);have US:=uU (show 0<=x.used/\x.used<=4000 by have h3:=s.r3;have h1:=s.r1.room;unfold R3 at h3;omega);have SB:=uU s.r1.sub;have r0:0<x.regs.length:=by rw[s.r1.regs];omega
 have TOP:=uU (b4m x i hi (x.c i).prs.length (Nat.le_refl _) SUB);have HI:=uU hi;have i0:(0:Int)<=(i:Int):=by omega
 have i1:(i:Int)<(x.cells.length:Int):=by omega
 have R0:=uU r0;clear h h1 s r0;go_enter Tryz.func263,Tryz.ntmps263;go_wp2_with fail
 go_loopg [] ((x.c i).prs.length) (λgk wr=>∃m:Nat,m=gk/\m<=(x.c i).prs.length/\Hid ((x.c i).prs.length<=n->m=(x.c i).prs.length)/\Hid (n<=(x.c i).prs.length->n<=m)/\Hid (GK B wr g (qE x i m) ar kr ac kc vg br bc)/\Ext a wr)
 case atStart=>exact⟨_,rfl,Nat.le_refl _,λ_=>rfl,id,by rw[uH TOP];exact uH GK0,hx⟩
 case round=>
  clear GK0 hx;obtain⟨m,rfl,hm,hA,hB,hG,hxr⟩:=hrel;obtain⟨z,hz⟩:∃z,z=qE x i m:=⟨_,rfl⟩;have HZ:=uU hz;rw[<-hz] at hG;have ZL:=uU (show z.cells.length=x.cells.length by rw[hz];simp [qE]);have ZC:=uU (show z.c i=a1d (x.c i) m by rw[hz,c0i x i m (uH HI) i,if_pos rfl]);have ZP:=uU (show(z.c i).prs.length=m by rw[uH ZC];simp [a1d];omega)
  have ZN:=uU (show -3000000<=z.used/\z.used<=1000000/\-3000000<=z.sub/\z.sub<=1000000 by
   have h1:=uH US;have h2:=uH SB;rw[hz];unfold qE;refine⟨?_,?_,?_,?_⟩
   ·show -3000000<=x.used-(((x.c i).prs.length-m:Nat):Int);omega
   ·show x.used-(((x.c i).prs.length-m:Nat):Int)<=1000000;omega
   ·show -3000000<=(if uV x=(i:Int)/\(m:Int)<x.sub then (m:Int) else x.sub);split <;> omega
   ·show(if uV x=(i:Int)/\(m:Int)<x.sub then (m:Int) else x.sub)<=1000000;split <;> omega)
  have ZR:=uU (show 0<z.regs.length by rw[hz];exact R0);clear hz;obtain⟨pb,pa,pk,role,h⟩:=uH hG;have hn:0<z.cells.length:=by rw[uH ZL];omega
  have hiz:i<z.cells.length:=by rw[uH ZL];omega
  have c4:=h.bx.2.2.2.2.1;rw[h.hc hn,uH ZL] at c4;have p7:=h.rw.p7 i hiz;rw[uH ZP] at p7;have hg1:g<wr.heap.size:=uL c4;have hb1:bc<wr.heap.size:=uL p7;clear h;by_cases hc:n<m
  ·have q1:(m:Int) > (n:Int):=by omega
   have wm:wrap64 ((m:Int)-1)=((m-1:Nat):Int):=by rw[a2h _ (by omega) (by omega)];omega
   have CUT:=uU (show b1z z i (m-1)=qE x i (m-1) by
    rw[uH HZ];have:=c2k x i (m-1) HI (by omega);rw[show m-1+1=m by omega] at this;exact this)
   have QC:=uU (b5n hG i (m-1) hiz (by rw[uH ZP];omega) ZR (by rw[uH ZP];omega) ⟨ZN.1,ZN.2.1⟩ ⟨ZN.2.2.1,ZN.2.2.2⟩ (by rw[uH ZL];exact n8) a ha hxr);go_wp2_with fail;rw[show((m:Int)-1)=((m-1:Nat):Int) by omega];refine QC.mono ?_;rintro e w2 ⟨rfl,h2,_,x2⟩;rw[uH CUT] at h2;have G2:=uU h2;have B2:=uU hB;clear h2 QC CUT c4 p7 hG;go_wp2_with fail
   go_roundg (m-1)
   case measure=>omega
   case rel=>exact⟨m-1,rfl,by omega,λh=>by omega,λh=>by have:=uH B2 h;omega,G2,x2⟩
  ·have q1:¬(m:Int) > (n:Int):=by omega
   have E:=uU (show qE x i n=z by
    rw[uH HZ];rcases Nat.lt_or_ge (x.c i).prs.length n with l | l
    ·have:=uH hA (by omega);rw[b4m x i (uH HI) n (by omega) (uH SUB),this,uH TOP]
    ·have:=uH hB l;have:n=m:=by omega
     rw[this])
   go_wp2_with fail
   go_end0
   exact⟨rfl,by rw[uH E];exact hG.ok,hxr⟩
structure GPr[Inhabited uZ](B:Nat)(w:World)(g:Nat)(x:Hp)(i k bc kc bp kp:Nat):Prop where
 c4:w.cell? ⟨g,4,none⟩=some (.slice (some ⟨bc,0,none⟩) x.cells.length kc)
 p7:w.cell? ⟨bc,i*8+7,none⟩=some (.slice (some ⟨bp,0,none⟩) (x.c i).prs.length kp)
 pr:zW w bp (k*6) ((x.c i).p k)
 f:∀j,w.frozen? ⟨bp,j,none⟩=false
 lo:B<=bp/\bp<w.heap.size
 set:∀(W:World) (q:Pr),Ext w W->GOk B (a2i W bp (k*6) q) g (dE x i { x.c i with prs:=(x.c i).prs.set k q })
theorem GOk.prw[Inhabited uZ](h:GOk B w g x)(i:Nat)(hi:i<x.cells.length)(k:Nat)(hk:k<(x.c i).prs.length):∃bc kc bp kp,GPr B w g x i k bc kc bp kp:=by
 obtain⟨ar,kr,ac,kc,vg,br,bc,pb,pa,pk,role,h⟩:=h;have hn:0<x.cells.length:=by omega
 have hl:0<(x.c i).prs.length:=by omega
 obtain⟨e1,e2,_,e4⟩:=h.rw.pl i hi (h.rw.pw hi hl);refine⟨bc,kc,pb i,pk i,?_,?_,h.rw.p i hi k hk,e2.2,⟨e4,e2.1⟩,λW q e=>?_⟩
 ·have:=h.bx.2.2.2.2.1;rw[h.hc hn] at this;exact this
 ·have:=h.rw.p7 i hi;rw[e1] at this;exact this
 ·have g1:=h.ext e;exact⟨ar,kr,ac,kc,vg,br,bc,pb,pa,pk,role,g1.setp i hi k hk q (a4i _ _ _ _) (b9w (g1.rw.pl i hi (g1.rw.pw hi hl)).2.1.n1 _ _) (b9v _ _ _ _ _ (g1.rw.p i hi k hk)) (λj hj=>b1u _ _ _ _ j hj)⟩
theorem GPr.ext[Inhabited uZ]{w':World}{i bc bp kp:Nat}(h:GPr B w g x i k bc kc bp kp)(e:Ext w w'):GPr B w' g x i k bc kc bp kp:=
 ⟨e.keep h.c4,e.keep h.p7,h.pr.ext e,λj=>((dH e).2 bp j h.lo.2).trans (h.f j),⟨h.lo.1,Nat.lt_of_lt_of_le h.lo.2 e.size⟩,λW q e2=>h.set W q (e.trans e2)⟩
end Go.Proofs.YtddkhnclmeikfaaGreat
