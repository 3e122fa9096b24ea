import Derived.Test.YtddkhnclmeikfaaGreatBb
set_option maxRecDepth 100000
set_option maxHeartbeats 1000000
namespace Go.Proofs.YtddkhnclmeikfaaGreat
open Go.RowKit
attribute [local go_sem ↓] Go.wp_at_zero Go.wp_at_succ
variable{w W W':World}{B g:Nat}{x y:Hp}{op a b c n:Int}
structure Ak where
 op:Int
 a:Int
 b:Int
 c:Int
 n:Int
abbrev Ak.v(x:Ak):Value:=.agg #[iv x.op,iv x.a,iv x.b,iv x.c,iv x.n]
def fA(y:Ak):List Value:=[iv y.op,iv y.a,iv y.b,iv y.c,iv y.n]
theorem GOk.set11[Inhabited uZ](h:GOk B w g x)(v:Int):GOk B (w.setCell ⟨g,11,none⟩ (iv v)) g { x with rounds:=v }:=by
 obtain⟨ar,kr,ac,kc,vg,br,bc,pb,pa,pk,role,h⟩:=h;exact⟨_,_,_,_,_,_,_,_,_,_,_,h.boxed (x':={ x with rounds:=v }) (uX.setCell (S:=λq=>q=g) (uX.refl _ w) (p:=⟨g,11,none⟩) rfl _) (h.nf.set _ _) rfl rfl rfl (h.bx.set11 v)⟩
theorem c0d[Inhabited uZ](B g:Nat)(x:Hp)(w:World)(h:GOk B w g x)(s:Snd x)(a:World)(ha:a.heap.size<=B)(hx:Ext a w)(h0:x.hand=0):
  Calls Tryz.prog 192 #[.pointer (some ⟨g,0,none⟩)] w λe w'=>e=.returned (.tuple #[])/\GOk B w' g (zZ x)/\Ext a w':=by
 have HO:=uU h;obtain⟨c6,_,_,_,lo,hgw⟩:=h.box;rw[h0] at c6;have E:=uU (show zZ x={ zC x 0 0 with rounds:=if x.rounds<1000000000 then x.rounds+1 else x.rounds } by unfold zZ;rw[if_pos h0];rfl);have hr:=s.r1.rounds;clear h h0 s;go_enter Tryz.func192,Tryz.ntmps192;go_wp2_with fail;refine(a0y B g x 0 0 _ HO a ha hx).mono ?_;rintro e w2 ⟨rfl,h2,x2⟩;have H2:=uU h2
 have c11:w2.cell? ⟨g,11,none⟩=some (iv x.rounds):=by
  obtain⟨ar,kr,ac,kc,vg,br,bc,pb,pa,pk,role,h⟩:=h2;exact h.bx.2.2.2.2.2.2.2.2.2.2.2.1
 have f11:=(h2.box).2.2.2.1 11;have hgw2:g<w2.heap.size:=uL c11;clear h2;by_cases hlt:x.rounds<1000000000
 ·have EF:=uU (show zZ x={ zC x 0 0 with rounds:=x.rounds+1 } by rw[uH E,if_pos hlt]);have H3:=uU (H2.set11 (x.rounds+1));have X3:=uU (x2.setCell (p:=⟨g,11,none⟩) (show a.heap.size<=g by omega) (iv (x.rounds+1)));have wr:wrap64 (x.rounds+1)=x.rounds+1:=by unfold wrap64;omega
  go_wp2_with fail
  try simp only [Exit.inBlock,Exit.then]
  refine bodyPost_ret (results_none rfl _ _ _) rfl ?_;exact⟨rfl,by rw[uH EF];exact uH H3,X3⟩
 ·have EF:=uU (show zZ x={ zC x 0 0 with rounds:=x.rounds } by rw[uH E,if_neg hlt]);go_wp2_with fail
  try simp only [Exit.inBlock,Exit.then]
  refine bodyPost_ret (results_none rfl _ _ _) rfl ?_;exact⟨rfl,by rw[uH EF];exact uH H2,x2⟩
theorem b7h[Inhabited uZ](B g:Nat)(x:Hp)(w:World)(h:GOk B w g x)(s:Snd x)(a:World)(ha:a.heap.size<=B)(hx:Ext a w)(i:Nat)(hi:x.hand=(i:Int)+1):
  Calls Tryz.prog 192 #[.pointer (some ⟨g,0,none⟩)] w λe w'=>e=.returned (.tuple #[])/\GOk B w' g (zZ x)/\Ext a w':=by
 obtain⟨ar,kr,ac,kc,vg,br,bc,pb,pa,pk,role,h⟩:=h;have H:=uU h;have c4:=h.bx.2.2.2.2.1;have c6:=h.bx.2.2.2.2.2.2.1;have hgw:g<w.heap.size:=uL c4;have lo:=h.lo;have n8:=s.ok.n8;have hin:i<x.cells.length:=by have:=s.r1.hand;omega
 have hn:0<x.cells.length:=by omega
 rw[h.hc hn] at c4;rw[hi] at c6;have p0:=(h.rw.s i hin).1;have hbc:bc<w.heap.size:=uL p0;have f6:=h.nf.2 6
 have EU:=uU (show zZ x=a4h (eE x i) i by
  have e:(x.hand-1).toNat=i:=by omega
  unfold zZ;rw[if_neg (by omega),e])
 have NGC:=uU (show ¬g=bc from λe=>by have h1:=h.sp.g;have h2:=h.sp.c hn;rw[e] at h1;omega);have ngc:¬g=bc:=uH NGC;have ncg:¬bc=g:=λe=>uH NGC e.symm
 have h60:(((i:Int)+1) == 0)=false:=by simp;omega
 have i0:(0:Int)<=(i:Int):=by omega
 have i1:(i:Int)<(x.cells.length:Int):=by omega
 have W1G:=uU (show GAt B (w.setCell ⟨g,6,none⟩ (iv i)) g { x with hand:=(i:Int) } ar kr ac kc vg br bc pb pa pk role from h.boxed (x':={ x with hand:=(i:Int) }) (uX.setCell (S:=λq=>q=g) (uX.refl _ w) (p:=⟨g,6,none⟩) rfl _) (h.nf.set _ _) rfl rfl rfl (h.bx.set6 _));have X1:=uU (hx.setCell (p:=⟨g,6,none⟩) (show a.heap.size<=g by omega) (iv i));clear h s hi;go_enter Tryz.func192,Tryz.ntmps192;go_wp2_with fail;obtain⟨W1,hW1⟩:∃W,W=w.setCell ⟨g,6,none⟩ (iv i):=⟨_,rfl⟩;rw[<-hW1] at W1G X1 ⊢;clear hW1 c4 c6 p0 f6 hbc;have c4:=W1G.bx.2.2.2.2.1;rw[H.hc hn] at c4;have c6:W1.cell? ⟨g,6,none⟩=some (iv i):=W1G.bx.2.2.2.2.2.2.1;have p0:W1.cell? ⟨bc,i*8,none⟩=some (iv (x.c i).st):=(W1G.rw.s i hin).1;have hgW:g<W1.heap.size:=uL c6;have hbc:bc<W1.heap.size:=uL p0;have f4:=W1G.nf.2 4;cases q2:((x.c i).st == 2)
 ·have EZ:=uU (show({ x with hand:=(i:Int) }:Hp)=eE x i by unfold eE;rw[if_neg (by intro e;simp [e] at q2)]);go_quiet (fail);obtain⟨WZ,hWZ⟩:∃W,W=W1.drewN nq:=⟨_,rfl⟩;have GZ:=uU (show GAt B WZ g (eE x i) ar kr ac kc vg br bc pb pa pk role by rw[hWZ,<-uH EZ];exact W1G.ext ((Ext.refl W1).drewN _));have XZ:=uU (show Ext a WZ by rw[hWZ];exact X1.drewN _);have LZ:=uU (show(eE x i).cells.length=x.cells.length by rw[<-uH EZ]);have SZ:=uU (show((eE x i).c i).st=(x.c i).st by rw[<-uH EZ];rfl);go_wp2_with fail;rw[<-hWZ];clear hWZ c4 c6 p0 hgW hbc f4;have c4:=GZ.bx.2.2.2.2.1;rw[H.hc hn,uH LZ] at c4;have c6:WZ.cell? ⟨g,6,none⟩=some (iv i):=GZ.bx.2.2.2.2.2.2.1;have p0:WZ.cell? ⟨bc,i*8,none⟩=some (iv (x.c i).st):=by have:=(GZ.rw.s i (by rw[uH LZ];exact hin)).1;rw[uH SZ] at this;exact this
  have f4:=GZ.nf.2 4;have hgW:g<WZ.heap.size:=uL c6;have hbc:bc<WZ.heap.size:=uL p0;cases qL:((i:Int) == (x.cells.length:Int)-1)
  ·have EF:=uU (show zZ x=eE x i by rw[uH EU];unfold a4h;rw[if_neg];intro e;have:=e.1;rw[uH LZ] at this;simp at qL;omega);go_quiet (fail);go_wp2_with fail
   go_end0
   exact⟨rfl,by rw[uH EF];exact⟨_,_,_,_,_,_,_,_,_,_,_,GZ.ext ((Ext.refl WZ).drewN _)⟩,XZ.drewN _⟩
  ·cases q0:((x.c i).st == 0)
   ·have EF:=uU (show zZ x=eE x i by rw[uH EU];unfold a4h;rw[if_neg];intro e;have:=e.2;rw[uH SZ] at this;simp [this] at q0);go_quiet (fail);go_wp2_with fail
    go_end0
    exact⟨rfl,by rw[uH EF];exact⟨_,_,_,_,_,_,_,_,_,_,_,GZ.ext ((Ext.refl WZ).drewN _)⟩,XZ.drewN _⟩
   ·have SZ2:=uU (show((eE x i).c i).st=0 by rw[uH SZ];simpa using q0);have EF:=uU (show zZ x={ eE x i with cells:=(eE x i).cells.take i } by rw[uH EU];unfold a4h;rw[if_pos ⟨by rw[uH LZ];simp at qL;omega,SZ2⟩])
    have FN:=uU (show ∀n,GOk B ((WZ.drewN n).setCell ⟨g,4,none⟩ (.slice (some ⟨bc,0,none⟩) i kc)) g { eE x i with cells:=(eE x i).cells.take i }/\Ext a ((WZ.drewN n).setCell ⟨g,4,none⟩ (.slice (some ⟨bc,0,none⟩) i kc)) from λn=>by
     have g1:=(GZ.ext ((Ext.refl WZ).drewN n)).drop i (by rw[uH LZ];simp at qL;omega);rw[H.hc hn] at g1;exact⟨g1,(XZ.drewN n).setCell (p:=⟨g,4,none⟩) (show a.heap.size<=g by omega) _⟩)
    have kl:(i:Int)<=(kc:Int):=by have:=H.kl;omega
    go_quiet (fail);go_wp2_with fail
    go_region
    all_goals
     go_wp2_with fail
     go_end0
     exact⟨rfl,by rw[uH EF];exact(FN _).1,(FN _).2⟩
 ·obtain⟨r0,r1,r2,r3,r4,r5,r6⟩:=W1G.rw.s i hin;have r7:=W1G.rw.p7 i hin;have fc:=(W1G.rw.nc hn).1.2;go_quiet (fail);go_wp2_with fail
  go_region
  all_goals
   obtain⟨WZ,hWZ⟩:∃W,W=a3g (W1.drewN (nq+1)) bc (i*8) 0 0:=⟨_,rfl⟩;have EZ:=uU (show({ x with cells:=x.cells.set i ⟨0,0,0,0,0,0,0,[]⟩,hand:=(i:Int) }:Hp)=eE x i by unfold eE;rw[if_pos (by simpa using q2)];rfl)
   have GZ:=uU (show GAt B WZ g (eE x i) ar kr ac kc vg br bc pb (λq=>if q=i then none else pa q) (λq=>if q=i then 0 else pk q) role by
    have g1:=W1G.ext ((Ext.refl W1).drewN (nq+1));obtain⟨k1,k2⟩:=b1a (W1.drewN (nq+1)) bc (i*8) 0 0 _ _ (g1.rw.s i hin) (g1.rw.p7 i hin);rw[hWZ,<-uH EZ];exact g1.clear i hin _ rfl (a3x _ _ _ _ _) (b7d (g1.rw.nc hn).1 _ _ _) k1 k2 (λk hk=>a8w _ _ _ _ _ k hk))
   have XZ:=uU (show Ext a WZ by rw[hWZ];exact(a3x _ _ _ _ _).ext (X1.drewN _) (λq hq e=>by have:=(H.rw.nc hn).2;omega));have LZ:=uU (show(eE x i).cells.length=x.cells.length by rw[<-uH EZ];simp)
   have SZ0:=uU (show((eE x i).c i).st=0 by
    have:=Hp.c_set x i ⟨0,0,0,0,0,0,0,[]⟩ hin i;rw[<-uH EZ];have e2:({ x with cells:=x.cells.set i ⟨0,0,0,0,0,0,0,[]⟩,hand:=(i:Int) }:Hp).c i=({ x with cells:=x.cells.set i ⟨0,0,0,0,0,0,0,[]⟩ }:Hp).c i:=rfl;rw[e2,this,if_pos rfl])
   unfold a3g at hWZ;go_wp2_with fail;rw[<-hWZ];clear hWZ c4 c6 p0 hgW hbc f4 r0 r1 r2 r3 r4 r5 r6 r7 fc;have c4:=GZ.bx.2.2.2.2.1;rw[H.hc hn,uH LZ] at c4;have c6:WZ.cell? ⟨g,6,none⟩=some (iv i):=GZ.bx.2.2.2.2.2.2.1;have p0:WZ.cell? ⟨bc,i*8,none⟩=some (iv 0):=by have:=(GZ.rw.s i (by rw[uH LZ];exact hin)).1;rw[uH SZ0] at this;exact this
   have f4:=GZ.nf.2 4;have hgW:g<WZ.heap.size:=uL c6;have hbc:bc<WZ.heap.size:=uL p0;cases qL:((i:Int) == (x.cells.length:Int)-1)
   ·have EF:=uU (show zZ x=eE x i by rw[uH EU];unfold a4h;rw[if_neg];intro e;have:=e.1;rw[uH LZ] at this;simp at qL;omega);go_quiet (fail);go_wp2_with fail
    go_end0
    exact⟨rfl,by rw[uH EF];exact⟨_,_,_,_,_,_,_,_,_,_,_,GZ.ext ((Ext.refl WZ).drewN _)⟩,XZ.drewN _⟩
   ·skip
    have EF:=uU (show zZ x={ eE x i with cells:=(eE x i).cells.take i } by rw[uH EU];unfold a4h;rw[if_pos ⟨by rw[uH LZ];simp at qL;omega,SZ0⟩])
    have FN:=uU (show ∀n,GOk B ((WZ.drewN n).setCell ⟨g,4,none⟩ (.slice (some ⟨bc,0,none⟩) i kc)) g { eE x i with cells:=(eE x i).cells.take i }/\Ext a ((WZ.drewN n).setCell ⟨g,4,none⟩ (.slice (some ⟨bc,0,none⟩) i kc)) from λn=>by
     have g1:=(GZ.ext ((Ext.refl WZ).drewN n)).drop i (by rw[uH LZ];simp at qL;omega);rw[H.hc hn] at g1;exact⟨g1,(XZ.drewN n).setCell (p:=⟨g,4,none⟩) (show a.heap.size<=g by omega) _⟩)
    have kl:(i:Int)<=(kc:Int):=by have:=H.kl;omega
    go_quiet (fail);go_wp2_with fail
    go_region
    all_goals
     go_wp2_with fail
     go_end0
     exact⟨rfl,by rw[uH EF];exact(FN _).1,(FN _).2⟩
theorem c0e[Inhabited uZ](B g:Nat)(x:Hp)(w:World)(h:GOk B w g x)(s:Snd x)(a:World)(ha:a.heap.size<=B)(hx:Ext a w):
  Calls Tryz.prog 192 #[.pointer (some ⟨g,0,none⟩)] w λe w'=>e=.returned (.tuple #[])/\GOk B w' g (zZ x)/\Ext a w':=by
 by_cases h0:x.hand=0
 ·exact c0d B g x w h s a ha hx h0
 ·exact b7h B g x w h s a ha hx (x.hand-1).toNat (by have:=s.r1.hand;omega)
theorem c2j[Inhabited uZ](B g:Nat)(x:Hp)(w:World)(h:GOk B w g x)(s:Snd x)(hp:x.phase=5)(a:World)(ha:a.heap.size<=B)(hx:Ext a w):
  Calls Tryz.prog 191 #[.pointer (some ⟨g,0,none⟩)] w λe w'=>e=.returned (.tuple #[])/\GOk B w' g (a2e x)/\Ext a w':=by
 have hO:=h;obtain⟨ar,kr,ac,kc,vg,br,bc,pb,pa,pk,role,h⟩:=h;have HO:=uU hO;have c4:=h.bx.2.2.2.2.1;have c6:=h.bx.2.2.2.2.2.2.1;have c7:=h.bx.2.2.2.2.2.2.2.1;have hgw:g<w.heap.size:=uL c4;have lo:=h.lo;have n8:=s.ok.n8;have hh:=s.r1.hand;have hs:=s.r1.sub;by_cases he:x.hand=x.cells.length
 ·have E:=uU (show a2e x=zC x 6 x.cells.length by unfold a2e;rw[if_pos he]);have heb:(x.hand == (x.cells.length:Int))=true:=by simpa using he
  clear he h hO s;go_enter Tryz.func191,Tryz.ntmps191;go_wp2_with fail;go_quiet (fail);go_wp2_with fail;refine(a0y B g x 6 x.cells.length _ (HO.ext ((Ext.refl w).drewN _)) a ha (hx.drewN _)).mono ?_;rintro e w2 ⟨rfl,h2,x2⟩;have H2:=uU h2;clear h2;go_wp2_with fail
  try simp only [Exit.inBlock,Exit.then]
  refine bodyPost_ret (results_none rfl _ _ _) rfl ?_;exact⟨rfl,by rw[uH E];exact uH H2,x2⟩
 ·obtain⟨i,hi⟩:∃i:Nat,x.hand=(i:Int):=⟨x.hand.toNat,by omega⟩;have hin:i<x.cells.length:=by omega
  have ei:x.hand.toNat=i:=by omega
  obtain⟨k,hk⟩:∃k:Nat,x.sub=(k:Int):=⟨x.sub.toNat,by omega⟩;have ek:x.sub.toNat=k:=by omega
  have hp2:=s.ok.p200 i hin;by_cases hl:k<(x.c i).prs.length
  ·have E:a2e x={ x with cells:=x.cells.set i (tZ x (x.c i) k),sub:=(k:Int)+1 }:=by
    unfold a2e;rw[if_neg he,ei,if_pos (by omega),ek,hk]
   have nd:¬cL x i:=λd=>by have:=d.1;omega
   have P:=((s.r4.2 i hin).2 k hl).2 nd;rw[E];exact b9x B g x w hO n8 a ha hx i hi hin k hk hl hp2 P.1.1 P.2.1
  ·have E:=uU (show a2e x={ x with hand:=x.hand+1,sub:=0 } by
    unfold a2e;rw[if_neg he,ei,if_neg (by omega)])
   have heb:(x.hand == (x.cells.length:Int))=false:=by simpa using he
   have hn:0<x.cells.length:=by omega
   rw[h.hc hn] at c4;have p7:=h.rw.p7 i hin;have hbc:bc<w.heap.size:=uL p7;have f6:=h.nf.2 6;have f7:=h.nf.2 7;rw[hi] at heb c6;rw[hk] at c7;have i0:(0:Int)<=(i:Int):=by omega
   have i1:(i:Int)<(x.cells.length:Int):=by omega
   have k1:¬(k:Int)<((x.c i).prs.length:Int):=by omega
   have FN:=uU (show ∀n,GOk B (((w.drewN n).setCell ⟨g,6,none⟩ (iv ((i:Int)+1))).setCell ⟨g,7,none⟩ (iv 0)) g { x with hand:=(i:Int)+1,sub:=0 }/\Ext a (((w.drewN n).setCell ⟨g,6,none⟩ (iv ((i:Int)+1))).setCell ⟨g,7,none⟩ (iv 0)) from λn=>⟨((hO.ext ((Ext.refl w).drewN n)).set6 _).set7 0,((hx.drewN n).setCell (p:=⟨g,6,none⟩) (show a.heap.size<=g by omega) _).setCell (p:=⟨g,7,none⟩) (show a.heap.size<=g by omega) _⟩);rw[hi] at E;clear he h hO s hi hk ei ek hl hh hs;go_enter Tryz.func191,Tryz.ntmps191;go_wp2_with fail;go_quiet (fail);obtain⟨m1,rfl⟩:∃m,m=nq:=⟨_,rfl⟩;go_wp2_with fail;go_quiet (fail);go_wp2_with fail
   go_end0
   exact⟨rfl,by rw[uH E];exact(FN _).1,(FN _).2⟩
theorem c0f[Inhabited uZ](B g:Nat)(x:Hp)(w:World)(h:GOk B w g x)(s:Snd x)(a:World)(ha:a.heap.size<=B)(hx:Ext a w):
  Calls Tryz.prog 189 #[.pointer (some ⟨g,0,none⟩)] w λe w'=>e=.returned (.tuple #[])/\GOk B w' g (tW x)/\Ext a w':=by
 obtain⟨ar,kr,ac,kc,vg,br,bc,pb,pa,pk,role,h⟩:=h;have HO:=uU (show GOk B w g x from⟨_,_,_,_,_,_,_,_,_,_,_,h⟩);have H:=uU h;have c4:=h.bx.2.2.2.2.1;have c6:=h.bx.2.2.2.2.2.2.1;have c1:=h.bx.2.1;have hgw:g<w.heap.size:=uL c4;have lo:=h.lo;have n8:=s.ok.n8;have S:=uU s;have hh:=s.r1.hand;clear h;by_cases he:x.hand=x.cells.length
 ·have E:=uU (show tW x=zC x 4 0 by unfold tW;rw[if_pos he]);have heb:(x.hand == (x.cells.length:Int))=true:=by simpa using he
  clear he;go_enter Tryz.func189,Tryz.ntmps189;go_wp2_with fail;go_quiet (fail);go_wp2_with fail;refine(a0y B g x 4 0 _ (HO.ext ((Ext.refl w).drewN _)) a ha (hx.drewN _)).mono ?_;rintro e w2 ⟨rfl,h2,x2⟩;have H2:=uU h2;clear h2;go_wp2_with fail
  try simp only [Exit.inBlock,Exit.then]
  refine bodyPost_ret (results_none rfl _ _ _) rfl ?_;exact⟨rfl,by rw[uH E];exact uH H2,x2⟩
 ·obtain⟨i,hi⟩:∃i:Nat,x.hand=(i:Int):=⟨x.hand.toNat,by omega⟩;have hin:i<x.cells.length:=by omega
  have V:=uU (show wrap64 (1+((x.c i).prs.length:Int))=1+((x.c i).prs.length:Int)/\wrap64 (x.used-(1+((x.c i).prs.length:Int)))=x.used-(1+((x.c i).prs.length:Int)) by
   have hlp:=s.ok.p200 i hin;have hu1:x.used<=4000:=by have:=s.r3.2;have:=s.r1.room;omega
   have hu0:0<=x.used:=by have:=s.r3.1;omega
   exact⟨a2h _ (by omega) (by omega),a2h _ (by omega) (by omega)⟩)
  have heb:(x.hand == (x.cells.length:Int))=false:=by simpa using he
  rw[hi] at heb c6;have hn:0<x.cells.length:=by omega
  rw[H.hc hn] at c4;obtain⟨p0,p1,p2,p3,p4,p5,p6⟩:=H.rw.s i hin;have p7:=H.rw.p7 i hin;have hbc:bc<w.heap.size:=uL p0;have NGC:=uU (show ¬g=bc from λe=>by have h1:=H.sp.g;have h2:=H.sp.c hn;rw[e] at h1;omega);have i0:(0:Int)<=(i:Int):=by omega
  have i1:(i:Int)<(x.cells.length:Int):=by omega
  have ei:x.hand.toNat=i:=by omega
  have EU:=uU (show tW x=if whB (x.c i)=true then { x with used:=x.used-(1+(x.c i).prs.length),cells:=x.cells.set i Cl0,hand:=x.hand+1 } else { x with cells:=x.cells.set i (a7f (x.c i)),hand:=x.hand+1 } by unfold tW;rw[if_neg he,ei]);have HI:=uU hi;have zn:=λn j=>a0u w n #[.int .i64 0,.int .i64 0,.int .i64 0,.int .i64 0,.int .i64 0,.int .i64 0,.int .i64 0,.slice none 0 0] 62 j
  have zf:=λn j=>a5f w n #[.int .i64 0,.int .i64 0,.int .i64 0,.int .i64 0,.int .i64 0,.int .i64 0,.int .i64 0,.slice none 0 0] 62 j
  have zo:=λn o b j (h:b<w.heap.size)=>a6b w n o b j h
  clear he hi ei hh;go_enter Tryz.func189,Tryz.ntmps189;go_wp2_with fail;go_quiet (fail);go_wp2_with fail
  go_region
  all_goals
   obtain⟨W2,hW2⟩:∃W,W=(((((((((w.drewN (nq+1)).alloc (.cells #[.int .i64 0,.int .i64 0,.int .i64 0,.int .i64 0,.int .i64 0,.int .i64 0,.int .i64 0,.slice none 0 0] 62)).setCell ⟨w.heap.size,0,none⟩ (.int .i64 (x.c i).st)).setCell ⟨w.heap.size,1,none⟩ (.int .i64 (x.c i).kind)).setCell ⟨w.heap.size,2,none⟩ (.int .i64 (x.c i).weak)).setCell ⟨w.heap.size,3,none⟩ (.int .i64 (x.c i).last)).setCell ⟨w.heap.size,4,none⟩ (.int .i64 (x.c i).born)).setCell ⟨w.heap.size,5,none⟩ (.int .i64 (x.c i).color)).setCell ⟨w.heap.size,6,none⟩ (.int .i64 (x.c i).to)).setCell ⟨w.heap.size,7,none⟩ (.slice (pa i) (x.c i).prs.length (pk i)):=⟨_,rfl⟩
   have X2:Ext w W2:=by
    rw[hW2];exact(((((((((Ext.refl w).drewN (nq+1)).alloc _).setCell (Nat.le_refl _) _).setCell (Nat.le_refl _) _).setCell (Nat.le_refl _) _).setCell (Nat.le_refl _) _).setCell (Nat.le_refl _) _).setCell (Nat.le_refl _) _).setCell (Nat.le_refl _) _ |>.setCell (Nat.le_refl _) _
   have l0:W2.cell? ⟨w.heap.size,0,none⟩=some (iv (x.c i).st):=by
    rw[hW2,uC _ (.inr (by omega)),uC _ (.inr (by omega)),uC _ (.inr (by omega)),uC _ (.inr (by omega)),uC _ (.inr (by omega)),uC _ (.inr (by omega)),uC _ (.inr (by omega))];exact World.cell?_setCell_same _ _ _ (by rw[zn];rfl)
   have l5:W2.cell? ⟨w.heap.size,5,none⟩=some (iv (x.c i).color):=by
    rw[hW2,uC _ (.inr (by omega)),uC _ (.inr (by omega))];exact World.cell?_setCell_same _ _ _ (by rw[uC _ (.inr (by omega)),uC _ (.inr (by omega)),uC _ (.inr (by omega)),uC _ (.inr (by omega)),uC _ (.inr (by omega)),zn];rfl)
   have l7:W2.cell? ⟨w.heap.size,7,none⟩=some (.slice (pa i) (x.c i).prs.length (pk i)):=by
    rw[hW2];exact World.cell?_setCell_same _ _ _ (by rw[uC _ (.inr (by omega)),uC _ (.inr (by omega)),uC _ (.inr (by omega)),uC _ (.inr (by omega)),uC _ (.inr (by omega)),uC _ (.inr (by omega)),uC _ (.inr (by omega)),zn];rfl)
   rw[<-hW2];clear hW2 zn zf zo p0 p1 p2 p3 p4 p6 p7;have H2:=uU (H.ext X2);have d6:=X2.keep c6;have d4:=X2.keep c4;have d1:=X2.keep c1;have d5:=X2.keep p5;have hgW:g<W2.heap.size:=uL d6;have f6:W2.frozen? ⟨g,6,none⟩=false:=H2.nf.2 6;have f1:W2.frozen? ⟨g,1,none⟩=false:=H2.nf.2 1;have fc:=(H2.rw.nc hn).1.2;have ngc:¬g=bc:=uH NGC;have ncg:¬bc=g:=λe=>uH NGC e.symm
   clear c1 c4 c6 p5
   have G3:=uU (show GOk B (W2.setCell ⟨bc,i*8+5,none⟩ (iv 0)) g { x with cells:=x.cells.set i (a7f (x.c i)) } by
    refine⟨_,_,_,_,_,_,_,_,_,_,_,H2.setc hin rfl (uX.setCell (S:=λq=>q=bc) (uX.refl _ W2) (p:=⟨bc,i*8+5,none⟩) rfl _) ?_ (λk hk=>uC _ (.inr (by omega))) ((H2.rw.nc hn).1.set _ _)⟩;obtain⟨a0,a1,a2,a3,a4,a5,a6⟩:=H2.rw.s i hin;refine⟨?_,?_,?_,?_,?_,World.cell?_setCell_same _ _ _ a5,?_⟩
    ·rw[uC _ (.inr (by omega))];exact a0
    ·rw[uC _ (.inr (by omega))];exact a1
    ·rw[uC _ (.inr (by omega))];exact a2
    ·rw[uC _ (.inr (by omega))];exact a3
    ·rw[uC _ (.inr (by omega))];exact a4
    ·rw[uC _ (.inr (by omega))];exact a6)
   have G4:=uU ((G3.set6 ((i:Int)+1)).ext (Ext.refl _).drew);clear G3;have hbB:=(H2.rw.nc hn).2;have X3:=uU (((hx.trans X2).setCell (p:=⟨bc,i*8+5,none⟩) (show a.heap.size<=bc from Nat.le_trans ha hbB) (iv 0)).setCell (p:=⟨g,6,none⟩) (show a.heap.size<=g by omega) (iv ((i:Int)+1)) |>.drew);cases q1:((x.c i).st == 1)
   ·have EF:=uU (show tW x={ x with cells:=x.cells.set i (a7f (x.c i)),hand:=x.hand+1 } by rw[uH EU,if_neg (by simp [whB,q1])]);rw[uH HI] at EF;go_wp2_with fail
    go_region
    all_goals
     go_wp2_with fail
     go_end0
     exact⟨rfl,by rw[uH EF];exact uH G4,X3⟩
   ·cases q2:((x.c i).color == 0)
    ·have EF:=uU (show tW x={ x with cells:=x.cells.set i (a7f (x.c i)),hand:=x.hand+1 } by rw[uH EU,if_neg (by simp [whB,q2])]);rw[uH HI] at EF;go_wp2_with fail
     go_region
     all_goals
      go_wp2_with fail
      go_end0
      exact⟨rfl,by rw[uH EF];exact uH G4,X3⟩
    ·have EF:=uU (show tW x={ x with used:=x.used-(1+(x.c i).prs.length),cells:=x.cells.set i Cl0,hand:=x.hand+1 } by rw[uH EU,if_pos (by simp [whB,q1,q2])]);rw[uH HI] at EF;clear G4 X3;go_wp2_with fail
     go_region
     all_goals
      rw[V.1,V.2];obtain⟨W3,hW3⟩:∃W,W=(W2.setCell ⟨g,1,none⟩ (iv (x.used-(1+(x.c i).prs.length)))).drew:=⟨_,rfl⟩
      have H3:=uU (show GAt B W3 g { x with used:=x.used-(1+(x.c i).prs.length) } ar kr ac kc vg br bc pb pa pk role by
       rw[hW3];exact(H2.boxed (x':={ x with used:=x.used-(1+(x.c i).prs.length) }) (uX.setCell (S:=λq=>q=g) (uX.refl _ W2) (p:=⟨g,1,none⟩) rfl _) (H2.nf.set _ _) rfl rfl rfl (H2.bx.set1 _)).ext (Ext.refl _).drew)
      have X3:Ext a W3:=by rw[hW3];exact((hx.trans X2).setCell (p:=⟨g,1,none⟩) (show a.heap.size<=g by omega) _).drew
      rw[<-hW3];clear hW3 V l0 l5 l7 d1 d4 d5 d6 f6 f1 fc X2;have e4:=H3.bx.2.2.2.2.1;rw[H2.hc hn] at e4;have e6:W3.cell? ⟨g,6,none⟩=some (iv i):=by rw[<-uH HI];exact H3.bx.2.2.2.2.2.2.1
      obtain⟨e0,e1,e2,e3,ee4,e5,ee6⟩:=H3.rw.s i hin;have e7:=H3.rw.p7 i hin;have f6:W3.frozen? ⟨g,6,none⟩=false:=H3.nf.2 6;have fc:=(H3.rw.nc hn).1.2;have G4:=uU (((H3.wipe i hin 0 0).set6 ((i:Int)+1)).ext (Ext.refl _).drew);have X4:=uU (show Ext a (((a3g W3 bc (i*8) 0 0).setCell ⟨g,6,none⟩ (iv ((i:Int)+1))).drew) from(((a3x W3 bc (i*8) 0 0).ext X3 (λq hq e=>by have:=(H3.rw.nc hn).2;omega)).setCell (p:=⟨g,6,none⟩) (show a.heap.size<=g by omega) _).drew);unfold a3g at G4 X4;go_wp2_with fail
      go_region
      all_goals
       go_wp2_with fail
       go_end0
       exact⟨rfl,by rw[uH EF];exact uH G4,X4⟩
theorem a6d[Inhabited uZ](B g:Nat)(x:Hp)(w:World)(h:GOk B w g x)(s:Snd x)(h0:x.phase≠0)(a:World)(ha:a.heap.size<=B)(hx:Ext a w):
  Calls Tryz.prog 116 #[.pointer (some ⟨g,0,none⟩)] w λe w'=>e=.returned (.tuple #[])/\GOk B w' g (eY x)/\Ext a w':=by
 have HO:=uU h;obtain⟨_,_,c5,_,lo,hgw⟩:=h.box;have hB:B<=w.heap.size:=by omega
 have S:=uU s;have hc:x.phase=1\/x.phase=2\/x.phase=3\/x.phase=4\/x.phase=5\/x.phase=6:=by have:=s.r1.phase;omega
 have Q1:=uU (show x.phase=1->Calls Tryz.prog 187 #[.pointer (some ⟨g,0,none⟩)] w λe w'=>e=.returned (.tuple #[])/\GOk B w' g (eY x)/\Ext a w' from λe=>by
  have:eY x=tE x:=by unfold eY;rw[if_pos e]
  rw[this];exact b9q B g x w h s a ha hx hB)
 have Q2:=uU (show x.phase=2->Calls Tryz.prog 188 #[.pointer (some ⟨g,0,none⟩)] w λe w'=>e=.returned (.tuple #[])/\GOk B w' g (eY x)/\Ext a w' from λe=>by
  have:eY x=zV x:=by unfold eY;rw[if_neg (by omega),if_pos e]
  rw[this];exact c2g B g x w h s e a ha hx)
 have Q3:=uU (show x.phase=3->Calls Tryz.prog 189 #[.pointer (some ⟨g,0,none⟩)] w λe w'=>e=.returned (.tuple #[])/\GOk B w' g (eY x)/\Ext a w' from λe=>by
  have:eY x=tW x:=by unfold eY;rw[if_neg (by omega),if_neg (by omega),if_pos e]
  rw[this];exact c0f B g x w h s a ha hx)
 have Q4:=uU (show x.phase=4->Calls Tryz.prog 190 #[.pointer (some ⟨g,0,none⟩)] w λe w'=>e=.returned (.tuple #[])/\GOk B w' g (eY x)/\Ext a w' from λe=>by
  have:eY x=unit4 x:=by unfold eY;rw[if_neg (by omega),if_neg (by omega),if_neg (by omega),if_pos e]
  rw[this];exact c2f B g x w h s a ha hx)
 have Q5:=uU (show x.phase=5->Calls Tryz.prog 191 #[.pointer (some ⟨g,0,none⟩)] w λe w'=>e=.returned (.tuple #[])/\GOk B w' g (eY x)/\Ext a w' from λe=>by
  have:eY x=a2e x:=by unfold eY;rw[if_neg (by omega),if_neg (by omega),if_neg (by omega),if_neg (by omega),if_pos e]
  rw[this];exact c2j B g x w h s e a ha hx)
 have Q6:=uU (show x.phase=6->Calls Tryz.prog 192 #[.pointer (some ⟨g,0,none⟩)] w λe w'=>e=.returned (.tuple #[])/\GOk B w' g (eY x)/\Ext a w' from λe=>by
  have:eY x=zZ x:=by unfold eY;rw[if_neg (by omega),if_neg (by omega),if_neg (by omega),if_neg (by omega),if_neg (by omega),if_pos e]
  rw[this];exact c0e B g x w h s a ha hx)
 obtain⟨y,hy⟩:∃y,y=eY x:=⟨_,rfl⟩;rw[<-hy] at Q1 Q2 Q3 Q4 Q5 Q6 ⊢;clear hy h s h0;rcases hc with e | e | e | e | e | e
 ·rw[e] at c5;have Q:=uU (Q1 e);clear Q1 Q2 Q3 Q4 Q5 Q6 e;go_enter Tryz.func116,Tryz.ntmps116;go_wp2_with fail;refine Q.mono ?_;rintro e w2 ⟨rfl,h2,x2⟩;have H2:=uU h2;clear h2;go_wp2_with fail
  go_end0
  exact⟨rfl,H2,x2⟩
 ·rw[e] at c5;have Q:=uU (Q2 e);clear Q1 Q2 Q3 Q4 Q5 Q6 e;go_enter Tryz.func116,Tryz.ntmps116;go_wp2_with fail;refine Q.mono ?_;rintro e w2 ⟨rfl,h2,x2⟩;have H2:=uU h2;clear h2;go_wp2_with fail
  go_end0
  exact⟨rfl,H2,x2⟩
 ·rw[e] at c5;have Q:=uU (Q3 e);clear Q1 Q2 Q3 Q4 Q5 Q6 e;go_enter Tryz.func116,Tryz.ntmps116;go_wp2_with fail;refine Q.mono ?_;rintro e w2 ⟨rfl,h2,x2⟩;have H2:=uU h2;clear h2;go_wp2_with fail
  go_end0
  exact⟨rfl,H2,x2⟩
 ·rw[e] at c5;have Q:=uU (Q4 e);clear Q1 Q2 Q3 Q4 Q5 Q6 e;go_enter Tryz.func116,Tryz.ntmps116;go_wp2_with fail;refine Q.mono ?_;rintro e w2 ⟨rfl,h2,x2⟩;have H2:=uU h2;clear h2;go_wp2_with fail
  go_end0
  exact⟨rfl,H2,x2⟩
 ·rw[e] at c5;have Q:=uU (Q5 e);clear Q1 Q2 Q3 Q4 Q5 Q6 e;go_enter Tryz.func116,Tryz.ntmps116;go_wp2_with fail;refine Q.mono ?_;rintro e w2 ⟨rfl,h2,x2⟩;have H2:=uU h2;clear h2;go_wp2_with fail
  go_end0
  exact⟨rfl,H2,x2⟩
 ·rw[e] at c5;have Q:=uU (Q6 e);clear Q1 Q2 Q3 Q4 Q5 Q6 e;go_enter Tryz.func116,Tryz.ntmps116;go_wp2_with fail;refine Q.mono ?_;rintro e w2 ⟨rfl,h2,x2⟩;have H2:=uU h2;clear h2;go_wp2_with fail
  go_end0
  exact⟨rfl,H2,x2⟩
theorem a4q[Inhabited uZ](B g:Nat)(x:Hp)(w:World)(h:GOk B w g x)(a:World)(ha:a.heap.size<=B)(hx:Ext a w):
  Calls Tryz.prog 115 #[.pointer (some ⟨g,0,none⟩)] w λe w'=>e=.returned (.tuple #[])/\GOk B w' g (zC x 1 0)/\Ext a w':=by
 have HO:=uU h;clear h;go_enter Tryz.func115,Tryz.ntmps115;go_wp2_with fail;refine(a0y B g x 1 0 _ HO a ha hx).mono ?_;rintro e w2 ⟨rfl,h2,x2⟩;have H2:=uU h2;clear h2;go_wp2_with fail
 go_end0
 exact⟨rfl,H2,x2⟩
theorem c0g[Inhabited uZ](B g:Nat)(x:Hp)(n:Nat)(w:World)(h:GOk B w g x)(s:Snd x)(n0:n≠0)(n1:n<=100000)(hp:x.phase≠0)(a:World)(ha:a.heap.size<=B)(hx:Ext a w):
  Calls Tryz.prog 84 #[.pointer (some ⟨g,0,none⟩),.int .i64 n] w λe w'=>∃k:Nat,e=.returned (.int .i64 k)/\Hid (b3y x n k)/\GOk B w' g (itU k x)/\Ext a w':=by
 have HS:=uU h;obtain⟨_,_,c5,_,lo,hgw⟩:=h.box;have S:=uU s;have nb:((n:Int) == 0)=false:=by simpa using n0
 have pb:(x.phase == 0)=false:=by simpa using hp
 have XS:=hx;clear h s hp n0;go_enter Tryz.func84,Tryz.ntmps84;go_wp2_with fail;go_loopw [5] (λd wr=>∃k:Nat,k<=n/\d=.int .i64 k/\Hid (yK x k)/\Hid (GOk B wr g (itU k x))/\Ext a wr) (λd _=>n-(intOf d).toNat)
 case atStart=>exact⟨0,Nat.zero_le _,rfl,yK.zero _,HS,XS⟩
 case round=>
  clear HS XS c5 hgw;obtain⟨k,hk,rfl,hr,hG,hxr⟩:=hrel;obtain⟨_,_,c5,_,_,hgw⟩:=hG.box;cases q:((itU k x).phase == 0)
  ·have qb:((itU k x).phase != 0)=true:=by simpa using q
   have QP:=uU (show(itU k x).phase≠0 by simpa using q);by_cases hlt:k<n
   ·have h1:(k:Int)<(n:Int):=by omega
    go_wp2_with fail;refine(a6d B g _ _ hG (S.itU k) QP a ha hxr).mono ?_;rintro e w3 ⟨rfl,h3,x3⟩;have H3:=uU h3;have R3:=uU (hr.succ QP);clear h3 c5 hgw;go_wp2_with fail;go_roundw
    case rel=>exact⟨k+1,by omega,by go_num,R3,H3,x3⟩
    case measure=>simp [intOf];omega
   ·have h1:¬(k:Int)<(n:Int):=by omega
    have hkn:=uU (show k=n by omega);go_wp2_with fail;go_ret;exact⟨k,rfl,⟨hr,hk,.inl hkn⟩,hG,hxr⟩
  ·have qb:((itU k x).phase != 0)=false:=by simpa using q
   have QP:=uU (show(itU k x).phase=0 by simpa using q);by_cases hlt:k<n
   ·have h1:(k:Int)<(n:Int):=by omega
    go_wp2_with fail;go_ret;exact⟨k,rfl,⟨hr,hk,.inr QP⟩,hG,hxr⟩
   ·have h1:¬(k:Int)<(n:Int):=by omega
    have hkn:=uU (show k=n by omega);go_wp2_with fail;go_ret;exact⟨k,rfl,⟨hr,hk,.inl hkn⟩,hG,hxr⟩
theorem b7i[Inhabited uZ](B g:Nat)(x:Hp)(n:Nat)(w:World)(h:GOk B w g x)(s:Snd x)(n0:n≠0)(n1:n<=100000)(hp:x.phase=0)(a:World)(ha:a.heap.size<=B)(hx:Ext a w):
  Calls Tryz.prog 84 #[.pointer (some ⟨g,0,none⟩),.int .i64 n] w λe w'=>∃k:Nat,e=.returned (.int .i64 k)/\Hid (b3y (zC x 1 0) n k)/\GOk B w' g (itU k (zC x 1 0))/\Ext a w':=by
 have HO:=uU h;obtain⟨_,_,c5,_,lo,hgw⟩:=h.box;have S:=uU (s.begin hp);have nb:((n:Int) == 0)=false:=by simpa using n0
 rw[hp] at c5;obtain⟨y,hy⟩:∃y,y=zC x 1 0:=⟨_,rfl⟩;have QB:=uU (a4q B g x w h a ha hx);rw[<-hy] at S QB ⊢;clear h s hp n0 hy;go_enter Tryz.func84,Tryz.ntmps84;go_wp2_with fail;refine QB.mono ?_;rintro e w1 ⟨rfl,h1,XS⟩;have HS:=uU h1;obtain⟨_,_,c5,_,_,hgw⟩:=h1.box;clear h1;go_wp2_with fail;go_loopw [5] (λd wr=>∃k:Nat,k<=n/\d=.int .i64 k/\Hid (yK y k)/\Hid (GOk B wr g (itU k y))/\Ext a wr) (λd _=>n-(intOf d).toNat)
 case atStart=>exact⟨0,Nat.zero_le _,rfl,yK.zero _,HS,XS⟩
 case round=>
  clear HS XS c5 hgw;obtain⟨k,hk,rfl,hr,hG,hxr⟩:=hrel;obtain⟨_,_,c5,_,_,hgw⟩:=hG.box;cases q:((itU k y).phase == 0)
  ·have qb:((itU k y).phase != 0)=true:=by simpa using q
   have QP:=uU (show(itU k y).phase≠0 by simpa using q);by_cases hlt:k<n
   ·have h1:(k:Int)<(n:Int):=by omega
    go_wp2_with fail;refine(a6d B g _ _ hG (S.itU k) QP a ha hxr).mono ?_;rintro e w3 ⟨rfl,h3,x3⟩;have H3:=uU h3;have R3:=uU (hr.succ QP);clear h3 c5 hgw;go_wp2_with fail;go_roundw
    case rel=>exact⟨k+1,by omega,by go_num,R3,H3,x3⟩
    case measure=>simp [intOf];omega
   ·have h1:¬(k:Int)<(n:Int):=by omega
    have hkn:=uU (show k=n by omega);go_wp2_with fail;go_ret;exact⟨k,rfl,⟨hr,hk,.inl hkn⟩,hG,hxr⟩
  ·have qb:((itU k y).phase != 0)=false:=by simpa using q
   have QP:=uU (show(itU k y).phase=0 by simpa using q);by_cases hlt:k<n
   ·have h1:(k:Int)<(n:Int):=by omega
    go_wp2_with fail;go_ret;exact⟨k,rfl,⟨hr,hk,.inr QP⟩,hG,hxr⟩
   ·have h1:¬(k:Int)<(n:Int):=by omega
    have hkn:=uU (show k=n by omega);go_wp2_with fail;go_ret;exact⟨k,rfl,⟨hr,hk,.inl hkn⟩,hG,hxr⟩
theorem c0h(g:Nat)(w:World):Calls Tryz.prog 84 #[.pointer (some ⟨g,0,none⟩),.int .i64 0] w λe w'=>e=.returned (.int .i64 0)/\w'=w:=by
 go_enter Tryz.func84,Tryz.ntmps84;go_wp2_with fail;go_ret;exact⟨rfl,rfl⟩
theorem a8y[Inhabited uZ](B g:Nat)(x:Hp)(n:Nat)(w:World)(h:GOk B w g x)(s:Snd x)(n1:n<=100000)(a:World)(ha:a.heap.size<=B)(hx:Ext a w):
  Calls Tryz.prog 84 #[.pointer (some ⟨g,0,none⟩),.int .i64 n] w λe w'=>∃k:Nat,e=.returned (.int .i64 k)/\Hid (b3y (stepH x n) n k)/\GOk B w' g (itU k (stepH x n))/\Ext a w':=by
 by_cases n0:n=0
 ·subst n0;have e:stepH x 0=x:=by unfold stepH;rw[if_neg (λh=>h.2 rfl)]
  rw[e];refine(c0h g w).mono ?_;rintro e w' ⟨rfl,rfl⟩;exact⟨0,rfl,⟨yK.zero _,Nat.le_refl _,.inl rfl⟩,h,hx⟩
 ·by_cases hp:x.phase=0
  ·have e:stepH x n=zC x 1 0:=by unfold stepH;rw[if_pos ⟨hp,n0⟩]
   rw[e];exact b7i B g x n w h s n0 n1 hp a ha hx
  ·have e:stepH x n=x:=by unfold stepH;rw[if_neg (λh=>hp h.1)]
   rw[e];exact c0g B g x n w h s n0 n1 hp a ha hx
theorem b6b[Inhabited uZ](B g:Nat)(x:Hp)(w:World)(h:GOk B w g x)(s:Snd x)(a:World)(ha:a.heap.size<=B)(hx:Ext a w):
  Calls Tryz.prog 86 #[.pointer (some ⟨g,0,none⟩)] w λe w'=>∃k:Nat,e=.returned (.int .i64 k)/\Hid (EndIs x k)/\GOk B w' g (itU k x)/\Ext a w':=by
 have HS:=uU h;have S:=uU s;have XS:=hx;clear h s;go_enter Tryz.func86,Tryz.ntmps86;go_wp2_with fail
 go_loopg [3] (14000000) (λgk d wr=>∃k:Nat,d=.int .i64 k/\Hid (yK x k)/\Hid (mu (itU k x)<=gk)/\Hid (GOk B wr g (itU k x))/\Ext a wr)
 case atStart=>exact⟨0,rfl,yK.zero _,S.mu_le,HS,XS⟩
 case round=>
  clear HS XS;obtain⟨k,rfl,hr,hm,hG,hxr⟩:=hrel;obtain⟨_,_,c5,_,_,hgw⟩:=hG.box;have kl:=hr.le S;cases q:((itU k x).phase == 0)
  ·have qb:((itU k x).phase != 0)=true:=by simpa using q
   have QP:=uU (show(itU k x).phase≠0 by simpa using q);go_wp2_with fail;refine(a6d B g _ _ hG (S.itU k) QP a ha hxr).mono ?_;rintro e w3 ⟨rfl,h3,x3⟩;have H3:=uU h3;have R3:=uU (hr.succ QP);have M3:=uU (show mu (itU (k+1) x)<mu (itU k x) from(S.itU k).less QP);have wk:wrap64 ((k:Int)+1)=(k:Int)+1:=by unfold wrap64;omega
   clear h3 c5 hgw;go_wp2_with fail
   go_roundg (mu (itU (k+1) x))
   case measure=>have:=uH M3;have:=uH hm;omega
   case rel=>exact⟨k+1,by go_num,R3,Nat.le_refl _,H3,x3⟩
  ·have qb:((itU k x).phase != 0)=false:=by simpa using q
   have QP:=uU (show(itU k x).phase=0 by simpa using q);go_wp2_with fail;go_ret;exact⟨k,rfl,⟨QP,hr⟩,hG,hxr⟩
theorem b1v[Inhabited uZ](B g:Nat)(x:Hp)(w:World)(h:GOk B w g x)(s:Snd x)(a:World)(ha:a.heap.size<=B)(hx:Ext a w):
  Calls Tryz.prog 88 #[.pointer (some ⟨g,0,none⟩)] w λe w'=>∃y z,e=.returned (.tuple #[])/\Hid (b6z x y/\b6z (zC y 1 0) z)/\GOk B w' g z/\Ext a w':=by
 have HO:=uU h;have S:=uU s;clear h s;go_enter Tryz.func88,Tryz.ntmps88;go_wp2_with fail;refine(b6b B g x _ HO S a ha hx).mono ?_;rintro e w1 ⟨k,rfl,he,h1,x1⟩;obtain⟨y,hy⟩:∃y,y=itU k x:=⟨_,rfl⟩;rw[<-hy] at h1;have EY:=uU (show b6z x y from⟨k,he,hy⟩);have H1:=uU h1;clear h1 he hy;go_wp2_with fail;refine(a4q B g y _ H1 a ha x1).mono ?_;rintro e w2 ⟨rfl,h2,x2⟩;have H2:=uU h2;clear h2;go_wp2_with fail;refine(b6b B g _ _ H2 ((EY.snd S).1.begin (EY.snd S).2) a ha x2).mono ?_;rintro e w3 ⟨k2,rfl,he,h3,x3⟩;have EZ:=uU (show b6z (zC y 1 0) (itU k2 (zC y 1 0)) from⟨k2,he,rfl⟩);have H3:=uU h3;clear h3 he;go_wp2_with fail
 go_end0
 exact⟨y,_,rfl,⟨EY,EZ⟩,H3,x3⟩
theorem cE(n:Int)(w:World):Calls Tryz.prog 161 #[.int .i64 n] w λe w'=>e=.returned (eK 0 n)/\Ext w w':=by
 go_enter Tryz.func161,Tryz.ntmps161;go_wp2_with fail
 first
  | (go_ret;exact⟨rfl,by repeat (first | exact Ext.refl _ | refine Ext.alloc ?_ _)⟩)
  | exact bodyPost_ret (v:=eK 0 n) (by simp [results,Tryz.results161,go_sem]) rfl ⟨rfl,by repeat (first | exact Ext.refl _ | refine Ext.alloc ?_ _)⟩
theorem a0g(n:Int)(w:World):Calls Tryz.prog 159 #[.int .i64 n] w λe w'=>e=.returned (eK n 0)/\Ext w w':=by
 go_enter Tryz.func159,Tryz.ntmps159;go_wp2_with fail
 first
  | (go_ret;exact⟨rfl,by repeat (first | exact Ext.refl _ | refine Ext.alloc ?_ _)⟩)
  | exact bodyPost_ret (v:=eK n 0) (by simp [results,Tryz.results159,go_sem]) rfl ⟨rfl,by repeat (first | exact Ext.refl _ | refine Ext.alloc ?_ _)⟩
theorem GOk.set12[Inhabited uZ](h:GOk B w g x)(v:Int):GOk B (w.setCell ⟨g,12,none⟩ (iv v)) g { x with forced:=v }:=by
 obtain⟨ar,kr,ac,kc,vg,br,bc,pb,pa,pk,role,h⟩:=h;exact⟨_,_,_,_,_,_,_,_,_,_,_,h.boxed (x':={ x with forced:=v }) (uX.setCell (S:=λq=>q=g) (uX.refl _ w) (p:=⟨g,12,none⟩) rfl _) (h.nf.set _ _) rfl rfl rfl (h.bx.set12 v)⟩
theorem GOk.set2[Inhabited uZ](h:GOk B w g x)(v:Int):GOk B (w.setCell ⟨g,2,none⟩ (iv v)) g { x with born:=v }:=by
 obtain⟨ar,kr,ac,kc,vg,br,bc,pb,pa,pk,role,h⟩:=h;exact⟨_,_,_,_,_,_,_,_,_,_,_,h.boxed (x':={ x with born:=v }) (uX.setCell (S:=λq=>q=g) (uX.refl _ w) (p:=⟨g,2,none⟩) rfl _) (h.nf.set _ _) rfl rfl rfl (h.bx.set2 v)⟩
theorem GOk.nums[Inhabited uZ](h:GOk B w g x):w.cell? ⟨g,0,none⟩=some (iv x.room)/\w.cell? ⟨g,1,none⟩=some (iv x.used)/\w.cell? ⟨g,2,none⟩=some (iv x.born)/\w.cell? ⟨g,5,none⟩=some (iv x.phase)/\w.cell? ⟨g,9,none⟩=some (iv x.per)/\w.cell? ⟨g,10,none⟩=some (iv x.start)/\w.cell? ⟨g,12,none⟩=some (iv x.forced):=by
 obtain⟨ar,kr,ac,kc,vg,br,bc,pb,pa,pk,role,h⟩:=h;obtain⟨c0,c1,c2,c3,c4,c5,c6,c7,c8,c9,c10,c11,c12⟩:=h.bx;exact⟨c0,c1,c2,c5,c9,c10,c12⟩
theorem b4j[Inhabited uZ](B g:Nat)(x:Hp)(u:Nat)(w:World)(h:GOk B w g x)(s:Snd x)(hu:u<=201)(a:World)(ha:a.heap.size<=B)(hx:Ext a w):
  Calls Tryz.prog 260 #[.pointer (some ⟨g,0,none⟩),.int .i64 u] w λe w'=>∃y,e=.returned (.bool (a2n y u))/\Hid (a4s x u y)/\Hid (GOk B w' g y)/\Ext a w':=by
 have HO:=uU h;obtain⟨c0,c1,c2,c5,c9,c10,c12⟩:=h.nums;have hgw:g<w.heap.size:=h.box.2.2.2.2.2;have f12:=h.box.2.2.2.1 12;have lo:a.heap.size<=g:=Nat.le_trans ha h.box.2.2.2.2.1;have us:0<=x.used/\x.used<=4000:=by have h3:=s.r3;have h1:=s.r1.room;unfold R3 at h3;omega
 have fo:=s.r1.forced;have S:=uU s;have wu:wrap64 (x.used+(u:Int))=x.used+(u:Int):=a2h _ (by omega) (by omega);clear h s;cases q:a2n x u
 ·have q1:¬(x.used+(u:Int)<=x.room):=by simpa [a2n] using q
  have Q:=uU q;clear q
  have END:=uU (show ∀(w2:World) (y:Hp),Snd y->GOk B w2 g y->(w2.cell? ⟨g,0,none⟩=some (iv y.room)/\w2.cell? ⟨g,1,none⟩=some (iv y.used)/\wrap64 (y.used+(u:Int))=y.used+(u:Int)/\g<w2.heap.size) from λw2 y sy h2=>by
   have us2:0<=y.used/\y.used<=4000:=by have h3:=sy.r3;have h1:=sy.r1.room;unfold R3 at h3;omega
   exact⟨h2.nums.1,h2.nums.2.1,a2h _ (by omega) (by omega),uL h2.nums.1⟩)
  have TAIL:=uU (show ∀(w1:World),GOk B w1 g (forceTo x)->Ext a w1->Calls Tryz.prog 88 #[.pointer (some ⟨g,0,none⟩)] w1 λe w'=>∃y,e=.returned (.tuple #[])/\Hid (a4s x u y)/\Hid (Snd y)/\Hid (GOk B w' g y)/\Ext a w' from λw1 h1 x1=>(b1v B g _ w1 h1 S.forceTo a ha x1).mono λe w2 ⟨y,z,he,hr,h2,x2⟩=>⟨z,he,.inr ⟨Q,⟨y,hr.1,hr.2⟩⟩,RdIs.snd S.forceTo ⟨y,hr.1,hr.2⟩,h2,x2⟩);go_enter Tryz.func260,Tryz.ntmps260;go_wp2_with fail;go_quiet (fail);obtain⟨W,hW⟩:∃W,W=w.drewN nq:=⟨_,rfl⟩;rw[<-hW];have xW:Ext w W:=by rw[hW];exact Ext.drewN (Ext.refl w) nq
  have HW:=uU (HO.ext xW);have XW:=uU (hx.trans xW);have d12:=xW.keep c12;have g12:=((dH xW).2 g 12 hgw).trans f12;have hgw1:g<W.heap.size:=uL d12;clear hW c0 c1 c2 c5 c9 c10 c12 f12 xW;by_cases hf:x.forced<1000000000
  ·have H1:=uU (show GOk B (W.setCell ⟨g,12,none⟩ (iv (x.forced+1))) g (forceTo x) by
    have:=HW.set12 (x.forced+1);unfold forceTo;rw[if_pos hf];exact this)
   have X1:=uU (XW.setCell (p:=⟨g,12,none⟩) lo (iv (x.forced+1)));have wf:wrap64 (x.forced+1)=x.forced+1:=by unfold wrap64;omega
   go_wp2_with fail;refine(TAIL _ H1 X1).mono ?_;rintro e w2 ⟨y,rfl,hr,sy,h2,x2⟩;obtain⟨d0,d1,wu2,hgw2⟩:=uH END w2 y sy h2;go_wp2_with fail;go_quiet (fail);go_wp2_with fail;go_ret;exact⟨y,rfl,hr,h2.ext (Ext.drewN (Ext.refl _) _),Ext.drewN x2 _⟩
  ·have H1:=uU (show GOk B W g (forceTo x) by
    unfold forceTo;rw[if_neg hf];exact HW)
   go_wp2_with fail;refine(TAIL _ H1 XW).mono ?_;rintro e w2 ⟨y,rfl,hr,sy,h2,x2⟩;obtain⟨d0,d1,wu2,hgw2⟩:=uH END w2 y sy h2;go_wp2_with fail;go_quiet (fail);go_wp2_with fail;go_ret;exact⟨y,rfl,hr,h2.ext (Ext.drewN (Ext.refl _) _),Ext.drewN x2 _⟩
 ·have q1:x.used+(u:Int)<=x.room:=by simpa [a2n] using q
  have E:=uU q;clear q;go_enter Tryz.func260,Tryz.ntmps260;go_wp2_with fail;go_quiet (fail);go_wp2_with fail;go_ret;exact⟨x,by rw[uH E];rfl,.inl ⟨E,rfl⟩,HO.ext (Ext.drewN (Ext.refl _) _),Ext.drewN hx _⟩
theorem a8z[Inhabited uZ](B g:Nat)(x:Hp)(u:Nat)(w:World)(h:GOk B w g x)(s:Snd x)(hu:u<=201)(a:World)(ha:a.heap.size<=B)(hx:Ext a w):
  Calls Tryz.prog 261 #[.pointer (some ⟨g,0,none⟩),.int .i64 u] w λe w'=>∃y,e=.returned (.tuple #[])/\Hid (a6a x u y)/\Hid (GOk B w' g y)/\Ext a w':=by
 have HO:=uU h;obtain⟨c0,c1,c2,c5,c9,c10,c12⟩:=h.nums;have hgw:g<w.heap.size:=h.box.2.2.2.2.2;have pr:=s.r1.per;have S:=uU s;obtain⟨p,hp⟩:∃p:Nat,x.per=(p:Int):=⟨x.per.toNat,by omega⟩;have PE:=uU hp;rw[hp] at c9;have hp64:p<=64:=by omega
 have hm1:p*u<=64*201:=Nat.mul_le_mul hp64 hu;have hm2:((p:Int)*(u:Int))=((p*u:Nat):Int):=by simp
 obtain⟨m,hm⟩:∃m,m=p*u:=⟨_,rfl⟩;rw[<-hm] at hm1 hm2;have wm:wrap64 ((p:Int)*(u:Int))=(m:Int):=by rw[hm2];exact a2h _ (by omega) (by omega)
 have EM:=uU (show x.per.toNat*u=m by rw[hp,hm];simp);have PB:=uU (show b0b x u=(x.per == 0 || (u == 0 || (x.phase == 0 && decide (x.used<=x.start)))) from rfl);clear h s hp hm hm2;cases q9:((p:Int) == 0)
 ·have q9p:p≠0:=by simpa using q9
  cases qu:((u:Int) == 0)
  ·have qup:u≠0:=by simpa using qu
   have M0:=uU (show m≠0 by
    have:=uH EM;rw[uH PE,Int.toNat_natCast] at this;rw[<-this];exact Nat.mul_ne_zero q9p qup)
   have PB1:=uU (show b0b x u=(x.phase == 0 && decide (x.used<=x.start)) by
    rw[uH PB,uH PE,show((p:Int) == 0)=false from q9,show(u == 0)=false by simpa using qup];rfl)
   clear PB;cases q5:(x.phase == 0)
   ·have F:=uU (show b0b x u=false by rw[uH PB1,q5];rfl);go_enter Tryz.func261,Tryz.ntmps261;go_wp2_with fail;refine(a8y B g x m _ HO S (by omega) a ha hx).mono ?_;rintro e w2 ⟨k,rfl,st,h2,x2⟩;have H2:=uU h2;have R:=uU (show a6a x u (itU k (stepH x m)) from .inr ⟨F,k,by rw[uH EM];exact⟨st,rfl⟩⟩);clear h2 st;go_wp2_with fail
    go_end0
    exact⟨_,rfl,R,H2,x2⟩
   ·have P0:=uU (show x.phase=0 by simpa using q5);have q5':=uH P0;by_cases q1:x.used<=x.start
    ·have T:=uU (show b0b x u=true by rw[uH PB1,q5,decide_eq_true q1];rfl);rw[q5'] at c5;clear q5';go_enter Tryz.func261,Tryz.ntmps261;go_wp2_with fail;go_quiet (fail);go_wp2_with fail;refine bodyPost_ret (results_none rfl _ _ _) rfl ?_;exact⟨x,rfl,.inl ⟨T,rfl⟩,HO.ext (Ext.drewN (Ext.refl _) _),Ext.drewN hx _⟩
    ·have F:=uU (show b0b x u=false by rw[uH PB1,q5,decide_eq_false q1];rfl);have EX:=uU (show stepH x m=zC x 1 0 by unfold stepH;rw[if_pos ⟨q5',uH M0⟩]);have EX2:=uU (show stepH (zC x 1 0) m=zC x 1 0 by unfold stepH;rw[if_neg (λh=>by have:=h.1;simp [zC] at this)]);have S1:=uU (S.begin q5');rw[q5'] at c5;clear q5';go_enter Tryz.func261,Tryz.ntmps261;go_wp2_with fail;go_quiet (fail);obtain⟨W,hW⟩:∃W,W=w.drewN nq:=⟨_,rfl⟩;rw[<-hW];have xW:Ext w W:=by rw[hW];exact Ext.drewN (Ext.refl w) nq
     have HW:=uU (HO.ext xW);have XW:=uU (hx.trans xW);clear hW c0 c1 c2 c5 c9 c10 c12 hgw xW;go_wp2_with fail;refine(a4q B g x _ HW a ha XW).mono ?_;rintro e w1 ⟨rfl,h1,x1⟩;have H1:=uU h1;have d9:=h1.nums.2.2.2.2.1;rw[show(zC x 1 0).per=(p:Int) from uH PE] at d9;have hgw1:g<w1.heap.size:=uL d9;clear h1;go_wp2_with fail;refine(a8y B g (zC x 1 0) m _ H1 S1 (by omega) a ha x1).mono ?_;rintro e w2 ⟨k,rfl,st,h2,x2⟩;have H2:=uU h2;have R:=uU (show a6a x u (itU k (stepH (zC x 1 0) m)) from .inr ⟨F,k,by rw[uH EM,uH EX];have:=uH st;rw[uH EX2] at this ⊢;exact⟨this,rfl⟩⟩);clear h2 st;go_wp2_with fail
     go_end0
     exact⟨_,rfl,R,H2,x2⟩
  ·have T:=uU (show b0b x u=true by rw[uH PB,show(u == 0)=true by simpa using qu];simp);go_enter Tryz.func261,Tryz.ntmps261;go_wp2_with fail;refine bodyPost_ret (results_none rfl _ _ _) rfl ?_;exact⟨x,rfl,.inl ⟨T,rfl⟩,HO,hx⟩
 ·have T:=uU (show b0b x u=true by rw[uH PB,uH PE,show((p:Int) == 0)=true from q9];rfl);go_enter Tryz.func261,Tryz.ntmps261;go_wp2_with fail;refine bodyPost_ret (results_none rfl _ _ _) rfl ?_;exact⟨x,rfl,.inl ⟨T,rfl⟩,HO,hx⟩
structure GReg[Inhabited uZ](B:Nat)(w:World)(g:Nat)(x:Hp)(br kr:Nat):Prop where
 c3:w.cell? ⟨g,3,none⟩=some (.slice (some ⟨br,0,none⟩) 16 kr)
 r:∀i,i<16->yC w br (i*3) (x.r i)
 f:∀j,w.frozen? ⟨br,j,none⟩=false
 lo:B<=br/\br<w.heap.size/\br≠g
 set:∀(W:World) (i:Nat) (y:Wd),Ext w W->i<16->GOk B (dV W br (i*3) y) g (regTo x i y)
theorem GOk.regs[Inhabited uZ](h:GOk B w g x)(r16:x.regs.length=16):∃br kr,GReg B w g x br kr:=by
 obtain⟨ar,kr,ac,kc,vg,br,bc,pb,pa,pk,role,h⟩:=h;have h0:0<x.regs.length:=by omega
 refine⟨br,kr,?_,λi hi=>?_,(h.rw.nr h0).1.2,⟨(h.rw.nr h0).2,(h.rw.nr h0).1.1,λe=>?_⟩,λW i y e hi=>?_⟩
 ·have:=h.bx.2.2.2.1;rw[h.ha h0,r16] at this;exact this
 ·have:=h.rw.r i (by omega);rw[Hp.r_eq] at this;exact this
 ·have h1:=h.sp.r h0;have h2:=h.sp.g;rw[e] at h1;omega
 ·have g1:=h.ext e;exact⟨ar,kr,ac,kc,vg,br,bc,pb,pa,pk,role,g1.setr i (by omega) y (a0e _ _ _ _) (b9t (g1.rw.nr h0).1 _ _) (b0d _ _ _ _ _ (g1.rw.r i (by omega))) (λm hm=>a0z _ _ _ _ m hm)⟩
theorem GReg.ext[Inhabited uZ]{w':World}{br kr:Nat}(h:GReg B w g x br kr)(e:Ext w w'):GReg B w' g x br kr:=
 ⟨e.keep h.c3,λi hi=>(h.r i hi).ext e,λj=>((dH e).2 br j h.lo.2.1).trans (h.f j),⟨h.lo.1,Nat.lt_of_lt_of_le h.lo.2.1 e.size,h.lo.2.2⟩,λW i y e2 hi=>h.set W i y (e.trans e2) hi⟩
abbrev doW(w:World)(op a b c n:Int):World:=(w.alloc (.cells #[iv op,iv a,iv b,iv c,iv n] 39)).alloc (.cells #[iv 0,iv 0] 41)
structure zL(w W:World)(op a b c n:Int):Prop where
 a0:W.cell? ⟨w.heap.size,0,none⟩=some (iv op)
 a1:W.cell? ⟨w.heap.size,1,none⟩=some (iv a)
 a2:W.cell? ⟨w.heap.size,2,none⟩=some (iv b)
 a3:W.cell? ⟨w.heap.size,3,none⟩=some (iv c)
 a4:W.cell? ⟨w.heap.size,4,none⟩=some (iv n)
 r0:W.cell? ⟨w.heap.size+1,0,none⟩=some (iv 0)
 r1:W.cell? ⟨w.heap.size+1,1,none⟩=some (iv 0)
 rf:∀j,W.frozen? ⟨w.heap.size+1,j,none⟩=false
theorem zL.new(w:World)(op a b c n:Int):zL w (doW w op a b c n) op a b c n:=
 ⟨by simp [go_sem],by simp [go_sem],by simp [go_sem],by simp [go_sem],by simp [go_sem],by simp [go_sem],by simp [go_sem],λj=>by simp [go_sem]⟩
theorem zL.of(h:zL w W op a b c n)(e:∀q,w.heap.size<=q->q<w.heap.size+2->W'.heap[q]?=W.heap[q]?):zL w W' op a b c n:=by
 have e0:=λj=>World.cell?_of_block (a:=⟨w.heap.size,j,none⟩) (e w.heap.size (Nat.le_refl _) (by omega))
 have e1:=λj=>World.cell?_of_block (a:=⟨w.heap.size+1,j,none⟩) (e (w.heap.size+1) (by omega) (by omega))
 exact⟨(e0 0).trans h.a0,(e0 1).trans h.a1,(e0 2).trans h.a2,(e0 3).trans h.a3,(e0 4).trans h.a4,(e1 0).trans h.r0,(e1 1).trans h.r1,λj=>(World.frozen?_of_block (a:=⟨w.heap.size+1,j,none⟩) (e (w.heap.size+1) (by omega) (by omega))).trans (h.rf j)⟩
theorem zL.ext(h:zL w W op a b c n)(e:Ext W W'):zL w W' op a b c n:=by
 have l0:=uL h.a0;have l1:=uL h.r0
 exact h.of λq h1 h2=>e.block q (by
  have l0:w.heap.size<W.heap.size:=l0;have l1:w.heap.size+1<W.heap.size:=l1;omega)
theorem a7k(w:World)(op a b c n:Int):(doW w op a b c n).heap.size=w.heap.size+2:=by simp [doW]
theorem GOk.boxes{p p1:Inhabited uZ}(o:Own p w.heap.size (doW w op a b c n).heap.size (doW w op a b c n) p1)(h:@GOk p1 B W g y):zL w W op a b c n:=
 (zL.new w op a b c n).of λq h1 h2=>GOk.own o h q h1 (by rw[a7k];exact h2)
abbrev putA(W:World)(r:Nat)(cd nm:Int):World:=(W.setCell ⟨r,0,none⟩ (iv cd)).setCell ⟨r,1,none⟩ (iv nm)
theorem GOk.done{p p1:Inhabited uZ}(o:Own p w.heap.size (doW w op a b c n).heap.size (doW w op a b c n) p1)(h:@GOk p1 B W g y)(cd nm:Int):@GOk p B (putA W (w.heap.size+1) cd nm) g y:=
 GOk.leave o h (uX.setCell (uX.setCell (uX.refl _ W) (p:=⟨w.heap.size+1,0,none⟩) ⟨by show w.heap.size<=w.heap.size+1;omega,by rw[a7k];show w.heap.size+1<w.heap.size+2;omega⟩ _) (p:=⟨w.heap.size+1,1,none⟩) ⟨by show w.heap.size<=w.heap.size+1;omega,by rw[a7k];show w.heap.size+1<w.heap.size+2;omega⟩ _)
theorem GOk.doneD{p p1:Inhabited uZ}(o:Own p w.heap.size (doW w op a b c n).heap.size (doW w op a b c n) p1)(h:@GOk p1 B W g y)(cd nm:Int):@GOk p B (putA W (w.heap.size+1) cd nm).drew g y:=
 GOk.leave o h (uX.drew (uX.setCell (uX.setCell (uX.refl _ W) (p:=⟨w.heap.size+1,0,none⟩) ⟨by show w.heap.size<=w.heap.size+1;omega,by rw[a7k];show w.heap.size+1<w.heap.size+2;omega⟩ _) (p:=⟨w.heap.size+1,1,none⟩) ⟨by show w.heap.size<=w.heap.size+1;omega,by rw[a7k];show w.heap.size+1<w.heap.size+2;omega⟩ _))
theorem cV{v:World}{r:Nat}(h:Ext v W)(hr:v.heap.size<=r)(cd nm:Int):Ext v (putA W r cd nm):=(h.setCell (p:=⟨r,0,none⟩) hr _).setCell (p:=⟨r,1,none⟩) hr _
abbrev qX[Inhabited uZ](B g:Nat)(x:Hp)(a b c:Nat)(n:Int)(k:Nat)(v:World)(e:Ending)(w':World):Prop:=∃(y:Hp) (cd nm:Int),Hid (e=.returned (eK cd nm))/\Hid (DoR x a b c n y cd nm k)/\Hid (GOk B w' g y)/\Ext v w'
end Go.Proofs.YtddkhnclmeikfaaGreat
