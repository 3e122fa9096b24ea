import Derived.Test.YtddkhnclmeikfaaGreatLw
set_option maxRecDepth 100000
set_option maxHeartbeats 1000000
namespace Go.Proofs.YtddkhnclmeikfaaGreat
open Go.RowKit
attribute [local go_sem ↓] Go.wp_at_zero Go.wp_at_succ
def tU(w:World)(b o:Nat)(p:Pr):World:=(((((w.setCell ⟨b,o,none⟩ (iv p.key.k)).setCell ⟨b,o+1,none⟩ (iv p.key.n)).setCell ⟨b,o+2,none⟩ (iv p.key.a)).setCell ⟨b,o+3,none⟩ (iv p.val.k)).setCell ⟨b,o+4,none⟩ (iv p.val.n)).setCell ⟨b,o+5,none⟩ (iv p.val.a)
theorem b1z(w:World)(b o:Nat)(p q:Pr)(h:tL w b o q):tL (tU w b o p) b o p:=by
 obtain⟨h0,h1,h2,h3,h4,h5⟩:=h;unfold tU;refine⟨?_,?_,?_,?_,?_,?_⟩
 ·iterate 5 rw[uC _ (.inr (by omega))]
  exact dQ h0
 ·iterate 4 rw[uC _ (.inr (by omega))]
  refine dQ (u:=iv q.key.n) ?_;rw[uC _ (.inr (by omega))];exact h1
 ·iterate 3 rw[uC _ (.inr (by omega))]
  refine dQ (u:=iv q.key.a) ?_
  iterate 2 rw[uC _ (.inr (by omega))]
  exact h2
 ·iterate 2 rw[uC _ (.inr (by omega))]
  refine dQ (u:=iv q.val.k) ?_
  iterate 3 rw[uC _ (.inr (by omega))]
  exact h3
 ·rw[uC _ (.inr (by omega))];refine dQ (u:=iv q.val.n) ?_
  iterate 4 rw[uC _ (.inr (by omega))]
  exact h4
 ·refine dQ (u:=iv q.val.a) ?_
  iterate 5 rw[uC _ (.inr (by omega))]
  exact h5
theorem a1i(w:World)(b o:Nat)(p:Pr):uX (λq=>q=b) w (tU w b o p):=
 uX.setCell (S:=λq=>q=b) (uX.setCell (S:=λq=>q=b) (uX.setCell (S:=λq=>q=b) (uX.setCell (S:=λq=>q=b) (uX.setCell (S:=λq=>q=b) (uX.setCell (S:=λq=>q=b) (uX.refl _ w) (p:=⟨b,o,none⟩) rfl _) (p:=⟨b,o+1,none⟩) rfl _) (p:=⟨b,o+2,none⟩) rfl _) (p:=⟨b,o+3,none⟩) rfl _) (p:=⟨b,o+4,none⟩) rfl _) (p:=⟨b,o+5,none⟩) rfl _
theorem b2a{w:World}{b:Nat}(h:Nf1 b w)(o:Nat)(p:Pr):Nf1 b (tU w b o p):=(((((h.set _ _).set _ _).set _ _).set _ _).set _ _).set _ _
theorem a5y(w:World)(b o:Nat)(p:Pr)(k:Nat)(hk:k<o\/o+6<=k):(tU w b o p).cell? ⟨b,k,none⟩=w.cell? ⟨b,k,none⟩:=by
 unfold tU
 iterate 6 rw[uC _ (.inr (by omega))]
theorem pair_fr(w:World)(n:Nat)(p:Pr)(t:TypeId)(j:Nat):(a3x ((w.drewN n).alloc (.cells #[.int .i64 0,.int .i64 0,.int .i64 0,.int .i64 0,.int .i64 0,.int .i64 0] t)) w.heap.size p).frozen? ⟨w.heap.size,j,none⟩=false:=by
 unfold a3x;simp only [World.frozen?_setCell];exact a3h w n _ t j
theorem b6u[Inhabited uN](B g:Nat)(x:Hp)(w:World)(h:GOk B w g x)(n8:x.cells.length<=8000)(a:World)(ha:a.heap.size<=B)(hx:Ext a w)(i:Nat)(hi:x.hand=(i:Int))(hin:i<x.cells.length)(k:Nat)(hk:x.sub=(k:Int))(hkl:k<(x.c i).prs.length)(p2:(x.c i).prs.length<=200)(F1:uK ((x.c i).p k).key x.cells.length)(F2:uK ((x.c i).p k).val x.cells.length):
  Calls Tryz.prog 191 #[.pointer (some ⟨g,0,none⟩)] w λe w'=>e=.returned (.tuple #[])/\GOk B w' g { x with cells:=x.cells.set i (zZ x (x.c i) k),sub:=(k:Int)+1 }/\Ext a w':=by
 obtain⟨ar,kr,ac,kc,vg,br,bc,pb,pa,pk,role,h⟩:=h;have H:=uU h;have hn:0<x.cells.length:=by omega
 have c4:=h.bx.2.2.2.2.1;have c6:=h.bx.2.2.2.2.2.2.1;have c7:=h.bx.2.2.2.2.2.2.2.1;rw[h.hc hn] at c4;rw[hk] at c7;rw[hi] at c6;have p7:=h.rw.p7 i hin;rw[(h.rw.pl i hin (h.rw.pw hin (by omega))).1] at p7;obtain⟨q0,q1,q2,q3,q4,q5⟩:=h.rw.p i hin k hkl;have hgw:g<w.heap.size:=uL c4;have lo:=h.lo;have f7:=h.nf.2 7;have fp:=(h.rw.pl i hin (h.rw.pw hin (by omega))).2.1.2;have i0:(0:Int)<=(i:Int):=by omega
 have i1:(i:Int)<(x.cells.length:Int):=by omega
 have k0:(0:Int)<=(k:Int):=by omega
 have k1:(k:Int)<((x.c i).prs.length:Int):=by omega
 have zn:=λn j=>a0q w n #[.int .i64 0,.int .i64 0,.int .i64 0,.int .i64 0,.int .i64 0,.int .i64 0] 154 j
 have zf:=λn j=>a3h w n #[.int .i64 0,.int .i64 0,.int .i64 0,.int .i64 0,.int .i64 0,.int .i64 0] 154 j
 have zo:=λn o b j (h:b<w.heap.size)=>a3q w n o b j h
 have hbc:bc<w.heap.size:=uL p7;have hpb:pb i<w.heap.size:=uL q0;have ne:((i:Int) == (x.cells.length:Int))=false:=by simp;omega
 have FF:=uU (And.intro F1 F2);have HK:=uU hk;have HI:=uU hi;have NGP:=uU (show ¬g=pb i from λe=>by have h1:=h.sp.g;have h2:=h.sp.p i hin (h.rw.pw hin (by omega));rw[e] at h1;omega);clear h hi hk F1 F2;go_enter Tryz.func191,Tryz.ntmps191;go_wp2_with fail;go_quiet (fail);obtain⟨m1,rfl⟩:∃m,m=nq:=⟨_,rfl⟩;go_wp2_with fail;go_quiet (fail);go_wp2_with fail
 go_region
 all_goals
  obtain⟨W2,hW2⟩:∃W,W=a3x ((w.drewN (m1+nq+1)).alloc (.cells #[.int .i64 0,.int .i64 0,.int .i64 0,.int .i64 0,.int .i64 0,.int .i64 0] 154)) w.heap.size ((x.c i).p k):=⟨_,rfl⟩;have PB:=b1u w (m1+nq+1) ((x.c i).p k) 154;have PF:=pair_fr w (m1+nq+1) ((x.c i).p k) 154;rw[<-hW2] at PB PF;unfold a3x at hW2;rw[<-hW2];clear hW2 zn zf zo q0 q1 q2 q3 q4 q5;obtain⟨X2,y0,y1,y2,y3,y4,y5⟩:=PB;have BX:w.heap.size<W2.heap.size:=uL y0;clear c4 c6 c7 p7;go_wp2_with fail;refine(a4n ((x.c i).p k).key _ (H.ext X2) FF.1).mono ?_;rintro e w3 ⟨rfl,x3⟩;obtain⟨r1,hr1⟩:∃r,r=qJ x ((x.c i).p k).key:=⟨_,rfl⟩;have R1:=uU hr1;rw[<-hr1];have z0:=x3.keep y0;have z1:=x3.keep y1;have z2:=x3.keep y2;have z3:=x3.keep y3;have z4:=x3.keep y4;have z5:=x3.keep y5;have PF3:=λj=>((cZ x3).2 w.heap.size j BX).trans (PF j)
  have BX3:w.heap.size<w3.heap.size:=uL z0;have X3:=X2.trans x3;clear hr1 y0 y1 y2 y3 y4 y5 PF BX X2 x3;obtain⟨W4,hW4⟩:∃W,W=(((w3.setCell ⟨w.heap.size,0,none⟩ (iv r1.k)).setCell ⟨w.heap.size,1,none⟩ (iv r1.n)).setCell ⟨w.heap.size,2,none⟩ (iv r1.a)):=⟨_,rfl⟩;have X4:Ext w W4:=by rw[hW4];exact((X3.setCell (p:=⟨w.heap.size,0,none⟩) (Nat.le_refl _) _).setCell (p:=⟨w.heap.size,1,none⟩) (Nat.le_refl _) _).setCell (p:=⟨w.heap.size,2,none⟩) (Nat.le_refl _) _
  have u0:W4.cell? ⟨w.heap.size,0,none⟩=some (iv r1.k):=by rw[hW4,uC _ (.inr (by omega)),uC _ (.inr (by omega))];exact dQ z0
  have u1:W4.cell? ⟨w.heap.size,1,none⟩=some (iv r1.n):=by rw[hW4,uC _ (.inr (by omega))];exact dQ ((uC _ (.inr (by omega))).trans z1)
  have u2:W4.cell? ⟨w.heap.size,2,none⟩=some (iv r1.a):=by rw[hW4];refine dQ (u:=iv ((x.c i).p k).key.a) ?_;rw[uC _ (.inr (by omega)),uC _ (.inr (by omega))];exact z2
  have u3:W4.cell? ⟨w.heap.size,3,none⟩=some (iv ((x.c i).p k).val.k):=by rw[hW4,uC _ (.inr (by omega)),uC _ (.inr (by omega)),uC _ (.inr (by omega))];exact z3
  have u4:W4.cell? ⟨w.heap.size,4,none⟩=some (iv ((x.c i).p k).val.n):=by rw[hW4,uC _ (.inr (by omega)),uC _ (.inr (by omega)),uC _ (.inr (by omega))];exact z4
  have u5:W4.cell? ⟨w.heap.size,5,none⟩=some (iv ((x.c i).p k).val.a):=by rw[hW4,uC _ (.inr (by omega)),uC _ (.inr (by omega)),uC _ (.inr (by omega))];exact z5
  have PF4:∀j,W4.frozen? ⟨w.heap.size,j,none⟩=false:=λj=>by rw[hW4];simp only [World.frozen?_setCell];exact PF3 j
  have BX4:w.heap.size<W4.heap.size:=uL u0;go_wp2_with fail;rw[<-hW4];clear hW4 z0 z1 z2 z3 z4 z5 PF3 BX3 X3;refine(a4n ((x.c i).p k).val _ (H.ext X4) FF.2).mono ?_;rintro e w5 ⟨rfl,x5⟩;obtain⟨r2,hr2⟩:∃r,r=qJ x ((x.c i).p k).val:=⟨_,rfl⟩;have R2:=uU hr2;rw[<-hr2];have t0:=x5.keep u0;have t1:=x5.keep u1;have t2:=x5.keep u2;have t3:=x5.keep u3;have t4:=x5.keep u4;have t5:=x5.keep u5;have PF5:=λj=>((cZ x5).2 w.heap.size j BX4).trans (PF4 j)
  have BX5:w.heap.size<w5.heap.size:=uL t0;have X5:=X4.trans x5;have H5:=uU (H.ext X5);have c4:=H5.bx.2.2.2.2.1;have c6:=H5.bx.2.2.2.2.2.2.1;have c7:=H5.bx.2.2.2.2.2.2.2.1;rw[H.hc hn] at c4;rw[uH HK] at c7;rw[uH HI] at c6;have p7:=H5.rw.p7 i hin;rw[(H.rw.pl i hin (H.rw.pw hin (by omega))).1] at p7;obtain⟨q0,q1,q2,q3,q4,q5⟩:=H5.rw.p i hin k hkl;have g7:=H5.nf.2 7;have gp:=(H5.rw.pl i hin (H5.rw.pw hin (by omega))).2.1.2;have ngp:¬g=pb i:=uH NGP;have npg:¬pb i=g:=λe=>uH NGP e.symm
  clear hr2 u0 u1 u2 u3 u4 u5 PF4 BX4 X4 x5 f7 fp;obtain⟨W6,hW6⟩:∃W,W=(((w5.setCell ⟨w.heap.size,3,none⟩ (iv r2.k)).setCell ⟨w.heap.size,4,none⟩ (iv r2.n)).setCell ⟨w.heap.size,5,none⟩ (iv r2.a)):=⟨_,rfl⟩;have X6:Ext w W6:=by rw[hW6];exact((X5.setCell (p:=⟨w.heap.size,3,none⟩) (Nat.le_refl _) _).setCell (p:=⟨w.heap.size,4,none⟩) (Nat.le_refl _) _).setCell (p:=⟨w.heap.size,5,none⟩) (Nat.le_refl _) _
  have v0:W6.cell? ⟨w.heap.size,0,none⟩=some (iv r1.k):=by rw[hW6,uC _ (.inr (by omega)),uC _ (.inr (by omega)),uC _ (.inr (by omega))];exact t0
  have v1:W6.cell? ⟨w.heap.size,1,none⟩=some (iv r1.n):=by rw[hW6,uC _ (.inr (by omega)),uC _ (.inr (by omega)),uC _ (.inr (by omega))];exact t1
  have v2:W6.cell? ⟨w.heap.size,2,none⟩=some (iv r1.a):=by rw[hW6,uC _ (.inr (by omega)),uC _ (.inr (by omega)),uC _ (.inr (by omega))];exact t2
  have v3:W6.cell? ⟨w.heap.size,3,none⟩=some (iv r2.k):=by rw[hW6,uC _ (.inr (by omega)),uC _ (.inr (by omega))];exact dQ t3
  have v4:W6.cell? ⟨w.heap.size,4,none⟩=some (iv r2.n):=by rw[hW6,uC _ (.inr (by omega))];exact dQ ((uC _ (.inr (by omega))).trans t4)
  have v5:W6.cell? ⟨w.heap.size,5,none⟩=some (iv r2.a):=by rw[hW6];refine dQ (u:=iv ((x.c i).p k).val.a) ?_;rw[uC _ (.inr (by omega)),uC _ (.inr (by omega))];exact t5
  go_wp2_with fail;rw[<-hW6];clear hW6 t0 t1 t2 t3 t4 t5 PF5 BX5 X5 H5 c4 c6 c7 p7 q0 q1 q2 q3 q4 q5 g7 gp;have H6:=uU (H.ext X6);have c4:=H6.bx.2.2.2.2.1;have c6:=H6.bx.2.2.2.2.2.2.1;have c7:=H6.bx.2.2.2.2.2.2.2.1;rw[H.hc hn] at c4;rw[uH HK] at c7;rw[uH HI] at c6;have p7:=H6.rw.p7 i hin;rw[(H.rw.pl i hin (H.rw.pw hin (by omega))).1] at p7;obtain⟨q0,q1,q2,q3,q4,q5⟩:=H6.rw.p i hin k hkl;have g7:=H6.nf.2 7;have gp:=(H6.rw.pl i hin (H6.rw.pw hin (by omega))).2.1.2;have n1:¬w.heap.size=pb i:=by omega
  have n2:¬pb i=w.heap.size:=by omega
  have n3:¬w.heap.size=g:=by omega
  have n4:¬g=w.heap.size:=by omega
  have FN:=uU (show GOk B (((tU W6 (pb i) (k*6) ⟨r1,r2⟩).setCell ⟨g,7,none⟩ (iv ((k:Int)+1))).drew) g { x with cells:=x.cells.set i (zZ x (x.c i) k),sub:=(k:Int)+1 }/\Ext a (((tU W6 (pb i) (k*6) ⟨r1,r2⟩).setCell ⟨g,7,none⟩ (iv ((k:Int)+1))).drew) by
   have g1:=H6.setp i hin k hkl ⟨r1,r2⟩ (a1i W6 (pb i) (k*6) ⟨r1,r2⟩) (b2a (H6.rw.pl i hin (H6.rw.pw hin (by omega))).2.1.n1 _ _) (b1z W6 (pb i) (k*6) ⟨r1,r2⟩ _ (H6.rw.p i hin k hkl)) (λj hj=>a5y W6 (pb i) (k*6) ⟨r1,r2⟩ j hj);have e:({ x.c i with prs:=(x.c i).prs.set k ⟨r1,r2⟩ }:Cl)=zZ x (x.c i) k:=by unfold zZ;rw[uH R1,uH R2]
   rw[e] at g1;have g2:GOk B (tU W6 (pb i) (k*6) ⟨r1,r2⟩) g { x with cells:=x.cells.set i (zZ x (x.c i) k) }:=⟨_,_,_,_,_,_,_,_,_,_,_,g1⟩;refine⟨(g2.set7 ((k:Int)+1)).ext (Ext.refl _).drew,?_⟩;have hpB:=(H6.rw.pl i hin (H6.rw.pw hin (by omega))).2.2.2;exact((((a1i W6 (pb i) (k*6) ⟨r1,r2⟩).ext (hx.trans X6) (λq hq e=>by omega)).setCell (p:=⟨g,7,none⟩) (show a.heap.size<=g by omega) _)).drew)
  unfold tU at FN
  go_region
  all_goals
   go_wp2_with fail
   try simp only [Exit.inBlock,Exit.then]
   refine bodyPost_ret (results_none rfl _ _ _) rfl ?_;exact⟨rfl,FN.1,FN.2⟩
theorem b9j[Inhabited uN](B g:Nat)(x:Hp)(w:World)(h:GOk B w g x)(s:Snd x)(hp:x.phase=5)(a:World)(ha:a.heap.size<=B)(hx:Ext a w):
  Calls Tryz.prog 191 #[.pointer (some ⟨g,0,none⟩)] w λe w'=>e=.returned (.tuple #[])/\GOk B w' g (eK x)/\Ext a w':=by
 have hO:=h;obtain⟨ar,kr,ac,kc,vg,br,bc,pb,pa,pk,role,h⟩:=h;have HO:=uU hO;have c4:=h.bx.2.2.2.2.1;have c6:=h.bx.2.2.2.2.2.2.1;have c7:=h.bx.2.2.2.2.2.2.2.1;have hgw:g<w.heap.size:=uL c4;have lo:=h.lo;have n8:=s.ok.n8;have hh:=s.r1.hand;have hs:=s.r1.sub;by_cases he:x.hand=x.cells.length
 ·have E:=uU (show eK x=dD x 6 x.cells.length by unfold eK;rw[if_pos he]);have heb:(x.hand == (x.cells.length:Int))=true:=by simpa using he
  clear he h hO s;go_enter Tryz.func191,Tryz.ntmps191;go_wp2_with fail;go_quiet (fail);go_wp2_with fail;refine(a0y B g x 6 x.cells.length _ (HO.ext ((Ext.refl w).drewN _)) a ha (hx.drewN _)).mono ?_;rintro e w2 ⟨rfl,h2,x2⟩;have H2:=uU h2;clear h2;go_wp2_with fail
  try simp only [Exit.inBlock,Exit.then]
  refine bodyPost_ret (results_none rfl _ _ _) rfl ?_;exact⟨rfl,by rw[uH E];exact uH H2,x2⟩
 ·obtain⟨i,hi⟩:∃i:Nat,x.hand=(i:Int):=⟨x.hand.toNat,by omega⟩;have hin:i<x.cells.length:=by omega
  have ei:x.hand.toNat=i:=by omega
  obtain⟨k,hk⟩:∃k:Nat,x.sub=(k:Int):=⟨x.sub.toNat,by omega⟩;have ek:x.sub.toNat=k:=by omega
  have hp2:=s.ok.p200 i hin;by_cases hl:k<(x.c i).prs.length
  ·have E:eK x={ x with cells:=x.cells.set i (zZ x (x.c i) k),sub:=(k:Int)+1 }:=by
    unfold eK;rw[if_neg he,ei,if_pos (by omega),ek,hk]
   have nd:¬cU x i:=λd=>by have:=d.1;omega
   have P:=((s.r4.2 i hin).2 k hl).2 nd;rw[E];exact b6u B g x w hO n8 a ha hx i hi hin k hk hl hp2 P.1.1 P.2.1
  ·have E:=uU (show eK x={ x with hand:=x.hand+1,sub:=0 } by
    unfold eK;rw[if_neg he,ei,if_neg (by omega)])
   have heb:(x.hand == (x.cells.length:Int))=false:=by simpa using he
   have hn:0<x.cells.length:=by omega
   rw[h.hc hn] at c4;have p7:=h.rw.p7 i hin;have hbc:bc<w.heap.size:=uL p7;have f6:=h.nf.2 6;have f7:=h.nf.2 7;rw[hi] at heb c6;rw[hk] at c7;have i0:(0:Int)<=(i:Int):=by omega
   have i1:(i:Int)<(x.cells.length:Int):=by omega
   have k1:¬(k:Int)<((x.c i).prs.length:Int):=by omega
   have FN:=uU (show ∀n,GOk B (((w.drewN n).setCell ⟨g,6,none⟩ (iv ((i:Int)+1))).setCell ⟨g,7,none⟩ (iv 0)) g { x with hand:=(i:Int)+1,sub:=0 }/\Ext a (((w.drewN n).setCell ⟨g,6,none⟩ (iv ((i:Int)+1))).setCell ⟨g,7,none⟩ (iv 0)) from λn=>⟨((hO.ext ((Ext.refl w).drewN n)).set6 _).set7 0,((hx.drewN n).setCell (p:=⟨g,6,none⟩) (show a.heap.size<=g by omega) _).setCell (p:=⟨g,7,none⟩) (show a.heap.size<=g by omega) _⟩);rw[hi] at E;clear he h hO s hi hk ei ek hl hh hs;go_enter Tryz.func191,Tryz.ntmps191;go_wp2_with fail;go_quiet (fail);obtain⟨m1,rfl⟩:∃m,m=nq:=⟨_,rfl⟩;go_wp2_with fail;go_quiet (fail);go_wp2_with fail
   go_end0
   exact⟨rfl,by rw[uH E];exact(FN _).1,(FN _).2⟩
end Go.Proofs.YtddkhnclmeikfaaGreat
