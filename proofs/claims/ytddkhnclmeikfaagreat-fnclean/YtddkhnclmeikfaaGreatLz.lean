import Derived.Test.YtddkhnclmeikfaaGreatLv
set_option maxRecDepth 100000
set_option maxHeartbeats 1000000
namespace Go.Proofs.YtddkhnclmeikfaaGreat
open Go.RowKit
attribute [local go_sem ↓] Go.wp_at_zero Go.wp_at_succ
def tH(w:World)(b o:Nat)(p:Pr):World:=(((((w.setCell ⟨b,o,none⟩ (iv p.key.k)).setCell ⟨b,o+1,none⟩ (iv p.key.n)).setCell ⟨b,o+2,none⟩ (iv p.key.a)).setCell ⟨b,o+3,none⟩ (iv p.val.k)).setCell ⟨b,o+4,none⟩ (iv p.val.n)).setCell ⟨b,o+5,none⟩ (iv p.val.a)
theorem b2x(w:World)(b o:Nat)(p q:Pr)(h:tQ w b o q):tQ (tH w b o p) b o p:=by
 obtain⟨h0,h1,h2,h3,h4,h5⟩:=h;unfold tH;refine⟨?_,?_,?_,?_,?_,?_⟩
 ·iterate 5 rw[uC _ (.inr (by omega))]
  exact dX h0
 ·iterate 4 rw[uC _ (.inr (by omega))]
  refine dX (u:=iv q.key.n) ?_;rw[uC _ (.inr (by omega))];exact h1
 ·iterate 3 rw[uC _ (.inr (by omega))]
  refine dX (u:=iv q.key.a) ?_
  iterate 2 rw[uC _ (.inr (by omega))]
  exact h2
 ·iterate 2 rw[uC _ (.inr (by omega))]
  refine dX (u:=iv q.val.k) ?_
  iterate 3 rw[uC _ (.inr (by omega))]
  exact h3
 ·rw[uC _ (.inr (by omega))];refine dX (u:=iv q.val.n) ?_
  iterate 4 rw[uC _ (.inr (by omega))]
  exact h4
 ·refine dX (u:=iv q.val.a) ?_
  iterate 5 rw[uC _ (.inr (by omega))]
  exact h5
theorem a1o(w:World)(b o:Nat)(p:Pr):uZ (λq=>q=b) w (tH w b o p):=
 uZ.setCell (S:=λq=>q=b) (uZ.setCell (S:=λq=>q=b) (uZ.setCell (S:=λq=>q=b) (uZ.setCell (S:=λq=>q=b) (uZ.setCell (S:=λq=>q=b) (uZ.setCell (S:=λq=>q=b) (uZ.refl _ w) (p:=⟨b,o,none⟩) rfl _) (p:=⟨b,o+1,none⟩) rfl _) (p:=⟨b,o+2,none⟩) rfl _) (p:=⟨b,o+3,none⟩) rfl _) (p:=⟨b,o+4,none⟩) rfl _) (p:=⟨b,o+5,none⟩) rfl _
theorem b2y{w:World}{b:Nat}(h:Nf1 b w)(o:Nat)(p:Pr):Nf1 b (tH w b o p):=(((((h.set _ _).set _ _).set _ _).set _ _).set _ _).set _ _
theorem a6h(w:World)(b o:Nat)(p:Pr)(k:Nat)(hk:k<o\/o+6<=k):(tH w b o p).cell? ⟨b,k,none⟩=w.cell? ⟨b,k,none⟩:=by
 unfold tH
 iterate 6 rw[uC _ (.inr (by omega))]
theorem pair_fr(w:World)(n:Nat)(p:Pr)(t:TypeId)(j:Nat):(a4d ((w.drewN n).alloc (.cells #[.int .i64 0,.int .i64 0,.int .i64 0,.int .i64 0,.int .i64 0,.int .i64 0] t)) w.heap.size p).frozen? ⟨w.heap.size,j,none⟩=false:=by
 unfold a4d;simp only [World.frozen?_setCell];exact a3k w n _ t j
theorem b8n[Inhabited uQ](B g:Nat)(x:Hp)(w:World)(h:GOk B w g x)(n8:x.A.length<=8000)(a:World)(ha:a.heap.size<=B)(hx:Ext a w)(i:Nat)(hi:x.I=(i:Int))(hin:i<x.A.length)(k:Nat)(hk:x.sub=(k:Int))(hkl:k<(x.c i).F.length)(p2:(x.c i).F.length<=200)(F1:uE ((x.c i).p k).key x.A.length)(F2:uE ((x.c i).p k).val x.A.length):
  Calls Tryz.prog 191 #[.pointer (some ⟨g,0,none⟩)] w λe w'=>e=.returned (.tuple #[])/\GOk B w' g { x with A:=x.A.set i (qD x (x.c i) k),sub:=(k:Int)+1 }/\Ext a w':=by
 obtain⟨ar,kr,ac,kc,vg,br,bc,pb,pa,pk,role,h⟩:=h;have H:=uU h;have hn:0<x.A.length:=by omega
 have c4:=h.bx.2.2.2.2.1;have c6:=h.bx.2.2.2.2.2.2.1;have c7:=h.bx.2.2.2.2.2.2.2.1;rw[h.hc hn] at c4;rw[hk] at c7;rw[hi] at c6;have p7:=h.rw.p7 i hin;rw[(h.rw.pl i hin (h.rw.pw hin (by omega))).1] at p7;obtain⟨q0,q1,q2,q3,q4,q5⟩:=h.rw.p i hin k hkl;have hgw:g<w.heap.size:=uL c4;have lo:=h.lo;have f7:=h.nf.2 7;have fp:=(h.rw.pl i hin (h.rw.pw hin (by omega))).2.1.2;have i0:(0:Int)<=(i:Int):=by omega
 have i1:(i:Int)<(x.A.length:Int):=by omega
 have k0:(0:Int)<=(k:Int):=by omega
 have k1:(k:Int)<((x.c i).F.length:Int):=by omega
 have zn:=λn j=>a0p w n #[.int .i64 0,.int .i64 0,.int .i64 0,.int .i64 0,.int .i64 0,.int .i64 0] 154 j
 have zf:=λn j=>a3k w n #[.int .i64 0,.int .i64 0,.int .i64 0,.int .i64 0,.int .i64 0,.int .i64 0] 154 j
 have zo:=λn o b j (h:b<w.heap.size)=>a3w w n o b j h
 have hbc:bc<w.heap.size:=uL p7;have hpb:pb i<w.heap.size:=uL q0;have ne:((i:Int) == (x.A.length:Int))=false:=by simp;omega
 have FF:=uU (And.intro F1 F2);have HK:=uU hk;have HI:=uU hi;have NGP:=uU (show ¬g=pb i from λe=>by have h1:=h.sp.g;have h2:=h.sp.p i hin (h.rw.pw hin (by omega));rw[e] at h1;omega);clear h hi hk F1 F2;go_enter Tryz.func191,Tryz.ntmps191;go_wp2_with fail;go_quiet (fail);obtain⟨m1,rfl⟩:∃m,m=nq:=⟨_,rfl⟩;go_wp2_with fail;go_quiet (fail);go_wp2_with fail
 go_region
 all_goals
  obtain⟨W2,hW2⟩:∃W,W=a4d ((w.drewN (m1+nq+1)).alloc (.cells #[.int .i64 0,.int .i64 0,.int .i64 0,.int .i64 0,.int .i64 0,.int .i64 0] 154)) w.heap.size ((x.c i).p k):=⟨_,rfl⟩;have PB:=b2s w (m1+nq+1) ((x.c i).p k) 154;have PF:=pair_fr w (m1+nq+1) ((x.c i).p k) 154;rw[<-hW2] at PB PF;unfold a4d at hW2;rw[<-hW2];clear hW2 zn zf zo q0 q1 q2 q3 q4 q5;obtain⟨X2,y0,y1,y2,y3,y4,y5⟩:=PB;have BX:w.heap.size<W2.heap.size:=uL y0;clear c4 c6 c7 p7;go_wp2_with fail;refine(a4q ((x.c i).p k).key _ (H.ext X2) FF.1).mono ?_;rintro e w3 ⟨rfl,x3⟩;obtain⟨r1,hr1⟩:∃r,r=qX x ((x.c i).p k).key:=⟨_,rfl⟩;have R1:=uU hr1;rw[<-hr1];have z0:=x3.keep y0;have z1:=x3.keep y1;have z2:=x3.keep y2;have z3:=x3.keep y3;have z4:=x3.keep y4;have z5:=x3.keep y5;have PF3:=λj=>((cD x3).2 w.heap.size j BX).trans (PF j)
  have BX3:w.heap.size<w3.heap.size:=uL z0;have X3:=X2.trans x3;clear hr1 y0 y1 y2 y3 y4 y5 PF BX X2 x3;obtain⟨W4,hW4⟩:∃W,W=(((w3.setCell ⟨w.heap.size,0,none⟩ (iv r1.k)).setCell ⟨w.heap.size,1,none⟩ (iv r1.n)).setCell ⟨w.heap.size,2,none⟩ (iv r1.a)):=⟨_,rfl⟩;have X4:Ext w W4:=by rw[hW4];exact((X3.setCell (p:=⟨w.heap.size,0,none⟩) (Nat.le_refl _) _).setCell (p:=⟨w.heap.size,1,none⟩) (Nat.le_refl _) _).setCell (p:=⟨w.heap.size,2,none⟩) (Nat.le_refl _) _
  have u0:W4.cell? ⟨w.heap.size,0,none⟩=some (iv r1.k):=by rw[hW4,uC _ (.inr (by omega)),uC _ (.inr (by omega))];exact dX z0
  have u1:W4.cell? ⟨w.heap.size,1,none⟩=some (iv r1.n):=by rw[hW4,uC _ (.inr (by omega))];exact dX ((uC _ (.inr (by omega))).trans z1)
  have u2:W4.cell? ⟨w.heap.size,2,none⟩=some (iv r1.a):=by rw[hW4];refine dX (u:=iv ((x.c i).p k).key.a) ?_;rw[uC _ (.inr (by omega)),uC _ (.inr (by omega))];exact z2
  have u3:W4.cell? ⟨w.heap.size,3,none⟩=some (iv ((x.c i).p k).val.k):=by rw[hW4,uC _ (.inr (by omega)),uC _ (.inr (by omega)),uC _ (.inr (by omega))];exact z3
  have u4:W4.cell? ⟨w.heap.size,4,none⟩=some (iv ((x.c i).p k).val.n):=by rw[hW4,uC _ (.inr (by omega)),uC _ (.inr (by omega)),uC _ (.inr (by omega))];exact z4
  have u5:W4.cell? ⟨w.heap.size,5,none⟩=some (iv ((x.c i).p k).val.a):=by rw[hW4,uC _ (.inr (by omega)),uC _ (.inr (by omega)),uC _ (.inr (by omega))];exact z5
  have PF4:∀j,W4.frozen? ⟨w.heap.size,j,none⟩=false:=λj=>by rw[hW4];simp only [World.frozen?_setCell];exact PF3 j
  have BX4:w.heap.size<W4.heap.size:=uL u0;go_wp2_with fail;rw[<-hW4];clear hW4 z0 z1 z2 z3 z4 z5 PF3 BX3 X3;refine(a4q ((x.c i).p k).val _ (H.ext X4) FF.2).mono ?_;rintro e w5 ⟨rfl,x5⟩;obtain⟨r2,hr2⟩:∃r,r=qX x ((x.c i).p k).val:=⟨_,rfl⟩;have R2:=uU hr2;rw[<-hr2];have t0:=x5.keep u0;have t1:=x5.keep u1;have t2:=x5.keep u2;have t3:=x5.keep u3;have t4:=x5.keep u4;have t5:=x5.keep u5;have PF5:=λj=>((cD x5).2 w.heap.size j BX4).trans (PF4 j)
  have BX5:w.heap.size<w5.heap.size:=uL t0;have X5:=X4.trans x5;have H5:=uU (H.ext X5);have c4:=H5.bx.2.2.2.2.1;have c6:=H5.bx.2.2.2.2.2.2.1;have c7:=H5.bx.2.2.2.2.2.2.2.1;rw[H.hc hn] at c4;rw[uH HK] at c7;rw[uH HI] at c6;have p7:=H5.rw.p7 i hin;rw[(H.rw.pl i hin (H.rw.pw hin (by omega))).1] at p7;obtain⟨q0,q1,q2,q3,q4,q5⟩:=H5.rw.p i hin k hkl;have g7:=H5.nf.2 7;have gp:=(H5.rw.pl i hin (H5.rw.pw hin (by omega))).2.1.2;have ngp:¬g=pb i:=uH NGP;have npg:¬pb i=g:=λe=>uH NGP e.symm
  clear hr2 u0 u1 u2 u3 u4 u5 PF4 BX4 X4 x5 f7 fp;obtain⟨W6,hW6⟩:∃W,W=(((w5.setCell ⟨w.heap.size,3,none⟩ (iv r2.k)).setCell ⟨w.heap.size,4,none⟩ (iv r2.n)).setCell ⟨w.heap.size,5,none⟩ (iv r2.a)):=⟨_,rfl⟩;have X6:Ext w W6:=by rw[hW6];exact((X5.setCell (p:=⟨w.heap.size,3,none⟩) (Nat.le_refl _) _).setCell (p:=⟨w.heap.size,4,none⟩) (Nat.le_refl _) _).setCell (p:=⟨w.heap.size,5,none⟩) (Nat.le_refl _) _
  have v0:W6.cell? ⟨w.heap.size,0,none⟩=some (iv r1.k):=by rw[hW6,uC _ (.inr (by omega)),uC _ (.inr (by omega)),uC _ (.inr (by omega))];exact t0
  have v1:W6.cell? ⟨w.heap.size,1,none⟩=some (iv r1.n):=by rw[hW6,uC _ (.inr (by omega)),uC _ (.inr (by omega)),uC _ (.inr (by omega))];exact t1
  have v2:W6.cell? ⟨w.heap.size,2,none⟩=some (iv r1.a):=by rw[hW6,uC _ (.inr (by omega)),uC _ (.inr (by omega)),uC _ (.inr (by omega))];exact t2
  have v3:W6.cell? ⟨w.heap.size,3,none⟩=some (iv r2.k):=by rw[hW6,uC _ (.inr (by omega)),uC _ (.inr (by omega))];exact dX t3
  have v4:W6.cell? ⟨w.heap.size,4,none⟩=some (iv r2.n):=by rw[hW6,uC _ (.inr (by omega))];exact dX ((uC _ (.inr (by omega))).trans t4)
  have v5:W6.cell? ⟨w.heap.size,5,none⟩=some (iv r2.a):=by rw[hW6];refine dX (u:=iv ((x.c i).p k).val.a) ?_;rw[uC _ (.inr (by omega)),uC _ (.inr (by omega))];exact t5
  go_wp2_with fail;rw[<-hW6];clear hW6 t0 t1 t2 t3 t4 t5 PF5 BX5 X5 H5 c4 c6 c7 p7 q0 q1 q2 q3 q4 q5 g7 gp;have H6:=uU (H.ext X6);have c4:=H6.bx.2.2.2.2.1;have c6:=H6.bx.2.2.2.2.2.2.1;have c7:=H6.bx.2.2.2.2.2.2.2.1;rw[H.hc hn] at c4;rw[uH HK] at c7;rw[uH HI] at c6;have p7:=H6.rw.p7 i hin;rw[(H.rw.pl i hin (H.rw.pw hin (by omega))).1] at p7;obtain⟨q0,q1,q2,q3,q4,q5⟩:=H6.rw.p i hin k hkl;have g7:=H6.nf.2 7;have gp:=(H6.rw.pl i hin (H6.rw.pw hin (by omega))).2.1.2;have n1:¬w.heap.size=pb i:=by omega
  have n2:¬pb i=w.heap.size:=by omega
  have n3:¬w.heap.size=g:=by omega
  have n4:¬g=w.heap.size:=by omega
  have FN:=uU (show GOk B (((tH W6 (pb i) (k*6) ⟨r1,r2⟩).setCell ⟨g,7,none⟩ (iv ((k:Int)+1))).drew) g { x with A:=x.A.set i (qD x (x.c i) k),sub:=(k:Int)+1 }/\Ext a (((tH W6 (pb i) (k*6) ⟨r1,r2⟩).setCell ⟨g,7,none⟩ (iv ((k:Int)+1))).drew) by
   have g1:=H6.setp i hin k hkl ⟨r1,r2⟩ (a1o W6 (pb i) (k*6) ⟨r1,r2⟩) (b2y (H6.rw.pl i hin (H6.rw.pw hin (by omega))).2.1.n1 _ _) (b2x W6 (pb i) (k*6) ⟨r1,r2⟩ _ (H6.rw.p i hin k hkl)) (λj hj=>a6h W6 (pb i) (k*6) ⟨r1,r2⟩ j hj);have e:({ x.c i with F:=(x.c i).F.set k ⟨r1,r2⟩ }:Cl)=qD x (x.c i) k:=by unfold qD;rw[uH R1,uH R2]
   rw[e] at g1;have g2:GOk B (tH W6 (pb i) (k*6) ⟨r1,r2⟩) g { x with A:=x.A.set i (qD x (x.c i) k) }:=⟨_,_,_,_,_,_,_,_,_,_,_,g1⟩;refine⟨(g2.set7 ((k:Int)+1)).ext (Ext.refl _).drew,?_⟩;have hpB:=(H6.rw.pl i hin (H6.rw.pw hin (by omega))).2.2.2;exact((((a1o W6 (pb i) (k*6) ⟨r1,r2⟩).ext (hx.trans X6) (λq hq e=>by omega)).setCell (p:=⟨g,7,none⟩) (show a.heap.size<=g by omega) _)).drew)
  unfold tH at FN
  go_region
  all_goals
   go_wp2_with fail
   try simp only [Exit.inBlock,Exit.then]
   refine bodyPost_ret (results_none rfl _ _ _) rfl ?_;exact⟨rfl,FN.1,FN.2⟩
theorem c1i[Inhabited uQ](B g:Nat)(x:Hp)(w:World)(h:GOk B w g x)(s:Snd x)(hp:x.E=5)(a:World)(ha:a.heap.size<=B)(hx:Ext a w):
  Calls Tryz.prog 191 #[.pointer (some ⟨g,0,none⟩)] w λe w'=>e=.returned (.tuple #[])/\GOk B w' g (eH x)/\Ext a w':=by
 have hO:=h;obtain⟨ar,kr,ac,kc,vg,br,bc,pb,pa,pk,role,h⟩:=h;have HO:=uU hO;have c4:=h.bx.2.2.2.2.1;have c6:=h.bx.2.2.2.2.2.2.1;have c7:=h.bx.2.2.2.2.2.2.2.1;have hgw:g<w.heap.size:=uL c4;have lo:=h.lo;have n8:=s.ok.n8;have hh:=s.r1.I;have hs:=s.r1.sub;by_cases he:x.I=x.A.length
 ·have E:=uU (show eH x=dN x 6 x.A.length by unfold eH;rw[if_pos he]);have heb:(x.I == (x.A.length:Int))=true:=by simpa using he
  clear he h hO s;go_enter Tryz.func191,Tryz.ntmps191;go_wp2_with fail;go_quiet (fail);go_wp2_with fail;refine(a1a B g x 6 x.A.length _ (HO.ext ((Ext.refl w).drewN _)) a ha (hx.drewN _)).mono ?_;rintro e w2 ⟨rfl,h2,x2⟩;have H2:=uU h2;clear h2;go_wp2_with fail
  try simp only [Exit.inBlock,Exit.then]
  refine bodyPost_ret (results_none rfl _ _ _) rfl ?_;exact⟨rfl,by rw[uH E];exact uH H2,x2⟩
 ·obtain⟨i,hi⟩:∃i:Nat,x.I=(i:Int):=⟨x.I.toNat,by omega⟩;have hin:i<x.A.length:=by omega
  have ei:x.I.toNat=i:=by omega
  obtain⟨k,hk⟩:∃k:Nat,x.sub=(k:Int):=⟨x.sub.toNat,by omega⟩;have ek:x.sub.toNat=k:=by omega
  have hp2:=s.ok.p200 i hin;by_cases hl:k<(x.c i).F.length
  ·have E:eH x={ x with A:=x.A.set i (qD x (x.c i) k),sub:=(k:Int)+1 }:=by
    unfold eH;rw[if_neg he,ei,if_pos (by omega),ek,hk]
   have nd:¬hY x i:=λd=>by have:=d.1;omega
   have P:=((s.r4.2 i hin).2 k hl).2 nd;rw[E];exact b8n B g x w hO n8 a ha hx i hi hin k hk hl hp2 P.1.1 P.2.1
  ·have E:=uU (show eH x={ x with I:=x.I+1,sub:=0 } by
    unfold eH;rw[if_neg he,ei,if_neg (by omega)])
   have heb:(x.I == (x.A.length:Int))=false:=by simpa using he
   have hn:0<x.A.length:=by omega
   rw[h.hc hn] at c4;have p7:=h.rw.p7 i hin;have hbc:bc<w.heap.size:=uL p7;have f6:=h.nf.2 6;have f7:=h.nf.2 7;rw[hi] at heb c6;rw[hk] at c7;have i0:(0:Int)<=(i:Int):=by omega
   have i1:(i:Int)<(x.A.length:Int):=by omega
   have k1:¬(k:Int)<((x.c i).F.length:Int):=by omega
   have FN:=uU (show ∀n,GOk B (((w.drewN n).setCell ⟨g,6,none⟩ (iv ((i:Int)+1))).setCell ⟨g,7,none⟩ (iv 0)) g { x with I:=(i:Int)+1,sub:=0 }/\Ext a (((w.drewN n).setCell ⟨g,6,none⟩ (iv ((i:Int)+1))).setCell ⟨g,7,none⟩ (iv 0)) from λn=>⟨((hO.ext ((Ext.refl w).drewN n)).set6 _).set7 0,((hx.drewN n).setCell (p:=⟨g,6,none⟩) (show a.heap.size<=g by omega) _).setCell (p:=⟨g,7,none⟩) (show a.heap.size<=g by omega) _⟩);rw[hi] at E;clear he h hO s hi hk ei ek hl hh hs;go_enter Tryz.func191,Tryz.ntmps191;go_wp2_with fail;go_quiet (fail);obtain⟨m1,rfl⟩:∃m,m=nq:=⟨_,rfl⟩;go_wp2_with fail;go_quiet (fail);go_wp2_with fail
   go_end0
   exact⟨rfl,by rw[uH E];exact(FN _).1,(FN _).2⟩
theorem b6i[Inhabited uQ](B g:Nat)(x:Hp)(w:World)(h:GOk B w g x)(s:Snd x)(a:World)(ha:a.heap.size<=B)(hx:Ext a w)(i:Nat)(G:List Int)(hg:x.D=(i:Int)::G)(hin:i<x.A.length)(hks:¬x.sub<((x.c i).F.length:Int)):
  Calls Tryz.prog 188 #[.pointer (some ⟨g,0,none⟩)] w λe w'=>e=.returned (.tuple #[])/\GOk B w' g { x with A:=x.A.set i (qV (x.c i)),D:=G,sub:=0 }/\Ext a w':=by
 obtain⟨ar,kr,ac,kc,vg,br,bc,pb,pa,pk,role,h⟩:=h;obtain⟨ag,kg,rfl⟩:=h.gr.form;have lg:x.D.length=G.length+1:=by rw[hg];rfl
 have hn:0<x.A.length:=by omega
 have c4:=h.bx.2.2.2.2.1;have c7:=h.bx.2.2.2.2.2.2.2.1;have c8:=h.bx.2.2.2.2.2.2.2.2.1;obtain⟨gb,go,hag,hg0,_⟩:=h.gr.at 0 (by rw[hg];simp);have eg:x.D[0]'(by rw[hg];simp)=(i:Int):=by simp [hg]
 rw[eg] at hg0;simp only [Nat.add_zero] at hg0;rw[h.hc hn] at c4;rw[hag,lg] at c8 h;have H:=uU h;have p5:=(h.rw.s i hin).2.2.2.2.2.1;have p7:=h.rw.p7 i hin;have hgw:g<w.heap.size:=uL c4;have lo:=h.lo;have n8:=s.ok.n8;have gl8:G.length<=8000:=by have:=s.r1.D;omega
 have f7:=h.nf.2 7;have f8:=h.nf.2 8;have f5:=(h.rw.nc hn).1.2 (i*8+5);have i0:(0:Int)<=(i:Int):=by omega
 have i1:(i:Int)<(x.A.length:Int):=by omega
 have g1:(0:Int)<(G.length:Int)+1:=by omega
 have g2:(1:Int)<=(G.length:Int)+1:=by omega
 have hbc:bc<w.heap.size:=uL p7;have NGC:=uU (show ¬g=bc from λe=>by have h1:=h.sp.g;have h2:=h.sp.c hn;rw[e] at h1;omega);have ngc:¬g=bc:=uH NGC;have ncg:¬bc=g:=λe=>uH NGC e.symm
 have HG:=uU hg;have hbB:=(h.rw.nc hn).2
 have FIN:=uU (show ∀n v',(∀W,Ext w W->Grw W B v' G)->v'.ownBlock=some gb->GOk B ((((w.drewN n).setCell ⟨bc,i*8+5,none⟩ (iv 2)).setCell ⟨g,8,none⟩ v').setCell ⟨g,7,none⟩ (iv 0)) g { x with A:=x.A.set i (qV (x.c i)),D:=G,sub:=0 }/\Ext a ((((w.drewN n).setCell ⟨bc,i*8+5,none⟩ (iv 2)).setCell ⟨g,8,none⟩ v').setCell ⟨g,7,none⟩ (iv 0)) from λn v' hv ho=>by
  have H2:=h.ext ((Ext.refl w).drewN n)
  have G3:GAt B ((w.drewN n).setCell ⟨bc,i*8+5,none⟩ (iv 2)) g { x with A:=x.A.set i (qV (x.c i)) } ar kr (some ⟨bc,0,none⟩) kc (.slice (some ⟨gb,go,none⟩) (G.length+1) kg) br bc pb pa pk role:=by
   rw[<-h.hc hn];refine H2.setc hin rfl (uZ.setCell (S:=λq=>q=bc) (uZ.refl _ (w.drewN n)) (p:=⟨bc,i*8+5,none⟩) rfl _) ?_ (λk hk=>uC _ (.inr (by omega))) ((H2.rw.nc hn).1.set _ _);obtain⟨a0,a1,a2,a3,a4,a5,a6⟩:=H2.rw.s i hin;refine⟨?_,?_,?_,?_,?_,World.cell?_setCell_same _ _ _ a5,?_⟩
   ·rw[uC _ (.inr (by omega))];exact a0
   ·rw[uC _ (.inr (by omega))];exact a1
   ·rw[uC _ (.inr (by omega))];exact a2
   ·rw[uC _ (.inr (by omega))];exact a3
   ·rw[uC _ (.inr (by omega))];exact a4
   ·rw[uC _ (.inr (by omega))];exact a6
  have r4:role gb=4:=h.sp.y gb rfl;have hgb:gb≠bc:=λe=>by have:=h.sp.c hn;rw[<-e] at this;omega
  have hv2:Grw ((w.drewN n).setCell ⟨bc,i*8+5,none⟩ (iv 2)) B v' G:=(hv _ ((Ext.refl w).drewN n)).block (λq hq=>Below.heap_setCell _ _ _ _ (λe=>by rw[ho] at hq;injection hq with hq;exact hgb (hq.trans e)));refine⟨(G3.gtail hv2 ho).set7 0,?_⟩;exact(((hx.drewN n).setCell (p:=⟨bc,i*8+5,none⟩) (show a.heap.size<=bc by omega) _).setCell (p:=⟨g,8,none⟩) (show a.heap.size<=g by omega) _).setCell (p:=⟨g,7,none⟩) (show a.heap.size<=g by omega) _)
 have V0:=uU (show kg≠1->∀W,Ext w W->Grw W B (.slice (some ⟨gb,go+1,none⟩) G.length (kg-1)) G from λ_ W e=>by
  have hgr:=(h.ext e).gr;rw[hg] at hgr;exact hgr.tail)
 have V1:=uU (show kg=1->∀W,Ext w W->Grw W B (.slice (some ⟨gb,go,none⟩) G.length 0) G from λek W e=>by
  have hgr:=(h.ext e).gr;rw[hg,ek] at hgr;exact hgr.tail1)
 clear h eg hg lg hag s;go_enter Tryz.func188,Tryz.ntmps188;go_wp2_with fail;go_quiet (fail);go_wp2_with fail
 ·obtain⟨k1,k2⟩:=FIN nq _ (V1 (by assumption)) rfl;refine bodyPost_ret (results_none rfl _ _ _) rfl ?_;exact⟨rfl,k1,k2⟩
 ·obtain⟨k1,k2⟩:=FIN nq _ (V0 (by assumption)) rfl;refine bodyPost_ret (results_none rfl _ _ _) rfl ?_;exact⟨rfl,k1,k2⟩
def lkH(x:Hp)(j:Nat):Hp:=(x.B.take j).foldl shadeW x
def grB(x:Hp):Bool:=!x.D.isEmpty
theorem b8o(x:Hp)(j:Nat)(h:j<x.B.length):lkH x (j+1)=shadeW (lkH x j) x.B[j]:=by
 unfold lkH;rw[List.take_succ_eq_append_getElem h,List.foldl_append];rfl
theorem b6j(x:Hp):lkH x x.B.length=qC x:=by unfold lkH qC;rw[List.take_length]
theorem c3a{x:Hp}(s:Snd x)(hp:x.E=2)(j:Nat):Shd x (lkH x j):=by
 refine(Shd.fold (.inr hp) (x.B.take j) x (λy hy=>?_) (Shd.refl s)).1;obtain⟨i,hi,e⟩:=List.mem_iff_getElem.1 (List.mem_of_mem_take hy);rw[<-e];exact s.good_reg i hi
theorem ssh_gr{z:Hp}{y:Wd}(b:Bool)(hb:grB z=b):(yE z y=true->grB (a5j z y)=true)/\(yE z y=false->grB (a5j z y)=b):=by
 refine⟨λh=>?_,λh=>?_⟩
 ·unfold a5j;rw[if_pos h];simp [grB]
 ·unfold a5j;rw[h];simpa using hb
theorem b8p[Inhabited uQ](B g:Nat)(x:Hp)(w:World)(h:GOk B w g x)(s:Snd x)(hp:x.E=2)(a:World)(ha:a.heap.size<=B)(hx:Ext a w)(hg:x.D=[]):
  Calls Tryz.prog 188 #[.pointer (some ⟨g,0,none⟩)] w λe w'=>e=.returned (.tuple #[])/\GOk B w' g (dY x)/\Ext a w':=by
 obtain⟨ar,kr,ac,kc,vg,br,bc,pb,pa,pk,role,h⟩:=h;obtain⟨ag,kg,rfl⟩:=h.gr.form;have lg:x.D.length=0:=by rw[hg];rfl
 have c3:=h.bx.2.2.2.1;have c8:=h.bx.2.2.2.2.2.2.2.2.1;have H:=uU h;rw[lg] at c8;have hgw:g<w.heap.size:=uL c3;have lo:=h.lo;have n8:=s.ok.n8;have S:=uU s;have r16:x.B.length<=16:=by have:=s.r1.B;omega
 have r0:0<x.B.length:=by have:=s.r1.B;omega
 rw[h.ha r0] at c3;have G0:=uU (show grB (lkH x 0)=false by simp [lkH,grB,hg]);have EU:=uU (show dY x=if (qC x).D=[] then dN (qC x) 3 0 else qC x by unfold dY;rw[hg]);have SH:=uU (c3a s hp);clear h lg hg hp;go_enter Tryz.func188,Tryz.ntmps188;go_wp2_with fail;go_loopw [4,85] (λsm i wr=>∃j,j<=x.B.length/\i=.int .i64 (j:Nat)/\sm=.bool (grB (lkH x j))/\Hid (∃ag' kg' role',GAt B wr g (lkH x j) ar kr ac kc (.slice ag' (lkH x j).D.length kg') br bc pb pa pk role')/\Ext a wr) (λ_ i _=>x.B.length-(intOf i).toNat)
 case atStart=>exact⟨0,Nat.zero_le _,rfl,by rw[uH G0],⟨_,_,_,uH H⟩,hx⟩
 case round=>
  clear c3 c8;obtain⟨j,hj,rfl,rfl,hr,hxr⟩:=hrel;by_cases hlt:j<x.B.length
  ·obtain⟨ag',kg',role',hG⟩:=uH hr;have er:(lkH x j).B=x.B:=(uH SH j).B;obtain⟨w0,w1,w2⟩:=hG.rw.r j (by rw[er];exact hlt);have eq:(lkH x j).B[j]'(by rw[er];exact hlt)=x.B[j]:=by simp [er]
   rw[eq] at w0 w1 w2;have hbr:br<wr.heap.size:=uL w0;have Hj:=uU hG
   have N1:=uU (show(lkH x j).A.length<=8000/\(lkH x j).D.length<=8000/\eE (lkH x j) x.B[j]/\(x.B[j].k=2->0<=x.B[j].a/\x.B[j].a<(lkH x j).A.length) by
    have hs:=(uH SH j).s;have h8:=hs.ok.n8;have hgr:=hs.r1.D;refine⟨h8,by omega,?_,λhk=>?_⟩
    ·have:=hs.good_reg j (by rw[er];exact hlt);rw[eq] at this;exact this
    ·have:=(hs.r4.1 j (by rw[er];exact hlt)).1;rw[eq] at this;unfold uE at this;omega)
   have NX:=uU (show lkH x (j+1)=a5j (lkH x j) x.B[j] by rw[b8o x j hlt,b6g (uH N1).2.2.1 (λhk=>((uH N1).2.2.2 hk).1)]);have hj0:(0:Int)<=(j:Int):=by omega
   have hj1:(j:Int)<(x.B.length:Int):=by omega
   clear hG er eq hr;obtain⟨b0,hb0⟩:∃b,grB (lkH x j)=b:=⟨_,rfl⟩;have SG:=uU (ssh_gr (y:=x.B[j]) b0 hb0);rw[hb0];clear hb0;go_wp2_with fail;refine(a6f x.B[j] _ ((uH Hj).ext ((Ext.refl wr).alloc _)) (uH N1).2.2.2 (uH N1).1 (uH N1).2.1 a ha (hxr.alloc _) ?_).mono ?_
   ·have:=(uH Hj).nf.1;simp;omega
   rintro e w3 ⟨rfl,h3,x3⟩;rw[<-uH NX] at h3;obtain⟨r,hr⟩:∃r,yE (lkH x j) x.B[j]=r:=⟨_,rfl⟩;rw[<-uH NX,hr] at SG;rw[hr];clear hr NX N1 w0 w1 w2;cases r
   ·have E1:=uU ((uH SG).2 rfl);go_wp2_with fail;go_roundw
    case rel=>exact⟨j+1,by omega,by go_num,by rw[uH E1],h3,x3⟩
    case measure=>simp [intOf];omega
   ·have E1:=uU ((uH SG).1 rfl);go_wp2_with fail;go_roundw
    case rel=>exact⟨j+1,by omega,by go_num,by rw[uH E1],h3,x3⟩
    case measure=>simp [intOf];omega
  ·have je:j=x.B.length:=by omega
   subst je;rw[b6j] at hr ⊢
   have HL:=uU (show GOk B wr g (qC x) by
    obtain⟨ag',kg',role',hG⟩:=uH hr;exact⟨_,_,_,_,_,_,_,_,_,_,_,hG⟩)
   clear hr;cases q:grB (qC x)
   ·have EF:=uU (show dY x=dN (qC x) 3 0 by
     have:(qC x).D=[]:=by simpa [grB] using q
     rw[uH EU,if_pos this])
    go_wp2_with fail;refine(a1a B g (qC x) 3 0 _ (uH HL) a ha hxr).mono ?_;rintro e w2 ⟨rfl,h2,x2⟩;have H2:=uU h2;clear h2;go_wp2_with fail
    go_end0
    exact⟨rfl,by rw[uH EF];exact uH H2,x2⟩
   ·have EF:=uU (show dY x=qC x by
     have:¬(qC x).D=[]:=λe=>by simp [grB,e] at q
     rw[uH EU,if_neg this])
    go_wp2_with fail
    go_end0
    exact⟨rfl,by rw[uH EF];exact uH HL,hxr⟩
theorem c1j[Inhabited uQ](B g:Nat)(x:Hp)(w:World)(h:GOk B w g x)(s:Snd x)(hp:x.E=2)(a:World)(ha:a.heap.size<=B)(hx:Ext a w):
  Calls Tryz.prog 188 #[.pointer (some ⟨g,0,none⟩)] w λe w'=>e=.returned (.tuple #[])/\GOk B w' g (dY x)/\Ext a w':=by
 cases hg:x.D with
 | nil=>exact b8p B g x w h s hp a ha hx hg
 | cons i0 G=>
  have hb:=s.r5.2.2 i0 (by rw[hg];exact List.mem_cons_self ..);obtain⟨i,rfl⟩:∃i:Nat,i0=(i:Int):=⟨i0.toNat,by omega⟩;have ei:((i:Int)).toNat=i:=by omega
  have hin:i<x.A.length:=by omega
  by_cases hs:x.sub<((x.c i).F.length:Int)
  ·obtain⟨k,hk⟩:∃k:Nat,x.sub=(k:Int):=⟨x.sub.toNat,by have:=s.r1.sub;omega⟩
   have e:dY x={ shadeW (shadeW x ((x.c i).p k).key) ((x.c i).p k).val with sub:=(k:Int)+1 }:=by
    have ek:x.sub.toNat=k:=by omega
    unfold dY;rw[hg];simp only [ei,if_pos hs,ek];rw[hk]
   rw[e];exact b8j B g x w h s hp a ha hx i G hg hin k hk (by omega)
  ·have e:dY x={ x with A:=x.A.set i (qV (x.c i)),D:=G,sub:=0 }:=by
    unfold dY;rw[hg];simp only [ei,if_neg hs]
   rw[e];exact b6i B g x w h s a ha hx i G hg hin hs
theorem b8q[Inhabited uQ](B g:Nat)(x:Hp)(w:World)(h:GOk B w g x)(s:Snd x)(a:World)(ha:a.heap.size<=B)(hx:Ext a w):
  Calls Tryz.prog 189 #[.pointer (some ⟨g,0,none⟩)] w λe w'=>e=.returned (.tuple #[])/\GOk B w' g (dQ x)/\Ext a w':=by
 obtain⟨ar,kr,ac,kc,vg,br,bc,pb,pa,pk,role,h⟩:=h;have HO:=uU (show GOk B w g x from⟨_,_,_,_,_,_,_,_,_,_,_,h⟩);have H:=uU h;have c4:=h.bx.2.2.2.2.1;have c6:=h.bx.2.2.2.2.2.2.1;have c1:=h.bx.2.1;have hgw:g<w.heap.size:=uL c4;have lo:=h.lo;have n8:=s.ok.n8;have S:=uU s;have hh:=s.r1.I;clear h;by_cases he:x.I=x.A.length
 ·have E:=uU (show dQ x=dN x 4 0 by unfold dQ;rw[if_pos he]);have heb:(x.I == (x.A.length:Int))=true:=by simpa using he
  clear he;go_enter Tryz.func189,Tryz.ntmps189;go_wp2_with fail;go_quiet (fail);go_wp2_with fail;refine(a1a B g x 4 0 _ (HO.ext ((Ext.refl w).drewN _)) a ha (hx.drewN _)).mono ?_;rintro e w2 ⟨rfl,h2,x2⟩;have H2:=uU h2;clear h2;go_wp2_with fail
  try simp only [Exit.inBlock,Exit.then]
  refine bodyPost_ret (results_none rfl _ _ _) rfl ?_;exact⟨rfl,by rw[uH E];exact uH H2,x2⟩
 ·obtain⟨i,hi⟩:∃i:Nat,x.I=(i:Int):=⟨x.I.toNat,by omega⟩;have hin:i<x.A.length:=by omega
  have V:=uU (show wrap64 (1+((x.c i).F.length:Int))=1+((x.c i).F.length:Int)/\wrap64 (x.K-(1+((x.c i).F.length:Int)))=x.K-(1+((x.c i).F.length:Int)) by
   have hlp:=s.ok.p200 i hin;have hu1:x.K<=4000:=by have:=s.r3.2;have:=s.r1.M;omega
   have hu0:0<=x.K:=by have:=s.r3.1;omega
   exact⟨a2e _ (by omega) (by omega),a2e _ (by omega) (by omega)⟩)
  have heb:(x.I == (x.A.length:Int))=false:=by simpa using he
  rw[hi] at heb c6;have hn:0<x.A.length:=by omega
  rw[H.hc hn] at c4;obtain⟨p0,p1,p2,p3,p4,p5,p6⟩:=H.rw.s i hin;have p7:=H.rw.p7 i hin;have hbc:bc<w.heap.size:=uL p0;have NGC:=uU (show ¬g=bc from λe=>by have h1:=H.sp.g;have h2:=H.sp.c hn;rw[e] at h1;omega);have i0:(0:Int)<=(i:Int):=by omega
  have i1:(i:Int)<(x.A.length:Int):=by omega
  have ei:x.I.toNat=i:=by omega
  have EU:=uU (show dQ x=if whB (x.c i)=true then { x with K:=x.K-(1+(x.c i).F.length),A:=x.A.set i Cl0,I:=x.I+1 } else { x with A:=x.A.set i (a1i (x.c i)),I:=x.I+1 } by unfold dQ;rw[if_neg he,ei]);have HI:=uU hi;have zn:=λn j=>a0p w n #[.int .i64 0,.int .i64 0,.int .i64 0,.int .i64 0,.int .i64 0,.int .i64 0,.int .i64 0,.slice none 0 0] 62 j
  have zf:=λn j=>a3k w n #[.int .i64 0,.int .i64 0,.int .i64 0,.int .i64 0,.int .i64 0,.int .i64 0,.int .i64 0,.slice none 0 0] 62 j
  have zo:=λn o b j (h:b<w.heap.size)=>a3w w n o b j h
  clear he hi ei hh;go_enter Tryz.func189,Tryz.ntmps189;go_wp2_with fail;go_quiet (fail);go_wp2_with fail
  go_region
  all_goals
   obtain⟨W2,hW2⟩:∃W,W=(((((((((w.drewN (nq+1)).alloc (.cells #[.int .i64 0,.int .i64 0,.int .i64 0,.int .i64 0,.int .i64 0,.int .i64 0,.int .i64 0,.slice none 0 0] 62)).setCell ⟨w.heap.size,0,none⟩ (.int .i64 (x.c i).st)).setCell ⟨w.heap.size,1,none⟩ (.int .i64 (x.c i).kind)).setCell ⟨w.heap.size,2,none⟩ (.int .i64 (x.c i).T)).setCell ⟨w.heap.size,3,none⟩ (.int .i64 (x.c i).U)).setCell ⟨w.heap.size,4,none⟩ (.int .i64 (x.c i).born)).setCell ⟨w.heap.size,5,none⟩ (.int .i64 (x.c i).J)).setCell ⟨w.heap.size,6,none⟩ (.int .i64 (x.c i).to)).setCell ⟨w.heap.size,7,none⟩ (.slice (pa i) (x.c i).F.length (pk i)):=⟨_,rfl⟩
   have X2:Ext w W2:=by
    rw[hW2];exact(((((((((Ext.refl w).drewN (nq+1)).alloc _).setCell (Nat.le_refl _) _).setCell (Nat.le_refl _) _).setCell (Nat.le_refl _) _).setCell (Nat.le_refl _) _).setCell (Nat.le_refl _) _).setCell (Nat.le_refl _) _).setCell (Nat.le_refl _) _ |>.setCell (Nat.le_refl _) _
   have l0:W2.cell? ⟨w.heap.size,0,none⟩=some (iv (x.c i).st):=by
    rw[hW2,uC _ (.inr (by omega)),uC _ (.inr (by omega)),uC _ (.inr (by omega)),uC _ (.inr (by omega)),uC _ (.inr (by omega)),uC _ (.inr (by omega)),uC _ (.inr (by omega))];exact World.cell?_setCell_same _ _ _ (by rw[zn];rfl)
   have l5:W2.cell? ⟨w.heap.size,5,none⟩=some (iv (x.c i).J):=by
    rw[hW2,uC _ (.inr (by omega)),uC _ (.inr (by omega))];exact World.cell?_setCell_same _ _ _ (by rw[uC _ (.inr (by omega)),uC _ (.inr (by omega)),uC _ (.inr (by omega)),uC _ (.inr (by omega)),uC _ (.inr (by omega)),zn];rfl)
   have l7:W2.cell? ⟨w.heap.size,7,none⟩=some (.slice (pa i) (x.c i).F.length (pk i)):=by
    rw[hW2];exact World.cell?_setCell_same _ _ _ (by rw[uC _ (.inr (by omega)),uC _ (.inr (by omega)),uC _ (.inr (by omega)),uC _ (.inr (by omega)),uC _ (.inr (by omega)),uC _ (.inr (by omega)),uC _ (.inr (by omega)),zn];rfl)
   rw[<-hW2];clear hW2 zn zf zo p0 p1 p2 p3 p4 p6 p7;have H2:=uU (H.ext X2);have d6:=X2.keep c6;have d4:=X2.keep c4;have d1:=X2.keep c1;have d5:=X2.keep p5;have hgW:g<W2.heap.size:=uL d6;have f6:W2.frozen? ⟨g,6,none⟩=false:=H2.nf.2 6;have f1:W2.frozen? ⟨g,1,none⟩=false:=H2.nf.2 1;have fc:=(H2.rw.nc hn).1.2;have ngc:¬g=bc:=uH NGC;have ncg:¬bc=g:=λe=>uH NGC e.symm
   clear c1 c4 c6 p5
   have G3:=uU (show GOk B (W2.setCell ⟨bc,i*8+5,none⟩ (iv 0)) g { x with A:=x.A.set i (a1i (x.c i)) } by
    refine⟨_,_,_,_,_,_,_,_,_,_,_,H2.setc hin rfl (uZ.setCell (S:=λq=>q=bc) (uZ.refl _ W2) (p:=⟨bc,i*8+5,none⟩) rfl _) ?_ (λk hk=>uC _ (.inr (by omega))) ((H2.rw.nc hn).1.set _ _)⟩;obtain⟨a0,a1,a2,a3,a4,a5,a6⟩:=H2.rw.s i hin;refine⟨?_,?_,?_,?_,?_,World.cell?_setCell_same _ _ _ a5,?_⟩
    ·rw[uC _ (.inr (by omega))];exact a0
    ·rw[uC _ (.inr (by omega))];exact a1
    ·rw[uC _ (.inr (by omega))];exact a2
    ·rw[uC _ (.inr (by omega))];exact a3
    ·rw[uC _ (.inr (by omega))];exact a4
    ·rw[uC _ (.inr (by omega))];exact a6)
   have G4:=uU ((G3.set6 ((i:Int)+1)).ext (Ext.refl _).drew);clear G3;have hbB:=(H2.rw.nc hn).2;have X3:=uU (((hx.trans X2).setCell (p:=⟨bc,i*8+5,none⟩) (show a.heap.size<=bc from Nat.le_trans ha hbB) (iv 0)).setCell (p:=⟨g,6,none⟩) (show a.heap.size<=g by omega) (iv ((i:Int)+1)) |>.drew);cases q1:((x.c i).st == 1)
   ·have EF:=uU (show dQ x={ x with A:=x.A.set i (a1i (x.c i)),I:=x.I+1 } by rw[uH EU,if_neg (by simp [whB,q1])]);rw[uH HI] at EF;go_wp2_with fail
    go_region
    all_goals
     go_wp2_with fail
     go_end0
     exact⟨rfl,by rw[uH EF];exact uH G4,X3⟩
   ·cases q2:((x.c i).J == 0)
    ·have EF:=uU (show dQ x={ x with A:=x.A.set i (a1i (x.c i)),I:=x.I+1 } by rw[uH EU,if_neg (by simp [whB,q2])]);rw[uH HI] at EF;go_wp2_with fail
     go_region
     all_goals
      go_wp2_with fail
      go_end0
      exact⟨rfl,by rw[uH EF];exact uH G4,X3⟩
    ·have EF:=uU (show dQ x={ x with K:=x.K-(1+(x.c i).F.length),A:=x.A.set i Cl0,I:=x.I+1 } by rw[uH EU,if_pos (by simp [whB,q1,q2])]);rw[uH HI] at EF;clear G4 X3;go_wp2_with fail
     go_region
     all_goals
      rw[V.1,V.2];obtain⟨W3,hW3⟩:∃W,W=(W2.setCell ⟨g,1,none⟩ (iv (x.K-(1+(x.c i).F.length)))).drew:=⟨_,rfl⟩
      have H3:=uU (show GAt B W3 g { x with K:=x.K-(1+(x.c i).F.length) } ar kr ac kc vg br bc pb pa pk role by
       rw[hW3];exact(H2.boxed (x':={ x with K:=x.K-(1+(x.c i).F.length) }) (uZ.setCell (S:=λq=>q=g) (uZ.refl _ W2) (p:=⟨g,1,none⟩) rfl _) (H2.nf.set _ _) rfl rfl rfl (H2.bx.set1 _)).ext (Ext.refl _).drew)
      have X3:Ext a W3:=by rw[hW3];exact((hx.trans X2).setCell (p:=⟨g,1,none⟩) (show a.heap.size<=g by omega) _).drew
      rw[<-hW3];clear hW3 V l0 l5 l7 d1 d4 d5 d6 f6 f1 fc X2;have e4:=H3.bx.2.2.2.2.1;rw[H2.hc hn] at e4;have e6:W3.cell? ⟨g,6,none⟩=some (iv i):=by rw[<-uH HI];exact H3.bx.2.2.2.2.2.2.1
      obtain⟨e0,e1,e2,e3,ee4,e5,ee6⟩:=H3.rw.s i hin;have e7:=H3.rw.p7 i hin;have f6:W3.frozen? ⟨g,6,none⟩=false:=H3.nf.2 6;have fc:=(H3.rw.nc hn).1.2;have G4:=uU (((H3.wipe i hin 0 0).set6 ((i:Int)+1)).ext (Ext.refl _).drew);have X4:=uU (show Ext a (((zZ W3 bc (i*8) 0 0).setCell ⟨g,6,none⟩ (iv ((i:Int)+1))).drew) from(((a0g W3 bc (i*8) 0 0).ext X3 (λq hq e=>by have:=(H3.rw.nc hn).2;omega)).setCell (p:=⟨g,6,none⟩) (show a.heap.size<=g by omega) _).drew);unfold zZ at G4 X4;go_wp2_with fail
      go_region
      all_goals
       go_wp2_with fail
       go_end0
       exact⟨rfl,by rw[uH EF];exact uH G4,X4⟩
theorem a5k[Inhabited uQ](B g:Nat)(x:Hp)(w:World)(h:GOk B w g x)(s:Snd x)(h0:x.E≠0)(a:World)(ha:a.heap.size<=B)(hx:Ext a w):
  Calls Tryz.prog 116 #[.pointer (some ⟨g,0,none⟩)] w λe w'=>e=.returned (.tuple #[])/\GOk B w' g (dD x)/\Ext a w':=by
 have HO:=uU h;obtain⟨_,_,c5,_,lo,hgw⟩:=h.box;have hB:B<=w.heap.size:=by omega
 have S:=uU s;have hc:x.E=1\/x.E=2\/x.E=3\/x.E=4\/x.E=5\/x.E=6:=by have:=s.r1.E;omega
 have Q1:=uU (show x.E=1->Calls Tryz.prog 187 #[.pointer (some ⟨g,0,none⟩)] w λe w'=>e=.returned (.tuple #[])/\GOk B w' g (dD x)/\Ext a w' from λe=>by
  have:dD x=eZ x:=by unfold dD;rw[if_pos e]
  rw[this];exact b8i B g x w h s a ha hx hB)
 have Q2:=uU (show x.E=2->Calls Tryz.prog 188 #[.pointer (some ⟨g,0,none⟩)] w λe w'=>e=.returned (.tuple #[])/\GOk B w' g (dD x)/\Ext a w' from λe=>by
  have:dD x=dY x:=by unfold dD;rw[if_neg (by omega),if_pos e]
  rw[this];exact c1j B g x w h s e a ha hx)
 have Q3:=uU (show x.E=3->Calls Tryz.prog 189 #[.pointer (some ⟨g,0,none⟩)] w λe w'=>e=.returned (.tuple #[])/\GOk B w' g (dD x)/\Ext a w' from λe=>by
  have:dD x=dQ x:=by unfold dD;rw[if_neg (by omega),if_neg (by omega),if_pos e]
  rw[this];exact b8q B g x w h s a ha hx)
 have Q4:=uU (show x.E=4->Calls Tryz.prog 190 #[.pointer (some ⟨g,0,none⟩)] w λe w'=>e=.returned (.tuple #[])/\GOk B w' g (dD x)/\Ext a w' from λe=>by
  have:dD x=unit4 x:=by unfold dD;rw[if_neg (by omega),if_neg (by omega),if_neg (by omega),if_pos e]
  rw[this];exact c1h B g x w h s a ha hx)
 have Q5:=uU (show x.E=5->Calls Tryz.prog 191 #[.pointer (some ⟨g,0,none⟩)] w λe w'=>e=.returned (.tuple #[])/\GOk B w' g (dD x)/\Ext a w' from λe=>by
  have:dD x=eH x:=by unfold dD;rw[if_neg (by omega),if_neg (by omega),if_neg (by omega),if_neg (by omega),if_pos e]
  rw[this];exact c1i B g x w h s e a ha hx)
 have Q6:=uU (show x.E=6->Calls Tryz.prog 192 #[.pointer (some ⟨g,0,none⟩)] w λe w'=>e=.returned (.tuple #[])/\GOk B w' g (dD x)/\Ext a w' from λe=>by
  have:dD x=cN x:=by unfold dD;rw[if_neg (by omega),if_neg (by omega),if_neg (by omega),if_neg (by omega),if_neg (by omega),if_pos e]
  rw[this];exact b8m B g x w h s a ha hx)
 obtain⟨y,hy⟩:∃y,y=dD x:=⟨_,rfl⟩;rw[<-hy] at Q1 Q2 Q3 Q4 Q5 Q6 ⊢;clear hy h s h0;rcases hc with e | e | e | e | e | e
 ·rw[e] at c5;have Q:=uU (Q1 e);clear Q1 Q2 Q3 Q4 Q5 Q6 e;go_enter Tryz.func116,Tryz.ntmps116;go_wp2_with fail;refine Q.mono ?_;rintro e w2 ⟨rfl,h2,x2⟩;have H2:=uU h2;clear h2;go_wp2_with fail
  go_end0
  exact⟨rfl,H2,x2⟩
 ·rw[e] at c5;have Q:=uU (Q2 e);clear Q1 Q2 Q3 Q4 Q5 Q6 e;go_enter Tryz.func116,Tryz.ntmps116;go_wp2_with fail;refine Q.mono ?_;rintro e w2 ⟨rfl,h2,x2⟩;have H2:=uU h2;clear h2;go_wp2_with fail
  go_end0
  exact⟨rfl,H2,x2⟩
 ·rw[e] at c5;have Q:=uU (Q3 e);clear Q1 Q2 Q3 Q4 Q5 Q6 e;go_enter Tryz.func116,Tryz.ntmps116;go_wp2_with fail;refine Q.mono ?_;rintro e w2 ⟨rfl,h2,x2⟩;have H2:=uU h2;clear h2;go_wp2_with fail
  go_end0
  exact⟨rfl,H2,x2⟩
 ·rw[e] at c5;have Q:=uU (Q4 e);clear Q1 Q2 Q3 Q4 Q5 Q6 e;go_enter Tryz.func116,Tryz.ntmps116;go_wp2_with fail;refine Q.mono ?_;rintro e w2 ⟨rfl,h2,x2⟩;have H2:=uU h2;clear h2;go_wp2_with fail
  go_end0
  exact⟨rfl,H2,x2⟩
 ·rw[e] at c5;have Q:=uU (Q5 e);clear Q1 Q2 Q3 Q4 Q5 Q6 e;go_enter Tryz.func116,Tryz.ntmps116;go_wp2_with fail;refine Q.mono ?_;rintro e w2 ⟨rfl,h2,x2⟩;have H2:=uU h2;clear h2;go_wp2_with fail
  go_end0
  exact⟨rfl,H2,x2⟩
 ·rw[e] at c5;have Q:=uU (Q6 e);clear Q1 Q2 Q3 Q4 Q5 Q6 e;go_enter Tryz.func116,Tryz.ntmps116;go_wp2_with fail;refine Q.mono ?_;rintro e w2 ⟨rfl,h2,x2⟩;have H2:=uU h2;clear h2;go_wp2_with fail
  go_end0
  exact⟨rfl,H2,x2⟩
theorem a4e[Inhabited uQ](B g:Nat)(x:Hp)(w:World)(h:GOk B w g x)(a:World)(ha:a.heap.size<=B)(hx:Ext a w):
  Calls Tryz.prog 115 #[.pointer (some ⟨g,0,none⟩)] w λe w'=>e=.returned (.tuple #[])/\GOk B w' g (dN x 1 0)/\Ext a w':=by
 have HO:=uU h;clear h;go_enter Tryz.func115,Tryz.ntmps115;go_wp2_with fail;refine(a1a B g x 1 0 _ HO a ha hx).mono ?_;rintro e w2 ⟨rfl,h2,x2⟩;have H2:=uU h2;clear h2;go_wp2_with fail
 go_end0
 exact⟨rfl,H2,x2⟩
theorem b4z[Inhabited uQ](B g:Nat)(x:Hp)(w:World)(h:GOk B w g x)(s:Snd x)(a:World)(ha:a.heap.size<=B)(hx:Ext a w):
  Calls Tryz.prog 86 #[.pointer (some ⟨g,0,none⟩)] w λe w'=>∃k:Nat,e=.returned (.int .i64 k)/\Hid (a9g x k)/\GOk B w' g (itU k x)/\Ext a w':=by
 have HS:=uU h;have S:=uU s;have XS:=hx;clear h s;go_enter Tryz.func86,Tryz.ntmps86;go_wp2_with fail
 go_loopg [3] (14000000) (λgk d wr=>∃k:Nat,d=.int .i64 k/\Hid (yZ x k)/\Hid (mu (itU k x)<=gk)/\Hid (GOk B wr g (itU k x))/\Ext a wr)
 case atStart=>exact⟨0,rfl,yZ.zero _,S.mu_le,HS,XS⟩
 case round=>
  clear HS XS;obtain⟨k,rfl,hr,hm,hG,hxr⟩:=hrel;obtain⟨_,_,c5,_,_,hgw⟩:=hG.box;have kl:=hr.le S;cases q:((itU k x).E == 0)
  ·have qb:((itU k x).E != 0)=true:=by simpa using q
   have QP:=uU (show(itU k x).E≠0 by simpa using q);go_wp2_with fail;refine(a5k B g _ _ hG (S.itU k) QP a ha hxr).mono ?_;rintro e w3 ⟨rfl,h3,x3⟩;have H3:=uU h3;have R3:=uU (hr.succ QP);have M3:=uU (show mu (itU (k+1) x)<mu (itU k x) from(S.itU k).less QP);have wk:wrap64 ((k:Int)+1)=(k:Int)+1:=by unfold wrap64;omega
   clear h3 c5 hgw;go_wp2_with fail
   go_roundg (mu (itU (k+1) x))
   case measure=>have:=uH M3;have:=uH hm;omega
   case rel=>exact⟨k+1,by go_num,R3,Nat.le_refl _,H3,x3⟩
  ·have qb:((itU k x).E != 0)=false:=by simpa using q
   have QP:=uU (show(itU k x).E=0 by simpa using q);go_wp2_with fail;go_ret;exact⟨k,rfl,⟨QP,hr⟩,hG,hxr⟩
theorem a6i[Inhabited uQ](B g:Nat)(x:Hp)(w:World)(h:GOk B w g x)(s:Snd x)(a:World)(ha:a.heap.size<=B)(hx:Ext a w):
  Calls Tryz.prog 88 #[.pointer (some ⟨g,0,none⟩)] w λe w'=>∃y z,e=.returned (.tuple #[])/\Hid (a9h x y/\a9h (dN y 1 0) z)/\GOk B w' g z/\Ext a w':=by
 have HO:=uU h;have S:=uU s;clear h s;go_enter Tryz.func88,Tryz.ntmps88;go_wp2_with fail;refine(b4z B g x _ HO S a ha hx).mono ?_;rintro e w1 ⟨k,rfl,he,h1,x1⟩;obtain⟨y,hy⟩:∃y,y=itU k x:=⟨_,rfl⟩;rw[<-hy] at h1;have EY:=uU (show a9h x y from⟨k,he,hy⟩);have H1:=uU h1;clear h1 he hy;go_wp2_with fail;refine(a4e B g y _ H1 a ha x1).mono ?_;rintro e w2 ⟨rfl,h2,x2⟩;have H2:=uU h2;clear h2;go_wp2_with fail;refine(b4z B g _ _ H2 ((EY.snd S).1.begin (EY.snd S).2) a ha x2).mono ?_;rintro e w3 ⟨k2,rfl,he,h3,x3⟩;have EZ:=uU (show a9h (dN y 1 0) (itU k2 (dN y 1 0)) from⟨k2,he,rfl⟩);have H3:=uU h3;clear h3 he;go_wp2_with fail
 go_end0
 exact⟨y,_,rfl,⟨EY,EZ⟩,H3,x3⟩
end Go.Proofs.YtddkhnclmeikfaaGreat
