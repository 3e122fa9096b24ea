import Derived.Test.YtddkhnclmeikfaaGreatAz
import Derived.Test.YtddkhnclmeikfaaGreatLx
set_option maxRecDepth 100000
set_option maxHeartbeats 1000000
namespace Go.Proofs.YtddkhnclmeikfaaGreat
open Go.RowKit
attribute [local go_sem ↓] Go.wp_at_zero Go.wp_at_succ
variable{w w' c w0:World}{x:Hp}{B g lo hi q:Nat}
def a2i(w:World)(b o:Nat)(p:Pr):World:=(((((w.setCell ⟨b,o,none⟩ (iv p.key.k)).setCell ⟨b,o+1,none⟩ (iv p.key.n)).setCell ⟨b,o+2,none⟩ (iv p.key.a)).setCell ⟨b,o+3,none⟩ (iv p.val.k)).setCell ⟨b,o+4,none⟩ (iv p.val.n)).setCell ⟨b,o+5,none⟩ (iv p.val.a)
theorem b9v(w:World)(b o:Nat)(p q:Pr)(h:zW w b o q):zW (a2i w b o p) b o p:=by
 obtain⟨h0,h1,h2,h3,h4,h5⟩:=h;unfold a2i;refine⟨?_,?_,?_,?_,?_,?_⟩
 ·iterate 5 rw[uC _ (.inr (by omega))]
  exact dZ h0
 ·iterate 4 rw[uC _ (.inr (by omega))]
  refine dZ (u:=iv q.key.n) ?_;rw[uC _ (.inr (by omega))];exact h1
 ·iterate 3 rw[uC _ (.inr (by omega))]
  refine dZ (u:=iv q.key.a) ?_
  iterate 2 rw[uC _ (.inr (by omega))]
  exact h2
 ·iterate 2 rw[uC _ (.inr (by omega))]
  refine dZ (u:=iv q.val.k) ?_
  iterate 3 rw[uC _ (.inr (by omega))]
  exact h3
 ·rw[uC _ (.inr (by omega))];refine dZ (u:=iv q.val.n) ?_
  iterate 4 rw[uC _ (.inr (by omega))]
  exact h4
 ·refine dZ (u:=iv q.val.a) ?_
  iterate 5 rw[uC _ (.inr (by omega))]
  exact h5
theorem a4i(w:World)(b o:Nat)(p:Pr):uX (λq=>q=b) w (a2i w b o p):=
 uX.setCell (S:=λq=>q=b) (uX.setCell (S:=λq=>q=b) (uX.setCell (S:=λq=>q=b) (uX.setCell (S:=λq=>q=b) (uX.setCell (S:=λq=>q=b) (uX.setCell (S:=λq=>q=b) (uX.refl _ w) (p:=⟨b,o,none⟩) rfl _) (p:=⟨b,o+1,none⟩) rfl _) (p:=⟨b,o+2,none⟩) rfl _) (p:=⟨b,o+3,none⟩) rfl _) (p:=⟨b,o+4,none⟩) rfl _) (p:=⟨b,o+5,none⟩) rfl _
theorem b9w{b:Nat}(h:Nf1 b w)(o:Nat)(p:Pr):Nf1 b (a2i w b o p):=(((((h.set _ _).set _ _).set _ _).set _ _).set _ _).set _ _
theorem b1u(w:World)(b o:Nat)(p:Pr)(k:Nat)(hk:k<o\/o+6<=k):(a2i w b o p).cell? ⟨b,k,none⟩=w.cell? ⟨b,k,none⟩:=by
 unfold a2i
 iterate 6 rw[uC _ (.inr (by omega))]
theorem pair_fr(w:World)(n:Nat)(p:Pr)(t:TypeId)(j:Nat):(a6p ((w.drewN n).alloc (.cells #[.int .i64 0,.int .i64 0,.int .i64 0,.int .i64 0,.int .i64 0,.int .i64 0] t)) w.heap.size p).frozen? ⟨w.heap.size,j,none⟩=false:=by
 unfold a6p;simp only [World.frozen?_setCell];exact a5f w n _ t j
theorem b9x[Inhabited uZ](B g:Nat)(x:Hp)(w:World)(h:GOk B w g x)(n8:x.cells.length<=8000)(a:World)(ha:a.heap.size<=B)(hx:Ext a w)(i:Nat)(hi:x.hand=(i:Int))(hin:i<x.cells.length)(k:Nat)(hk:x.sub=(k:Int))(hkl:k<(x.c i).prs.length)(p2:(x.c i).prs.length<=200)(F1:uJ ((x.c i).p k).key x.cells.length)(F2:uJ ((x.c i).p k).val x.cells.length):
  Calls Tryz.prog 191 #[.pointer (some ⟨g,0,none⟩)] w λe w'=>e=.returned (.tuple #[])/\GOk B w' g { x with cells:=x.cells.set i (tZ x (x.c i) k),sub:=(k:Int)+1 }/\Ext a w':=by
 obtain⟨ar,kr,ac,kc,vg,br,bc,pb,pa,pk,role,h⟩:=h;have H:=uU h;have hn:0<x.cells.length:=by omega
 have c4:=h.bx.2.2.2.2.1;have c6:=h.bx.2.2.2.2.2.2.1;have c7:=h.bx.2.2.2.2.2.2.2.1;rw[h.hc hn] at c4;rw[hk] at c7;rw[hi] at c6;have p7:=h.rw.p7 i hin;rw[(h.rw.pl i hin (h.rw.pw hin (by omega))).1] at p7;obtain⟨q0,q1,q2,q3,q4,q5⟩:=h.rw.p i hin k hkl;have hgw:g<w.heap.size:=uL c4;have lo:=h.lo;have f7:=h.nf.2 7;have fp:=(h.rw.pl i hin (h.rw.pw hin (by omega))).2.1.2;have i0:(0:Int)<=(i:Int):=by omega
 have i1:(i:Int)<(x.cells.length:Int):=by omega
 have k0:(0:Int)<=(k:Int):=by omega
 have k1:(k:Int)<((x.c i).prs.length:Int):=by omega
 have zn:=λn j=>a0u w n #[.int .i64 0,.int .i64 0,.int .i64 0,.int .i64 0,.int .i64 0,.int .i64 0] 154 j
 have zf:=λn j=>a5f w n #[.int .i64 0,.int .i64 0,.int .i64 0,.int .i64 0,.int .i64 0,.int .i64 0] 154 j
 have zo:=λn o b j (h:b<w.heap.size)=>a6b w n o b j h
 have hbc:bc<w.heap.size:=uL p7;have hpb:pb i<w.heap.size:=uL q0;have ne:((i:Int) == (x.cells.length:Int))=false:=by simp;omega
 have FF:=uU (And.intro F1 F2);have HK:=uU hk;have HI:=uU hi;have NGP:=uU (show ¬g=pb i from λe=>by have h1:=h.sp.g;have h2:=h.sp.p i hin (h.rw.pw hin (by omega));rw[e] at h1;omega);clear h hi hk F1 F2;go_enter Tryz.func191,Tryz.ntmps191;go_wp2_with fail;go_quiet (fail);obtain⟨m1,rfl⟩:∃m,m=nq:=⟨_,rfl⟩;go_wp2_with fail;go_quiet (fail);go_wp2_with fail
 go_region
 all_goals
  obtain⟨W2,hW2⟩:∃W,W=a6p ((w.drewN (m1+nq+1)).alloc (.cells #[.int .i64 0,.int .i64 0,.int .i64 0,.int .i64 0,.int .i64 0,.int .i64 0] 154)) w.heap.size ((x.c i).p k):=⟨_,rfl⟩;have PB:=b9r w (m1+nq+1) ((x.c i).p k) 154;have PF:=pair_fr w (m1+nq+1) ((x.c i).p k) 154;rw[<-hW2] at PB PF;unfold a6p at hW2;rw[<-hW2];clear hW2 zn zf zo q0 q1 q2 q3 q4 q5;obtain⟨X2,y0,y1,y2,y3,y4,y5⟩:=PB;have BX:w.heap.size<W2.heap.size:=uL y0;clear c4 c6 c7 p7;go_wp2_with fail;refine(a4w ((x.c i).p k).key _ (H.ext X2) FF.1).mono ?_;rintro e w3 ⟨rfl,x3⟩;obtain⟨r1,hr1⟩:∃r,r=zU x ((x.c i).p k).key:=⟨_,rfl⟩;have R1:=uU hr1;rw[<-hr1];have z0:=x3.keep y0;have z1:=x3.keep y1;have z2:=x3.keep y2;have z3:=x3.keep y3;have z4:=x3.keep y4;have z5:=x3.keep y5;have PF3:=λj=>((dH x3).2 w.heap.size j BX).trans (PF j)
  have BX3:w.heap.size<w3.heap.size:=uL z0;have X3:=X2.trans x3;clear hr1 y0 y1 y2 y3 y4 y5 PF BX X2 x3;obtain⟨W4,hW4⟩:∃W,W=(((w3.setCell ⟨w.heap.size,0,none⟩ (iv r1.k)).setCell ⟨w.heap.size,1,none⟩ (iv r1.n)).setCell ⟨w.heap.size,2,none⟩ (iv r1.a)):=⟨_,rfl⟩;have X4:Ext w W4:=by rw[hW4];exact((X3.setCell (p:=⟨w.heap.size,0,none⟩) (Nat.le_refl _) _).setCell (p:=⟨w.heap.size,1,none⟩) (Nat.le_refl _) _).setCell (p:=⟨w.heap.size,2,none⟩) (Nat.le_refl _) _
  have u0:W4.cell? ⟨w.heap.size,0,none⟩=some (iv r1.k):=by rw[hW4,uC _ (.inr (by omega)),uC _ (.inr (by omega))];exact dZ z0
  have u1:W4.cell? ⟨w.heap.size,1,none⟩=some (iv r1.n):=by rw[hW4,uC _ (.inr (by omega))];exact dZ ((uC _ (.inr (by omega))).trans z1)
  have u2:W4.cell? ⟨w.heap.size,2,none⟩=some (iv r1.a):=by rw[hW4];refine dZ (u:=iv ((x.c i).p k).key.a) ?_;rw[uC _ (.inr (by omega)),uC _ (.inr (by omega))];exact z2
  have u3:W4.cell? ⟨w.heap.size,3,none⟩=some (iv ((x.c i).p k).val.k):=by rw[hW4,uC _ (.inr (by omega)),uC _ (.inr (by omega)),uC _ (.inr (by omega))];exact z3
  have u4:W4.cell? ⟨w.heap.size,4,none⟩=some (iv ((x.c i).p k).val.n):=by rw[hW4,uC _ (.inr (by omega)),uC _ (.inr (by omega)),uC _ (.inr (by omega))];exact z4
  have u5:W4.cell? ⟨w.heap.size,5,none⟩=some (iv ((x.c i).p k).val.a):=by rw[hW4,uC _ (.inr (by omega)),uC _ (.inr (by omega)),uC _ (.inr (by omega))];exact z5
  have PF4:∀j,W4.frozen? ⟨w.heap.size,j,none⟩=false:=λj=>by rw[hW4];simp only [World.frozen?_setCell];exact PF3 j
  have BX4:w.heap.size<W4.heap.size:=uL u0;go_wp2_with fail;rw[<-hW4];clear hW4 z0 z1 z2 z3 z4 z5 PF3 BX3 X3;refine(a4w ((x.c i).p k).val _ (H.ext X4) FF.2).mono ?_;rintro e w5 ⟨rfl,x5⟩;obtain⟨r2,hr2⟩:∃r,r=zU x ((x.c i).p k).val:=⟨_,rfl⟩;have R2:=uU hr2;rw[<-hr2];have t0:=x5.keep u0;have t1:=x5.keep u1;have t2:=x5.keep u2;have t3:=x5.keep u3;have t4:=x5.keep u4;have t5:=x5.keep u5;have PF5:=λj=>((dH x5).2 w.heap.size j BX4).trans (PF4 j)
  have BX5:w.heap.size<w5.heap.size:=uL t0;have X5:=X4.trans x5;have H5:=uU (H.ext X5);have c4:=H5.bx.2.2.2.2.1;have c6:=H5.bx.2.2.2.2.2.2.1;have c7:=H5.bx.2.2.2.2.2.2.2.1;rw[H.hc hn] at c4;rw[uH HK] at c7;rw[uH HI] at c6;have p7:=H5.rw.p7 i hin;rw[(H.rw.pl i hin (H.rw.pw hin (by omega))).1] at p7;obtain⟨q0,q1,q2,q3,q4,q5⟩:=H5.rw.p i hin k hkl;have g7:=H5.nf.2 7;have gp:=(H5.rw.pl i hin (H5.rw.pw hin (by omega))).2.1.2;have ngp:¬g=pb i:=uH NGP;have npg:¬pb i=g:=λe=>uH NGP e.symm
  clear hr2 u0 u1 u2 u3 u4 u5 PF4 BX4 X4 x5 f7 fp;obtain⟨W6,hW6⟩:∃W,W=(((w5.setCell ⟨w.heap.size,3,none⟩ (iv r2.k)).setCell ⟨w.heap.size,4,none⟩ (iv r2.n)).setCell ⟨w.heap.size,5,none⟩ (iv r2.a)):=⟨_,rfl⟩;have X6:Ext w W6:=by rw[hW6];exact((X5.setCell (p:=⟨w.heap.size,3,none⟩) (Nat.le_refl _) _).setCell (p:=⟨w.heap.size,4,none⟩) (Nat.le_refl _) _).setCell (p:=⟨w.heap.size,5,none⟩) (Nat.le_refl _) _
  have v0:W6.cell? ⟨w.heap.size,0,none⟩=some (iv r1.k):=by rw[hW6,uC _ (.inr (by omega)),uC _ (.inr (by omega)),uC _ (.inr (by omega))];exact t0
  have v1:W6.cell? ⟨w.heap.size,1,none⟩=some (iv r1.n):=by rw[hW6,uC _ (.inr (by omega)),uC _ (.inr (by omega)),uC _ (.inr (by omega))];exact t1
  have v2:W6.cell? ⟨w.heap.size,2,none⟩=some (iv r1.a):=by rw[hW6,uC _ (.inr (by omega)),uC _ (.inr (by omega)),uC _ (.inr (by omega))];exact t2
  have v3:W6.cell? ⟨w.heap.size,3,none⟩=some (iv r2.k):=by rw[hW6,uC _ (.inr (by omega)),uC _ (.inr (by omega))];exact dZ t3
  have v4:W6.cell? ⟨w.heap.size,4,none⟩=some (iv r2.n):=by rw[hW6,uC _ (.inr (by omega))];exact dZ ((uC _ (.inr (by omega))).trans t4)
  have v5:W6.cell? ⟨w.heap.size,5,none⟩=some (iv r2.a):=by rw[hW6];refine dZ (u:=iv ((x.c i).p k).val.a) ?_;rw[uC _ (.inr (by omega)),uC _ (.inr (by omega))];exact t5
  go_wp2_with fail;rw[<-hW6];clear hW6 t0 t1 t2 t3 t4 t5 PF5 BX5 X5 H5 c4 c6 c7 p7 q0 q1 q2 q3 q4 q5 g7 gp;have H6:=uU (H.ext X6);have c4:=H6.bx.2.2.2.2.1;have c6:=H6.bx.2.2.2.2.2.2.1;have c7:=H6.bx.2.2.2.2.2.2.2.1;rw[H.hc hn] at c4;rw[uH HK] at c7;rw[uH HI] at c6;have p7:=H6.rw.p7 i hin;rw[(H.rw.pl i hin (H.rw.pw hin (by omega))).1] at p7;obtain⟨q0,q1,q2,q3,q4,q5⟩:=H6.rw.p i hin k hkl;have g7:=H6.nf.2 7;have gp:=(H6.rw.pl i hin (H6.rw.pw hin (by omega))).2.1.2;have n1:¬w.heap.size=pb i:=by omega
  have n2:¬pb i=w.heap.size:=by omega
  have n3:¬w.heap.size=g:=by omega
  have n4:¬g=w.heap.size:=by omega
  have FN:=uU (show GOk B (((a2i W6 (pb i) (k*6) ⟨r1,r2⟩).setCell ⟨g,7,none⟩ (iv ((k:Int)+1))).drew) g { x with cells:=x.cells.set i (tZ x (x.c i) k),sub:=(k:Int)+1 }/\Ext a (((a2i W6 (pb i) (k*6) ⟨r1,r2⟩).setCell ⟨g,7,none⟩ (iv ((k:Int)+1))).drew) by
   have g1:=H6.setp i hin k hkl ⟨r1,r2⟩ (a4i W6 (pb i) (k*6) ⟨r1,r2⟩) (b9w (H6.rw.pl i hin (H6.rw.pw hin (by omega))).2.1.n1 _ _) (b9v W6 (pb i) (k*6) ⟨r1,r2⟩ _ (H6.rw.p i hin k hkl)) (λj hj=>b1u W6 (pb i) (k*6) ⟨r1,r2⟩ j hj);have e:({ x.c i with prs:=(x.c i).prs.set k ⟨r1,r2⟩ }:Cl)=tZ x (x.c i) k:=by unfold tZ;rw[uH R1,uH R2]
   rw[e] at g1;have g2:GOk B (a2i W6 (pb i) (k*6) ⟨r1,r2⟩) g { x with cells:=x.cells.set i (tZ x (x.c i) k) }:=⟨_,_,_,_,_,_,_,_,_,_,_,g1⟩;refine⟨(g2.set7 ((k:Int)+1)).ext (Ext.refl _).drew,?_⟩;have hpB:=(H6.rw.pl i hin (H6.rw.pw hin (by omega))).2.2.2;exact((((a4i W6 (pb i) (k*6) ⟨r1,r2⟩).ext (hx.trans X6) (λq hq e=>by omega)).setCell (p:=⟨g,7,none⟩) (show a.heap.size<=g by omega) _)).drew)
  unfold a2i at FN
  go_region
  all_goals
   go_wp2_with fail
   try simp only [Exit.inBlock,Exit.then]
   refine bodyPost_ret (results_none rfl _ _ _) rfl ?_;exact⟨rfl,FN.1,FN.2⟩
theorem b7f[Inhabited uZ](B g:Nat)(x:Hp)(w:World)(h:GOk B w g x)(s:Snd x)(a:World)(ha:a.heap.size<=B)(hx:Ext a w)(i:Nat)(G:List Int)(hg:x.gray=(i:Int)::G)(hin:i<x.cells.length)(hks:¬x.sub<((x.c i).prs.length:Int)):
  Calls Tryz.prog 188 #[.pointer (some ⟨g,0,none⟩)] w λe w'=>e=.returned (.tuple #[])/\GOk B w' g { x with cells:=x.cells.set i (a1v (x.c i)),gray:=G,sub:=0 }/\Ext a w':=by
 obtain⟨ar,kr,ac,kc,vg,br,bc,pb,pa,pk,role,h⟩:=h;obtain⟨ag,kg,rfl⟩:=h.gr.form;have lg:x.gray.length=G.length+1:=by rw[hg];rfl
 have hn:0<x.cells.length:=by omega
 have c4:=h.bx.2.2.2.2.1;have c7:=h.bx.2.2.2.2.2.2.2.1;have c8:=h.bx.2.2.2.2.2.2.2.2.1;obtain⟨gb,go,hag,hg0,_⟩:=h.gr.at 0 (by rw[hg];simp);have eg:x.gray[0]'(by rw[hg];simp)=(i:Int):=by simp [hg]
 rw[eg] at hg0;simp only [Nat.add_zero] at hg0;rw[h.hc hn] at c4;rw[hag,lg] at c8 h;have H:=uU h;have p5:=(h.rw.s i hin).2.2.2.2.2.1;have p7:=h.rw.p7 i hin;have hgw:g<w.heap.size:=uL c4;have lo:=h.lo;have n8:=s.ok.n8;have gl8:G.length<=8000:=by have:=s.r1.gray;omega
 have f7:=h.nf.2 7;have f8:=h.nf.2 8;have f5:=(h.rw.nc hn).1.2 (i*8+5);have i0:(0:Int)<=(i:Int):=by omega
 have i1:(i:Int)<(x.cells.length:Int):=by omega
 have g1:(0:Int)<(G.length:Int)+1:=by omega
 have g2:(1:Int)<=(G.length:Int)+1:=by omega
 have hbc:bc<w.heap.size:=uL p7;have NGC:=uU (show ¬g=bc from λe=>by have h1:=h.sp.g;have h2:=h.sp.c hn;rw[e] at h1;omega);have ngc:¬g=bc:=uH NGC;have ncg:¬bc=g:=λe=>uH NGC e.symm
 have HG:=uU hg;have hbB:=(h.rw.nc hn).2
 have FIN:=uU (show ∀n v',(∀W,Ext w W->Grw W B v' G)->v'.ownBlock=some gb->GOk B ((((w.drewN n).setCell ⟨bc,i*8+5,none⟩ (iv 2)).setCell ⟨g,8,none⟩ v').setCell ⟨g,7,none⟩ (iv 0)) g { x with cells:=x.cells.set i (a1v (x.c i)),gray:=G,sub:=0 }/\Ext a ((((w.drewN n).setCell ⟨bc,i*8+5,none⟩ (iv 2)).setCell ⟨g,8,none⟩ v').setCell ⟨g,7,none⟩ (iv 0)) from λn v' hv ho=>by
  have H2:=h.ext ((Ext.refl w).drewN n)
  have G3:GAt B ((w.drewN n).setCell ⟨bc,i*8+5,none⟩ (iv 2)) g { x with cells:=x.cells.set i (a1v (x.c i)) } ar kr (some ⟨bc,0,none⟩) kc (.slice (some ⟨gb,go,none⟩) (G.length+1) kg) br bc pb pa pk role:=by
   rw[<-h.hc hn];refine H2.setc hin rfl (uX.setCell (S:=λq=>q=bc) (uX.refl _ (w.drewN n)) (p:=⟨bc,i*8+5,none⟩) rfl _) ?_ (λk hk=>uC _ (.inr (by omega))) ((H2.rw.nc hn).1.set _ _);obtain⟨a0,a1,a2,a3,a4,a5,a6⟩:=H2.rw.s i hin;refine⟨?_,?_,?_,?_,?_,World.cell?_setCell_same _ _ _ a5,?_⟩
   ·rw[uC _ (.inr (by omega))];exact a0
   ·rw[uC _ (.inr (by omega))];exact a1
   ·rw[uC _ (.inr (by omega))];exact a2
   ·rw[uC _ (.inr (by omega))];exact a3
   ·rw[uC _ (.inr (by omega))];exact a4
   ·rw[uC _ (.inr (by omega))];exact a6
  have r4:role gb=4:=h.sp.y gb rfl;have hgb:gb≠bc:=λe=>by have:=h.sp.c hn;rw[<-e] at this;omega
  have hv2:Grw ((w.drewN n).setCell ⟨bc,i*8+5,none⟩ (iv 2)) B v' G:=(hv _ ((Ext.refl w).drewN n)).block (λq hq=>Below.heap_setCell _ _ _ _ (λe=>by rw[ho] at hq;injection hq with hq;exact hgb (hq.trans e)));refine⟨(G3.gtail hv2 ho).set7 0,?_⟩;exact(((hx.drewN n).setCell (p:=⟨bc,i*8+5,none⟩) (show a.heap.size<=bc by omega) _).setCell (p:=⟨g,8,none⟩) (show a.heap.size<=g by omega) _).setCell (p:=⟨g,7,none⟩) (show a.heap.size<=g by omega) _)
 have V0:=uU (show kg≠1->∀W,Ext w W->Grw W B (.slice (some ⟨gb,go+1,none⟩) G.length (kg-1)) G from λ_ W e=>by
  have hgr:=(h.ext e).gr;rw[hg] at hgr;exact hgr.tail)
 have V1:=uU (show kg=1->∀W,Ext w W->Grw W B (.slice (some ⟨gb,go,none⟩) G.length 0) G from λek W e=>by
  have hgr:=(h.ext e).gr;rw[hg,ek] at hgr;exact hgr.tail1)
 clear h eg hg lg hag s;go_enter Tryz.func188,Tryz.ntmps188;go_wp2_with fail;go_quiet (fail);go_wp2_with fail
 ·obtain⟨k1,k2⟩:=FIN nq _ (V1 (by assumption)) rfl;refine bodyPost_ret (results_none rfl _ _ _) rfl ?_;exact⟨rfl,k1,k2⟩
 ·obtain⟨k1,k2⟩:=FIN nq _ (V0 (by assumption)) rfl;refine bodyPost_ret (results_none rfl _ _ _) rfl ?_;exact⟨rfl,k1,k2⟩
def lkH(x:Hp)(j:Nat):Hp:=(x.regs.take j).foldl uY x
def grB(x:Hp):Bool:=!x.gray.isEmpty
theorem c8v(x:Hp)(j:Nat)(h:j<x.regs.length):lkH x (j+1)=uY (lkH x j) x.regs[j]:=by
 unfold lkH;rw[List.take_succ_eq_append_getElem h,List.foldl_append];rfl
theorem lkH_all(x:Hp):lkH x x.regs.length=tU x:=by unfold lkH tU;rw[List.take_length]
theorem lkH_shd(s:Snd x)(hp:x.phase=2)(j:Nat):Shd x (lkH x j):=by
 refine(Shd.fold (.inr hp) (x.regs.take j) x (λy hy=>?_) (Shd.refl s)).1;obtain⟨i,hi,e⟩:=List.mem_iff_getElem.1 (List.mem_of_mem_take hy);rw[<-e];exact s.good_reg i hi
theorem ssh_gr{z:Hp}{y:Wd}(b:Bool)(hb:grB z=b):(yE z y=true->grB (a5o z y)=true)/\(yE z y=false->grB (a5o z y)=b):=by
 refine⟨λh=>?_,λh=>?_⟩
 ·unfold a5o;rw[if_pos h];simp [grB]
 ·unfold a5o;rw[h];simpa using hb
theorem c0a[Inhabited uZ](B g:Nat)(x:Hp)(w:World)(h:GOk B w g x)(s:Snd x)(hp:x.phase=2)(a:World)(ha:a.heap.size<=B)(hx:Ext a w)(hg:x.gray=[]):
  Calls Tryz.prog 188 #[.pointer (some ⟨g,0,none⟩)] w λe w'=>e=.returned (.tuple #[])/\GOk B w' g (zV x)/\Ext a w':=by
 obtain⟨ar,kr,ac,kc,vg,br,bc,pb,pa,pk,role,h⟩:=h;obtain⟨ag,kg,rfl⟩:=h.gr.form;have lg:x.gray.length=0:=by rw[hg];rfl
 have c3:=h.bx.2.2.2.1;have c8:=h.bx.2.2.2.2.2.2.2.2.1;have H:=uU h;rw[lg] at c8;have hgw:g<w.heap.size:=uL c3;have lo:=h.lo;have n8:=s.ok.n8;have S:=uU s;have r16:x.regs.length<=16:=by have:=s.r1.regs;omega
 have r0:0<x.regs.length:=by have:=s.r1.regs;omega
 rw[h.ha r0] at c3;have G0:=uU (show grB (lkH x 0)=false by simp [lkH,grB,hg]);have EU:=uU (show zV x=if (tU x).gray=[] then zC (tU x) 3 0 else tU x by unfold zV;rw[hg]);have SH:=uU (lkH_shd s hp);clear h lg hg hp;go_enter Tryz.func188,Tryz.ntmps188;go_wp2_with fail;go_loopw [4,85] (λsm i wr=>∃j,j<=x.regs.length/\i=.int .i64 (j:Nat)/\sm=.bool (grB (lkH x j))/\Hid (∃ag' kg' role',GAt B wr g (lkH x j) ar kr ac kc (.slice ag' (lkH x j).gray.length kg') br bc pb pa pk role')/\Ext a wr) (λ_ i _=>x.regs.length-(intOf i).toNat)
 case atStart=>exact⟨0,Nat.zero_le _,rfl,by rw[uH G0],⟨_,_,_,uH H⟩,hx⟩
 case round=>
  clear c3 c8;obtain⟨j,hj,rfl,rfl,hr,hxr⟩:=hrel;by_cases hlt:j<x.regs.length
  ·obtain⟨ag',kg',role',hG⟩:=uH hr;have er:(lkH x j).regs=x.regs:=(uH SH j).regs;obtain⟨w0,w1,w2⟩:=hG.rw.r j (by rw[er];exact hlt);have eq:(lkH x j).regs[j]'(by rw[er];exact hlt)=x.regs[j]:=by simp [er]
   rw[eq] at w0 w1 w2;have hbr:br<wr.heap.size:=uL w0;have Hj:=uU hG
   have N1:=uU (show(lkH x j).cells.length<=8000/\(lkH x j).gray.length<=8000/\qN (lkH x j) x.regs[j]/\(x.regs[j].k=2->0<=x.regs[j].a/\x.regs[j].a<(lkH x j).cells.length) by
    have hs:=(uH SH j).s;have h8:=hs.ok.n8;have hgr:=hs.r1.gray;refine⟨h8,by omega,?_,λhk=>?_⟩
    ·have:=hs.good_reg j (by rw[er];exact hlt);rw[eq] at this;exact this
    ·have:=(hs.r4.1 j (by rw[er];exact hlt)).1;rw[eq] at this;unfold uJ at this;omega)
   have NX:=uU (show lkH x (j+1)=a5o (lkH x j) x.regs[j] by rw[c8v x j hlt,b7c (uH N1).2.2.1 (λhk=>((uH N1).2.2.2 hk).1)]);have hj0:(0:Int)<=(j:Int):=by omega
   have hj1:(j:Int)<(x.regs.length:Int):=by omega
   clear hG er eq hr;obtain⟨b0,hb0⟩:∃b,grB (lkH x j)=b:=⟨_,rfl⟩;have SG:=uU (ssh_gr (y:=x.regs[j]) b0 hb0);rw[hb0];clear hb0;go_wp2_with fail;refine(a6y x.regs[j] _ ((uH Hj).ext ((Ext.refl wr).alloc _)) (uH N1).2.2.2 (uH N1).1 (uH N1).2.1 a ha (hxr.alloc _) ?_).mono ?_
   ·have:=(uH Hj).nf.1;simp;omega
   rintro e w3 ⟨rfl,h3,x3⟩;rw[<-uH NX] at h3;obtain⟨r,hr⟩:∃r,yE (lkH x j) x.regs[j]=r:=⟨_,rfl⟩;rw[<-uH NX,hr] at SG;rw[hr];clear hr NX N1 w0 w1 w2;cases r
   ·have E1:=uU ((uH SG).2 rfl);go_wp2_with fail;go_roundw
    case rel=>exact⟨j+1,by omega,by go_num,by rw[uH E1],h3,x3⟩
    case measure=>simp [intOf];omega
   ·have E1:=uU ((uH SG).1 rfl);go_wp2_with fail;go_roundw
    case rel=>exact⟨j+1,by omega,by go_num,by rw[uH E1],h3,x3⟩
    case measure=>simp [intOf];omega
  ·have je:j=x.regs.length:=by omega
   subst je;rw[lkH_all] at hr ⊢
   have HL:=uU (show GOk B wr g (tU x) by
    obtain⟨ag',kg',role',hG⟩:=uH hr;exact⟨_,_,_,_,_,_,_,_,_,_,_,hG⟩)
   clear hr;cases q:grB (tU x)
   ·have EF:=uU (show zV x=zC (tU x) 3 0 by
     have:(tU x).gray=[]:=by simpa [grB] using q
     rw[uH EU,if_pos this])
    go_wp2_with fail;refine(a0y B g (tU x) 3 0 _ (uH HL) a ha hxr).mono ?_;rintro e w2 ⟨rfl,h2,x2⟩;have H2:=uU h2;clear h2;go_wp2_with fail
    go_end0
    exact⟨rfl,by rw[uH EF];exact uH H2,x2⟩
   ·have EF:=uU (show zV x=tU x by
     have:¬(tU x).gray=[]:=λe=>by simp [grB,e] at q
     rw[uH EU,if_neg this])
    go_wp2_with fail
    go_end0
    exact⟨rfl,by rw[uH EF];exact uH HL,hxr⟩
theorem c2g[Inhabited uZ](B g:Nat)(x:Hp)(w:World)(h:GOk B w g x)(s:Snd x)(hp:x.phase=2)(a:World)(ha:a.heap.size<=B)(hx:Ext a w):
  Calls Tryz.prog 188 #[.pointer (some ⟨g,0,none⟩)] w λe w'=>e=.returned (.tuple #[])/\GOk B w' g (zV x)/\Ext a w':=by
 cases hg:x.gray with
 | nil=>exact c0a B g x w h s hp a ha hx hg
 | cons i0 G=>
  have hb:=s.r5.2.2 i0 (by rw[hg];exact List.mem_cons_self ..);obtain⟨i,rfl⟩:∃i:Nat,i0=(i:Int):=⟨i0.toNat,by omega⟩;have ei:((i:Int)).toNat=i:=by omega
  have hin:i<x.cells.length:=by omega
  by_cases hs:x.sub<((x.c i).prs.length:Int)
  ·obtain⟨k,hk⟩:∃k:Nat,x.sub=(k:Int):=⟨x.sub.toNat,by have:=s.r1.sub;omega⟩
   have e:zV x={ uY (uY x ((x.c i).p k).key) ((x.c i).p k).val with sub:=(k:Int)+1 }:=by
    have ek:x.sub.toNat=k:=by omega
    unfold zV;rw[hg];simp only [ei,if_pos hs,ek];rw[hk]
   rw[e];exact b9s B g x w h s hp a ha hx i G hg hin k hk (by omega)
  ·have e:zV x={ x with cells:=x.cells.set i (a1v (x.c i)),gray:=G,sub:=0 }:=by
    unfold zV;rw[hg];simp only [ei,if_neg hs]
   rw[e];exact b7f B g x w h s a ha hx i G hg hin hs
theorem Snd.reg(s:Snd x)(f:Nat)(hf:f<16):cZ x (x.r f) False:=by
 have h:=s.r4.1 f (by rw[s.r1.regs];exact hf);rw[Hp.r_eq] at h;exact h
theorem Snd.at(s:Snd x)(f:Nat)(hf:f<16)(h2:(x.r f).k=2):(x.r f).n=0/\(x.r f).a=(x.at f:Int)/\x.at f<x.cells.length/\(x.c (x.at f)).st=1/\¬cL x (x.at f):=by
 have h:=s.reg f hf;have h1:=h.1;unfold uJ at h1;have ha:(x.r f).a=((x.r f).a.toNat:Int):=by omega
 rcases h.2 h2 with o | o
 ·exact o.2.elim
 ·exact⟨by omega,ha,by unfold Hp.at;omega,o.1,o.2⟩
theorem b1d{o:Obj}(h:w.heap[q]?=some o):q<w.heap.size:=by
 rcases Nat.lt_or_ge q w.heap.size with l | l
 ·exact l
 ·rw[Array.getElem?_eq_none l] at h;cases h
theorem GAt.far{z z2:Nat->Option Obj}{ar:Option Addr}{kr:Nat}{ac:Option Addr}{kc:Nat}{vg:Value}{br bc:Nat}{pb:Nat->Nat}{pa:Nat->Option Addr}{pk:Nat->Nat}{role role':Nat->Nat}(h:@GAt ⟨⟨z⟩⟩ B w g x ar kr ac kc vg br bc pb pa pk role)(hs:w.heap.size<=w'.heap.size)(far:∀q,q<w.heap.size->role q≠1->w'.heap[q]?=w.heap[q]?)(hr:∀q,q<w.heap.size->role q≠1->role' q=role q)(hp:∀q o,z2 q=some o->role' q=1/\w'.heap[q]?=some o):@GAt ⟨⟨z2⟩⟩ B w' g x ar kr ac kc vg br bc pb pa pk role':=by
 obtain⟨bx,nf,lo,ha,hc,rs,gr,sp,kl,_,cc⟩:=h;have fg:=far g nf.1 (by rw[sp.g];omega)
 letI:Inhabited uZ:=⟨⟨z2⟩⟩
 refine⟨bx.block fg,cU nf fg hs,lo,ha,hc,rs.same hs (λhl=>far br (rs.nr hl).1.1 (by rw[sp.r hl];omega)) (λhl=>far bc (rs.nc hl).1.1 (by rw[sp.c hl];omega)) (λq hq hl=>far (pb q) (rs.pl q hq hl).2.1.1 (by rw[sp.p q hq hl];omega)),gr.block (λq hq=>far q (gr.lt q hq).2 (by rw[sp.y q hq];omega)),⟨?_,λhl=>?_,λhl=>?_,λq hq=>?_,λq hq hl=>?_⟩,kl,hp,λhk=>(cc hk).block (hr bc (cc hk).nf.1 (by rw[(cc hk).ro];omega)) (far bc (cc hk).nf.1 (by rw[(cc hk).ro];omega)) hs⟩
 ·rw[hr g nf.1 (by rw[sp.g];omega)];exact sp.g
 ·rw[hr br (rs.nr hl).1.1 (by rw[sp.r hl];omega)];exact sp.r hl
 ·rw[hr bc (rs.nc hl).1.1 (by rw[sp.c hl];omega)];exact sp.c hl
 ·rw[hr q (gr.lt q hq).2 (by rw[sp.y q hq];omega)];exact sp.y q hq
 ·rw[hr (pb q) (rs.pl q hq hl).2.1.1 (by rw[sp.p q hq hl];omega)];exact sp.p q hq hl
theorem GOk.guard{z z2:Nat->Option Obj}(h:@GOk ⟨⟨z⟩⟩ B w0 g x)(e:Ext w0 w)(hz:∀q o,z2 q=some o->z q=some o\/(w0.heap.size<=q/\w.heap[q]?=some o)):@GOk ⟨⟨z2⟩⟩ B w g x:=by
 obtain⟨ar,kr,ac,kc,vg,br,bc,pb,pa,pk,role,h⟩:=h;have h0:=h;obtain⟨_,_,_,_,_,_,_,_,_,pr,_⟩:=h0;refine⟨ar,kr,ac,kc,vg,br,bc,pb,pa,pk,λq=>if w0.heap.size<=q then 1 else role q,GAt.far h e.size (λq hq _=>e.block q hq) (λq hq _=>if_neg (by omega)) (λq o hq=>?_)⟩;rcases hz q o hq with a | ⟨a,b⟩
 ·obtain⟨h1,h2⟩:=pr q o a;have hl:=b1d h2;exact⟨by show(if w0.heap.size<=q then 1 else role q)=1;rw[if_neg (by omega)];exact h1,(e.block q hl).trans h2⟩
 ·exact⟨if_pos a,b⟩
structure Own(p:Inhabited uZ)(lo hi:Nat)(c:World)(p1:Inhabited uZ):Prop where
 z:∀q,(@default uZ p1).z q=if lo<=q/\q<hi then c.heap[q]? else (@default uZ p).z q
 l:∀q o,(@default uZ p).z q=some o->q<lo
 h:hi<=c.heap.size
theorem Own.make(p:Inhabited uZ)(lo hi:Nat)(c:World)(l:∀q o,(@default uZ p).z q=some o->q<lo)(h:hi<=c.heap.size):∃p1,Own p lo hi c p1:=⟨⟨⟨λq=>if lo<=q/\q<hi then c.heap[q]? else (@default uZ p).z q⟩⟩,λ_=>rfl,l,h⟩
theorem a5g(h:q<w.heap.size):∃o,w.heap[q]?=some o:=⟨_,Array.getElem?_eq_getElem h⟩
theorem GOk.enter{p:Inhabited uZ}(h:@GOk p B w g x)(e:Ext w w0):∃p1,Own p w.heap.size w0.heap.size w0 p1/\@GOk p1 B w0 g x:=by
 have h0:=h;obtain⟨ar,kr,ac,kc,vg,br,bc,pb,pa,pk,role,h0⟩:=h0;obtain⟨_,_,_,_,_,_,_,_,_,pr,_⟩:=h0;obtain⟨p1,hp⟩:=Own.make p w.heap.size w0.heap.size w0 (λq o hq=>b1d (pr q o hq).2) (Nat.le_refl _);refine⟨p1,hp,GOk.guard (z:=(@default uZ p).z) (z2:=(@default uZ p1).z) h e (λq o hq=>?_)⟩;rw[hp.z] at hq
 split at hq
 ·rename_i c;exact .inr ⟨c.1,hq⟩
 ·exact .inl hq
theorem GOk.own{p p1:Inhabited uZ}(o:Own p lo hi c p1)(h:@GOk p1 B w g x):∀q,lo<=q->q<hi->w.heap[q]?=c.heap[q]?:=λq h1 h2=>by
 obtain⟨ar,kr,ac,kc,vg,br,bc,pb,pa,pk,role,h⟩:=h;obtain⟨_,_,_,_,_,_,_,_,_,pr,_⟩:=h;obtain⟨ob,hb⟩:=a5g (w:=c) (q:=q) (by have:=o.h;omega);have:=(pr q ob (by rw[o.z q,if_pos ⟨h1,h2⟩];exact hb)).2;rw[this,hb]
theorem GOk.owns{p p1 p2:Inhabited uZ}(o:Own p lo hi c p1)(h:@GOk p1 B w g x)(on:uX (λq=>lo<=q/\q<hi) w w')(hz:∀q ob,(@default uZ p2).z q=some ob->(lo<=q/\q<hi/\w'.heap[q]?=some ob)\/(¬(lo<=q/\q<hi)/\(@default uZ p).z q=some ob)):@GOk p2 B w' g x:=by
 obtain⟨ar,kr,ac,kc,vg,br,bc,pb,pa,pk,role,h⟩:=h;have h0:=h;obtain⟨_,_,_,_,_,_,_,_,_,pr,_⟩:=h0
 have r1:∀q,lo<=q->q<hi->role q=1:=λq h1 h2=>by
  obtain⟨ob,hb⟩:=a5g (w:=c) (q:=q) (by have:=o.h;omega);exact(pr q ob (by rw[o.z q,if_pos ⟨h1,h2⟩];exact hb)).1
 refine⟨ar,kr,ac,kc,vg,br,bc,pb,pa,pk,role,GAt.far (z:=(@default uZ p1).z) (z2:=(@default uZ p2).z) h on.size (λq hq hn=>on.block q hq (λe=>hn (r1 q e.1 e.2))) (λ_ _ _=>rfl) (λq o2 hq=>?_)⟩;rcases hz q o2 hq with⟨a,b,d⟩ | ⟨a,d⟩
 ·exact⟨r1 q a b,d⟩
 ·obtain⟨h1,h2⟩:=pr q o2 (by rw[o.z q,if_neg a];exact d);exact⟨h1,(on.block q (b1d h2) a).trans h2⟩
theorem GOk.leave{p p1:Inhabited uZ}(o:Own p lo hi c p1)(h:@GOk p1 B w g x)(on:uX (λq=>lo<=q/\q<hi) w w'):@GOk p B w' g x:=
 GOk.owns o h on (λq ob hq=>.inr ⟨λhc=>by have:=o.l q ob hq;omega,hq⟩)
end Go.Proofs.YtddkhnclmeikfaaGreat
