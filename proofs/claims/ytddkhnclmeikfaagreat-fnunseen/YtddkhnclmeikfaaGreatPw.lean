import Derived.Test.YtddkhnclmeikfaaGreatSpecI
import Derived.Test.YtddkhnclmeikfaaGreatGg1
import Derived.Test.YtddkhnclmeikfaaGreatWk2
import Derived.Test.YtddkhnclmeikfaaGreatSpecE
set_option maxRecDepth 100000
set_option maxHeartbeats 1000000
namespace Go.Proofs.YtddkhnclmeikfaaGreat
open Go.RowKit Tryz
attribute [local go_sem ↓] Go.wp_at_zero Go.wp_at_succ
variable{ar:Option Addr}{kr kn B b br bn hd:Nat}{x:Hp}{F:List Int}{w:World}{v4 v8 vf vk:Value}{cB cO pb pk role:Nat->Nat}{pa:Nat->Option Addr}{K:List Nat}
theorem c1y[Inhabited uQ](B g:Nat)(x:Hp)(w:World)(h:GOk B w g x)(s:Snd x)(a:World)(ha:a.heap.size<=B)(X:Ext a w):
  Calls prog 189 #[pP g] w λe w'=>e=.returned (.tuple #[])/\GOk B w' g (cY x)/\Ext a w':=by
 obtain⟨ar,kr,ac,kc,vg,br,m,pb,Q,T,I,h⟩:=h;have HO:=uU (show GOk B w g x from⟨_,_,_,_,_,_,_,_,_,_,_,h⟩);have H:=uU h;have K:=h.bx.2.2.2.2.1;have P:=h.bx.2.2.2.2.2.2.1;have c1:=h.bx.2.1;have ae:g<w.heap.size:=uL K;have lo:=h.lo;have n8:=s.ok.n8;have hh:=s.r1.I;clear h;by_cases A:x.I=x.A.length
 ·have E:=uU (show cY x=cZ x 4 0 by unfold cY;rw[if_pos A]);have F:(x.I == (x.A.length:Int))=true:=by simpa using A
  clear A;go_enter func189,ntmps189;go_wp2_with fail;go_quiet (fail);go_wp2_with fail;refine(a1h B g x 4 0 _ (HO.ext ((Ext.refl w).drewN _)) a ha (X.drewN _)).mono ?_;rintro e w2 ⟨rfl,O,x2⟩;have f:=uU O;clear O;go_wp2_with fail
  try simp only [Exit.inBlock,Exit.then]
  refine bodyPost_ret (results_none rfl _ _ _) rfl ?_;exact⟨rfl,by rw[uH E];exact uH f,x2⟩
 ·obtain⟨i,R⟩:∃i:Nat,x.I=(i:Int):=⟨x.I.toNat,by omega⟩;have d:i<x.A.length:=by omega
  have V:=uU (show wrap64 (1+((x.c i).F.length:Int))=1+((x.c i).F.length:Int)/\wrap64 (x.K-(1+((x.c i).F.length:Int)))=x.K-(1+((x.c i).F.length:Int)) by
   have ad:=s.ok.p200 i d;have ah:x.K<=4000:=by have:=s.r3.2;have:=s.r1.M;omega
   have ai:0<=x.K:=by have:=s.r3.1;omega
   exact⟨a3n _ (by omega) (by omega),a3n _ (by omega) (by omega)⟩)
  have F:(x.I == (x.A.length:Int))=false:=by simpa using A
  rw[R] at F P;have u:0<x.A.length:=by omega
  rw[H.hc u] at K;obtain⟨p0,p1,p2,p3,p4,p5,p6⟩:=H.rw.s i d;have p7:=H.rw.p7 i d;have af:m<w.heap.size:=uL p0;have U:=uU (show ¬g=m from λe=>by have h1:=H.sp.g;have O:=H.sp.c u;rw[e] at h1;omega);have i0:(0:Int)<=(i:Int):=by omega
  have i1:(i:Int)<(x.A.length:Int):=by omega
  have ei:x.I.toNat=i:=by omega
  have M:=uU (show cY x=if whB (x.c i)=true then { x with K:=x.K-(1+(x.c i).F.length),A:=x.A.set i Cl0,I:=x.I+1 } else { x with A:=x.A.set i (qX (x.c i)),I:=x.I+1 } by unfold cY;rw[if_neg A,ei]);have L:=uU R;have J:=λn j=>a0t w n #[iv 0,iv 0,iv 0,iv 0,iv 0,iv 0,iv 0,.slice none 0 0] 62 j
  have zf:=λn j=>a3y w n #[iv 0,iv 0,iv 0,iv 0,iv 0,iv 0,iv 0,.slice none 0 0] 62 j
  have zo:=λn o b j (h:b<w.heap.size)=>a4j w n o b j h
  clear A R ei hh;go_enter func189,ntmps189;go_wp2_with fail;go_quiet (fail);go_wp2_with fail
  go_region
  all_goals
   obtain⟨r,l⟩:∃W,W=(((((((((w.drewN (nq+1)).alloc (.cells #[iv 0,iv 0,iv 0,iv 0,iv 0,iv 0,iv 0,.slice none 0 0] 62)).setCell (aA w.heap.size 0) (iv (x.c i).st)).setCell (aA w.heap.size 1) (iv (x.c i).kind)).setCell (aA w.heap.size 2) (iv (x.c i).T)).setCell (aA w.heap.size 3) (iv (x.c i).U)).setCell (aA w.heap.size 4) (iv (x.c i).born)).setCell (aA w.heap.size 5) (iv (x.c i).J)).setCell (aA w.heap.size 6) (iv (x.c i).to)).setCell (aA w.heap.size 7) (.slice (Q i) (x.c i).F.length (T i)):=⟨_,rfl⟩
   have v:Ext w r:=by
    rw[l];exact(((((((((Ext.refl w).drewN (nq+1)).alloc _).setCell (Nat.le_refl _) _).setCell (Nat.le_refl _) _).setCell (Nat.le_refl _) _).setCell (Nat.le_refl _) _).setCell (Nat.le_refl _) _).setCell (Nat.le_refl _) _).setCell (Nat.le_refl _) _ |>.setCell (Nat.le_refl _) _
   have l0:r.cell? (aA w.heap.size 0)=some (iv (x.c i).st):=by
    rw[l,uC _ (.inr (by omega)),uC _ (.inr (by omega)),uC _ (.inr (by omega)),uC _ (.inr (by omega)),uC _ (.inr (by omega)),uC _ (.inr (by omega)),uC _ (.inr (by omega))];exact World.cell?_setCell_same _ _ _ (by rw[J];rfl)
   have l5:r.cell? (aA w.heap.size 5)=some (iv (x.c i).J):=by
    rw[l,uC _ (.inr (by omega)),uC _ (.inr (by omega))];exact World.cell?_setCell_same _ _ _ (by rw[uC _ (.inr (by omega)),uC _ (.inr (by omega)),uC _ (.inr (by omega)),uC _ (.inr (by omega)),uC _ (.inr (by omega)),J];rfl)
   have l7:r.cell? (aA w.heap.size 7)=some (.slice (Q i) (x.c i).F.length (T i)):=by
    rw[l];exact World.cell?_setCell_same _ _ _ (by rw[uC _ (.inr (by omega)),uC _ (.inr (by omega)),uC _ (.inr (by omega)),uC _ (.inr (by omega)),uC _ (.inr (by omega)),uC _ (.inr (by omega)),uC _ (.inr (by omega)),J];rfl)
   rw[<-l];clear l J zf zo p0 p1 p2 p3 p4 p6 p7;have f:=uU (H.ext v);have d6:=v.keep P;have d4:=v.keep K;have d1:=v.keep c1;have d5:=v.keep p5;have Z:r.frozen? (aA g 6)=false:=f.nf.2 6;have f1:r.frozen? (aA g 1)=false:=f.nf.2 1;have Y:=(f.rw.nc u).1.2;have aa:¬m=g:=λe=>uH U e.symm
   clear c1 K P p5
   have G3:=uU (show GOk B (r.setCell (aA m (i*8+5)) (iv 0)) g { x with A:=x.A.set i (qX (x.c i)) } by
    refine⟨_,_,_,_,_,_,_,_,_,_,_,f.setc d rfl (uX.setCell (S:=λq=>q=m) (uX.refl _ r) (p:=(aA m (i*8+5))) rfl _) ?_ (λk hk=>uC _ (.inr (by omega))) ((f.rw.nc u).1.set _ _)⟩;obtain⟨a0,a1,a2,a3,a4,a5,a6⟩:=f.rw.s i d;refine⟨?_,?_,?_,?_,?_,World.cell?_setCell_same _ _ _ a5,?_⟩
    ·rw[uC _ (.inr (by omega))];exact a0
    ·rw[uC _ (.inr (by omega))];exact a1
    ·rw[uC _ (.inr (by omega))];exact a2
    ·rw[uC _ (.inr (by omega))];exact a3
    ·rw[uC _ (.inr (by omega))];exact a4
    ·rw[uC _ (.inr (by omega))];exact a6)
   have D:=uU ((G3.set6 ((i:Int)+1)).ext (Ext.refl _).drew);clear G3;have N:=(f.rw.nc u).2;have G:=uU (((X.trans v).setCell (p:=(aA m (i*8+5))) (show a.heap.size<=m from Nat.le_trans ha N) (iv 0)).setCell (p:=(aA g 6)) (show a.heap.size<=g by omega) (iv ((i:Int)+1)) |>.drew);cases q1:((x.c i).st == 1)
   ·have y:=uU (show cY x={ x with A:=x.A.set i (qX (x.c i)),I:=x.I+1 } by rw[uH M,if_neg (by simp [whB,q1])]);rw[uH L] at y;go_wp2_with fail
    go_region
    all_goals
     go_wp2_with fail
     go_end0
     exact⟨rfl,by rw[uH y];exact uH D,G⟩
   ·cases q2:((x.c i).J == 0)
    ·have y:=uU (show cY x={ x with A:=x.A.set i (qX (x.c i)),I:=x.I+1 } by rw[uH M,if_neg (by simp [whB,q2])]);rw[uH L] at y;go_wp2_with fail
     go_region
     all_goals
      go_wp2_with fail
      go_end0
      exact⟨rfl,by rw[uH y];exact uH D,G⟩
    ·have y:=uU (show cY x={ x with K:=x.K-(1+(x.c i).F.length),A:=x.A.set i Cl0,I:=x.I+1 } by rw[uH M,if_pos (by simp [whB,q1,q2])]);rw[uH L] at y;clear D G;go_wp2_with fail
     go_region
     all_goals
      rw[V.1,V.2];obtain⟨C,t⟩:∃W,W=(r.setCell (aA g 1) (iv (x.K-(1+(x.c i).F.length)))).drew:=⟨_,rfl⟩
      have z:=uU (show GAt B C g { x with K:=x.K-(1+(x.c i).F.length) } ar kr ac kc vg br m pb Q T I by
       rw[t];exact(f.boxed (x':={ x with K:=x.K-(1+(x.c i).F.length) }) (uX.setCell (S:=λq=>q=g) (uX.refl _ r) (p:=(aA g 1)) rfl _) (f.nf.set _ _) rfl rfl rfl (f.bx.set1 _)).ext (Ext.refl _).drew)
      have G:Ext a C:=by rw[t];exact((X.trans v).setCell (p:=(aA g 1)) (show a.heap.size<=g by omega) _).drew
      rw[<-t];clear t V l0 l5 l7 d1 d4 d5 d6 Z f1 Y v;have e4:=z.bx.2.2.2.2.1;rw[f.hc u] at e4;have e6:C.cell? (aA g 6)=some (iv i):=by rw[<-uH L];exact z.bx.2.2.2.2.2.2.1
      obtain⟨e0,e1,e2,e3,ab,e5,ag⟩:=z.rw.s i d;have e7:=z.rw.p7 i d;have Z:C.frozen? (aA g 6)=false:=z.nf.2 6;have Y:=(z.rw.nc u).1.2;have D:=uU (((z.wipe i d 0 0).set6 ((i:Int)+1)).ext (Ext.refl _).drew);have X4:=uU (show Ext a (((qW C m (i*8) 0 0).setCell (aA g 6) (iv ((i:Int)+1))).drew) from(((a0i C m (i*8) 0 0).ext G (λq hq e=>by have:=(z.rw.nc u).2;omega)).setCell (p:=(aA g 6)) (show a.heap.size<=g by omega) _).drew);unfold qW at D X4;go_wp2_with fail
      go_region
      all_goals
       go_wp2_with fail
       go_end0
       exact⟨rfl,by rw[uH y];exact uH D,X4⟩
theorem b1t(x:Hp)(b:Nat)(w:World){ac:Option Addr}{kc:Nat}{ag:Option Addr}{kg:Nat}{an:Option Addr}(h:VAt w b x ar kr ac kc ag kg an kn)(r1:R1 x)(Q:R2 x)(P:R5 x):
  Calls prog 112 #[pP b] w λe w'=>∃r:Bool,Hid (e=.returned (.bool r))/\(r=true↔R6 x)/\Ext w w':=by
 have R:=h.H.c5;have N:=h.H.c6;have S:=h.H.c7;obtain⟨O,G⟩:=r1.E;obtain⟨B,I⟩:=r1.I;have K:=r1.sub.1;have d:x.E=0\/x.E=1\/x.E=2\/x.E=3\/x.E=4\/x.E=5\/x.E=6:=by omega
 rcases d with a | a | a | a | a | a | a
 ·have Y:=uU (c5u (x:=x) (Or.inl a));cases q:(x.I == 0)
  all_goals
   go_enter func112,ntmps112;go_wp2;go_ret;exact⟨_,rfl,by have:=uH Y;rw[q] at this;simpa using this,Ext.refl _⟩
 ·have Y:=uU (R6_1 (x:=x) (Or.inl a));go_enter func112,ntmps112;go_wp2;go_ret;exact⟨_,rfl,Y,Ext.refl _⟩
 ·cases q:(x.I == 0)
  ·have Y:=uU (show ¬R6 x from λr=>by have:=(r.2.1 a).1;simp at q;omega);go_enter func112,ntmps112;go_wp2_with fail;go_quiet (fail);go_wp2;go_ret;exact⟨false,rfl,⟨λf=>by simp at f,λr=>(Y r).elim⟩,(Ext.refl _).drewN _⟩
  ·by_cases m:x.D.length=0
   ·have Y:=uU (show decide (x.sub<=0)=true↔R6 x by
     have u:x.I=0:=by simpa using q
     unfold R6;simp [a,m,u];omega)
    have D:=h.H.c8;rw[m] at D;have k:=uU (λn=>a7h b (w.drewN n) (((Ext.refl w).drewN n).keep D));go_enter func112,ntmps112;go_wp2_with fail;go_quiet ((go_at_call 182;exact Calls.quiet_of_same (k _)));go_wp2;go_ret;exact⟨_,rfl,Y,(Ext.refl _).drewN _⟩
   ·have g:0<x.D.length:=by omega
    have s:=P.2.2 x.D[0] (List.getElem_mem g);obtain⟨i,l⟩:=Int.eq_ofNat_of_zero_le s.1;have L:x.g0=i:=by simp [Hp.g0,g,l]
    have Y:=uU (show decide (x.sub<=((x.c i).F.length:Int))=true↔R6 x by
     have u:x.I=0:=by simpa using q
     have z:x.D≠[]:=λe=>by simp [e] at m
     unfold R6;rw[L];simp [a,z,u])
    obtain⟨A,o,t,v,y,C⟩:=h.H.cell i (by omega);have k:=uU (λn=>a7i x b i (w.drewN n) (h.ext ((Ext.refl w).drewN n)) g l (by omega) A o t v y (C.ext ((Ext.refl w).drewN n)));go_enter func112,ntmps112;go_wp2_with fail;go_quiet ((go_at_call 182;exact Calls.quiet_of (k _)));go_wp2;go_ret;exact⟨_,rfl,Y,(Ext.refl _).drewN _⟩
 ·have Y:=uU (R6_1 (x:=x) (Or.inr (Or.inl a)));go_enter func112,ntmps112;go_wp2;go_ret;exact⟨_,rfl,Y,Ext.refl _⟩
 ·have Y:=uU (c5u (x:=x) (Or.inr a));cases q:(x.I == 0)
  all_goals
   go_enter func112,ntmps112;go_wp2;go_ret;exact⟨_,rfl,by have:=uH Y;rw[q] at this;simpa using this,Ext.refl _⟩
 ·obtain⟨i,l⟩:=Int.eq_ofNat_of_zero_le B;by_cases j:i<x.A.length
  ·have Y:=uU (show decide (x.sub<=((x.c i).F.length:Int))=true↔R6 x by
    have M:¬(i:Int)=(x.A.length:Int):=by omega
    by_cases p:(x.c i).st=1
    ·unfold R6;simp [a,l,p,M]
    ·have J:(x.c i).F.length=0:=by
      rcases Q.1 i j with c | c | c
      ·exact c.2.1.2.2.2.2.2
      ·exact c.2.1.2.2.2.2.2
      ·exact absurd c.1 p
     unfold R6;simp [a,l,p,J];omega)
   obtain⟨A,o,t,v,y,C⟩:=h.H.cell i j;have k:=uU (λn=>b4u x b i (w.drewN n) (h.ext ((Ext.refl w).drewN n)) l j A o t v y (C.ext ((Ext.refl w).drewN n)));go_enter func112,ntmps112;go_wp2_with fail;go_quiet ((go_at_call 183;exact Calls.quiet_of (k _)));go_wp2;go_ret;exact⟨_,rfl,Y,(Ext.refl _).drewN _⟩
  ·have F:x.I=x.A.length:=by omega
   have Y:=uU (show decide (x.sub<=0)=true↔R6 x by
    unfold R6;simp [a,F];omega)
   have E:=N;rw[F] at E;have k:=uU (λn=>b4t x b (w.drewN n) (((Ext.refl w).drewN n).keep E) (((Ext.refl w).drewN n).keep h.n13));go_enter func112,ntmps112;go_wp2_with fail;go_quiet ((go_at_call 183;exact Calls.quiet_of (k _)));go_wp2;go_ret;exact⟨_,rfl,Y,(Ext.refl _).drewN _⟩
 ·have Y:=uU (R6_1 (x:=x) (Or.inr (Or.inr a)));go_enter func112,ntmps112;go_wp2;go_ret;exact⟨_,rfl,Y,Ext.refl _⟩
theorem SAt.drop[Inhabited uQ](h:SAt B w b x ar kr v4 v8 br cB cO bn pb pa pk kn hd vf F vk K role)(i:Nat)(O:i+1=x.A.length):
  SAt B (w.setCell (aA b 13) (sS bn i kn)) b { x with A:=x.A.take i } ar kr v4 v8 br cB cO bn pb pa pk kn hd vf F vk K role:=by
 have t:∀q,q<w.heap.size->role q≠0->(w.setCell (aA b 13) (sS bn i kn)).heap[q]?=w.heap[q]?:=λq g N=>Below.heap_setCell _ _ _ _ (λe=>N (by rw[e];exact h.sp.b))
 have A:w.heap.size<=(w.setCell (aA b 13) (sS bn i kn)).heap.size:=by simp [World.setCell]
 have l:=h.rw.same (w':=w.setCell (aA b 13) (sS bn i kn)) A (λm=>t br (h.rw.nr m).1.1 (by rw[h.sp.r m];omega)) (λq g=>t (cB q) (h.rw.nc q g).1.1 (by rw[h.sp.c q g];omega)) (λq g m=>t (pb q) (h.rw.pl q g m).2.1.1 (by rw[h.sp.p q g m];omega));have m:({ x with A:=x.A.take i }:Hp).A.length=i:=by simp;omega
 have D:∀q,q<i->({ x with A:=x.A.take i }:Hp).c q=x.c q:=λq g=>by grind [Hp.c]
 have E:∀o,o≠13->(w.setCell (aA b 13) (sS bn i kn)).cell? (aA b o)=w.cell? (aA b o):=λo J=>uC _ (.inr (λe=>J e.symm))
 have I:=t bn h.sb.lo.2.2.1 (by rw[h.sp.n];omega);refine⟨⟨h.sb.bx.of λo J=>E o (by omega),h.sb.ha,?_,λk C=>?_,⟨(E 14 (by omega)).trans h.sb.fr.hd,(h.sb.nb.set _ _).2 14,uN h.sb.fr.own (λq g=>t q (h.sb.fr.own.lt q g).2 (by rw[h.sp.f q g];omega)),h.sb.fr.apart⟩,h.sb.rg.of λo G _=>E o (by omega),(E 4017 (by omega)).trans h.sb.k0,uN h.sb.kp (λq g=>t q (h.sb.kp.lt q g).2 (by rw[h.sp.k q g];omega)),h.sb.nb.set _ _,⟨h.sb.lo.1,h.sb.lo.2.1,h.sb.lo.2.2.of I A⟩⟩,⟨l.r,λq g=>?_,λq g=>?_,λq g k C=>?_,λq g y=>?_,l.nr,λq g=>l.nc q (by rw[m] at g;omega),λq g=>l.d q (by rw[m] at g;omega),λq H g u v G L=>?_,λq H g u v=>l.dc q H (by rw[m] at g;omega) (by rw[m] at u;omega) v,λq g=>by rw[m] at g;rw[D q g];exact l.kp q (by omega)⟩,⟨h.sp.b,h.sp.n,h.sp.r,λq g=>h.sp.c q (by rw[m] at g;omega),h.sp.f,h.sp.k,λq g y=>?_⟩,h.pr.of (λq g G=>t q g (by rw[G];omega)) (λ_ _ h=>h)⟩
 ·rw[m];exact World.cell?_setCell_same _ _ _ h.sb.n13
 ·rw[m] at C;exact⟨(World.cell?_of_block (a:=(aA bn _)) I).trans (h.sb.nd k (by omega)).1,(World.cell?_of_block (a:=(aA bn _)) I).trans (h.sb.nd k (by omega)).2⟩
 ·rw[m] at g;rw[D q g];exact l.s q (by omega)
 ·rw[m] at g;rw[D q g];exact l.p7 q (by omega)
 ·rw[m] at g;rw[D q g] at C ⊢;exact l.p q (by omega) k C
 ·rw[m] at g;have z:=l.pl q (by omega) y;exact⟨z.1,z.2.1,⟨z.2.2.1.1,λj M=>z.2.2.1.2 j (by rw[m] at M;omega)⟩,z.2.2.2⟩
 ·rw[m] at g u;exact l.dp q H (by omega) (by omega) v G L
 ·rw[m] at g;exact h.sp.p q (by omega) y
theorem SAt.setr[Inhabited uQ]{w':World}(h:SAt B w b x ar kr v4 v8 br cB cO bn pb pa pk kn hd vf F vk K role)(j:Nat)(S:j<x.B.length)(y:Wd)(o:uX (λq=>q=br) w w')(P:Nf1 br w')(R:yU w' br (j*3) y)(Q:∀m,(m<j*3\/j*3+3<=m)->w'.cell? (aA br m)=w.cell? (aA br m)):
  SAt B w' b { x with B:=x.B.set j y } ar kr v4 v8 br cB cO bn pb pa pk kn hd vf F vk K role:=by
 have v:0<x.B.length:=by omega
 have l:∀q,q<w.heap.size->role q≠2->w'.heap[q]?=w.heap[q]?:=λq g O=>o.block q g (λe=>O (by rw[e];exact h.sp.r v))
 have t:({ x with B:=x.B.set j y }:Hp).B.length=x.B.length:=by simp
 have G:∀q,q<x.A.length->0<pk q->w'.heap[pb q]?=w.heap[pb q]?:=λq g t=>l (pb q) (h.rw.pl q g t).2.1.1 (by rw[h.sp.p q g t];omega)
 have A:∀q,q<x.A.length->w'.heap[cB q]?=w.heap[cB q]?:=λq g=>l (cB q) (h.rw.nc q g).1.1 (by rw[h.sp.c q g];omega)
 have i:=h.sb.same o.size (l b h.sb.nb.1 (by rw[h.sp.b];omega)) (l bn h.sb.lo.2.2.1 (by rw[h.sp.n];omega)) (λq g=>l q (h.sb.fr.own.lt q g).2 (by rw[h.sp.f q g];omega)) (λq g=>l q (h.sb.kp.lt q g).2 (by rw[h.sp.k q g];omega));refine⟨⟨by rw[t];exact i.bx,λ_=>i.ha v,i.n13,i.nd,i.fr,i.rg,i.k0,i.kp,i.nb,i.lo⟩,⟨λm E=>?_,λq g=>?_,λq g=>?_,λq g k z=>?_,λq g u=>?_,λ_=>⟨P,(h.rw.nr v).2⟩,λq g=>⟨uJ (h.rw.nc q g).1 (A q g) o.size,(h.rw.nc q g).2⟩,h.rw.d,h.rw.dp,h.rw.dc,h.rw.kp⟩,⟨h.sp.b,h.sp.n,λ_=>h.sp.r v,h.sp.c,h.sp.f,h.sp.k,h.sp.p⟩,h.pr.of (λq g N=>l q g (by rw[N];omega)) (λ_ _ h=>h)⟩
 ·have C:m<x.B.length:=by rw[t] at E;exact E
  by_cases e:m=j
  ·grind [Nf1,yU]
  ·have D:j≠m:=λJ=>e J.symm
   have:({ x with B:=x.B.set j y }:Hp).B[m]=x.B[m]:=by simp [List.getElem_set_ne D]
   rw[this];exact(h.rw.r m C).of λk z=>Q _ (by omega)
 ·exact(h.rw.s q g).of λm _=>World.cell?_of_block (a:=(aA (cB q) _)) (A q g)
 ·exact(World.cell?_of_block (a:=(aA (cB q) _)) (A q g)).trans (h.rw.p7 q g)
 ·have H:k<(x.c q).F.length:=z;exact(h.rw.p q g k z).of λm _=>World.cell?_of_block (a:=(aA (pb q) _)) (G q g (h.rw.pw g (by omega)))
 ·obtain⟨M,L,I⟩:=h.rw.pl q g u;exact⟨M,a0g L (G q g u) o.size,I⟩
def gapV(t:Option Nat)(bn:Nat):Value:=match t with
 | none=>.pointer none
 | some j=>ndp bn j
def b6j(x:Hp)(F F':List Int):Prop:=Ho F'/\F'.length<=F.length/\(∀v,v∈F'->v∈F)/\∀i,i<x.A.length->(x.c i).st=0->(i:Int)∈F->(i:Int)∈F'
def GapT(x:Hp)(F':List Int)(t:Option Nat):Prop:=match t with
 | none=>F'=[]
 | some j=>j<x.A.length/\(x.c j).st=0/\∀v,v∈F'->(j:Int)<=v
theorem b6j.next{F' L:List Int}{j:Nat}(h:b6j x F F')(m:Ho L)(b:((j:Int)::L).Perm F')(l:j<x.A.length->(x.c j).st≠0):b6j x F L/\L.length<F'.length:=by
 have a:=b.length_eq;simp at a;refine⟨⟨m,by have:=h.2.1;omega,λv g=>h.2.2.1 v (b.mem_iff.1 (List.mem_cons_of_mem _ g)),λi d f k=>?_⟩,by omega⟩;rcases List.mem_cons.1 (b.mem_iff.2 (h.2.2.2 i d f k)) with e | e
 ·have:i=j:=by omega
  subst this;exact absurd f (l d)
 ·exact e
theorem gap_any[Inhabited uQ](h:SAt B w b x ar kr v4 v8 br cB cO bn pb pa pk kn hd vf F vk K role)(ho:Ho F)(hl:F.length<=1000000000)(nn:∀v,v∈F->0<=v):
  Calls prog 326 #[pP b] w λe w'=>∃t vf' F',e=.returned (gapV t bn)/\Hid (dW w' B b 14 vf' F'/\QFr b 14 vf vf' w w')/\Hid (b6j x F F'/\GapT x F' t):=by
 have H:=uU h;have o:=uU h.sb.fr;have X:=uU nn;have N:=uU h.sb.n13;have U:=uU (show b6j x F F from⟨ho,Nat.le_refl _,λ_ h=>h,λ_ _ _ h=>h⟩);have r:=uU (show ∀wr vf',QFr b 14 vf vf' w wr->∀k,k<w.heap.size->role k≠4->role k≠0->wr.heap[k]?=w.heap[k]? from λwr vf' q k W h1 h2=>q.block k W (λe=>h2 (by rw[e];exact h.sp.b)) (λe=>h1 (h.sp.f k e)));go_enter func326,ntmps326;go_wp2_with fail
 go_loopg [] (F.length+1) (λgk wr=>∃(vf':Value) (F':List Int),F'.length<gk/\Hid (dW wr B b 14 vf' F'/\QFr b 14 vf vf' w wr)/\Hid (b6j x F F'))
 case atStart=>exact⟨vf,F,by omega,⟨o,QFr.refl _ _ _ _⟩,U⟩
 case round=>
  obtain⟨vf',F',y,A,i⟩:=hrel;have o:=uU A.1;have u:=uU A.2;have Z:wr.cell? (aA b 13)=some (sS bn x.A.length kn):=(u.hdr 13 (by omega)).trans N;by_cases Q:F'.length=0
  ·obtain⟨ad,p,rfl⟩:=o.empty Q;have m:=o.hd;have FE:=uU (show F'=[] from List.length_eq_zero_iff.1 Q);go_wp2_with fail;refine(a4d _ b 14 ad p m).mono ?_;rintro e T ⟨rfl,rfl⟩;go_wp2;go_ret;exact⟨none,_,F',rfl,⟨o,u⟩,i,FE⟩
  ·have d:0<F'.length:=by omega
   obtain⟨g,p,rfl,aa⟩:=o.form d;have m:=o.hd;have M:=o.cell 0 d;obtain⟨j,S⟩:∃j:Nat,it F' 0=(j:Int):=⟨(it F' 0).toNat,by have:=uH X _ (i.2.2.1 _ (a2w F' 0 d));omega⟩;rw[S] at M;have j0:(0:Int)<=(j:Int):=by omega
   have C:=uU S;by_cases l:j<x.A.length
   ·obtain⟨m0,Y⟩:=H.sb.nd j l;have p0:=(H.rw.s j l).1;have n1:wr.cell? (aA bn (j*2+1))=some (pQ (cB j) (cO j)):=(World.cell?_of_block (a:=(aA bn _)) (r wr _ u bn H.sb.lo.2.2.1 (by rw[H.sp.n];omega) (by rw[H.sp.n];omega))).trans Y
    have o0:wr.cell? (aA (cB j) (cO j))=some (iv (x.c j).st):=(World.cell?_of_block (a:=(aA (cB j) _)) (r wr _ u (cB j) (H.rw.nc j l).1.1 (by rw[H.sp.c j l];omega) (by rw[H.sp.c j l];omega))).trans p0;have j1:(j:Int)<(x.A.length:Int):=by omega
    go_wp2_with fail;refine(a1r _ b 14 g 0 F'.length p j d m M).mono ?_;rintro e T ⟨rfl,rfl⟩;cases P:((x.c j).st == 0)
    ·have I:¬(x.c j).st=0:=by simpa using P
     have D:=uU (show j<x.A.length->(x.c j).st≠0 from λ_=>I);go_wp2_with fail;refine(b1u _ B b 14 _ F' o d i.1 (by have:=i.2.1;omega)).mono ?_;rintro e V ⟨rfl,J,L,O,E,z,G⟩;rw[uH C] at z;have R:=uU (And.intro (And.intro O (u.trans G)) (i.next E z D));go_wp2_with fail
     go_roundg F'.length
     case measure=>exact y
     case rel=>exact⟨J,L,R.2.2,R.1,R.2.1⟩
    ·have GT:=uU (show GapT x F' (some j) from⟨l,by simpa using P,λv hv=>by have:=i.1.least hv;rw[uH C] at this;exact this⟩);go_wp2;go_ret;exact⟨some j,_,F',rfl,⟨o,u⟩,i,GT⟩
   ·go_wp2_with fail;refine(a1r _ b 14 g 0 F'.length p j d m M).mono ?_;rintro e T ⟨rfl,rfl⟩;have D:=uU (show j<x.A.length->(x.c j).st≠0 from λh=>absurd h l);go_wp2_with fail;refine(b1u _ B b 14 _ F' o d i.1 (by have:=i.2.1;omega)).mono ?_;rintro e V ⟨rfl,J,L,O,E,z,G⟩;rw[uH C] at z;have R:=uU (And.intro (And.intro O (u.trans G)) (i.next E z D));go_wp2_with fail
    go_roundg F'.length
    case measure=>exact y
    case rel=>exact⟨J,L,R.2.2,R.1,R.2.1⟩
end Go.Proofs.YtddkhnclmeikfaaGreat
