import Derived.Test.YtddkhnclmeikfaaGreatSpecI
import Derived.Test.YtddkhnclmeikfaaGreatGg1
import Derived.Test.YtddkhnclmeikfaaGreatWk2
import Derived.Test.YtddkhnclmeikfaaGreatImpI
set_option maxRecDepth 100000
set_option maxHeartbeats 4000000
namespace Go.Proofs.YtddkhnclmeikfaaGreat
open Go.RowKit Tryz
attribute [local go_sem ↓] Go.wp_at_zero Go.wp_at_succ
variable{w:World}{ar ac ag an:Option Addr}{kr kc b kg kn:Nat}
def qQ(w:World)(b o:Nat)(c:Cl)(v:Value):World:=(((((((w.setCell ⟨b,o,none⟩ (iv c.st)).setCell ⟨b,o+1,none⟩ (iv c.kind)).setCell ⟨b,o+2,none⟩ (iv c.T)).setCell ⟨b,o+3,none⟩ (iv c.U)).setCell ⟨b,o+4,none⟩ (iv c.born)).setCell ⟨b,o+5,none⟩ (iv c.J)).setCell ⟨b,o+6,none⟩ (iv c.to)).setCell ⟨b,o+7,none⟩ v
theorem b5u(w:World)(b o:Nat)(c:Cl)(v:Value):(qQ w b o c v).drew=qQ w.drew b o c v:=by
 have a:∀(W:World) (p:Addr) (u:Value),(W.setCell p u).drew=W.drew.setCell p u:=λ_ _ _=>rfl
 unfold qQ;simp only [a]
theorem a0k(w:World)(b o:Nat)(c:Cl)(v:Value):uX (λq=>q=b) w (qQ w b o c v):=
 uX.setCell (S:=λq=>q=b) (uX.setCell (S:=λq=>q=b) (uX.setCell (S:=λq=>q=b) (uX.setCell (S:=λq=>q=b) (uX.setCell (S:=λq=>q=b) (uX.setCell (S:=λq=>q=b) (uX.setCell (S:=λq=>q=b) (uX.setCell (S:=λq=>q=b) (uX.refl _ w) (p:=(aA b o)) rfl _) (p:=(aA b (o+1))) rfl _) (p:=(aA b (o+2))) rfl _) (p:=(aA b (o+3))) rfl _) (p:=(aA b (o+4))) rfl _) (p:=(aA b (o+5))) rfl _) (p:=(aA b (o+6))) rfl _) (p:=(aA b (o+7))) rfl _
theorem a5n(h:Nf1 b w)(o:Nat)(c:Cl)(v:Value):Nf1 b (qQ w b o c v):=(((((((h.set _ _).set _ _).set _ _).set _ _).set _ _).set _ _).set _ _).set _ _
theorem a3o(w:World)(b o:Nat)(c:Cl)(v:Value)(k:Nat)(a:k<o\/o+8<=k):(qQ w b o c v).cell? (aA b k)=w.cell? (aA b k):=by
 unfold qQ
 iterate 8 rw[uC _ (.inr (by omega))]
theorem a9r(w:World)(b o:Nat)(c d:Cl)(v u:Value)(h:S7 w b o d)(l:w.cell? (aA b (o+7))=some u):S7 (qQ w b o c v) b o c/\(qQ w b o c v).cell? (aA b (o+7))=some v:=by
 obtain⟨f,g,i,a,k,e,j⟩:=h;unfold qQ;refine⟨⟨?_,?_,?_,?_,?_,?_,?_⟩,?_⟩
 ·iterate 7 rw[uC _ (.inr (by omega))]
  exact dD f
 ·iterate 6 rw[uC _ (.inr (by omega))]
  exact dD ((uC _ (.inr (by omega))).trans g)
 ·iterate 5 rw[uC _ (.inr (by omega))]
  refine dD (u:=iv d.T) ?_
  iterate 2 rw[uC _ (.inr (by omega))]
  exact i
 ·iterate 4 rw[uC _ (.inr (by omega))]
  refine dD (u:=iv d.U) ?_
  iterate 3 rw[uC _ (.inr (by omega))]
  exact a
 ·iterate 3 rw[uC _ (.inr (by omega))]
  refine dD (u:=iv d.born) ?_
  iterate 4 rw[uC _ (.inr (by omega))]
  exact k
 ·iterate 2 rw[uC _ (.inr (by omega))]
  refine dD (u:=iv d.J) ?_
  iterate 5 rw[uC _ (.inr (by omega))]
  exact e
 ·rw[uC _ (.inr (by omega))];refine dD (u:=iv d.to) ?_
  iterate 6 rw[uC _ (.inr (by omega))]
  exact j
 ·refine dD (u:=u) ?_
  iterate 7 rw[uC _ (.inr (by omega))]
  exact l
def b3u(x:Hp)(t f:Nat):Hp:={ x with A:=(x.A.set t (x.c f)).set f (mvC t) }
theorem c4n[Inhabited uQ]{B g:Nat}{x:Hp}{vg:Value}{br bc:Nat}{pb:Nat->Nat}{pa:Nat->Option Addr}{pk:Nat->Nat}{role:Nat->Nat}(h:GAt B w g x ar kr ac kc vg br bc pb pa pk role)(t f:Nat)(e:t≠f)(i:t<x.A.length)(d:f<x.A.length):
  ∃pb' pa' pk' role',GAt B (qW (qQ w bc (t*8) (x.c f) (.slice (pa f) (x.c f).F.length (pk f))) bc (f*8) 2 t) g (b3u x t f) ar kr ac kc vg br bc pb' pa' pk' role':=by
 have r:0<x.A.length:=by omega
 obtain⟨p,n⟩:=a9r w bc (t*8) (x.c f) (x.c t) (.slice (pa f) (x.c f).F.length (pk f)) _ (h.rw.s t i) (h.rw.p7 t i);have a:=a3o w bc (t*8) (x.c f) (.slice (pa f) (x.c f).F.length (pk f));have v:S7 (qQ w bc (t*8) (x.c f) (.slice (pa f) (x.c f).F.length (pk f))) bc (f*8) (x.c f):=(h.rw.s f d).of λj l=>a _ (by omega)
 have m:=(a (f*8+7) (by omega)).trans (h.rw.p7 f d);obtain⟨u,o⟩:=a5k (qQ w bc (t*8) (x.c f) (.slice (pa f) (x.c f).F.length (pk f))) bc (f*8) 2 t _ _ v m;have b:=a4k (qQ w bc (t*8) (x.c f) (.slice (pa f) (x.c f).F.length (pk f))) bc (f*8) 2 t;refine h.move t f e i d ((a0k _ _ _ _ _).trans (a0i _ _ _ _ _)) (b0w (a5n (h.rw.nc r).1 _ _ _) _ _ _) ?_ ?_ u o (λq A C z k y=>?_) (λj l=>by rw[b _ (by omega),a _ (by omega)])
 ·exact p.of λj l=>b _ (by omega)
 ·rw[b _ (by omega)];exact n
 ·rw[b _ (by omega),a _ (by omega)]
theorem mvd_c(x:Hp)(t f:Nat)(b:t<x.A.length)(a:f<x.A.length)(q:Nat):(b3u x t f).c q=if q=f then mvC t else if q=t then x.c f else x.c q:=by grind [b3u,Hp.c,mvC,Hp.c_set]
def yX(x:Hp)(t f j:Nat):Hp:={ b3u x t f with B:=(x.B.take j).map (mvW t f)++x.B.drop j }
theorem res_mv(x:Hp)(t f j:Nat)(m:t<x.A.length)(l:f<x.A.length)(p:(x.c t).st=0)(r:Wd)(d:hU x r False):eZ (yX x t f j) r=mvW t f r:=by
 have i:∀q,(yX x t f j).c q=(b3u x t f).c q:=λ_=>rfl
 unfold eZ mvW;rw[i,mvd_c x t f m l];by_cases b:r.k=2
 ·have n:(x.c r.a.toNat).st=1:=by
   rcases d.2 b with h | h
   ·exact h.2.elim
   ·exact h.1
  have o:0<=r.a:=by have:=d.1;unfold uW at this;omega
  by_cases e:r.a.toNat=f
  ·have g:r.a=(f:Int):=by omega
   rw[if_pos e,if_pos ⟨b,rfl⟩,if_pos ⟨b,g⟩];rfl
  ·grind [Grw.at,Hp.c,hU,eZ,yX,mvW]
 ·grind [Hp.c,hU,eZ,yX,mvW]
theorem mvdR_at(x:Hp)(t f j:Nat)(a:j<x.B.length):∃h:j<(yX x t f j).B.length,(yX x t f j).B[j]=x.B[j]:=by grind [yX]
theorem c7s(x:Hp)(t f j:Nat)(a:j<x.B.length):({ yX x t f j with B:=(yX x t f j).B.set j (mvW t f x.B[j]) }:Hp)=yX x t f (j+1):=by
 have:(yX x t f j).B.set j (mvW t f x.B[j])=(yX x t f (j+1)).B:=by
  simp only [yX];rw[List.set_append_right _ _ (by simp;omega),List.take_succ_eq_append_getElem a,List.map_append];simp only [List.length_map,List.length_take,Nat.min_eq_left (Nat.le_of_lt a),Nat.sub_self];have b:=List.drop_eq_getElem_cons a;rw[b];simp only [List.set_cons_zero,List.map_cons,List.map_nil,List.append_assoc,List.singleton_append]
 rw[this];rfl
theorem c7t(x:Hp)(t f:Nat):yX x t f 0=b3u x t f:=by simp [yX,b3u]
theorem d0z(x:Hp)(t f:Nat):yX x t f x.B.length=dL x t f:=by simp [yX,b3u,dL]
def dZ(w:World)(b o:Nat)(y:Wd):World:=((w.setCell ⟨b,o,none⟩ (iv y.k)).setCell ⟨b,o+1,none⟩ (iv y.n)).setCell ⟨b,o+2,none⟩ (iv y.a)
theorem a7q(w:World)(b o:Nat)(y z:Wd)(h:yU w b o z):yU (dZ w b o y) b o y:=by
 obtain⟨e,d,c⟩:=h;unfold dZ;refine⟨?_,?_,?_⟩
 ·grind [uC,dD,yU,dZ]
 ·grind [uC,dD,yU,dZ]
 ·refine dD (u:=iv z.a) ?_
  iterate 2 rw[uC _ (.inr (by omega))]
  exact c
theorem a0d(w:World)(b o:Nat)(y:Wd):uX (λq=>q=b) w (dZ w b o y):=
 uX.setCell (S:=λq=>q=b) (uX.setCell (S:=λq=>q=b) (uX.setCell (S:=λq=>q=b) (uX.refl _ w) (p:=(aA b o)) rfl _) (p:=(aA b (o+1))) rfl _) (p:=(aA b (o+2))) rfl _
theorem b5v(h:Nf1 b w)(o:Nat)(y:Wd):Nf1 b (dZ w b o y):=((h.set _ _).set _ _).set _ _
theorem a0z(w:World)(b o:Nat)(y:Wd)(k:Nat)(a:k<o\/o+3<=k):(dZ w b o y).cell? (aA b k)=w.cell? (aA b k):=by grind [dZ,dW.cell,HAt.cell,uC]
theorem c4o[Inhabited uQ](B g:Nat)(x:Hp)(w:World)(h:GOk B w g x)(s:Snd x)(a:World)(ha:a.heap.size<=B)(hx:Ext a w):
  Calls prog 190 #[pP g] w λe w'=>e=.returned (.tuple #[])/\GOk B w' g (unit4 x)/\Ext a w':=by
 obtain⟨ar,kr,ac,kc,vg,J,k,pb,pa,pk,am,h⟩:=h;have H:=uU h;have n8:=s.ok.n8;have lo:=h.lo;have S:=uU s;have c4:=h.bx.2.2.2.2.1;have FT:=uU (a1b x);obtain⟨t,ht⟩:∃t,t=uV x:=⟨_,rfl⟩;have HT:=uU ht;have EU:=uU (show unit4 x=if a1c x x.A.length<=(t:Int) then cZ x 5 0 else dL x t (a1c x x.A.length).toNat by unfold unit4;rw[<-ht]);have QF:=uU (b5t h n8);rw[<-ht] at QF FT;have ad:wrap64 ((x.A.length:Int)-1)=(x.A.length:Int)-1:=a3n _ (by omega) (by omega);have LU:=uU (a1s x);have r0:0<x.B.length:=by have:=s.r1.B;omega
 have aq:x.B.length<=16:=by have:=s.r1.B;omega
 clear h s ht;go_enter func190,ntmps190;go_wp2_with fail;refine QF.mono ?_;rintro e w1 ⟨rfl,x1⟩;have R:=uU (H.ext x1);have L:=x1.keep c4;have ae:g<w1.heap.size:=uL L;have X1:=hx.trans x1;clear c4 QF H hx x1;go_wp2_with fail;go_loopw [3] (λfr wr=>∃m:Nat,m<=x.A.length/\fr=iv ((m:Int)-1)/\Hid (∀q,m<=q->q<x.A.length->(x.c q).st≠1)/\Ext w1 wr) (λfr _=>(intOf fr+1).toNat)
 case atStart=>exact⟨x.A.length,Nat.le_refl _,rfl,(λq K V=>by omega),Ext.refl _⟩
 case round=>
  obtain⟨m,hm,rfl,D,d⟩:=hrel;cases m with
  | zero=>
   have Y:=d.keep L;have tn:((t:Int)≥-1)=True:=by simp
   have O:=uU (show a1c x x.A.length = -1 by
    rcases uH LU x.A.length with⟨e,_⟩ | ⟨f,_,hf,K,_⟩
    ·exact e
    ·exact absurd K (D f (Nat.zero_le _) hf))
   clear L;have X:=uU (show unit4 x=cZ x 5 0 by rw[uH EU,if_pos (by rw[uH O];omega)]);go_wp2_with fail;refine(a1h B g x 5 0 _ ⟨_,_,_,_,_,_,_,_,_,_,_,R.ext d⟩ a ha (X1.trans d)).mono ?_;rintro e w3 ⟨rfl,T,x3⟩;have H3:=uU T;clear T;go_wp2_with fail
   try simp only [Exit.inBlock,Exit.then]
   refine bodyPost_ret (results_none rfl _ _ _) rfl ?_;exact⟨rfl,by rw[uH X];exact uH H3,x3⟩
  | succ f=>
   have z:f<x.A.length:=by omega
   have P:0<x.A.length:=by omega
   have ef:(((f+1:Nat):Int)-1)=(f:Int):=by omega
   rw[ef];have Y:=d.keep L;rw[R.hc P] at Y;have e0:=((R.ext d).rw.s f z).1;have E:g<wr.heap.size:=uL Y;have ah:k<wr.heap.size:=uL e0;have f0:(0:Int)<=(f:Int):=by omega
   have f1:(f:Int)<(x.A.length:Int):=by omega
   clear L;cases q:((x.c f).st == 1)
   ·have qb:((x.c f).st != 1)=true:=by simpa using q
    have Q:=uU (show ∀q,f<=q->q<x.A.length->(x.c q).st≠1 from λq K V=>by
     by_cases e:q=f
     ·rw[e];simpa using ‹((x.c f).st == 1)=false›
     ·exact D q (by omega) V)
    go_wp2_with fail;go_roundw
    case rel=>exact⟨f,by omega,by go_num,Q,d⟩
    case measure=>simp [intOf]
   ·have qb:((x.c f).st != 1)=false:=by simpa using q
    have O:=uU (show a1c x x.A.length=(f:Int) by
     rcases uH LU x.A.length with⟨_,K⟩ | ⟨f',e,hf,K,V⟩
     ·exact absurd (by simpa using q) (K f z)
     ·rcases Nat.lt_trichotomy f' f with e2 | e2 | e2
      ·exact absurd (by simpa using q) (V f e2 z)
      ·rw[e,e2]
      ·exact absurd K (D f' (by omega) hf))
    by_cases af:(t:Int)≥(f:Int)
    ·have X:=uU (show unit4 x=cZ x 5 0 by rw[uH EU,if_pos (by rw[uH O];omega)]);go_wp2_with fail;refine(a1h B g x 5 0 _ ⟨_,_,_,_,_,_,_,_,_,_,_,R.ext d⟩ a ha (X1.trans d)).mono ?_;rintro e w3 ⟨rfl,T,x3⟩;have H3:=uU T;clear T;go_wp2_with fail
     try simp only [Exit.inBlock,Exit.then]
     refine bodyPost_ret (results_none rfl _ _ _) rfl ?_;exact⟨rfl,by rw[uH X];exact uH H3,x3⟩
    ·have X:=uU (show unit4 x=dL x t f by rw[uH EU,if_neg (by rw[uH O];omega),uH O];rfl);have C:=uU (R.ext d);have M:t<x.A.length:=by omega
     obtain⟨a0,a1,a2,a3,a4,a5,a6⟩:=C.rw.s f z;have a7:=C.rw.p7 f z;obtain⟨b0,b1,b2,b3,b4,b5,b6⟩:=C.rw.s t M;have b7:=C.rw.p7 t M;have fc:=(C.rw.nc P).1.2;have t0:(0:Int)<=(t:Int):=by omega
     have t1:(t:Int)<(x.A.length:Int):=by omega
     have XR:=X1.trans d;have Z:=uU (show ¬g=k from λe=>by have K:=C.sp.g;have V:=C.sp.c P;rw[e] at K;omega);have an:¬g=k:=uH Z;have ao:¬k=g:=λe=>uH Z e.symm
     have ab:¬f*8=t*8:=by omega
     clear e0 d R D;go_wp2_with fail
     go_region
     all_goals
      obtain⟨n,G⟩:∃W,W=(qQ wr k (t*8) (x.c f) (.slice (pa f) (x.c f).F.length (pk f))).drew:=⟨_,rfl⟩;have l:=uU (show n=qQ wr.drew k (t*8) (x.c f) (.slice (pa f) (x.c f).F.length (pk f)) by rw[G,b5u]);have I:=a3o wr.drew k (t*8) (x.c f) (.slice (pa f) (x.c f).F.length (pk f))
      have L:n.cell? (aA g 4)=some (sS k x.A.length kc):=by
       rw[uH l,World.cell?_of_block (a:=(aA g 4)) ((a0k wr.drew k (t*8) (x.c f) _).block g (by simpa using E) (by omega))];exact Y
      have g3:n.cell? (aA g 3)=some (sS J x.B.length kr):=by
       rw[uH l,World.cell?_of_block (a:=(aA g 3)) ((a0k wr.drew k (t*8) (x.c f) _).block g (by simpa using E) (by omega))];have:=C.bx.2.2.2.1;rw[C.ha r0] at this;exact this
      have d0:n.cell? (aA k (f*8))=some (iv (x.c f).st):=by rw[uH l,I _ (by omega)];exact a0
      have d1:n.cell? (aA k (f*8+1))=some (iv (x.c f).kind):=by rw[uH l,I _ (by omega)];exact a1
      have d2:n.cell? (aA k (f*8+2))=some (iv (x.c f).T):=by rw[uH l,I _ (by omega)];exact a2
      have d3:n.cell? (aA k (f*8+3))=some (iv (x.c f).U):=by rw[uH l,I _ (by omega)];exact a3
      have ai:n.cell? (aA k (f*8+4))=some (iv (x.c f).born):=by rw[uH l,I _ (by omega)];exact a4
      have d5:n.cell? (aA k (f*8+5))=some (iv (x.c f).J):=by rw[uH l,I _ (by omega)];exact a5
      have d6:n.cell? (aA k (f*8+6))=some (iv (x.c f).to):=by rw[uH l,I _ (by omega)];exact a6
      have d7:n.cell? (aA k (f*8+7))=some (.slice (pa f) (x.c f).F.length (pk f)):=by rw[uH l,I _ (by omega)];exact a7
      have aj:∀j,n.frozen? (aA k j)=false:=by rw[uH l];exact(a5n (w:=wr.drew) (uJ (C.rw.nc P).1 rfl (by simp)) _ _ _).2
      have al:g<n.heap.size:=uL L;have ak:k<n.heap.size:=uL d0;have X5:Ext a n:=by rw[uH l];exact(a0k wr.drew k (t*8) (x.c f) _).ext XR.drew (λq hq e=>by have:=(C.rw.nc P).2;omega)
      unfold qQ at G;rw[<-G];clear G I a0 a1 a2 a3 a4 a5 a6 a7 b0 b1 b2 b3 b4 b5 b6 b7 fc Y E ah XR q qb ef hm ab O EU LU HT ad ae X1 n8 lo t0 f0;have ag:=uU FT;have A:=uU (show t<x.A.length/\f<x.A.length/\t≠f by omega);clear FT af M z;have T0:=uU (show(x.c t).st=0 from ag.2.2 A.1)
      have G6:=uU (show Hid (∃o u p b,GAt B (qW n k (f*8) 2 t) g (yX x t f 0) ar kr ac kc vg J k o u p b) by
       rw[c7t,uH l];exact c4n (C.ext (Ext.refl wr).drew) t f A.2.2 A.1 A.2.1)
      have X6:Ext a (qW n k (f*8) 2 t):=(a0i n k (f*8) 2 t).ext X5 (λq hq e=>by have:=(C.rw.nc P).2;omega);obtain⟨W6,F⟩:∃W,W=qW n k (f*8) 2 t:=⟨_,rfl⟩;rw[<-F] at G6 X6;unfold qW at F;go_wp2_with fail;rw[<-F];clear F d0 d1 d2 d3 L ai d5 d6 d7 aj al ak g3 X5;go_loopw [59] (λi wr=>∃j:Nat,j<=x.B.length/\i=iv j/\Hid (∃o u p b,GAt B wr g (yX x t f j) ar kr ac kc vg J k o u p b)/\Ext a wr) (λi _=>x.B.length-(intOf i).toNat)
      case atStart=>exact⟨0,Nat.zero_le _,rfl,G6,X6⟩
      case round=>
       obtain⟨j,hj,rfl,y,d⟩:=hrel;by_cases N:j<x.B.length
       ·obtain⟨o,u,p,b,y⟩:=y;obtain⟨hl,er⟩:=mvdR_at x t f j N;have RL:=uU (show(yX x t f j).B.length=x.B.length by simp [yX];omega);have CL:=uU (show(yX x t f j).A.length=x.A.length by simp [yX,b3u]);have HJ:=uU y;have c3:=y.bx.2.2.2.1;rw[y.ha (by omega),uH RL] at c3;obtain⟨w0,w1,w2⟩:=y.rw.r j hl;rw[er] at w0 w1 w2;have LD:=uU (S.r4.1 j N);have RS:=uU (res_mv x t f j A.1 A.2.1 T0 x.B[j] LD);have fb:=(y.rw.nr (by omega)).1.2;have E:g<wr.heap.size:=uL c3;have aa:J<wr.heap.size:=uL w0;have ap:=(y.rw.nr (by omega)).2;have j0:(0:Int)<=(j:Int):=by omega
        have j1:(j:Int)<(x.B.length:Int):=by omega
        clear y er;obtain⟨rr,U⟩:∃r,r=mvW t f x.B[j]:=⟨_,rfl⟩;have SU:=uU (c7s x t f j N);rw[<-U] at RS SU;clear U
        have FN:=uU (show ∀W,Ext wr W->Hid (∃o u p b,GAt B (dZ W J (j*3) rr) g (yX x t f (j+1)) ar kr ac kc vg J k o u p b)/\Ext a (dZ W J (j*3) rr) from λW xW=>by
         have g1:=HJ.ext xW;refine⟨⟨o,u,p,b,?_⟩,(a0d W J (j*3) rr).ext (d.trans xW) (λq hq e=>by omega)⟩;rw[<-uH SU];exact g1.setr j hl rr (a0d _ _ _ _) (b5v (g1.rw.nr (by omega)).1 _ _) (a7q _ _ _ _ _ (g1.rw.r j hl)) (λm hm=>a0z _ _ _ _ m hm))
        unfold dZ at FN;go_wp2_with fail;go_region_with (go_at_call 138;refine(a5m x.B[j] _ (HJ.ext (Ext.refl wr).drew) (by rw[uH CL];exact LD.1)).mono ?_;rintro e w5 ⟨rfl,x5⟩;rw[uH RS];have v:=Ext.trans (Ext.refl wr).drew x5;have k3:=v.keep c3;have k0:=v.keep w0;have k1:=v.keep w1;have k2:=v.keep w2;have kf:=λm=>((uK v).2 J m aa).trans (fb m);have XW:=uU v;clear x5 v)
        all_goals
         go_wp2_with fail;go_roundw
         case rel=>exact⟨j+1,by omega,by go_num,(FN w5 XW).1,(FN w5 XW).2⟩
         case measure=>simp [intOf];omega
       ·have je:j=x.B.length:=by omega
        subst je;rw[d0z] at y;go_wp2_with fail
        go_end0
        exact⟨rfl,by
         rw[uH X];obtain⟨o,u,p,b,y⟩:=uH y;exact⟨_,_,_,_,_,_,_,_,_,_,_,y⟩,d⟩
theorem b6w(x:Hp)(b k:Nat)(w:World)(h:VAt w b x ar kr ac kc ag kg an kn)(A:k<x.A.length)(K L:Nat)(ha:an=some (aA K L)):
  Calls prog 179 #[pP b,pQ K (L+k*2)] w λe w'=>∃r:Bool,e=.returned (.bool r)/\(r=true↔∀l,l<(x.c k).F.length->hU x ((x.c k).p l).key (¬cH x k l)/\hU x ((x.c k).p l).val (¬cH x k l))/\Ext w w':=by
 obtain⟨ad,U,bc,oc,I,rfl,m0,m1⟩:=h.N k A;rw[ha] at I;cases I;obtain⟨aa,W,ap,kp,Q,C⟩:=h.H.cell k A;cases Q;have p7:=C.p7;have lp:=C.lp;have HP:=uU C.P;have HC:=uU C;have M0:=uU m0;go_enter func179,ntmps179;go_wp2_with fail;go_loopw [16] (λi wr=>∃l:Nat,l<=(x.c k).F.length/\i=iv l/\(∀j,j<l->hU x ((x.c k).p j).key (¬cH x k j)/\hU x ((x.c k).p j).val (¬cH x k j))/\Ext w wr) (λi _=>(x.c k).F.length-(intOf i).toNat)
 case atStart=>exact⟨0,Nat.zero_le _,rfl,λj h=>by omega,Ext.refl _⟩
 case round=>
  obtain⟨l,hl,rfl,t,d⟩:=hrel;have O:=uU t;by_cases m:l<(x.c k).F.length
  ·obtain⟨b2,o2,rfl,q0,X,q2,Z,V,q5⟩:=uH HP l m;have e0:=d.keep q0;have I:=d.keep X;have Q:=d.keep q2;have e3:=d.keep Z;have e4:=d.keep V;have e5:=d.keep q5;have ab:(0:Int)<=(l:Int):=by omega
   have ae:(l:Int)<((x.c k).F.length:Int):=by omega
   have q:=d.alloc (.cells #[iv ((x.c k).p l).key.k,iv ((x.c k).p l).key.n,iv ((x.c k).p l).key.a,iv ((x.c k).p l).val.k,iv ((x.c k).p l).val.n,iv ((x.c k).p l).val.a] 154);have z:((!eU x k l)=true↔¬cH x k l):=by rw[<-b2y];simp
   have R:=uU (a1q (x:=x) (y:=((x.c k).p l).key) z);have T:=uU (a1q (x:=x) (y:=((x.c k).p l).val) z);go_wp2_with fail;have E:=h.ext q;refine(c3y x b K (L+k*2) k l _ E.H.c5 E.H.c6 E.H.c7 (q.keep M0)).mono ?_;rintro e w2 ⟨rfl,s⟩;have M:=q.trans s;have u:=λ(o:Nat) (v:Value) (hc:(wr.alloc (.cells #[iv ((x.c k).p l).key.k,iv ((x.c k).p l).key.n,iv ((x.c k).p l).key.a,iv ((x.c k).p l).val.k,iv ((x.c k).p l).val.n,iv ((x.c k).p l).val.a] 154)).cell? (aA wr.heap.size o)=some v)=>s.keep hc
   have u0:=u 0 _ (by simp [go_sem];rfl);have u1:=u 1 _ (by simp [go_sem];rfl);have u2:=u 2 _ (by simp [go_sem];rfl);have u3:=u 3 _ (by simp [go_sem];rfl);have u4:=u 4 _ (by simp [go_sem];rfl);have u5:=u 5 _ (by simp [go_sem];rfl);go_wp2_with fail;refine(b1s x b ((x.c k).p l).key (eU x k l) _ (h.ext M)).mono ?_;rintro e w3 ⟨rfl,g⟩;have B:=M.trans g;have v3:=g.keep u3;have v4:=g.keep u4;have v5:=g.keep u5;cases J:eV x ((x.c k).p l).key (!eU x k l)
   ·have N:=uU (show ¬(∀l,l<(x.c k).F.length->hU x ((x.c k).p l).key (¬cH x k l)/\hU x ((x.c k).p l).val (¬cH x k l)) from λr=>by
     have:=R.2 (r l m).1;rw[this] at J;simp at J)
    go_wp2;go_ret
    first | (exact Or.inl ⟨rfl,N,B⟩) | (exact⟨false,rfl,⟨λf=>by simp at f,λr=>(N r).elim⟩,B⟩)
   ·go_wp2_with fail;refine(b1s x b ((x.c k).p l).val (eU x k l) _ (h.ext B)).mono ?_;rintro e w4 ⟨rfl,D⟩;have F:=B.trans D;cases G:eV x ((x.c k).p l).val (!eU x k l)
    ·have N:=uU (show ¬(∀l,l<(x.c k).F.length->hU x ((x.c k).p l).key (¬cH x k l)/\hU x ((x.c k).p l).val (¬cH x k l)) from λr=>by
      have:=T.2 (r l m).2;rw[this] at G;simp at G)
     go_wp2;go_ret
     first | (exact Or.inl ⟨rfl,N,F⟩) | (exact⟨false,rfl,⟨λf=>by simp at f,λr=>(N r).elim⟩,F⟩)
    ·have S:=uU (show ∀j,j<l+1->hU x ((x.c k).p j).key (¬cH x k j)/\hU x ((x.c k).p j).val (¬cH x k j) from λj hj=>by
      by_cases e:j=l
      ·subst e;exact⟨R.1 J,T.1 G⟩
      ·exact O j (by omega))
     go_wp2;go_roundw
     case rel=>exact⟨l+1,by omega,by go_num,S,F⟩
     case measure=>simp [intOf];omega
  ·have Y:=uU (show ∀l,l<(x.c k).F.length->hU x ((x.c k).p l).key (¬cH x k l)/\hU x ((x.c k).p l).val (¬cH x k l) from λj hj=>uH O j (by omega));go_wp2;go_ret
   first | (exact Or.inr ⟨rfl,Y,d⟩) | (exact⟨true,rfl,⟨λ_=>uH Y,λ_=>rfl⟩,d⟩)
theorem b6x(x:Hp)(b:Nat)(w:World)(h:VAt w b x ar kr ac kc ag kg an kn):
  Calls prog 110 #[pP b] w λe w'=>∃r:Bool,e=.returned (.bool r)/\(r=true↔R4 x)/\Ext w w':=by
 have c3:=h.H.c3;have lr:=h.H.lr;have lc:=h.H.lc;go_enter func110,ntmps110;go_wp2_with fail;go_loopw [13] (λi wr=>∃k:Nat,k<=x.B.length/\i=iv k/\(∀j (n:j<x.B.length),j<k->hU x x.B[j] False)/\Ext w wr) (λi _=>x.B.length-(intOf i).toNat)
 case atStart=>exact⟨0,Nat.zero_le _,rfl,λj n h=>by omega,Ext.refl _⟩
 case round=>
  obtain⟨k,Q,rfl,g,d⟩:=hrel;have HA:=uU g;by_cases a:k<x.B.length
  ·obtain⟨b',o,rfl,p0,p1,p2⟩:=(h.ext d).H.R k a;have I:(0:Int)<=(k:Int):=by omega
   have D:(k:Int)<(x.B.length:Int):=by omega
   go_wp2_with fail;refine(b1s x b x.B[k] true _ (h.ext (d.alloc _))).mono ?_;rintro e X ⟨rfl,G⟩;have K:Ext w X:=(d.alloc _).trans G;cases q:eV x x.B[k] (!true)
   ·have N:=uU (show ¬R4 x from λr=>by
     have:=(a1q (m:=!true) (p:=False) (by simp)).2 (r.1 k a);rw[this] at q;simp at q)
    go_wp2;go_ret
    first | (exact Or.inl ⟨rfl,N,K⟩) | (exact⟨false,rfl,⟨λf=>by simp at f,λr=>(N r).elim⟩,K⟩)
   ·have S:=uU (show ∀j (n:j<x.B.length),j<k+1->hU x x.B[j] False from λj n Z=>by
     by_cases e:j=k
     ·subst e;exact(a1q (m:=!true) (p:=False) (by simp)).1 q
     ·exact HA j n (by omega))
    go_wp2;go_roundw
    case rel=>exact⟨k+1,by omega,by go_num,S,K⟩
    case measure=>simp [intOf];omega
  ·have T:=uU (show ∀j (n:j<x.B.length),hU x x.B[j] False from λj n=>uH HA j n (by omega));have L:=(h.ext d).n13;go_wp2_with fail;go_loopw [27] (λi wr=>∃k:Nat,k<=x.A.length/\i=iv k/\(∀j,j<k->¬(uE x j/\hQ (x.c j))/\∀l,l<(x.c j).F.length->a2u x j l ((x.c j).p l))/\Ext w wr) (λi _=>x.A.length-(intOf i).toNat)
   case atStart=>exact⟨0,Nat.zero_le _,rfl,λj h=>by omega,d⟩
   case round=>
    obtain⟨k,Q,rfl,g,d⟩:=hrel;have HA:=uU g;by_cases a:k<x.A.length
    ·have A:=h.ext d;obtain⟨F,J,bc,oc,rfl,rfl,m0,m1⟩:=A.N k a;have L:=A.n13;have I:(0:Int)<=(k:Int):=by omega
     have D:(k:Int)<(x.A.length:Int):=by omega
     go_wp2_with fail;refine(b4r x b k _ A a F J rfl).mono ?_;rintro e w2 ⟨rfl,z⟩;have P:=A.ext z;have M:=d.trans z;cases O:a0p x k
     ·have C:=uU (show ¬uE x k from λs=>by rw[<-a2h,O] at s;simp at s);go_wp2_with fail;refine(b6w x b k _ P a F J rfl).mono ?_;rintro e U ⟨r,rfl,y,v⟩;have t:=M.trans v;cases r
      ·have N:=uU (show ¬R4 x from λB=>by
        have:=y.2 (λl u=>((B.2 k a).2 l u).2 C);simp at this)
       go_wp2;go_ret
       first | (exact Or.inl ⟨rfl,N,t⟩) | (exact⟨false,rfl,⟨λf=>by simp at f,λr=>(N r).elim⟩,t⟩)
      ·have S:=uU (show ∀j,j<k+1->¬(uE x j/\hQ (x.c j))/\∀l,l<(x.c j).F.length->a2u x j l ((x.c j).p l) from λj n=>by
        by_cases e:j=k
        ·subst e;exact⟨λs=>uH C s.1,λl u=>⟨λs=>(C s).elim,λ_=>y.1 rfl l u⟩⟩
        ·exact HA j (by omega))
       go_wp2;go_roundw
       case rel=>exact⟨k+1,by omega,by go_num,S,t⟩
       case measure=>simp [intOf];omega
     ·have E:=uU (a2h.1 O);go_wp2_with fail;refine(b4s x b k _ P a F J rfl).mono ?_;rintro e U ⟨r,rfl,y,v⟩;have t:=M.trans v;cases r
      ·have N:=uU (show ¬R4 x from λB=>by
        have:=y.2 ⟨λl u=>((B.2 k a).2 l u).1 E,λV=>(B.2 k a).1 ⟨E,V⟩⟩;simp at this)
       go_wp2;go_ret
       first | (exact Or.inl ⟨rfl,N,t⟩) | (exact⟨false,rfl,⟨λf=>by simp at f,λr=>(N r).elim⟩,t⟩)
      ·have S:=uU (show ∀j,j<k+1->¬(uE x j/\hQ (x.c j))/\∀l,l<(x.c j).F.length->a2u x j l ((x.c j).p l) from λj n=>by
        by_cases e:j=k
        ·subst e;exact⟨λs=>(y.1 rfl).2 s.2,λl u=>⟨λ_=>(y.1 rfl).1 l u,λW=>(W E).elim⟩⟩
        ·exact HA j (by omega))
       go_wp2;go_roundw
       case rel=>exact⟨k+1,by omega,by go_num,S,t⟩
       case measure=>simp [intOf];omega
    ·have Y:=uU (show R4 x from⟨T,λi hi=>uH HA i (by omega)⟩);go_wp2;go_ret
     first | (exact Or.inr ⟨rfl,Y,d⟩) | (exact⟨true,rfl,⟨λ_=>uH Y,λ_=>rfl⟩,d⟩)
end Go.Proofs.YtddkhnclmeikfaaGreat
