import Derived.Test.YtolmnenlnpbcfaaGreatDoorLk
import Derived.Test.YtolmnenlnpbcfaaGreatDoorPo
import Derived.Test.YtolmnenlnpbcfaaGreatDoorImpB6
set_option maxRecDepth 100000
set_option maxHeartbeats 4000000
namespace Go.Proofs.YtolmnenlnpbcfaaGreatDoor
open Go.RowKit Tryz
attribute [local go_sem ↓] Go.wp_at_zero Go.wp_at_succ
variable{w w':World}{b B kr br bn hd kn:Nat}{x:Hp}{ar:Option Addr}{pb pk role cB cO:Nat->Nat}{pa:Nat->Option Addr}{v4 v8 vf vk:Value}{F:List Int}{K:List Nat}
def eZ(w:World)(b o:Nat)(c:Cl)(v:Value):World:=(((((((w.setCell ⟨b,o,none⟩ (iv c.st)).setCell ⟨b,o+1,none⟩ (iv c.kind)).setCell ⟨b,o+2,none⟩ (iv c.T)).setCell ⟨b,o+3,none⟩ (iv c.U)).setCell ⟨b,o+4,none⟩ (iv c.born)).setCell ⟨b,o+5,none⟩ (iv c.J)).setCell ⟨b,o+6,none⟩ (iv c.to)).setCell ⟨b,o+7,none⟩ v
theorem b5c(w:World)(b o:Nat)(c:Cl)(v:Value):(eZ w b o c v).drew=eZ w.drew b o c v:=by
 have a:∀(W:World)(p:Addr)(u:Value),(W.setCell p u).drew=W.drew.setCell p u:=λ_ _ _=>rfl
 unfold eZ;simp only[a]
theorem a0a(w:World)(b o:Nat)(c:Cl)(v:Value):uQ (λq=>q=b) w (eZ w b o c v):=
 uQ.setCell (S:=λq=>q=b) (uQ.setCell (S:=λq=>q=b) (uQ.setCell (S:=λq=>q=b) (uQ.setCell (S:=λq=>q=b) (uQ.setCell (S:=λq=>q=b) (uQ.setCell (S:=λq=>q=b) (uQ.setCell (S:=λq=>q=b) (tE w b o _) (p:=(aA b (o+1))) rfl _) (p:=(aA b (o+2))) rfl _) (p:=(aA b (o+3))) rfl _) (p:=(aA b (o+4))) rfl _) (p:=(aA b (o+5))) rfl _) (p:=(aA b (o+6))) rfl _) (p:=(aA b (o+7))) rfl _
theorem a3e(h:Nf1 b w)(o:Nat)(c:Cl)(v:Value):Nf1 b (eZ w b o c v):=(((((((h.set _ _).set _ _).set _ _).set _ _).set _ _).set _ _).set _ _).set _ _
theorem a1n(w:World)(b o:Nat)(c:Cl)(v:Value)(k:Nat)(a:k<o\/o+8<=k):(eZ w b o c v).cell? (aA b k)=w.cell? (aA b k):=by
 unfold eZ;iterate 8 rw[uC _ (.inr (by omega))]
theorem a4b(w:World)(b o:Nat)(c d:Cl)(v u:Value)(h:S7 w b o d)(l:w.cell? (aA b (o+7))=some u):S7 (eZ w b o c v) b o c/\(eZ w b o c v).cell? (aA b (o+7))=some v:=by
 have⟨f,g,i,a,k,e,j⟩:=h;unfold eZ;refine⟨⟨?_,?_,?_,?_,?_,?_,?_⟩,?_⟩
 ·iterate 7 rw[uC _ (.inr (by omega))]
  exact dE f
 ·iterate 6 rw[uC _ (.inr (by omega))]
  exact dE ((uC _ (.inr (by omega))).trans g)
 ·iterate 5 rw[uC _ (.inr (by omega))]
  refine dE (u:=iv d.T) ?_;iterate 2 rw[uC _ (.inr (by omega))]
  exact i
 ·iterate 4 rw[uC _ (.inr (by omega))]
  refine dE (u:=iv d.U) ?_;iterate 3 rw[uC _ (.inr (by omega))]
  exact a
 ·iterate 3 rw[uC _ (.inr (by omega))]
  refine dE (u:=iv d.born) ?_;iterate 4 rw[uC _ (.inr (by omega))]
  exact k
 ·iterate 2 rw[uC _ (.inr (by omega))]
  refine dE (u:=iv d.J) ?_;iterate 5 rw[uC _ (.inr (by omega))]
  exact e
 ·rw[uC _ (.inr (by omega))];refine dE (u:=iv d.to) ?_;iterate 6 rw[uC _ (.inr (by omega))]
  exact j
 refine dE (u:=u) ?_;iterate 7 rw[uC _ (.inr (by omega))]
 exact l
def b3n(x:Hp)(t f:Nat):Hp:={ x with A:=(x.A.set t (x.c f)).set f (mvC t) }
theorem c5f[qd]{g:Nat}{ac:Option Addr}{kc:Nat}{vg:Value}{bc:Nat}(h:GAt B w g x ar kr ac kc vg br bc pb pa pk role)(t f:Nat)(e:t≠f)(i:t<x.A.length)(d:f<x.A.length):
  ∃pb' pa' pk' role',GAt B (zN (eZ w bc (t*8) (x.c f) (.slice (pa f) (x.c f).F.length (pk f))) bc (f*8) 2 t) g (b3n x t f) ar kr ac kc vg br bc pb' pa' pk' role':=by
 have r:0<x.A.length:=by omega
 have⟨p,n⟩:=a4b w bc (t*8) (x.c f) (x.c t) (.slice (pa f) (x.c f).F.length (pk f)) _ (h.rw.s t i) (h.rw.p7 t i);have a:=a1n w bc (t*8) (x.c f) (.slice (pa f) (x.c f).F.length (pk f));have v:S7 (eZ w bc (t*8) (x.c f) (.slice (pa f) (x.c f).F.length (pk f))) bc (f*8) (x.c f):=(h.rw.s f d).of λj l=>a _ (by omega)
 have⟨u,o⟩:=a4y (eZ w bc (t*8) (x.c f) (.slice (pa f) (x.c f).F.length (pk f))) bc (f*8) 2 t _ _ v ((a (f*8+7) (by omega)).trans (h.rw.p7 f d));have b:=a3z (eZ w bc (t*8) (x.c f) (.slice (pa f) (x.c f).F.length (pk f))) bc (f*8) 2 t;refine h.move t f e i d ((a0a _ _ _ _ _).trans (a0c _ _ _ _ _)) (b0d (a3e (h.rw.nc r).1 _ _ _) _ _ _) ?_ ?_ u o (λq A C z k y=>?_) (λj l=>by rw[b _ (by omega),a _ (by omega)]);exact p.of λj l=>b _ (by omega)
 rw[b _ (by omega)];exact n;rw[b _ (by omega),a _ (by omega)]
theorem mvd_c(x:Hp)(t f:Nat)(b:t<x.A.length)(a:f<x.A.length)(q:Nat):(b3n x t f).c q=if q=f then mvC t else if q=t then x.c f else x.c q:=by grind[b3n,Hp.c,mvC,Hp.c_set]
def kC(x:Hp)(t f j:Nat):Hp:={ b3n x t f with B:=(x.B.take j).map (mvW t f)++x.B.drop j }
theorem res_mv(x:Hp)(t f j:Nat)(m:t<x.A.length)(l:f<x.A.length)(p:(x.c t).st=0)(r:Wd)(d:hE x r False):qK (kC x t f j) r=mvW t f r:=by
 have i:∀q,(kC x t f j).c q=(b3n x t f).c q:=λ_=>rfl
 unfold qK mvW;rw[i,mvd_c x t f m l];by_cases b:r.k=2;have n:(x.c r.a.toNat).st=1:=by
  obtain h|h:=d.2 b;exact h.2.elim;exact h.1
 have o:0<=r.a:=by have:=d.1;unfold uJ at this;omega
 by_cases e:r.a.toNat=f;have g:r.a=(f:Int):=by omega
 rw[if_pos e,if_pos ⟨b,rfl⟩,if_pos ⟨b,g⟩];rfl;grind[Grw.at,Hp.c,hE,qK,kC,mvW];grind[Hp.c,hE,qK,kC,mvW]
theorem mvdR_at(x:Hp)(t f j:Nat)(a:j<x.B.length):∃h:j<(kC x t f j).B.length,(kC x t f j).B[j]=x.B[j]:=by grind[kC]
theorem c8p(x:Hp)(t f j:Nat)(a:j<x.B.length):({ kC x t f j with B:=(kC x t f j).B.set j (mvW t f x.B[j]) }:Hp)=kC x t f (j+1):=by
 have:(kC x t f j).B.set j (mvW t f x.B[j])=(kC x t f (j+1)).B:=by
  simp only[kC];rw[List.set_append_right _ _ (by simp;omega),kj a,mf];simp only[List.length_map,List.length_take,Nat.min_eq_left (Nat.le_of_lt a),Nat.sub_self];rw[nQ a];simp only[List.set_cons_zero,List.map_cons,List.map_nil,List.append_assoc,List.singleton_append]
 rw[this];rfl
theorem c8q(x:Hp)(t f:Nat):kC x t f 0=b3n x t f:=by simp[kC,b3n]
theorem d2e(x:Hp)(t f:Nat):kC x t f x.B.length=qY x t f:=by simp[kC,b3n,qY]
def cQ(w:World)(b o:Nat)(y:Wd):World:=((w.setCell ⟨b,o,none⟩ (iv y.k)).setCell ⟨b,o+1,none⟩ (iv y.n)).setCell ⟨b,o+2,none⟩ (iv y.a)
theorem a1o(w:World)(b o:Nat)(y z:Wd)(h:yL w b o z):yL (cQ w b o y) b o y:=by
 have⟨e,d,c⟩:=h;unfold cQ;refine⟨by grind[uC,dE,yL,cQ],by grind[uC,dE,yL,cQ],?_⟩;refine dE (u:=iv z.a) ?_;iterate 2 rw[uC _ (.inr (by omega))]
 exact c
theorem cE(w:World)(b o:Nat)(y:Wd):uQ (λq=>q=b) w (cQ w b o y):=
 uQ.setCell (S:=λq=>q=b) (uQ.setCell (S:=λq=>q=b) (tE w b o _) (p:=(aA b (o+1))) rfl _) (p:=(aA b (o+2))) rfl _
theorem a2k(h:Nf1 b w)(o:Nat)(y:Wd):Nf1 b (cQ w b o y):=((h.set _ _).set _ _).set _ _
theorem cV(w:World)(b o:Nat)(y:Wd)(k:Nat)(a:k<o\/o+3<=k):(cQ w b o y).cell? (aA b k)=w.cell? (aA b k):=by grind[cQ,eU.cell,HAt.cell,uC]
theorem c5g[qd](B g:Nat)(x:Hp)(w:World)(h:GOk B w g x)(s:Snd x)(a:World)(ha:a.heap.size<=B)(hx:Ext a w):
  Calls prog 113 #[pP g] w λe w'=>e=.returned (.tuple #[])/\GOk B w' g (unit4 x)/\Ext a w':=by
 have⟨ar,kr,ac,kc,vg,J,k,pb,pa,pk,am,h⟩:=h;have H:=uU h;have n8:=s.ok.n8;have lo:=h.lo;have S:=uU s;have c4:=h.bx.2.2.2.2.1;have FT:=a0i x;have⟨t,ht⟩:=obE (uE x);have HT:=uU ht;have EU:=uU (show unit4 x=if a0y x x.A.length<=(t:Int) then dC x 5 0 else qY x t (a0y x x.A.length).toNat by unfold unit4;rw[<-ht]);have QF:=uU (b5b h n8);rw[<-ht]at QF FT;have ad:wrap64 ((x.A.length:Int)-1)=(x.A.length:Int)-1:=a1g _ (by omega) (by omega);have LU:=a2c x;have r0:0<x.B.length:=by have:=s.r1.B;omega
 have aq:x.B.length<=16:=by have:=s.r1.B;omega
 clear h s ht;go_in;go_wp21;refine QF.mono ?_;rintro e w1 ⟨rfl,x1⟩;have R:=H.ext x1;have L:=x1.keep c4;have ae:=cLt L;have X1:=hx.trans x1;clear c4 QF H hx x1;go_wp21;go_loopw [3] (λfr wr=>∃m:Nat,m<=x.A.length/\fr=iv ((m:Int)-1)/\Hid (∀q,m<=q->q<x.A.length->(x.c q).st≠1)/\Ext w1 wr) (λfr _=>(intOf fr+1).toNat)
 case atStart=>exact⟨x.A.length,hT _,rfl,(λq K V=>by omega),hO _⟩
 case round=>
  obtain⟨m,hm,rfl,D,d⟩:=hrel;cases m with
  | zero=>
   have Y:=d.keep L;have tn:((t:Int)≥-1)=True:=by simp
   have O:=uU (show a0y x x.A.length = -1 by
    obtain⟨e,_⟩|⟨f,_,hf,K,_⟩:=LU x.A.length;exact e;exact absurd K (D f (kB _) hf))
   clear L;have X:=uU (show unit4 x=dC x 5 0 by rw[uH EU,if_pos (by rw[uH O];omega)]);go_wp21;refine(a0w B g x 5 0 _ ⟨_,_,_,_,_,_,_,_,_,_,_,R.ext d⟩ a ha (X1.trans d)).mono ?_;rintro e w3 ⟨rfl,T,x3⟩;have H3:=uU T;clear T;go_wp21;try simp only[Exit.inBlock,Exit.then]
   refine bodyPost_ret (results_none rfl _ _ _) rfl ?_;exact⟨rfl,uH X▸uH H3,x3⟩
  | succ f=>
   have z:f<x.A.length:=by omega
   have P:0<x.A.length:=by omega
   have ef:(((f+1:Nat):Int)-1)=(f:Int):=by omega
   rw[ef];have Y:=d.keep L;rw[R.hc P]at Y;have e0:=((R.ext d).rw.s f z).1;have E:=cLt Y;have ah:=cLt e0;have f0:=i0N f;have f1:(f:Int)<(x.A.length:Int):=by omega
   clear L;cases q:((x.c f).st == 1)
   ·have qb:((x.c f).st != 1)=true:=by simpa using q
    go_wp21;go_roundw
    case rel=>exact⟨f,by omega,by go_num,(show ∀q,f<=q->q<x.A.length->(x.c q).st≠1 from λq K V=>by
     by_cases e:q=f;rw[e];simpa using ‹((x.c f).st == 1)=false›;exact D q (by omega) V),d⟩
    simp[intOf]
   have qb:((x.c f).st != 1)=false:=by simpa using q
   have O:=uU (show a0y x x.A.length=(f:Int) by
    obtain⟨_,K⟩|⟨f',e,hf,K,V⟩:=LU x.A.length;exact absurd (by simpa using q) (K f z);obtain e2|e2|e2:=nR f' f
    ·exact absurd (by simpa using q) (V f e2 z)
    rw[e,e2];exact absurd K (D f' (by omega) hf))
   by_cases af:(t:Int)≥(f:Int);have X:=uU (show unit4 x=dC x 5 0 by rw[uH EU,if_pos (by rw[uH O];omega)]);go_wp21;refine(a0w B g x 5 0 _ ⟨_,_,_,_,_,_,_,_,_,_,_,R.ext d⟩ a ha (X1.trans d)).mono ?_;rintro e w3 ⟨rfl,T,x3⟩;have H3:=uU T;clear T;go_wp21;try simp only[Exit.inBlock,Exit.then]
   refine bodyPost_ret (results_none rfl _ _ _) rfl ?_;exact⟨rfl,by rw[uH X];exact uH H3,x3⟩;have X:=uU (show unit4 x=qY x t f by rw[uH EU,if_neg (by rw[uH O];omega),uH O];rfl);have C:=uU (R.ext d);have M:t<x.A.length:=by omega
   have⟨a0,a1,a2,a3,a4,a5,a6⟩:=C.rw.s f z;have a7:=C.rw.p7 f z;have⟨b0,b1,b2,b3,b4,b5,b6⟩:=C.rw.s t M;have b7:=C.rw.p7 t M;have fc:=(C.rw.nc P).1.2;have t0:=i0N t;have t1:(t:Int)<(x.A.length:Int):=by omega
   have XR:=X1.trans d;have Z:=uU (show ¬g=k from λe=>by have K:=C.sp.g;have V:=C.sp.c P;rw[e]at K;omega);have an:¬g=k:=uH Z;have ao:¬k=g:=λe=>uH Z e.symm
   have ab:¬f*8=t*8:=by omega
   clear e0 d R D;go_wp21;go_region;all_goals
    have⟨n,G⟩:∃W,W=(eZ wr k (t*8) (x.c f) (.slice (pa f) (x.c f).F.length (pk f))).drew:=⟨_,rfl⟩;have l:=uU (show n=eZ wr.drew k (t*8) (x.c f) (.slice (pa f) (x.c f).F.length (pk f)) by rw[G,b5c]);have I:=a1n wr.drew k (t*8) (x.c f) (.slice (pa f) (x.c f).F.length (pk f));have L:n.cell? (aA g 4)=some (sS k x.A.length kc):=by
     rw[uH l,cOb g 4 ((a0a wr.drew k (t*8) (x.c f) _).block g (by simpa using E) (by omega))];exact Y
    have g3:n.cell? (aA g 3)=some (sS J x.B.length kr):=by
     rw[uH l,cOb g 3 ((a0a wr.drew k (t*8) (x.c f) _).block g (by simpa using E) (by omega))];have:=C.bx.2.2.2.1;rw[C.ha r0]at this;exact this
    have d0:n.cell? (aA k (f*8))=some (iv (x.c f).st):=by rw[uH l,I _ (by omega)];exact a0
    have d1:n.cell? (aA k (f*8+1))=some (iv (x.c f).kind):=by rw[uH l,I _ (by omega)];exact a1
    have d2:n.cell? (aA k (f*8+2))=some (iv (x.c f).T):=by rw[uH l,I _ (by omega)];exact a2
    have d3:n.cell? (aA k (f*8+3))=some (iv (x.c f).U):=by rw[uH l,I _ (by omega)];exact a3
    have ai:n.cell? (aA k (f*8+4))=some (iv (x.c f).born):=by rw[uH l,I _ (by omega)];exact a4
    have d5:n.cell? (aA k (f*8+5))=some (iv (x.c f).J):=by rw[uH l,I _ (by omega)];exact a5
    have d6:n.cell? (aA k (f*8+6))=some (iv (x.c f).to):=by rw[uH l,I _ (by omega)];exact a6
    have d7:n.cell? (aA k (f*8+7))=some (.slice (pa f) (x.c f).F.length (pk f)):=by rw[uH l,I _ (by omega)];exact a7
    have aj:∀j,n.frozen? (aA k j)=false:=uH l▸(a3e (w:=wr.drew) (uY (C.rw.nc P).1 rfl (by simp)) _ _ _).2;have al:=cLt L;have ak:=cLt d0;have X5:Ext a n:=by rw[uH l];exact(a0a wr.drew k (t*8) (x.c f) _).ext XR.drew (λq hq e=>by have:=(C.rw.nc P).2;omega)
    unfold eZ at G;rw[<-G];clear G I a0 a1 a2 a3 a4 a5 a6 a7 b0 b1 b2 b3 b4 b5 b6 b7 fc Y E ah XR q qb ef hm ab O EU LU HT ad ae X1 n8 lo t0 f0;have ag:=uU FT;have A:=uU (show t<x.A.length/\f<x.A.length/\t≠f by omega);clear FT af M z;have T0:(x.c t).st=0:=ag.2.2 A.1;have G6:Hid (∃o u p b,GAt B (zN n k (f*8) 2 t) g (kC x t f 0) ar kr ac kc vg J k o u p b):=by
     rw[c8q,uH l];exact c5f (C.ext (eDr wr)) t f A.2.2 A.1 A.2.1
    have X6:Ext a (zN n k (f*8) 2 t):=(a0c n k (f*8) 2 t).ext X5 (λq hq e=>by have:=(C.rw.nc P).2;omega);have⟨W6,F⟩:∃W,W=zN n k (f*8) 2 t:=⟨_,rfl⟩;rw[<-F]at G6 X6;unfold zN at F;go_wp21;rw[<-F];clear F d0 d1 d2 d3 L ai d5 d6 d7 aj al ak g3 X5;go_loopw [59] (λi wr=>∃j:Nat,j<=x.B.length/\i=iv j/\Hid (∃o u p b,GAt B wr g (kC x t f j) ar kr ac kc vg J k o u p b)/\Ext a wr) (λi _=>x.B.length-(intOf i).toNat)
    case atStart=>exact⟨0,kB _,rfl,G6,X6⟩
    case round=>
     obtain⟨j,hj,rfl,y,d⟩:=hrel;by_cases N:j<x.B.length
     ·have⟨o,u,p,b,y⟩:=uH y;have⟨hl,er⟩:=mvdR_at x t f j N;have HJ:=uU y;have c3:=y.bx.2.2.2.1;rw[y.ha (by omega),(show(kC x t f j).B.length=x.B.length by simp[kC];omega)]at c3;have⟨w0,w1,w2⟩:=y.rw.r j hl;rw[er]at w0 w1 w2;have LD:=S.r4.1 j N;have RS:=res_mv x t f j A.1 A.2.1 T0 x.B[j] LD;have fb:=(y.rw.nr (by omega)).1.2;have E:=cLt c3;have ap:=(y.rw.nr (by omega)).2;have j0:=i0N j;have j1:(j:Int)<(x.B.length:Int):=by omega
      clear y er;have⟨rr,U⟩:∃r,r=mvW t f x.B[j]:=⟨_,rfl⟩;have SU:=c8p x t f j N;rw[<-U]at RS SU;clear U;have FN:∀W,Ext wr W->Hid (∃o u p b,GAt B (cQ W J (j*3) rr) g (kC x t f (j+1)) ar kr ac kc vg J k o u p b)/\Ext a (cQ W J (j*3) rr):=λW xW=>by
       have g1:=HJ.ext xW;refine⟨⟨o,u,p,b,?_⟩,(cE W J (j*3) rr).ext (d.trans xW) (λq hq e=>by omega)⟩;rw[<-uH SU];exact g1.setr j hl rr (cE _ _ _ _) (a2k (g1.rw.nr (by omega)).1 _ _) (a1o _ _ _ _ _ (g1.rw.r j hl)) (λm hm=>cV _ _ _ _ m hm)
      unfold cQ at FN;go_wp21;go_region_with (go_at_call 153;refine(a7a x.B[j] _ (HJ.ext (eDr wr)) (by rw[(show(kC x t f j).A.length=x.A.length by simp[kC,b3n])];exact LD.1)).mono ?_;rintro e w5 ⟨rfl,x5⟩;rw[uH RS];have v:=kI (eDr wr) x5;have k3:=v.keep c3;have k0:=v.keep w0;have k1:=v.keep w1;have k2:=v.keep w2;have kf:=λm=>((cX v).2 J m (cLt w0)).trans (fb m);clear x5);all_goals
       go_wp21;go_roundw
       case rel=>exact⟨j+1,by omega,by go_num,(FN w5 v).1,(FN w5 v).2⟩
       simp[intOf];omega
     have je:j=x.B.length:=by omega
     subst je;rw[d2e]at y;go_wp21;go_end0;exact⟨rfl,by
      rw[uH X];have⟨o,u,p,b,y⟩:=uH y;exact⟨_,_,_,_,_,_,_,_,_,_,_,y⟩,d⟩
theorem SAt.drop[qd](h:SAt B w b x ar kr v4 v8 br cB cO bn pb pa pk kn hd vf F vk K role)(i:Nat)(O:i+1=x.A.length):
  SAt B (w.setCell (aA b 13) (sS bn i kn)) b { x with A:=x.A.take i } ar kr v4 v8 br cB cO bn pb pa pk kn hd vf F vk K role:=by
 have t:∀q,q<w.heap.size->role q≠0->(w.setCell (aA b 13) (sS bn i kn)).heap[q]?=w.heap[q]?:=λq g N=>kP _ _ _ _ (λe=>N (e▸h.sp.b))
 have A:w.heap.size<=(w.setCell (aA b 13) (sS bn i kn)).heap.size:=by simp[World.setCell]
 have l:=h.rw.same (w':=w.setCell (aA b 13) (sS bn i kn)) A (λm=>t br (h.rw.nr m).1.1 (by rw[h.sp.r m];omega)) (λq g=>t (cB q) (h.rw.nc q g).1.1 (by rw[h.sp.c q g];omega)) (λq g m=>t (pb q) (h.rw.pl q g m).2.1.1 (by rw[h.sp.p q g m];omega));have m:({ x with A:=x.A.take i }:Hp).A.length=i:=by simp;omega
 have D:∀q,q<i->({ x with A:=x.A.take i }:Hp).c q=x.c q:=λq g=>by grind[Hp.c]
 have E:∀o,o≠13->(w.setCell (aA b 13) (sS bn i kn)).cell? (aA b o)=w.cell? (aA b o):=λo J=>uC _ (.inr (λe=>J e.symm))
 have I:=t bn h.sb.lo.2.2.1 (by rw[h.sp.n];omega);refine⟨⟨h.sb.bx.of λo J=>E o (by omega),h.sb.ha,?_,λk C=>?_,⟨(E 14 (by omega)).trans h.sb.fr.hd,(h.sb.nb.set _ _).2 14,uN h.sb.fr.own (λq g=>t q (h.sb.fr.own.lt q g).2 (by rw[h.sp.f q g];omega)),h.sb.fr.apart⟩,h.sb.rg.of λo G _=>E o (by omega),(E 4017 (by omega)).trans h.sb.k0,uN h.sb.kp (λq g=>t q (h.sb.kp.lt q g).2 (by rw[h.sp.k q g];omega)),h.sb.nb.set _ _,⟨h.sb.lo.1,h.sb.lo.2.1,h.sb.lo.2.2.of I A⟩⟩,⟨l.r,λq g=>?_,λq g=>?_,λq g k C=>?_,λq g y=>?_,l.nr,λq g=>l.nc q (by rw[m]at g;omega),λq g=>l.d q (by rw[m]at g;omega),λq H g u v G L=>?_,λq H g u v=>l.dc q H (by rw[m]at g;omega) (by rw[m]at u;omega) v,λq g=>by rw[m]at g;rw[D q g];exact l.kp q (by omega)⟩,⟨h.sp.b,h.sp.n,h.sp.r,λq g=>h.sp.c q (by rw[m]at g;omega),h.sp.f,h.sp.k,λq g y=>?_⟩,h.pr.of (λq g G=>t q g (by rw[G];omega)) (λ_ _ h=>h)⟩;rw[m];exact kM _ _ _ h.sb.n13;rw[m]at C;exact⟨(cOb bn _ I).trans (h.sb.nd k (by omega)).1,(cOb bn _ I).trans (h.sb.nd k (by omega)).2⟩;rw[m]at g;rw[D q g];exact l.s q (by omega);rw[m]at g;rw[D q g];exact l.p7 q (by omega);rw[m]at g;rw[D q g]at C ⊢;exact l.p q (by omega) k C;rw[m]at g;have z:=l.pl q (by omega) y;exact⟨z.1,z.2.1,⟨z.2.2.1.1,λj M=>z.2.2.1.2 j (by rw[m]at M;omega)⟩,z.2.2.2⟩;rw[m]at g u;exact l.dp q H (by omega) (by omega) v G L;rw[m]at g;exact h.sp.p q (by omega) y
theorem SAt.setr[qd](h:SAt B w b x ar kr v4 v8 br cB cO bn pb pa pk kn hd vf F vk K role)(j:Nat)(S:j<x.B.length)(y:Wd)(o:uQ (λq=>q=br) w w')(P:Nf1 br w')(R:yL w' br (j*3) y)(Q:∀m,(m<j*3\/j*3+3<=m)->w'.cell? (aA br m)=w.cell? (aA br m)):
  SAt B w' b { x with B:=x.B.set j y } ar kr v4 v8 br cB cO bn pb pa pk kn hd vf F vk K role:=by
 have v:0<x.B.length:=by omega
 have l:∀q,q<w.heap.size->role q≠2->w'.heap[q]?=w.heap[q]?:=λq g O=>o.block q g (λe=>O (e▸h.sp.r v))
 have t:({ x with B:=x.B.set j y }:Hp).B.length=x.B.length:=by simp
 have G:∀q,q<x.A.length->0<pk q->w'.heap[pb q]?=w.heap[pb q]?:=λq g t=>l (pb q) (h.rw.pl q g t).2.1.1 (by rw[h.sp.p q g t];omega)
 have A:∀q,q<x.A.length->w'.heap[cB q]?=w.heap[cB q]?:=λq g=>l (cB q) (h.rw.nc q g).1.1 (by rw[h.sp.c q g];omega)
 have i:=h.sb.same o.size (l b h.sb.nb.1 (by rw[h.sp.b];omega)) (l bn h.sb.lo.2.2.1 (by rw[h.sp.n];omega)) (λq g=>l q (h.sb.fr.own.lt q g).2 (by rw[h.sp.f q g];omega)) (λq g=>l q (h.sb.kp.lt q g).2 (by rw[h.sp.k q g];omega));refine⟨⟨t▸i.bx,λ_=>i.ha v,i.n13,i.nd,i.fr,i.rg,i.k0,i.kp,i.nb,i.lo⟩,⟨λm E=>?_,λq g=>?_,λq g=>?_,λq g k z=>?_,λq g u=>?_,λ_=>⟨P,(h.rw.nr v).2⟩,λq g=>⟨uY (h.rw.nc q g).1 (A q g) o.size,(h.rw.nc q g).2⟩,h.rw.d,h.rw.dp,h.rw.dc,h.rw.kp⟩,⟨h.sp.b,h.sp.n,λ_=>h.sp.r v,h.sp.c,h.sp.f,h.sp.k,h.sp.p⟩,h.pr.of (λq g N=>l q g (by rw[N];omega)) (λ_ _ h=>h)⟩;have C:m<x.B.length:=by rw[t]at E;exact E
 by_cases e:m=j;grind[Nf1,yL];have D:j≠m:=λJ=>e J.symm
 have:({ x with B:=x.B.set j y }:Hp).B[m]=x.B[m]:=by simp[List.getElem_set_ne D]
 rw[this];exact(h.rw.r m C).of λk z=>Q _ (by omega)
 exact(h.rw.s q g).of λm _=>cOb (cB q) _ (A q g)
 exact(cOb (cB q) _ (A q g)).trans (h.rw.p7 q g);have H:k<(x.c q).F.length:=z;exact(h.rw.p q g k z).of λm _=>cOb (pb q) _ (G q g (h.rw.pw g (by omega)))
 have⟨M,L,I⟩:=h.rw.pl q g u;exact⟨M,dV L (G q g u) o.size,I⟩
theorem SAt.freed[qd](h:SAt B w b x ar kr v4 v8 br cB cO bn pb pa pk kn hd vf F vk K role){vf':Value}{F':List Int}(l:eU w' B b 14 vf' F')(q:QFr b 14 vf vf' w w')(D:Nf1 b w'):
  ∃role',SAt B w' b x ar kr v4 v8 br cB cO bn pb pa pk kn hd vf' F' vk K role':=by
 have t:∀k,role k≠4->vf.ownBlock≠some k:=λk d e=>d (h.sp.f k e)
 have m:∀k,k<w.heap.size->role k≠4->role k≠0->w'.heap[k]?=w.heap[k]?:=λk d s C=>q.block k d (λe=>C (e▸h.sp.b)) (t k s)
 have u:∀o,o≠14->w'.cell? (aA b o)=w.cell? (aA b o):=λo z=>q.hdr o z
 have A:∀k,vf'.ownBlock=some k->vf.ownBlock=some k\/w.heap.size<=k:=λk d=>by
  obtain e|⟨g,e,E⟩:=q.own;exact .inl (e ▸ d);grind[Grw.at,Nf1]
 have i:∀k,k<w.heap.size->role k≠4->vf'.ownBlock≠some k:=λk d G e=>by grind[S7.some,Nf1]
 have y:=m bn h.sb.lo.2.2.1 (by rw[h.sp.n];omega) (by rw[h.sp.n];omega);refine⟨λk=>(open Classical in if vf'.ownBlock=some k then 4 else role k),⟨h.sb.bx.of λo z=>u o (by omega),h.sb.ha,(u 13 (by omega)).trans h.sb.n13,λk d=>⟨(cOb bn _ y).trans (h.sb.nd k d).1,(cOb bn _ y).trans (h.sb.nd k d).2⟩,l,h.sb.rg.of λo s _=>u o (by omega),(u 4017 (by omega)).trans h.sb.k0,uN h.sb.kp (λk d=>m k (h.sb.kp.lt k d).2 (by rw[h.sp.k k d];omega) (by rw[h.sp.k k d];omega)),D,⟨h.sb.lo.1,h.sb.lo.2.1,h.sb.lo.2.2.of y q.size⟩⟩,h.rw.same q.size (λj=>m br (h.rw.nr j).1.1 (by rw[h.sp.r j];omega) (by rw[h.sp.r j];omega)) (λk d=>m (cB k) (h.rw.nc k d).1.1 (by rw[h.sp.c k d];omega) (by rw[h.sp.c k d];omega)) (λk d j=>m (pb k) (h.rw.pl k d j).2.1.1 (by rw[h.sp.p k d j];omega) (by rw[h.sp.p k d j];omega)),?_,h.pr.of (λq v s=>m q v (by rw[s];omega) (by rw[s];omega)) (λq v s=>by(try dsimp only);rw[if_neg (i q v (by rw[s];omega))];exact s)⟩;exact⟨by rw[if_neg (i b h.sb.nb.1 (by rw[h.sp.b];omega))];exact h.sp.b,by rw[if_neg (i bn h.sb.lo.2.2.1 (by rw[h.sp.n];omega))];exact h.sp.n,λj=>by rw[if_neg (i br (h.rw.nr j).1.1 (by rw[h.sp.r j];omega))];exact h.sp.r j,λk d=>by rw[if_neg (i (cB k) (h.rw.nc k d).1.1 (by rw[h.sp.c k d];omega))];exact h.sp.c k d,λk d=>by rw[if_pos d],λk d=>by rw[if_neg (i k (h.sb.kp.lt k d).2 (by rw[h.sp.k k d];omega))];exact h.sp.k k d,λk d j=>by rw[if_neg (i (pb k) (h.rw.pl k d j).2.1.1 (by rw[h.sp.p k d j];omega))];exact h.sp.p k d j⟩
def yX(cB cO:Nat->Nat)(n:Nat):List Value:=(List.range (n*2)).map (λj=>if j % 2=0 then iv (j / 2:Nat) else .pointer (some ⟨cB (j / 2),cO (j / 2),none⟩))
theorem c2o(a b:Nat->Nat)(n j:Nat)(h:j<n*2):(yX a b n)[j]?=some (if j % 2=0 then iv (j / 2:Nat) else pQ (a (j / 2)) (b (j / 2))):=by
 unfold yX;rw[nG,List.getElem?_range h];rfl
theorem SAt.regrow[qd](h:SAt B w b x ar kr v4 v8 br cB cO bn pb pa pk kn hd vf F vk [] role)(K:x.D=[])(N:B<=w.heap.size)(k:Nat)(m:Array Value)(T:TypeId)(O:x.A.length<=k/\m.size=(k-x.A.length)*2):
  SAt B ((w.drew.alloc (.cells ((yX cB cO x.A.length).toArray++m) T)).setCell (aA b 13) (sS w.heap.size x.A.length k)) b x ar kr v4 v8 br cB cO w.heap.size pb pa pk k hd vf F vk [] (λq=>if q=w.heap.size then 1 else role q):=by
 have C:=h.sb.nb.1;have J:b≠w.heap.size:=by omega
 have l:∀q,q<w.heap.size->(w.drew.alloc (.cells ((yX cB cO x.A.length).toArray++m) T)).heap[q]?=w.heap[q]?:=λq d=>ky w.drew _ q d
 have n:∀q,q<w.heap.size->q≠b->((w.drew.alloc (.cells ((yX cB cO x.A.length).toArray++m) T)).setCell (aA b 13) (sS w.heap.size x.A.length k)).heap[q]?=w.heap[q]?:=λq d M=>(kP _ _ _ _ M).trans (l q d)
 have u:∀o,o≠13->((w.drew.alloc (.cells ((yX cB cO x.A.length).toArray++m) T)).setCell (aA b 13) (sS w.heap.size x.A.length k)).cell? (aA b o)=w.cell? (aA b o):=λo H=>(uC _ (.inr (λe=>H e.symm))).trans (cOb b o (l b C))
 have L:w.heap.size+1=((w.drew.alloc (.cells ((yX cB cO x.A.length).toArray++m) T)).setCell (aA b 13) (sS w.heap.size x.A.length k)).heap.size:=by simp[World.setCell]
 have s:((w.drew.alloc (.cells ((yX cB cO x.A.length).toArray++m) T)).setCell (aA b 13) (sS w.heap.size x.A.length k)).heap[w.heap.size]?=some (.cells ((yX cB cO x.A.length).toArray++m) T):=(kP _ _ _ _ (λe=>J e.symm)).trans (heap_alloc_new w.drew _);have G:∀j,j<x.A.length*2->((w.drew.alloc (.cells ((yX cB cO x.A.length).toArray++m) T)).setCell (aA b 13) (sS w.heap.size x.A.length k)).cell? (aA w.heap.size j)=some (if j % 2=0 then iv (j / 2:Nat) else pQ (cB (j / 2)) (cO (j / 2))):=λj A=>by
  rw[cell_of_row _ w.heap.size j _ _ (0,0) s,<-c2o cB cO x.A.length j A];have g:j<(yX cB cO x.A.length).toArray.size:=by simp[yX];exact A
  rw[Array.getElem?_append_left g];simp
 have t:∀q,role q≠0->q≠b:=λq d e=>d (e▸h.sp.b)
 have z:Nf1 b ((w.drew.alloc (.cells ((yX cB cO x.A.length).toArray++m) T)).setCell (aA b 13) (sS w.heap.size x.A.length k)):=(uY h.sb.nb (l b C) (by simp)).set _ _;have E:(w.drew.alloc (.cells ((yX cB cO x.A.length).toArray++m) T)).cell? (aA b 13)=some (sS bn x.A.length kn):=(cOb b 13 (l b C)).trans h.sb.n13;refine⟨⟨h.sb.bx.of λo H=>u o (by omega),h.sb.ha,kM _ _ _ E,λi I=>⟨?_,?_⟩,⟨(u 14 (by omega)).trans h.sb.fr.hd,z.2 14,uN h.sb.fr.own (λq d=>n q (h.sb.fr.own.lt q d).2 (t q (by rw[h.sp.f q d];omega))),h.sb.fr.apart⟩,?_,(u 4017 (by omega)).trans h.sb.k0,?_,z,⟨h.sb.lo.1,N,by omega,?_⟩⟩,h.rw.same (by omega) (λg=>n br (h.rw.nr g).1.1 (t br (by rw[h.sp.r g];omega))) (λq d=>n (cB q) (h.rw.nc q d).1.1 (t (cB q) (by rw[h.sp.c q d];omega))) (λq d g=>n (pb q) (h.rw.pl q d g).2.1.1 (t (pb q) (by rw[h.sp.p q d g];omega))),?_,h.pr.of (λq d D=>n q d (t q (by rw[D];omega))) (λq d D=>by(try dsimp only);rw[if_neg (by omega)];exact D)⟩;have:=G (i*2) (by omega);rw[if_pos (by omega),show i*2 / 2=i by omega]at this;exact this;have:=G (i*2+1) (by omega);rw[if_neg (by omega),show(i*2+1) / 2=i by omega]at this;exact this;have r:=h.sb.rg;rw[K]at r;rw[K];exact⟨r.h0,r.hl,(u 4015 (by omega)).trans r.r0,(u 4016 (by omega)).trans r.r1,λi I=>by simp at I,λj A=>let ⟨v,q⟩:=r.ro j A;⟨v,(u _ (by omega)).trans q⟩⟩;have:=h.sb.kp;exact uN (by simpa using this) (λq d=>n q (h.sb.kp.lt q d).2 (t q (by rw[h.sp.k q d];omega)));intro j A;have g:j<((yX cB cO x.A.length).toArray++m).size:=by simp[yX];omega
 refine⟨⟨((yX cB cO x.A.length).toArray++m)[j],?_⟩,?_⟩;rw[cell_of_row _ w.heap.size j _ _ (0,0) s];exact nE g;rw[kS];simp[go_sem];have y:∀q,q<w.heap.size->¬q=w.heap.size:=λq d=>by omega
 refine⟨?_,if_pos rfl,λg=>?_,λq d=>?_,λq d=>?_,λq d=>?_,λq d g=>?_⟩;rw[if_neg J];exact h.sp.b;rw[if_neg (y br (h.rw.nr g).1.1)];exact h.sp.r g;rw[if_neg (y (cB q) (h.rw.nc q d).1.1)];exact h.sp.c q d;rw[if_neg (y q (h.sb.fr.own.lt q d).2)];exact h.sp.f q d;rw[if_neg (y q (h.sb.kp.lt q d).2)];exact h.sp.k q d;rw[if_neg (y (pb q) (h.rw.pl q d g).2.1.1)];exact h.sp.p q d g
theorem d3z[qd](h:SAt B w b x ar kr v4 v8 br cB cO bn pb pa pk x.A.length hd vf F vk [] role)(r:x.D=[])(p:B<=w.heap.size)(m:Nat)(q:x.A.length+m<=8000):
  Calls prog 83 #[sS bn x.A.length x.A.length,iv m] w λe w'=>∃bn' kn',e=.returned (sS bn' x.A.length kn')/\Hid (∃role',SAt B (w'.setCell (aA b 13) (sS bn' x.A.length kn')) b x ar kr v4 v8 br cB cO bn' pb pa pk kn' hd vf F vk [] role')/\Hid (w'.cell? (aA b 13)=some (sS bn x.A.length x.A.length)/\w'.frozen? (aA b 13)=false/\Ext w w'/\x.A.length+m<=kn'):=by
 obtain e|e:=mF m;refine(c9w (some (aA bn 0)) x.A.length m w e).mono ?_;rintro e w' ⟨rfl,rfl⟩;refine⟨bn,x.A.length,rfl,⟨role,?_⟩,h.sb.n13,h.sb.nb.2 13,hO _,by omega⟩;rw[d3w h.sb.n13];exact h;refine(d3y bn x.A.length m (yX cB cO x.A.length) w q e (by simp[yX]) (λj v a=>?_)).mono ?_
 ·have f:j<x.A.length*2:=by have:=(List.getElem?_eq_some_iff.1 a).1;simpa[yX]using this
  rw[c2o cB cO x.A.length j f]at a;rw[<-a];have⟨n,l⟩:=h.sb.nd (j / 2) (by omega);by_cases i:j % 2=0;rw[if_pos i];rw[show j / 2*2=j by omega]at n;exact n;rw[if_neg i];rw[show j / 2*2+1=j by omega]at l;exact l
 rintro e w' ⟨k,g,rfl,o,c,rfl⟩;have d:Ext w (w.drew.alloc (.cells ((yX cB cO x.A.length).toArray++g) 108)):=(eDr w).alloc _;exact⟨w.heap.size,k,rfl,⟨_,h.regrow r p k g _ ⟨by omega,c⟩⟩,d.keep h.sb.n13,((cX d).2 b 13 h.sb.nb.1).trans (h.sb.nb.2 13),d,o⟩
def Gave[qd](B:Nat)(w w':World)(b:Nat)(y:Hp)(ar:Option Addr)(kr:Nat)(v4 v8:Value)(br:Nat)(cB cO:Nat->Nat)(bn:Nat)(pb:Nat->Nat)(kn hd:Nat)(vf:Value)(F:List Int)(vk:Value)(K:List Nat)(i:Nat):Prop:=
 (∃pa' pk' vf' F' role',SAt B w' b y ar kr v4 v8 br cB cO bn pb pa' pk' kn hd vf' F' vk K role'/\Ho F'/\F'.Perm ((i:Int)::F))/\∀q,q<w.heap.size->q≠b->q≠cB i->vf.ownBlock≠some q->w'.heap[q]?=w.heap[q]?
theorem b0p[qd](h:SAt B w b x ar kr v4 v8 br cB cO bn pb pa pk kn hd vf F vk K role)(i:Nat)(m:i<x.A.length)(P:Ho F)(O:F.length<=1000000000)(a:World)(ha:a.heap.size<=B)(hx:Ext a w):
  Calls prog 280 #[pP b,ndp bn i] w λe w'=>e=.returned (.tuple #[])/\Gave B w w' b { x with A:=x.A.set i Cl0 } ar kr v4 v8 br cB cO bn pb kn hd vf F vk K i/\Ext a w':=by
 have⟨u,U⟩:=h.sb.nd i m;have⟨e0,X,e2,e3,Y,e5,T⟩:=h.rw.s i m;have S:=h.rw.p7 i m;have V:=(h.rw.nc i m).1.2;have z:¬bn=cB i:=(show ¬bn=cB i from λe=>by have A:=h.sp.n;have M:=h.sp.c i m;rw[e]at A;omega);have f:=h.wiped i m 0 0;have C:=(a0c w (cB i) (cO i) 0 0).ext hx (λq t e=>by have:=(h.rw.nc i m).2;omega);have E:=kG P O;have N:=(cOb bn (i*2) ((a0c w (cB i) (cO i) 0 0).block bn (cLt u) z)).trans u;have⟨o,d⟩:∃W,W=zN w (cB i) (cO i) 0 0:=⟨_,rfl⟩;rw[<-d]at f C N;have I:uQ (λq=>q=cB i) w o:=d▸a0c w (cB i) (cO i) 0 0;unfold zN at d;clear h P O;go_in;go_wp21;rw[<-d];clear d u U e0 X e2 e3 Y e5 T S V;have k0:=uH N;have R:B<=o.heap.size:=by have:=f.sb.lo.2.1;have:=f.sb.lo.2.2.1;omega
 go_region_with (go_at_call 74;refine(b4p _ B b 14 vf F i (f.sb.fr.ext (eDr o)) (by simpa using R) E.1 E.2).mono ?_;rintro e J ⟨rfl,v3,L3,H,G,L,D⟩;have p:=uU D;have R3:=kG H (kG G L);clear H G L D)
 all_goals
  have G3:=(f.ext (eDr o)).freed R3.1 p (show Nf1 b J from⟨kF f.sb.nb.1 (by have:=p.size;simpa using this),λj=>(p.hfr j).trans ((f.sb.nb.ext (eDr o)).2 j)⟩);go_wp21;go_end0;exact⟨rfl,(show Gave B w J b { x with A:=x.A.set i Cl0 } ar kr v4 v8 br cB cO bn pb kn hd vf F vk K i by
   obtain⟨l,g⟩:=G3;refine⟨⟨_,_,v3,L3,l,g,R3.2.1,R3.2.2⟩,λq t A M h3=>?_⟩;have v:q<o.heap.size:=kF t I.size;exact(p.block q (by simpa using v) A h3).trans (I.block q t M)),(p.ext C.drew (by have:=f.sb.lo.1;omega) (λk Q=>by have:=(f.sb.fr.own.lt k Q).1;omega))⟩
theorem d3q[qd](h:SAt B w b x ar kr v4 v8 br cB cO bn pb pa pk kn hd vf F vk K role)(m:x.E=6)(d:x.I=0)(o:0<=x.Q/\x.Q<=1000000000)(a:World)(p:a.heap.size<=B)(n:Ext a w):
  Calls prog 284 #[.agg #[pP b]] w λe w'=>e=.returned (yQ (dL x).E b)/\Hid (SAt B w' b (dL x) ar kr v4 v8 br cB cO bn pb pa pk kn hd vf F vk K role)/\Ext a w':=by
 have E:=uU (show dL x={ dC x 0 0 with Q:=if x.Q<1000000000 then x.Q+1 else x.Q } by unfold dL;rw[if_pos d];rfl);have H:=uU h;have k:=uU m;have g:=uU o;have i:=h.sb.bx.2.2.2.2.2.2.1;rw[d]at i;have j:b<w.heap.size:=h.sb.nb.1;have c:=uU (eAl w (.cells #[pP b] 217));go_in;go_wp21;refine(turn_6 (H.ext c) k g a p (n.trans c)).mono ?_;rintro e q ⟨rfl,f,l⟩;go_wp2;go_ret;exact⟨by rw[uH E];rfl,by rw[uH E];exact uH f,l⟩
theorem c9p[qd](h:SAt B w b x ar kr v4 v8 br cB cO bn pb pa pk kn hd vf F vk K role)(n8:x.A.length<=8000)(hp:x.E=6)(i:Nat)(hi:x.I=(i:Int)+1)(f:i<x.A.length)(hk:x.A.length<=kn)(ho:Ho F)(hl:F.length<=1000000000)(a:World)(ha:a.heap.size<=B)(hx:Ext a w):
  Calls prog 284 #[.agg #[pP b]] w λe w'=>e=.returned (yQ (dL x).E b)/\Hid (∃pa' pk' vf' F' role',SAt B w' b (dL x) ar kr v4 v8 br cB cO bn pb pa' pk' kn hd vf' F' vk K role'/\Ho F'/\(((x.c i).st=2/\F'.Perm ((i:Int)::F))\/((x.c i).st≠2/\F'=F)))/\Ext a w':=by
 have N:=uU (show dL x=tU (dD x i) i by unfold dL;rw[if_neg (by omega),show(x.I-1).toNat=i by omega]);have r:=uU (show(dL x).E=6 by rw[uH N];unfold tU;split <;> (unfold dD;exact hp));have ab:b<w.heap.size:=h.sb.nb.1;have lo:=h.sb.lo.1;have H:=uU h;have XA:=(hO w).alloc (.cells #[pP b] 217);have c6:=h.sb.bx.2.2.2.2.2.2.1;rw[hi]at c6;have f6:=h.sb.nb.2 6;have aa:((i:Int)+1 == 0)=false:=by simp;omega
 have V:=uU (h.rw.nc i f);have L:=uU (show ∀q,vf.ownBlock=some q->q<w.heap.size from λq hq=>(h.sb.fr.own.lt q hq).2);have u:=uU (kG ho hl);have S:¬w.heap.size=b:=by omega
 go_in;go_wp21;obtain⟨Q,l⟩:∃W,W=(w.setCell (aA b 6) (iv i)).alloc (.cells #[pP b] 217):=⟨_,rfl⟩;have P:=uU (show SAt B Q b { x with I:=(i:Int) } ar kr v4 v8 br cB cO bn pb pa pk kn hd vf F vk K role by rw[l];exact(H.I (i:Int)).ext (eAl _ _));have X1:=uU (show Ext a Q by rw[l];exact(hx.sc b 6 (show a.heap.size<=b by omega) _).alloc _);have r1:Q.cell? (aA w.heap.size 0)=some (pP b):=by
  rw[l];have:w.heap.size=(w.setCell (aA b 6) (iv i)).heap.size:=by simp[World.setCell]
  rw[this];simp[go_sem]
 rw[<-l];refine(a0x b x.A.length kn bn i _ P.sb.bx.2.2.2.2.2.2.1 P.sb.n13 f).mono ?_;rintro e D ⟨rfl,O⟩;have o:=uU (P.ext O);have C:=uU (X1.trans O);have Z:=O.keep r1;obtain⟨m0,m1⟩:=o.sb.nd i f;have p0:D.cell? (aA (cB i) (cO i))=some (iv (x.c i).st):=(o.rw.s i f).1;have R:=cLt Z;cases E:((x.c i).st == 2)
 ·have y:=uU (show dL x=tU { x with I:=(i:Int) } i by rw[uH N];unfold dD;rw[if_neg (by simpa using E)]);have NS:=uU (show(x.c i).st≠2 by simpa using E);have J:D.cell? (aA b 13)=some (sS bn x.A.length kn):=o.sb.n13;go_wp21;by_cases d:i+1=x.A.length
  ·cases M:((x.c i).st == 0)
   ·skip;have j:=uU (show dL x={ x with A:=x.A,I:=(i:Int) } by rw[uH y];unfold tU;rw[if_neg (λe=>by have:=e.2;simp at M;exact M this)]);have G:((i:Int) == (x.A.length:Int)-1)=true:=by simp;omega
    go_quiet (fail);go_wp2;go_ret;exact⟨by rw[uH r];rfl,by rw[uH j];exact⟨_,_,_,_,_,o.ext ((hO _).drewN _),u.1,ko ⟨NS,rfl⟩⟩,C.drewN _⟩
   skip;have j:=uU (show dL x={ x with A:=(x.A).take i,I:=(i:Int) } by rw[uH y];unfold tU;rw[if_pos ⟨by simpa using d,(show(x.c i).st=0 by simpa using M)⟩]);have G:((i:Int) == (x.A.length:Int)-1)=true:=by simp;omega
   have k1:(i:Int)<=(kn:Int):=by omega
   have k0:=i0N i;have T:=o.sb.nb.2 13;have n:=uU (show ∀k,Ext D k->SAt B (k.setCell (aA b 13) (sS bn i kn)) b { x with A:=(x.A).take i,I:=(i:Int) } ar kr v4 v8 br cB cO bn pb pa pk kn hd vf F vk K role/\Ext a (k.setCell (aA b 13) (sS bn i kn)) from λk z=>⟨(o.ext z).drop i (by simpa using d),(C.trans z).sc b 13 (show a.heap.size<=b by omega) _⟩);go_quiet (fail);obtain⟨d1,I⟩:∃m,m=nq:=⟨_,rfl⟩;go_wp21;go_region;all_goals
    go_wp2;go_ret;first|exact⟨by rw[uH r];rfl,by rw[uH j];exact⟨_,_,_,_,_,((n _ ((hO _).drewN _)).1).ext (eDr _),u.1,ko ⟨NS,rfl⟩⟩,((n _ ((hO _).drewN _)).2).drew⟩|exact⟨by rw[uH r];rfl,by rw[uH j];exact⟨_,_,_,_,_,(n _ ((hO _).drewN _)).1,u.1,ko ⟨NS,rfl⟩⟩,(n _ ((hO _).drewN _)).2⟩
  skip;have j:=uU (show dL x={ x with A:=x.A,I:=(i:Int) } by rw[uH y];unfold tU;rw[if_neg (λe=>d (by simpa using e.1))]);have G:((i:Int) == (x.A.length:Int)-1)=false:=by simp;omega
  go_quiet (fail);go_wp2;go_ret;exact⟨by rw[uH r];rfl,by rw[uH j];exact⟨_,_,_,_,_,o.ext ((hO _).drewN _),u.1,ko ⟨NS,rfl⟩⟩,C.drewN _⟩
 have y:=uU (show dL x=tU { x with A:=x.A.set i Cl0,I:=(i:Int) } i by rw[uH N];unfold dD;rw[if_pos (by simpa using E)]);have NS:=uU (show(x.c i).st=2 by simpa using E);go_wp21;refine(b0p o i f u.1 u.2 a ha C).mono ?_;rintro e A ⟨rfl,g3,x3⟩;obtain⟨pa',pk',vf',F',role',h3,U,X⟩:=g3.1;have r3:A.cell? (aA w.heap.size 0)=some (pP b):=(cOb w.heap.size 0 (g3.2 w.heap.size R S (by have:=V.1.1;omega) (λe=>Nat.lt_irrefl _ (L _ e)))).trans Z;have v:=uU (show SAt B A b { x with A:=x.A.set i Cl0,I:=(i:Int) } ar kr v4 v8 br cB cO bn pb pa' pk' kn hd vf' F' vk K role' from h3);have Y:=uU x3;have g:=uU (kG U X);have t:(x.A.set i Cl0).length=x.A.length:=by simp
 obtain⟨m0,m1⟩:=v.sb.nd i (by rw[t];exact f);have p0:A.cell? (aA (cB i) (cO i))=some (iv 0):=by
  have:=(v.rw.s i (by rw[t];exact f)).1;exact this.trans (by simp[Hp.c,f];rfl)
 have J:A.cell? (aA b 13)=some (sS bn x.A.length kn):=by have:=v.sb.n13;rw[t]at this;exact this
 go_wp21;by_cases d:i+1=x.A.length
 ·skip;have j:=uU (show dL x={ x with A:=(x.A.set i Cl0).take i,I:=(i:Int) } by rw[uH y];unfold tU;rw[if_pos ⟨by simpa using d,by simp[Hp.c,f];rfl⟩]);have G:((i:Int) == (x.A.length:Int)-1)=true:=by simp;omega
  have k1:(i:Int)<=(kn:Int):=by omega
  have k0:=i0N i;have T:=v.sb.nb.2 13;have n:=uU (show ∀k,Ext A k->SAt B (k.setCell (aA b 13) (sS bn i kn)) b { x with A:=(x.A.set i Cl0).take i,I:=(i:Int) } ar kr v4 v8 br cB cO bn pb pa' pk' kn hd vf' F' vk K role'/\Ext a (k.setCell (aA b 13) (sS bn i kn)) from λk z=>⟨(v.ext z).drop i (by simpa using d),(Y.trans z).sc b 13 (show a.heap.size<=b by omega) _⟩);go_quiet (fail);obtain⟨d1,I⟩:∃m,m=nq:=⟨_,rfl⟩;go_wp21;go_region;all_goals
   go_wp2;go_ret;first|exact⟨by rw[uH r];rfl,by rw[uH j];exact⟨_,_,_,_,_,((n _ ((hO _).drewN _)).1).ext (eDr _),g.1,kT ⟨NS,g.2⟩⟩,((n _ ((hO _).drewN _)).2).drew⟩|exact⟨by rw[uH r];rfl,by rw[uH j];exact⟨_,_,_,_,_,(n _ ((hO _).drewN _)).1,g.1,kT ⟨NS,g.2⟩⟩,(n _ ((hO _).drewN _)).2⟩
 skip;have j:=uU (show dL x={ x with A:=x.A.set i Cl0,I:=(i:Int) } by rw[uH y];unfold tU;rw[if_neg (λe=>d (by simpa using e.1))]);have G:((i:Int) == (x.A.length:Int)-1)=false:=by simp;omega
 go_quiet (fail);go_wp2;go_ret;exact⟨by rw[uH r];rfl,by rw[uH j];exact⟨_,_,_,_,_,v.ext ((hO _).drewN _),g.1,kT ⟨NS,g.2⟩⟩,Y.drewN _⟩
end Go.Proofs.YtolmnenlnpbcfaaGreatDoor
