import Derived.Test.YtolmnenlnpbcfaaGreatDoorPv
import Derived.Test.YtolmnenlnpbcfaaGreatDoorBk
import Derived.Test.YtolmnenlnpbcfaaGreatDoorSpecI
import Derived.Test.YtolmnenlnpbcfaaGreatDoorPe
set_option maxRecDepth 100000
set_option maxHeartbeats 1000000
namespace Go.Proofs.YtolmnenlnpbcfaaGreatDoor
open Go.RowKit Tryz
attribute [local go_sem ↓] Go.wp_at_zero Go.wp_at_succ
variable{x y:Hp}{w W W' v:World}{K:List Nat}{F F':List Int}{n op a b c cd:Int}{g C l br kr k bn j kn hd f:Nat}{ar:Option Addr}{v4 v8 vf vk:Value}{cB cO pb pk role:Nat->Nat}{pa:Nat->Option Addr}{R:Nat->Prop}
structure GReg[qd](B:Nat)(w:World)(g:Nat)(x:Hp)(br kr:Nat):Prop where
 c3:w.cell? ⟨g,3,none⟩=some (.slice (some ⟨br,0,none⟩) 16 kr)
 r:∀i,i<16->yL w br (i*3) (x.r i)
 f:∀j,w.frozen? ⟨br,j,none⟩=false
 lo:B<=br/\br<w.heap.size/\br≠g
 set:∀(W:World)(i:Nat)(y:Wd),Ext w W->i<16->GOk B (cQ W br (i*3) y) g (regTo x i y)
theorem GOk.B[qd]{B:Nat}(h:GOk B w g x)(d:x.B.length=16):∃br kr,GReg B w g x br kr:=by
 have⟨f,kr,u,p,k,br,n,o,j,s,b,h⟩:=h;have a:0<x.B.length:=by omega
 exact⟨br,kr,by have:=h.bx.2.2.2.1;rw[h.ha a,d]at this;exact this,λi q=>by have:=h.rw.r i (by omega);rw[Hp.r_eq]at this;exact this,(h.rw.nr a).1.2,⟨(h.rw.nr a).2,(h.rw.nr a).1.1,λe=>by have t:=h.sp.r a;have v:=h.sp.g;rw[e]at t;omega⟩,λW i y e q=>by have c:=h.ext e;exact⟨f,kr,u,p,k,br,n,o,j,s,b,c.setr i (by omega) y (cE _ _ _ _) (a2k (c.rw.nr a).1 _ _) (a1o _ _ _ _ _ (c.rw.r i (by omega))) (λm l=>cV _ _ _ _ m l)⟩⟩
theorem GReg.ext[qd]{B:Nat}{w':World}(h:GReg B w g x br kr)(e:Ext w w'):GReg B w' g x br kr:=
 ⟨e.keep h.c3,λi a=>(h.r i a).ext e,λj=>((cX e).2 br j h.lo.2.1).trans (h.f j),⟨h.lo.1,kF h.lo.2.1 e.size,h.lo.2.2⟩,λW i y b a=>h.set W i y (e.trans b) a⟩
abbrev doW(w:World)(op a b c n:Int):World:=(w.alloc (.cells #[iv op,iv a,iv b,iv c,iv n] 29)).alloc (.cells #[iv 0,iv 0] 35)
structure yZ(w W:World)(op a b c n:Int):Prop where
 a0:W.cell? ⟨w.heap.size,0,none⟩=some (iv op)
 a1:W.cell? ⟨w.heap.size,1,none⟩=some (iv a)
 a2:W.cell? ⟨w.heap.size,2,none⟩=some (iv b)
 a3:W.cell? ⟨w.heap.size,3,none⟩=some (iv c)
 a4:W.cell? ⟨w.heap.size,4,none⟩=some (iv n)
 r0:W.cell? ⟨w.heap.size+1,0,none⟩=some (iv 0)
 r1:W.cell? ⟨w.heap.size+1,1,none⟩=some (iv 0)
 rf:∀j,W.frozen? ⟨w.heap.size+1,j,none⟩=false
theorem yZ.new(w:World)(op a b c n:Int):yZ w (doW w op a b c n) op a b c n:=
 (by refine⟨?_,?_,?_,?_,?_,?_,?_,λj=>by simp[go_sem]⟩<;>simp[go_sem])
theorem yZ.of(h:yZ w W op a b c n)(e:∀q,w.heap.size<=q->q<w.heap.size+2->W'.heap[q]?=W.heap[q]?):yZ w W' op a b c n:=by
 have d:=λj=>cOb w.heap.size j (e w.heap.size (hT _) (by omega))
 have f:=λj=>cOb (w.heap.size+1) j (e (w.heap.size+1) (by omega) (by omega))
 exact⟨(d 0).trans h.a0,(d 1).trans h.a1,(d 2).trans h.a2,(d 3).trans h.a3,(d 4).trans h.a4,(f 0).trans h.r0,(f 1).trans h.r1,λj=>(fOb (w.heap.size+1) j (e (w.heap.size+1) (by omega) (by omega))).trans (h.rf j)⟩
theorem yZ.ext(h:yZ w W op a b c n)(e:Ext W W'):yZ w W' op a b c n:=by
 have d:=uZ h.r0;exact h.of λq i f=>e.block q (by
  have d:w.heap.size+1<W.heap.size:=d;omega)
theorem a7j(w:World)(op a b c n:Int):(doW w op a b c n).heap.size=w.heap.size+2:=by simp[doW]
theorem GOk.boxes{p p1:Inhabited uL}{B:Nat}(o:Own p w.heap.size (doW w op a b c n).heap.size (doW w op a b c n) p1)(h:@GOk p1 B W g y):yZ w W op a b c n:=
 (yZ.new w op a b c n).of λq d e=>GOk.own o h q d (by rw[a7j];exact e)
abbrev putA(W:World)(r:Nat)(cd nm:Int):World:=(W.setCell ⟨r,0,none⟩ (iv cd)).setCell ⟨r,1,none⟩ (iv nm)
theorem GOk.done{p p1:Inhabited uL}{B:Nat}(o:Own p w.heap.size (doW w op a b c n).heap.size (doW w op a b c n) p1)(h:@GOk p1 B W g y)(e d:Int):@GOk p B (putA W (w.heap.size+1) e d) g y:=
 GOk.leave o h (uQ.setCell (uQ.setCell (uQ.refl _ W) (p:=(aA (w.heap.size+1) 0)) ⟨by show w.heap.size<=w.heap.size+1;omega,by rw[a7j];show w.heap.size+1<w.heap.size+2;omega⟩ _) (p:=(aA (w.heap.size+1) 1)) ⟨by show w.heap.size<=w.heap.size+1;omega,by rw[a7j];show w.heap.size+1<w.heap.size+2;omega⟩ _)
theorem GOk.doneD{p p1:Inhabited uL}{B:Nat}(o:Own p w.heap.size (doW w op a b c n).heap.size (doW w op a b c n) p1)(h:@GOk p1 B W g y)(e d:Int):@GOk p B (putA W (w.heap.size+1) e d).drew g y:=
 GOk.leave o h (uQ.drew (uQ.setCell (uQ.setCell (uQ.refl _ W) (p:=(aA (w.heap.size+1) 0)) ⟨by show w.heap.size<=w.heap.size+1;omega,by rw[a7j];show w.heap.size+1<w.heap.size+2;omega⟩ _) (p:=(aA (w.heap.size+1) 1)) ⟨by show w.heap.size<=w.heap.size+1;omega,by rw[a7j];show w.heap.size+1<w.heap.size+2;omega⟩ _))
theorem eY{r:Nat}(h:Ext v W)(a:v.heap.size<=r)(c b:Int):Ext v (putA W r c b):=(h.sc r 0 a _).sc r 1 a _
abbrev a1b[qd](B g:Nat)(x:Hp)(a b c:Nat)(n:Int)(k:Nat)(v:World)(e:Ending)(w':World):Prop:=∃(y:Hp)(cd nm:Int),Hid (e=.returned (tQ cd nm))/\Hid (DoR x a b c n y cd nm k)/\Hid (GOk B w' g y)/\Ext v w'
theorem a7k{p p1:Inhabited uL}{B:Nat}{a b c:Nat}{nm:Int}(o:Own p w.heap.size (doW w op a b c n).heap.size (doW w op a b c n) p1)(h:@GOk p1 B W g y)(e:Ext v W)(l:v.heap.size<=w.heap.size+1)(d:DoR x a b c n y cd nm k):@a1b p B g x a b c n k v (.returned (tQ cd nm)) (putA W (w.heap.size+1) cd nm):=
 ⟨y,cd,nm,rfl,d,GOk.done o h cd nm,eY e l cd nm⟩
theorem b6h(x:Hp)(i:Nat)(d:i<x.A.length)(n:Nat)(e:(x.c i).F.length<=n)(f:uV x=(i:Int)->x.sub<=(x.c i).F.length):eD x i n=x:=by
 have a:qJ (x.c i) n=x.c i:=by unfold qJ;rw[nZ e]
 have b:x.A.set i (x.c i)=x.A:=Hp.c_eq x i d▸List.set_getElem_self _;unfold eD;rw[a,b,if_neg (λh=>by have:=f h.1;omega),show(x.c i).F.length-n=0 by omega];simp
theorem c3r(x:Hp)(i n:Nat)(a:i<x.A.length)(q:Nat):(eD x i n).c q=if q=i then qJ (x.c i) n else x.c q:=Hp.c_set x i (qJ (x.c i) n) a q
theorem c3s(x:Hp)(i n:Nat):uV (eD x i n)=uV x:=by unfold uV eD;simp
theorem c6g(x:Hp)(i m:Nat)(e:i<x.A.length)(f:m<(x.c i).F.length):b0m (eD x i (m+1)) i m=eD x i m:=by
 have a:=c3r x i (m+1) e i;rw[if_pos rfl]at a;have b:(qJ (x.c i) (m+1)).F.eraseIdx m=(x.c i).F.take m:=by
  unfold qJ;show((x.c i).F.take (m+1)).eraseIdx m=_;rw[kj f,qM (by simp;omega)];have:m-((x.c i).F.take m).length=0:=by simp;omega
  rw[this];simp
 have d:({ (eD x i (m+1)).c i with F:=((eD x i (m+1)).c i).F.eraseIdx m }:Cl)=qJ (x.c i) m:=by
  rw[a,b];rfl
 unfold b0m;rw[d,c3s];unfold eD;simp only[List.set_set];by_cases g:uV x=(i:Int);grind[Add.sub,Hp.c,b0m,eD];grind[Hp.c,b0m,eD]
theorem d0p[qd](B g:Nat)(x:Hp)(i n:Nat)(w:World)(h:GOk B w g x)(s:Snd x)(t:i<x.A.length)(D:(x.c i).st=1)(a:World)(ha:a.heap.size<=B)(hx:Ext a w):
  Calls prog 156 #[pP g,iv i,iv n] w λe w'=>e=.returned (.tuple #[])/\Hid (GOk B w' g (eD x i n))/\Ext a w':=by
 have⟨F,N,Q,L,H,P,J,K,G,O,b,h⟩:=h;have M:=s.ok.p200 i t;have k:uV x=(i:Int)->x.sub<=(x.c i).F.length:=λe=>(b0w s t D e).2;have T:0<x.B.length:=by rw[s.r1.B];omega
 have j:=b6h x i t (x.c i).F.length (hT _) k;have C:=uU t;have i0:=i0N i;have i1:(i:Int)<(x.A.length:Int):=by omega
 go_in;go_wp21;go_loopg [] ((x.c i).F.length) (λU wr=>∃m:Nat,m=U/\m<=(x.c i).F.length/\Hid ((x.c i).F.length<=n->m=(x.c i).F.length)/\Hid (n<=(x.c i).F.length->n<=m)/\Hid (GK B wr g (eD x i m) F N Q L H P J)/\Ext a wr)
 case atStart=>exact⟨_,rfl,hT _,λ_=>rfl,id,by rw[uH j];exact (show GK B w g x F N Q L H P J from⟨K,G,O,b,h⟩),hx⟩
 case round=>
  obtain⟨m,rfl,hm,Y,I,q,f⟩:=hrel;have⟨z,d⟩:=obE (eD x i m);have R:=uU d;rw[<-d]at q;have r:=uU (show z.A.length=x.A.length by rw[d];simp[eD]);have u:=uU (show(z.c i).F.length=m by rw[(show z.c i=qJ (x.c i) m by rw[d,c3r x i m (uH C) i,if_pos rfl])];simp[qJ];omega);have p:=uU (show -3000000<=z.K/\z.K<=1000000/\-3000000<=z.sub/\z.sub<=1000000 by
   have D:=(show 0<=x.K/\x.K<=4000 by have h3:=s.r3;have D:=s.r1.M;unfold R3 at h3;omega);have A:=s.r1.sub;rw[d];unfold eD;refine⟨by show -3000000<=x.K-(((x.c i).F.length-m:Nat):Int);omega,by show x.K-(((x.c i).F.length-m:Nat):Int)<=1000000;omega,?_,?_⟩;show -3000000<=(if uV x=(i:Int)/\(m:Int)<x.sub then (m:Int) else x.sub);split <;> omega
   show(if uV x=(i:Int)/\(m:Int)<x.sub then (m:Int) else x.sub)<=1000000;split <;> omega)
  have S:=uU (show 0<z.B.length by rw[d];exact T);obtain⟨K,G,O,b,h⟩:=uH q;have hn:0<z.A.length:=by rw[uH r];omega
  have o:i<z.A.length:=by rw[uH r];omega
  have c4:=h.bx.2.2.2.2.1;rw[h.hc hn,uH r]at c4;have p7:=h.rw.p7 i o;rw[uH u]at p7;by_cases hc:n<m
  ·have q1:(m:Int) > (n:Int):=by omega
   have QC:=uU (b7w q i (m-1) o (by rw[uH u];omega) S (by rw[uH u];omega) ⟨p.1,p.2.1⟩ ⟨p.2.2.1,p.2.2.2⟩ (by rw[uH r];exact s.ok.n8) a ha f);go_wp21;rw[show((m:Int)-1)=((m-1:Nat):Int) by omega];refine QC.mono ?_;rintro e w2 ⟨rfl,A,_,V⟩;rw[(show b0m z i (m-1)=eD x i (m-1) by
    rw[uH R];have:=c6g x i (m-1) C (by omega);rw[show m-1+1=m by omega]at this;exact this)]at A;go_wp21;go_roundg (m-1)
   case measure=>omega
   case rel=>exact⟨m-1,rfl,by omega,λh=>by omega,λh=>by have:= I h;omega,A,V⟩
  have q1:¬(m:Int) > (n:Int):=by omega
  have E:=uU (show eD x i n=z by
   rw[uH R];obtain l|l:=km (x.c i).F.length n;have:=uH Y (by omega);rw[b6h x i (uH C) n (by omega) (uH k),this,uH j];have:=uH I l;have:n=m:=by omega
   rw[this])
  go_wp21;go_end0;exact⟨rfl,by rw[uH E];exact q.ok,f⟩
theorem SAt.keptAs[qd]{B:Nat}{b:Nat}(h:SAt B w b x ar kr v4 v8 br cB cO bn pb pa pk kn hd vf F vk K role){vk':Value}{K':List Nat}(A:w.ownsRow B 111 1 vk' K'.length (K'.map (ndp bn)))(y:∀q,vk'.ownBlock=some q->vk.ownBlock=some q):
  SAt B (w.setCell (aA b 4017) vk') b x ar kr v4 v8 br cB cO bn pb pa pk kn hd vf F vk' K' role:=by
 have d:∀q,q≠b->(w.setCell (aA b 4017) vk').heap[q]?=w.heap[q]?:=λq t=>kP _ _ _ _ t
 have l:∀o,o≠4017->(w.setCell (aA b 4017) vk').cell? (aA b o)=w.cell? (aA b o):=λo v=>uC _ (.inr (λe=>v e.symm))
 have i:∀q,role q≠0->q≠b:=λq g e=>g (e▸h.sp.b)
 have j:w.heap.size<=(w.setCell (aA b 4017) vk').heap.size:=by simp[World.setCell]
 have s:=d bn (i bn (by rw[h.sp.n];omega));refine⟨⟨h.sb.bx.of λo v=>l o (by omega),h.sb.ha,(l 13 (by omega)).trans h.sb.n13,λk u=>⟨(cOb bn _ s).trans (h.sb.nd k u).1,(cOb bn _ s).trans (h.sb.nd k u).2⟩,⟨(l 14 (by omega)).trans h.sb.fr.hd,?_,uN h.sb.fr.own (λq g=>d q (i q (by rw[h.sp.f q g];omega))),h.sb.fr.apart⟩,h.sb.rg.of λo _ C=>l o (by omega),?_,?_,h.sb.nb.set _ _,⟨h.sb.lo.1,h.sb.lo.2.1,h.sb.lo.2.2.of s j⟩⟩,?_,?_,h.pr.of (λq g z=>d q (i q (by rw[z];omega))) (λ_ _ h=>h)⟩;rw[kS];exact h.sb.fr.hf;exact kM _ _ _ h.sb.k0;exact uN A (λq g=>d q (i q (by rw[h.sp.k q (y q g)];omega)));exact h.rw.same j (λm=>d br (i br (by rw[h.sp.r m];omega))) (λq g=>d (cB q) (i (cB q) (by rw[h.sp.c q g];omega))) (λq g m=>d (pb q) (i (pb q) (by rw[h.sp.p q g m];omega)));exact⟨h.sp.b,h.sp.n,h.sp.r,h.sp.c,h.sp.f,λq g=>h.sp.k q (y q g),h.sp.p⟩
theorem c5s{B:Nat}{e:TypeId}{a:Option Addr}(h:w.ownsRow B e 1 (.slice a (K++[l]).length k) (K++[l]).length ((K++[l]).map (ndp bn))):w.ownsRow B e 1 (.slice a K.length k) K.length (K.map (ndp bn)):=by
 have⟨_,d⟩:=h;refine⟨by simp,?_⟩;obtain⟨_,h0⟩|⟨g,cap,cur,b,e2,e3,e4,e5,e6,e7⟩:=d;simp at h0;injection b with b f c;subst b c;refine .inr ⟨g,_,cur,rfl,e2,e3,by simp at e4;omega,e5,e6,?_⟩;have:=congrArg (List.take K.length) e7;rw[List.take_take]at this;simp at this;simpa using this
theorem a9j(x:Hp)(d:∀i j,i<x.A.length->j<x.A.length->(x.c i).st=1->(x.c j).st=0->i<j):unit4 x=dC x 5 0:=by
 unfold unit4;have⟨a,b,c⟩:=a0i x;rw[if_pos];obtain⟨e,_⟩|⟨f,e,hf,h1,_⟩:=a2c x x.A.length;rw[e];omega;rw[e];obtain l|l:=km (uE x) x.A.length
 ·have:=d f _ hf l h1 (c l);omega
 omega
theorem d3i(x:Hp)(j l:Nat)(m:j<x.A.length)(p:(x.c j).st=0)(k:∀q,q<j->(x.c q).st≠0)(a:l<x.A.length)(b:(x.c l).st=1)(o:∀i,l<i->i<x.A.length->(x.c i).st≠1)(n:j<l):unit4 x=qY x j l:=by
 have g:a0y x x.A.length=(l:Int):=by
  obtain⟨_,h⟩|⟨f,e,hf,h2,h3⟩:=a2c x x.A.length;exact absurd b (h l a);obtain q|q|q:=nR f l
  ·exact absurd b (h3 l q a)
  rw[e,q];exact absurd h2 (o f q hf)
 unfold unit4;rw[b5a x j m k p,g,if_neg (by omega)];rfl
theorem d3j(h:zH C x F K)(l:x.E=4)(g:a9i x F F'):zH C (dC x 5 0) F' [] where
 ho:=g.1
 al:=λi a b=>g.2.2.2 i a b (h.al i a b)
 nn:=λv c=>h.nn v (g.2.2.1 v c)
 le:=by
  have k:=h.le;have f:=g.2.1;have d:yK x=8000:=by unfold yK;rw[if_neg (by omega),if_neg (by omega),if_pos (by omega)]
  have j:yK (dC x 5 0)=8000:=rfl;omega
 k3:=λe=>by simp[dC]at e
 k4:=λe=>by simp[dC]at e
 k0:=λ_ _=>rfl
theorem c9f(h:zH C x F K)(g:a9i x F F')(t:c2f x F' none):unit4 x=dC x 5 0:=a9j x λi j d a e b=>by
 have:=g.2.2.2 j a b (h.al j a b);have c:F'=[]:=t;rw[c]at this;exact absurd this (by simp)
theorem d3k(h:zH C x F [])(e:x.E=4):unit4 x=dC x 5 0:=a9j x λi j a b c d=>(h.k4 e).2.2 i a c (by simp) j b d
theorem b9v(h:(K++[l]).Pairwise (· < ·)):∀i,i∈K->i<l:=λi a=>(nw.1 h).2.2 i a l (by simp)
theorem c9g(h:zH C x F (K++[l]))(m:x.E=4)(g:a9i x F F')(t:c2f x F' (some j))(n:l<j):unit4 x=dC x 5 0:=a9j x λi q d a k b=>by
 have c:=h.k4 m;by_cases e:i∈K++[l];have f:i<=l:=by
  obtain e|e:=kx.1 e;have:=b9v c.1 i e;omega;simp at e;omega
 have:=t.2.2 q (g.2.2.2 q a b (h.al q a b));omega;exact c.2.2 i d k e q a b
theorem b8c(h:zH C x F K)(g:a9i x F F')(t:c2f x F' (some j)):∀q,q<x.A.length->(x.c q).st=0->j<=q:=λq a b=>by
 have:=t.2.2 q (g.2.2.2 q a b (h.al q a b));omega
theorem moveH_c(x:Hp)(t f:Nat)(b:t<x.A.length)(a:f<x.A.length)(q:Nat):(qY x t f).c q=if q=f then mvC t else if q=t then x.c f else x.c q:=mvd_c x t f b a q
theorem go_move(h:zH C x F (K++[l]))(s:x.E=4)(g:a9i x F F')(t:c2f x F' (some j))(N:¬l<j):l<x.A.length/\j≠l/\unit4 x=qY x j l/\zH C (qY x j l) F' K:=by
 have m:=h.k4 s;obtain⟨k,o⟩:=m.2.1 l (by simp);have u:j≠l:=λe=>by have:=t.2.1;rw[e,o]at this;omega
 have y:=b8c h g t;have c:=moveH_c x j l t.1 k;refine⟨k,u,d3i x j l t.1 t.2.1 (λq r e=>by have:=y q (by have:=t.1;omega) e;omega) k o (λi f A H=>?_) (by omega),?_⟩;by_cases e:i∈K++[l]
 ·obtain e|e:=kx.1 e
  ·have:=b9v m.1 i e;omega
  simp at e;omega
 have:=m.2.2 i A H e j t.1 t.2.1;omega;have n:(qY x j l).A.length=x.A.length:=by simp[qY]
 have b:∀i,((qY x j l).c i).st=0->(x.c i).st=0/\i≠j/\i≠l:=λi a=>by
  rw[c i]at a;by_cases d:i=l;rw[if_pos d]at a;simp[mvC]at a;rw[if_neg d]at a;by_cases p:i=j
  ·rw[if_pos p,o]at a;omega
  rw[if_neg p]at a;exact⟨a,p,d⟩
 refine⟨g.1,λi a D=>?_,λv E=>h.nn v (g.2.2.1 v E),?_,λe=>?_,λ_=>⟨?_,λi a=>?_,λi a f I q r J=>?_⟩,λ_ e=>absurd s e⟩;rw[n]at a;exact g.2.2.2 i a (b i D).1 (h.al i a (b i D).1);have f:=h.le;have A:=g.2.1;have d:yK x=8000:=by unfold yK;rw[if_neg (by omega),if_neg (by omega),if_pos (by omega)]
 have w:(qY x j l).E=4:=s;have p:yK (qY x j l)=8000:=by unfold yK;rw[if_neg (by omega),if_neg (by omega),if_pos (by omega)]
 omega;have w:(qY x j l).E=4:=s;omega;exact(nw.1 m.1).1;have:=b9v m.1 i a;obtain⟨G,z⟩:=m.2.1 i (nA _ a);refine⟨by rw[n];exact G,?_⟩;rw[c i,if_neg (by omega),if_neg (λe=>by have:=t.2.1;rw[<-e,z]at this;omega)];exact z;rw[n]at a r;obtain⟨B,M,L⟩:=b q J;rw[c i]at f;by_cases d:i=l
 ·rw[if_pos d]at f;simp[mvC]at f
 rw[if_neg d]at f;by_cases p:i=j
 ·have:=y q r B;omega
 rw[if_neg p]at f;exact m.2.2 i a f (λe=>by obtain e|e:=kx.1 e;exact I e;simp at e;exact d e) q r B
theorem c2n[qd]{B:Nat}{b:Nat}(h:SAt B w b x ar kr v4 v8 br cB cO bn pb pa pk kn hd vf F vk K role)(s:Snd x)(hp:x.E=3)(i:Nat)(y:x.I=(i:Int))(d:i<x.A.length)(R:whB (x.c i)=true)(ho:Ho F)(hl:F.length<=1000000000)(a:World)(ha:a.heap.size<=B)(hx:Ext a w):
  Calls prog 279 #[.agg #[pP b]] w λe w'=>e=.returned (yQ (dZ x).E b)/\Hid (∃pa' pk' vf' F' role',SAt B w' b (dZ x) ar kr v4 v8 br cB cO bn pb pa' pk' kn hd vf' F' vk K role'/\Ho F'/\F'.Perm ((i:Int)::F))/\Ext a w':=by
 have Z:x.I.toNat=i:=by omega
 have E:=uU (show dZ x={ x with K:=x.K-(1+(x.c i).F.length),A:=x.A.set i Cl0,I:=(i:Int)+1 } by
  unfold dZ;rw[if_neg (by omega),Z,if_pos R,y])
 have EP:=uU (show(dZ x).E=3 by rw[uH E];exact hp);have V:=uU (show IntKind.i64.wrap (x.K-(1+((x.c i).F.length:Int)))=x.K-(1+((x.c i).F.length:Int)) by
  have ab:=s.ok.p200 i d;have aa:x.K<=4000:=by have:=s.r3.2;have:=s.r1.M;omega
  have ae:0<=x.K:=by have:=s.r3.1;omega
  rw[nH];omega)
 have LP:=uU (s.ok.p200 i d);have H:=uU h;have n8:=s.ok.n8;have v:=(hO w).alloc (.cells #[pP b] 214);have n:=h.sb.bx.2.2.2.2.2.2.1;rw[y]at n;have Y:=uU (a0x b x.A.length kn bn i _ (v.keep n) (v.keep h.sb.n13) d);have o:=uU v;have af:b<w.heap.size:=h.sb.nb.1;have lo:=h.sb.lo.1;have hn:0<x.A.length:=by omega
 have HI:=uU y;have WH:=uU R;have Q:=uU (h.rw.nc i d);have A:=uU (show ∀q,vf.ownBlock=some q->q<w.heap.size from λq hq=>(h.sb.fr.own.lt q hq).2);have T:=uU (kG ho hl);clear h hp v y n Z R s ho hl;go_in;go_wp21;refine Y.mono ?_;rintro e w1 ⟨rfl,N⟩;have C:w1.cell? (aA w.heap.size 0)=some (pP b):=N.keep (by simp[go_sem]);have S:=uU (o.trans N);have g:=uU (H.ext S);have U:=(g.sb.nd i d).2;have G:=uU (a5t (x.c i) bn i (cB i) (cO i) w1 U (g.rw.s i d));rw[uH WH]at G;clear N o Y;go_wp21;refine G.mono ?_;rintro e j ⟨rfl,D⟩;subst D;have X:=g.sb.bx.2.1;have f1:=g.sb.nb.2 1;have z:=cLt X;have I:=cLt C;have L:¬w.heap.size=b:=by omega
 have P:¬b=w.heap.size:=by omega
 clear U G;go_wp21;go_region_with (go_at_call 126;refine(b1o (x.c i) bn (i*2) (cB i) (cO i) (pa i) (pk i) _ (g.ext (eDr j) |>.sb.nd i d).2 (g.ext (eDr j) |>.rw.p7 i d) (by have:=uH LP;omega)).mono ?_;rintro e w3 ⟨rfl,O⟩;subst O);all_goals
  rw[uH V];obtain⟨r,f⟩:∃W,W=(j.setCell (aA b 1) (iv (x.K-(1+((x.c i).F.length:Int))))).drew:=⟨_,rfl⟩;have H3:=uU (show SAt B r b { x with K:=x.K-(1+((x.c i).F.length:Int)) } ar kr v4 v8 br cB cO bn pb pa pk kn hd vf F vk K role by rw[f];exact(g.usedTo _).ext (eDr _));have X3:=uU (show Ext a r by rw[f];exact((hx.trans S).sc b 1 (show a.heap.size<=b by omega) _).drew);have M:r.cell? (aA w.heap.size 0)=some (pP b):=by rw[f,a0u,uC _ (.inl P)];exact C
  rw[<-f];clear f X f1 C I z;have l:=cLt M;go_wp21;refine(b0p H3 i d T.1 T.2 a ha X3).mono ?_;rintro e t ⟨rfl,J,x4⟩;obtain⟨pa',pk',vf',F',role',u,m,k⟩:=J.1;have r4:t.cell? (aA w.heap.size 0)=some (pP b):=(cOb w.heap.size 0 (J.2 w.heap.size l L (by have:=Q.1.1;omega) (λe=>Nat.lt_irrefl _ (A _ e)))).trans M;have n:t.cell? (aA b 6)=some (iv i):=by have:=u.sb.bx.2.2.2.2.2.2.1;exact this.trans (by rw[uH HI])
  have f6:=u.sb.nb.2 6;have ad:=cLt n;have ac:=cLt r4;have FN:=uU (kG (u.I ((i:Int)+1)) (kG m k));have XN:=uU (x4.sc b 6 (show a.heap.size<=b by omega) (iv ((i:Int)+1)));clear J u M l m k x4;go_wp21;go_ret;exact⟨by rw[uH EP];rfl,by rw[uH E];exact⟨_,_,_,_,_,FN⟩,XN⟩
structure Edit(x:Hp)(i:Nat)(c:Cl):Prop where
 hi:i<x.A.length
 st:(x.c i).st=1
 nd:¬uW x i
 e:c.st=(x.c i).st/\c.kind=(x.c i).kind/\c.T=(x.c i).T/\c.born=(x.c i).born/\c.J=(x.c i).J/\c.to=(x.c i).to
 la:0<=c.U/\c.U<=3
 ln:c.F.length=(x.c i).F.length
 ld:∀k,k<c.F.length->hE x (c.p k).key (¬cN x i k)/\hE x (c.p k).val (¬cN x i k)
 lk:uD x->∀k,k<eH x i->¬dJ x (c.p k).key/\¬dJ x (c.p k).val
 sp:cK c->uD x->c.J=0->¬(x.E=2\/(i:Int)<x.I)
theorem a3a(x:Hp)(i:Nat)(c:Cl)(a:i<x.A.length)(q:Nat):(hD x i c).c q=if q=i then c else x.c q:=Hp.c_set x i c a q
theorem b2n(x:Hp)(i:Nat)(c:Cl):(hD x i c).A.length=x.A.length:=by simp[hD]
theorem Snd.edit{i:Nat}{c:Cl}(h:Snd x)(t:Edit x i c):Snd (hD x i c):=by
 have⟨F,Q,P,J,L,I⟩:=t.e;have z:=a3a x i c t.hi;have b:=b2n x i c;have sm:∀q,((hD x i c).c q).st=(x.c q).st/\((hD x i c).c q).born=(x.c q).born/\((hD x i c).c q).J=(x.c q).J/\((hD x i c).c q).to=(x.c q).to/\((hD x i c).c q).F.length=(x.c q).F.length:=λq=>by
  rw[z q];by_cases e:q=i;rw[if_pos e,e];exact⟨F,J,L,I,t.ln⟩;grind[Hp.c,hD]
 have n:∀q,uW (hD x i c) q↔uW x q:=λq=>by unfold uW;rw[(sm q).1,(sm q).2.2.1];exact Iff.rfl
 have s:∀(y:Wd)(m:Prop),hE x y m->hE (hD x i c) y m:=λy m l=>⟨b▸l.1,λf=>by rw[(sm _).1,n];exact l.2 f⟩
 have G:∀y:Wd,dJ (hD x i c) y->dJ x y:=λy D=>⟨D.1,(sm _).2.2.1▸D.2⟩
 refine⟨?_,⟨λq a=>?_,λq a H k f=>?_⟩,⟨?_,h.r3.2⟩,⟨λj N=>s _ _ (h.r4.1 j N),λq a=>?_⟩,⟨h.r5.1,λq a=>?_,λg A=>?_⟩,⟨h.r6.1,λv=>?_,λv=>?_,h.r6.2.2.2⟩,λB q a=>?_,λq a=>?_⟩;exact⟨h.r1.M,h.r1.B,b▸h.r1.A,b▸h.r1.D,h.r1.born,h.r1.Q,h.r1.S,h.r1.per,h.r1.V,h.r1.E,b▸h.r1.I,h.r1.sub⟩;rw[b]at a;have E:=h.r2.1 q a;by_cases e:q=i
 ·subst e;refine .inr (.inr ⟨(sm q).1▸t.st,?_⟩);rw[z q,if_pos rfl];have S:=t.la;have R:=t.ln;have O:=t.st;obtain o|o|⟨_,o⟩:=E
  ·omega
  omega;grind[a2q,Grw.at,Hp.at,hD,Hp.c]
 unfold cZ;rw[z q,if_neg e];obtain o|⟨o,m⟩|o:=E
 ·exact .inl o
 refine .inr (.inl ⟨o,m.1,m.2.1,m.2.2.1,m.2.2.2.1,(sm _).1▸m.2.2.2.2.1,λv k f=>(sm k).1▸m.2.2.2.2.2 v k f⟩);exact .inr (.inr o);rw[b]at a;rw[(sm q).1]at H;rw[(sm k).1,(sm k).2.1,(sm k).2.2.2.1,(sm q).1,(sm q).2.1,(sm q).2.2.2.1];exact h.r2.2 q a H k f;have u:dH (hD x i c).A=dH x.A:=a3m x.A i c t.hi (by rw[Hp.c_eq x i t.hi];unfold cL;rw[F,t.ln]);rw[u];exact h.r3.1;rw[b]at a;rw[z q];by_cases e:q=i
 ·subst e;rw[if_pos rfl];refine⟨λd=>t.nd ((n q).1 d.1),λk f=>⟨λd=>absurd ((n q).1 d) t.nd,λ_=>?_⟩⟩;have:=t.ld k f;exact⟨s _ _ this.1,s _ _ this.2⟩
 rw[if_neg e];have o:=h.r4.2 q a;refine⟨λd=>o.1 ⟨(n q).1 d.1,d.2⟩,λk f=>?_⟩;have p:=o.2 k f;refine⟨λd=>b▸p.1 ((n q).1 d),λd=>?_⟩;have:=p.2 (λM=>d ((n q).2 M));exact⟨s _ _ this.1,s _ _ this.2⟩;rw[b]at a;have o:=h.r5.2.1 q a;unfold a0n at o ⊢;rw[(sm q).2.2.1];exact o;rw[b];exact h.r5.2.2 g A;have r:=h.r6.2.1 v;refine⟨r.1,r.2.1,λA=>?_⟩;rw[(sm _).2.2.2.2];exact r.2.2 A;rw[b,(sm _).1,(sm _).2.2.2.2];exact h.r6.2.2.1 v;rw[b]at a;have o:=h.r7 B q a;have K:eH (hD x i c) q=eH x q:=by grind[eH,hD,Hp.c,sm]
 rw[K,z q];by_cases e:q=i;subst e;rw[if_pos rfl];refine⟨λC=>t.sp C.1 B C.2.1 C.2.2,λk f=>?_⟩;have:=t.lk B k f;exact⟨λw=>this.1 (G _ w),λw=>this.2 (G _ w)⟩;grind[Hp.c,hD];rw[b]at a;rw[(sm q).1];exact h.r8 q a
theorem b6i(x:Hp)(i t:Nat)(c:Cl)(d:i<x.A.length)(g:c.st=(x.c i).st)(f:c.J=(x.c i).J):uK (hD x i c) t=hD (uK x t) i (if eN x t=true/\t=i then yD c else c):=by
 have a:=a3a x i c d t;have b:eN (hD x i c) t=eN x t:=by
  unfold eN whB;rw[a];by_cases e:t=i;rw[if_pos e,e,g,f];rfl;rw[if_neg e];rfl
 unfold uK;rw[b];by_cases q:eN x t=true;rw[if_pos q,if_pos q,a];by_cases e:t=i
 ·rw[if_pos e,if_pos ⟨q,e⟩,e];simp[hD]
 rw[if_neg e,if_neg (λh=>e h.2)];simp only[hD];rw[List.set_comm _ _ (λh=>e h.symm)];rw[if_neg q,if_neg q,if_neg (λh=>q h.1)]
theorem a7u(a:¬uD x)(t:Nat):uK x t=x:=by grind[uD,uK,a5p]
theorem hE.shade{y:Wd}{m:Prop}(h:hE x y m)(t:Nat)(c:t<x.A.length):hE (uK x t) y m:=by
 by_cases a:uD x;refine⟨(cC x t).2.2.2.2.1▸h.1,λb=>?_⟩;rw[(a0g (a6p x t c _)).1];obtain o|o:=h.2 b
 ·exact .inl o
 refine .inr ⟨o.1,λd=>?_⟩;have:=d.1;rw[(cC x t).2.2.2.2.2.1]at this;unfold uD at a;omega;rw[a7u a];exact h
theorem Snd.put(h:Snd x)(i k:Nat)(s:i<x.A.length)(W:(x.c i).st=1)(M:¬uW x i)(Y:k<(x.c i).F.length)(y:Wd)(V:hE x y False)(p:Pr)(Z:(p.key=y/\p.val=((x.c i).p k).val)\/(p.val=y/\p.key=((x.c i).p k).key)):Snd (uX (hD x i { x.c i with F:=(x.c i).F.set k p }) y):=by
 have K:∀j,j<(x.c i).F.length->({ x.c i with F:=(x.c i).F.set k p }:Cl).p j=if j=k then p else (x.c i).p j:=λj b=>by grind[Hp.c,Cl.p,uW,hE,uX,hD]
 have key:∀(z:Hp)(c:Cl),Snd z->z.A.length=x.A.length->(∀q,(z.c q).st=(x.c q).st)->(z.c i).F=(x.c i).F->z.E=x.E->z.I=x.I->z.sub=x.sub->¬uW z i->(∀(u:Wd)(m:Prop),hE x u m->hE z u m)->(uD z->¬dJ z y)->c={ z.c i with F:=(x.c i).F.set k p }->Snd (hD z i c):=λz c C D zs zp R S O E B X n=>by
  have Q:∀j,cN z i j↔cN x i j:=λj=>by unfold cN;rw[R,S,O]
  have H:∀j,c.p j=({ x.c i with F:=(x.c i).F.set k p }:Cl).p j:=λj=>by rw[n];rfl
  have U:0<=(z.c i).U/\(z.c i).U<=3:=by
   have P:=C.r2.1 i (D▸s);have:=zs i;unfold cZ a2q a5g qL a5g at P;omega
  refine C.edit ⟨D▸s,by rw[zs];exact W,E,n▸⟨rfl,rfl,rfl,rfl,rfl,rfl⟩,n▸U,by rw[n,zp];simp,λj b=>?_,λg j b=>?_,λA g J=>?_⟩;have f:j<(x.c i).F.length:=by rw[n]at b;simpa using b
  have o:=((h.r4.2 i s).2 j f).2 M;have N:(¬cN z i j)=(¬cN x i j):=propext (not_congr (Q j));rw[N,H j,K j f];by_cases e:j=k;grind[Grw.at,Hp.at,Hp.c,uW,hE,Cl.p,uX,hD];rw[if_neg e];exact⟨B _ _ o.1,B _ _ o.2⟩;have o:=(C.r7 g i (D▸s)).2 j b;have f:j<(x.c i).F.length:=by
   unfold eH at b;rw[zp]at b;split at b;exact b;split at b
   ·rename_i t;have r:=(C.r6.2.1 t.1).2.2 t.2.1;have T:z.g0=i:=by unfold Hp.g0;rw[t.2.2];simp
    rw[T,zp]at r;omega
   omega
  have G:(z.c i).p j=(x.c i).p j:=by simp only[Cl.p,zp]
  rw[G]at o;rw[H j,K j f];by_cases e:j=k;grind[Grw.at,Hp.at,Hp.c,uW,hE,Cl.p,uX,hD];rw[if_neg e];exact o;rw[n]at A J;exact λt=>(C.r7 g i (D▸s)).1 ⟨A,J,t⟩
 unfold uX;by_cases e:(y.k == 2)=true;rw[if_pos e];have L:y.k=2:=by simpa using e
 have v:y.a.toNat<x.A.length:=by have:=V.1;unfold uJ at this;omega
 have st:(x.c y.a.toNat).st=1:=by grind[Hp.c,uW,hE,Cl.p,uX,hD]
 rw[b6i x i y.a.toNat { x.c i with F:=(x.c i).F.set k p } s rfl rfl];have I:=a6p x y.a.toNat v;refine key (uK x y.a.toNat) _ (h.shade _ v) (cC x _).2.2.2.2.1 (λq=>(a0g (I q)).1) (a0g (I i)).2.2.2.2.2.2 (cC x _).2.2.2.2.2.1 (cC x _).2.2.2.2.2.2.1 (cC x _).2.2.2.2.2.2.2.1 (λd=>?_) (λu m l=>l.shade _ v) (λg w=>?_) ?_;grind[uD,cC,Grw.at,Hp.at,a7u,Hp.c,uW,hE,Cl.p,uX];have F:uD x:=by unfold uD at g ⊢;rw[(cC x _).2.2.2.2.2.1]at g;exact g
 exact a1y x _ v F st w.2;rw[a8a x _ v i];by_cases q:eN x y.a.toNat=true/\y.a.toNat=i
 ·rw[if_pos q,if_pos ⟨q.1,q.2.symm⟩,q.2];rfl
 rw[if_neg q,if_neg (λh=>q ⟨h.1,h.2.symm⟩)];rw[if_neg e];have L:y.k≠2:=by simpa using e
 exact key x _ h rfl (λ_=>rfl) rfl rfl rfl rfl M (λ_ _ l=>l) (λ_ w=>L w.1) rfl
theorem Snd.want(h:Snd x)(i:Nat)(a:i<x.A.length)(n:(x.c i).st=1)(s:¬uW x i):Snd (uK (hD x i (qN (x.c i) 1)) i):=by
 rw[b6i x i i (qN (x.c i) 1) a rfl rfl];have r:=a8a x i a i;have j:=h.shade i a;have m:=(cC x i).2.2.2.2.1;have p:(if eN x i=true/\i=i then yD (qN (x.c i) 1) else qN (x.c i) 1)=qN ((uK x i).c i) 1:=by grind[eN,yD,qN,Hp.c,uK,uW,hD]
 rw[p];have q:((uK x i).c i).st=1:=by rw[(a0g (a6p x i a i)).1];exact n
 have f:¬uW (uK x i) i:=λd=>by grind[uW,uK,uD,cC,Grw.at,Hp.at,a7u,Hp.c,hD,qN]
 refine j.edit ⟨m▸a,q,f,⟨rfl,rfl,rfl,rfl,rfl,rfl⟩,by refine⟨?_,?_⟩<;>simp[qN],rfl,λk g=>((j.r4.2 i (m▸a)).2 k g).2 f,λb k g=>(j.r7 b i (m▸a)).2 k g,λ_ b e=>?_⟩;have l:uD x:=by unfold uD at b ⊢;rw[(cC x _).2.2.2.2.2.1]at b;exact b
 exact absurd e (a1y x i a l n)
theorem b0z[qd]{B:Nat}{w:World}{g:Nat}{x:Hp}{ar:Option Addr}{kr:Nat}{ac:Option Addr}{kc:Nat}{vg:Value}{br bc:Nat}(h:GK B w g x ar kr ac kc vg br bc)(s:Snd x)(a:World)(ha:a.heap.size<=B)(hx:Ext a w):
  Calls prog 44 #[pP g] w λe w'=>∃H:Nat->Bool,e=.returned (.tuple #[iv (qX x H x.A.length),iv (kL x H x.A.length)])/\Hid (∀i,H i=true↔eJ x i)/\GOk B w' g (a1r x H)/\Ext a w':=by
 have G0:=uU h;have S:=uU s;obtain⟨pb,pa,pk,ba,h⟩:=h;obtain⟨ag,kg,ah⟩:=h.hat s;have QH:=uU (b3h x g w ah s.r2 s.r4 s.ok.n8);have n8:=s.ok.n8;have bd:g<w.heap.size:=h.nf.1;have r0:0<x.B.length:=by rw[s.r1.B];omega
 have ai:=uU (show 0<=x.K/\x.K<=4000 by have X:=s.r3.1;have h2:=s.r3.2;have h3:=s.r1.M;omega);have BC:=uU (show 0<x.A.length->bc<w.heap.size from λM=>(h.rw.nc M).1.1);clear h s ah;go_enter func44,ntmps44;go_wp2_with (fail);refine(uH QH).mono ?_;rintro e w1 ⟨v,L,rfl,sn,hL,q1⟩;obtain⟨H,hH⟩:=nM ((λi:Nat=>decide ((i:Int)∈L)):Nat->Bool);have HI:=uU (show ∀i,H i=true↔eJ x i from λi=>by rw[hH];simp only[decide_eq_true_eq];exact uH hL i);have SN:=uU (show ∀j,j<x.A.length->w1.cell? (aA w.heap.size j)=some (.bool (H j)) from λj O=>by rw[hH];exact sn.s j O);have au:w.heap.size<w1.heap.size:=sn.hb.2;have G1:=uU ((uH G0).ext q1);have X1:=uU (hx.trans q1);have r:w1.cell? (aA g 4)=some (.slice ac x.A.length kc):=by obtain⟨_,_,_,_,X⟩:=uH G1;exact X.bx.2.2.2.2.1
 have av:g<w1.heap.size:=uZ r;clear hH sn hL QH G0;go_wp2_with (fail);go_loopw [5,19] (λgn si wr=>∃i:Nat,i<=x.A.length/\si=iv i/\gn=iv (qX x H i)/\Hid (GK B wr g (cD x H i) ar kr ac kc vg br bc)/\Hid (∀j,j<x.A.length->wr.cell? (aA w.heap.size j)=some (.bool (H j)))/\Hid (Ext a wr)) (λ_ si _=>x.A.length-(intOf si).toNat)
 case atStart=>exact⟨0,kB _,rfl,rfl,uH G1,uH SN,uH X1⟩
 case round=>
  clear G1 SN X1 r av au;obtain⟨i,hi,rfl,rfl,l,o,D⟩:=hrel;by_cases b:i<x.A.length
  ·have c0:=uH o i b;have k0:(0:Int)<=(i:Int):=by omega
   have k1:(i:Int)<(x.A.length:Int):=by omega
   cases F:H i
   ·rw[F]at c0;have E:=uU (show cD x H (i+1)=cD x H i by show(if H i=true then _ else _)=_;rw[if_neg (by simp[F])]);have E2:=uU (show qX x H (i+1)=qX x H i by show(if H i=true then _ else _)=_;rw[if_neg (by simp[F])]);go_wp2_with (fail);go_roundw
    case rel=>exact⟨i+1,by omega,by go_num,by rw[uH E2],by rw[uH E];exact uH l,uH o,uH D⟩
    case measure=>simp[intOf];omega
   rw[F]at c0;have HD:=uU ((uH HI i).1 F);obtain⟨bh,bf,bg,ay,g1⟩:=uH l;have d:=uU (a2g x H i);have CI:=uU (show(cD x H i).c i=x.c i by rw[b0k x H i hi i,if_neg (by omega)]);have M:0<(cD x H i).A.length:=by rw[uH d];omega
   have r:=g1.bx.2.2.2.2.1;rw[g1.hc M,uH d]at r;have p7:=g1.rw.p7 i (by rw[uH d];exact b);rw[uH CI]at p7;have K:g<wr.heap.size:=uZ r;have af:bc<wr.heap.size:=uZ p7;have bb:=(uH S).ok.p200 i b;have aj:=uU (inH_top x H (cD x H i) i (by rw[uH d];exact b) (uH CI));have GT:=uU (show GK B wr g (inH x H (cD x H i) i (x.c i).F.length) ar kr ac kc vg br bc by rw[uH aj];exact uH l);have ap:=uU (show eE x H (x.c i) ((x.c i).F.drop (x.c i).F.length)=0 by rw[List.drop_length];rfl);clear g1;go_wp2_with (fail);go_loopw [5,7] (λgn sk wr=>∃k:Nat,k<=(x.c i).F.length/\sk=iv ((k:Int)-1)/\gn=iv ((qX x H i:Int)+(eE x H (x.c i) ((x.c i).F.drop k):Int))/\Hid (GK B wr g (inH x H (cD x H i) i k) ar kr ac kc vg br bc)/\Hid (∀j,j<x.A.length->wr.cell? (aA w.heap.size j)=some (.bool (H j)))/\Hid (Ext a wr)) (λ_ sk _=>(intOf sk+1).toNat)
   case atStart=>exact⟨(x.c i).F.length,hT _,rfl,by rw[uH ap];simp,uH GT,uH o,uH D⟩
   case round=>
    clear GT o D l c0 r p7 K af aj ap;obtain⟨k,hk,rfl,rfl,l,o,D⟩:=hrel;cases k with
    | zero=>
     have E:=uU (d0g x H i F);have E2:=uU (show qX x H (i+1)=qX x H i+eE x H (x.c i) ((x.c i).F.drop 0) by show(if H i=true then _ else _)=_;rw[if_pos F];rfl);go_wp2_with (fail);go_roundw
     case rel=>exact⟨i+1,by omega,by go_num,by rw[uH E2];simp,by rw[uH E];exact uH l,uH o,uH D⟩
     case measure=>simp[intOf];omega
    | succ k=>
     have ek:(((k+1:Nat):Int)-1)=(k:Int):=by omega
     rw[ek];have A:k<(x.c i).F.length:=by omega
     obtain⟨z,I⟩:=nM (inH x H (cD x H i) i (k+1));have HZ:=uU I;rw[<-I]at l;have ZL:=uU (show z.A.length=x.A.length by rw[I,inH_len,uH d]);have ZC:=uU (show z.c i={ x.c i with F:=(x.c i).F.take (k+1)++a5s x H (x.c i) ((x.c i).F.drop (k+1)) } by rw[I];exact inH_c x H _ i (k+1) (by rw[uH d];exact b));have am:=uU (show ∀q,(z.c q).st=(x.c q).st/\(z.c q).to=(x.c q).to from λq=>by rw[I];exact inH_st x H _ i (k+1) (by rw[uH d];exact b) (d4i x H i hi) q);obtain⟨m,U⟩:=nM ((z.c i).F.length);have ao:k<m:=by rw[U,uH ZC];simp;omega
     have ab:m<=200:=by have X:=a4z x H (x.c i) ((x.c i).F.drop (k+1));rw[U,uH ZC];simp at X ⊢;omega
     obtain⟨V,aq,al,J,f⟩:=uH l;have G:i<z.A.length:=by rw[uH ZL];exact b
     have M:0<z.A.length:=by omega
     have r:=f.bx.2.2.2.2.1;rw[f.hc M,uH ZL]at r;have p7:=f.rw.p7 i G;rw[(f.rw.pl i G (f.rw.pw G (by rw[<-U];omega))).1,<-U]at p7;have s2:=(f.rw.s i G).2.2.1;have wk:(z.c i).T=(x.c i).T:=by rw[uH ZC]
     rw[wk]at s2;obtain⟨y,hy⟩:=nM ((x.c i).F[k]);have PY:=uU (show qC wr (V i) (k*6) y by
      have X:=f.rw.p i G k (by rw[<-U];exact ao);have h2:(z.c i).p k=y:=by
       rw[hy,uH ZC];simp only[Cl.p];rw[qS,mh (by simp;omega),List.getElem?_take,if_pos (by omega),mV A];rfl
      rw[h2]at X;exact X)
     obtain⟨e0,e1,e2,e3,e4,e5⟩:=uH PY;have K:g<wr.heap.size:=uZ r;have af:bc<wr.heap.size:=uZ p7;have be:V i<wr.heap.size:=uZ e0;have t0:(0:Int)<=(k:Int):=by omega
     have t1:(k:Int)<(m:Int):=by omega
     have UO:=uU (show(x.c i).st=1/\0<=(x.c i).T/\(x.c i).T<=3 by
      have g:=(uH HD).good (uH S).r2 (uH S).r4;have:=(uH S).r2.1 i b;unfold cZ a2q at this;have:=g.2.1;omega)
     have ad:=uU (show ∀W,Ext wr W->∀j,j<z.A.length->W.cell? (aA w.heap.size j)=some (.bool (H j)) from λW P j O=>P.keep (uH o j (by rw[uH ZL]at O;exact O)));have FK:=uU (show uJ y.key x.A.length/\uJ y.val x.A.length by
      have:=d0f (uH S) (uH HD) k A;rw[<-Cl.p_eq _ _ A,<-hy]at this;exact this)
     have C:=uU (show ∀u,uJ u x.A.length->∀W,Ext wr W->Calls prog 103 #[pP g,sS w.heap.size x.A.length x.A.length,u.v] W λe w'=>e=.returned (.bool (tC x H u))/\Ext W w' from λu hu W P=>by
      have:=c5n (f.ext P) H w.heap.size (uH ad W P) u (by rw[uH ZL];exact hu) (by rw[c3f (uH am),uH ZL];exact res_in (uH S).r2 hu);rw[uH ZL,d0e (uH am)]at this;exact this)
     have SC:=uU (show uV x=(i:Int)->0<=(cD x H i).sub/\(cD x H i).sub<=(x.c i).F.length from λe=>by rw[b2h x H i e i (hT _)];exact b0w (uH S) b (uH UO).1 e);have an:=uU (λq:goB x H (x.c i) y=true=>uU (show eE x H (x.c i) ((x.c i).F.drop k)=eE x H (x.c i) ((x.c i).F.drop (k+1))+1 by rw[a5c _ k A,a2x,<-hy,if_pos q]));have Z:=uU (λq:goB x H (x.c i) y=false=>kG (uU (show eE x H (x.c i) ((x.c i).F.drop k)=eE x H (x.c i) ((x.c i).F.drop (k+1)) by rw[a5c _ k A,a2x,<-hy,if_neg (by simp[q])])) (uU (show inH x H (cD x H i) i k=z by rw[uH HZ];exact d4g x H _ i k A (by rw[<-hy];exact q) (λe=>(uH SC e).2))));have ae:=uU (inH_num x H (λq hq=>(uH S).ok.p200 q hq) i (k+1) b n8 (uH ai) (uH S).r1.sub);rw[<-uH HZ]at ae;have az:=uU (show w.heap.size<wr.heap.size from uZ (uH o i b));have aw:=uU (λq:goB x H (x.c i) y=true=>show ∀W,Ext wr W->Calls prog 104 #[pP g,iv i,iv k] W λe w'=>e=.returned (.tuple #[])/\GK B w' g (inH x H (cD x H i) i k) ar kr ac kc vg br bc/\(∀j,j<x.A.length->w'.cell? (aA w.heap.size j)=some (.bool (H j)))/\Ext a w' from λW P=>by
      have zr:z.B.length=x.B.length:=by rw[uH HZ];show(cD x H i).B.length=_;rw[(a5x x H i).2.2.2]
      refine(b7w ((uH l).ext P) i k G (by rw[<-U];exact ao) (by rw[zr];exact r0) (by rw[<-U];exact ab) (uH ae).1 (uH ae).2 (by rw[uH ZL];exact n8) a ha ((uH D).trans P)).mono ?_;rintro e w4 ⟨rfl,g4,f4,x4⟩;refine⟨rfl,?_,λj O=>?_,x4⟩;rw[uH HZ]at g4;rw[<-inH_cut x H (cD x H i) i k (by rw[uH d];exact b) A (by rw[<-hy];exact q) (uH SC) (c6c x H i)];exact g4;refine(cOb w.heap.size j (f4.2 w.heap.size (kF (uH az) P.size) (by omega) (by have:=uH BC (by omega);omega))).trans (P.keep (uH o j O)))
     have Y:=uU (show goB x H (x.c i) y=((wkB (x.c i) && tC x H y.key) || (wvB (x.c i) && tC x H y.val)) from rfl);have WG:=uU (show wrap64 ((qX x H i:Int)+(eE x H (x.c i) ((x.c i).F.drop (k+1)):Int)+1)=(qX x H i:Int)+(eE x H (x.c i) ((x.c i).F.drop (k+1)):Int)+1 from by
      have X:=a5d x H (λq hq=>(uH S).ok.p200 q hq) i hi;have h2:=a5w x H (x.c i) ((x.c i).F.drop (k+1));have h3:((x.c i).F.drop (k+1)).length<=200:=by simp;omega
      exact a5a _ (by omega) (by omega))
     have HM:=uU U;clear f hy I U wk ek;have hw:(x.c i).T=0\/(x.c i).T=1\/(x.c i).T=2\/(x.c i).T=3:=by have:=(uH UO).2;omega
     have XA:=uU (eAl wr (oPr y));obtain e|e|e|e:=hw;focus
      rw[e]at s2;have t:goB x H (x.c i) y=false:=by rw[uH Y];simp[wkB,wvB,e]
      clear e Y;have R:=uH XA
     rotate_left
     focus
      rw[e]at s2;have T:=uU (show goB x H (x.c i) y=tC x H y.key by rw[uH Y];simp[wkB,wvB,e]);clear e Y;go_wp2_with (fail);refine(uH C y.key (uH FK).1 _ (uH XA)).mono ?_
     rotate_left
     focus
      rw[e]at s2;have T:=uU (show goB x H (x.c i) y=tC x H y.val by rw[uH Y];simp[wkB,wvB,e]);clear e Y;go_wp2_with (fail);refine(uH C y.val (uH FK).2 _ (uH XA)).mono ?_
     rotate_left
     focus
      rw[e]at s2;have T:=uU (show goB x H (x.c i) y=(tC x H y.key || tC x H y.val) by rw[uH Y];simp[wkB,wvB,e]);clear e Y;go_wp2_with (fail);refine(uH C y.key (uH FK).1 _ (uH XA)).mono ?_;rintro e w2 ⟨rfl,q2⟩;have R:=(uH XA).trans q2;cases t0:tC x H y.key;focus
       rw[t0]at T;have b3:w2.cell? (aA wr.heap.size 3)=some (iv y.val.k):=q2.keep (by simp[go_sem]);have b4:w2.cell? (aA wr.heap.size 4)=some (iv y.val.n):=q2.keep (by simp[go_sem]);have b5:w2.cell? (aA wr.heap.size 5)=some (iv y.val.a):=q2.keep (by simp[go_sem]);go_wp2_with (fail);refine(uH C y.val (uH FK).2 _ R).mono ?_;rintro e w3 ⟨rfl,q3⟩;have R:=R.trans q3;cases t1:tC x H y.val;all_goals have t:goB x H (x.c i) y=_:=(uH T).trans t1
      rotate_left 2;have t:goB x H (x.c i) y=true:=by rw[uH T,t0];rfl
     rotate_left 3;rotate_left
     iterate 2
      focus
       rintro e w2 ⟨rfl,q2⟩;have R:=(uH XA).trans q2;have t:=uH T;revert t;generalize tC x H _=t1;intro t;cases t1
      rotate_left 2
     all_goals go_wp2_with (fail)
     all_goals first|(refine(uH aw t _ R).mono ?_;rintro e w4 ⟨rfl,g4,s4,x4⟩;have G4:=uU g4;have S4:=uU s4;have X4:=uU x4;have EG:=uU (uH (uH an t));clear g4 s4 x4;go_wp2_with (fail);go_roundw;exact⟨k,by omega,by go_num,by rw[uH EG,uH WG];refine congrArg (Value.int IntKind.i64) ?_;omega,uH G4,uH S4,uH X4⟩;simp[intOf])|(go_roundw;exact⟨k,by omega,by go_num,by rw[uH (uH Z t).1],by rw[uH (uH Z t).2];exact(uH l).ext R,λj O=>R.keep (uH o j O),(uH D).trans R⟩;simp[intOf])
  have ie:i=x.A.length:=by omega
  subst ie;have d:=uU (a2g x H x.A.length);have r:wr.cell? (aA g 4)=some (.slice ac x.A.length kc):=by obtain⟨_,_,_,_,g1⟩:=uH l;have:=g1.bx.2.2.2.2.1;rw[uH d]at this;exact this
  have K:g<wr.heap.size:=uZ r;obtain⟨z,I⟩:=nM (cD x H x.A.length);have ZE:=uU (show a1r x H=zL x z H x.A.length by rw[I];rfl);have aa:=uU (show z.A.length=x.A.length by rw[I];exact uH d);have ZC:=uU (show ∀q,(z.c q).U=(x.c q).U/\(H q=false->z.c q=x.c q) from λq=>by
   rw[I,b0k x H _ (hT _) q];split;rename_i h;exact⟨rfl,λe=>by rw[e]at h;exact absurd h.2 (by simp)⟩;exact⟨rfl,λ_=>rfl⟩)
  rw[<-I]at l;clear I d;go_wp2_with (fail);go_loopw [10,94] (λdn si wr=>∃j:Nat,j<=x.A.length/\si=iv j/\dn=iv (kL x H j)/\Hid (GK B wr g (zL x z H j) ar kr ac kc vg br bc)/\Hid (∀j,j<x.A.length->wr.cell? (aA w.heap.size j)=some (.bool (H j)))/\Hid (Ext a wr)) (λ_ si _=>x.A.length-(intOf si).toNat)
  case atStart=>exact⟨0,kB _,rfl,rfl,uH l,uH o,uH D⟩
  case round=>
   clear l o D r K;obtain⟨j,O,rfl,rfl,l,o,D⟩:=hrel;by_cases b:j<x.A.length
   ·obtain⟨V,aq,al,J,f⟩:=uH l;have DL:=uU (show(zL x z H j).A.length=x.A.length by rw[a3q,uH aa]);have ak:j<(zL x z H j).A.length:=by rw[uH DL];exact b
    have M:0<(zL x z H j).A.length:=by omega
    have DC:=uU (c7q x z H j (by rw[uH aa];exact O) j (hT _));have r:=f.bx.2.2.2.2.1;rw[f.hc M,uH DL]at r;have s7:=f.rw.s j ak;have p3:=s7.2.2.2.1;rw[uH DC,(uH ZC j).1]at p3;have c0:=uH o j b;have fc:=(f.rw.nc M).1.2 (j*8+3);have K:g<wr.heap.size:=uZ r;have af:bc<wr.heap.size:=uZ p3;have k0:(0:Int)<=(j:Int):=by omega
    have k1:(j:Int)<(x.A.length:Int):=by omega
    have wd:=uU (a5a ((kL x H j:Int)+1) (by omega) (by have:=c0a x H j;omega));have SB:=uU (show w.heap.size≠bc by have:=uH BC (by omega);omega);have NO:=uU (λq:kX x H j=false=>kG (show kL x H (j+1)=kL x H j by show(if kX x H j=true then _ else _)=_;rw[if_neg (by simp[q])]) (show zL x z H (j+1)=zL x z H j by show(if kX x H j=true then _ else _)=_;rw[if_neg (by simp[q])]));cases q1:((x.c j).U == 1)
    ·have N:=uU (uH NO (by simp[kX,q1]));clear f s7;go_wp2_with (fail);go_roundw
     case rel=>exact⟨j+1,by omega,by go_num,by rw[(uH N).1],by rw[(uH N).2];exact uH l,uH o,uH D⟩
     case measure=>simp[intOf];omega
    cases F:H j
    ·rw[F]at c0;have Q:=uU (show kX x H j=true by simp[kX,q1,F]);have EN:=uU (show kL x H (j+1)=kL x H j+1 by show(if kX x H j=true then _ else _)=_;rw[if_pos (uH Q)]);have ET:=uU (show zL x z H (j+1)={ zL x z H j with A:=(zL x z H j).A.set j (b5i (x.c j)) } by show(if kX x H j=true then _ else _)=_;rw[if_pos (uH Q)]);have EC:=uU (show(zL x z H j).c j=x.c j by rw[uH DC];exact(uH ZC j).2 F);have GN:=uU (show GK B (wr.setCell (aA bc (j*8+3)) (iv 2)) g (zL x z H (j+1)) ar kr ac kc vg br bc by
      rw[uH ET];refine⟨V,aq,al,J,f.setc ak (by rw[uH EC];rfl) (tE wr bc (j*8+3) _) ?_ (λk hk=>uC _ (.inr (by omega))) ((f.rw.nc M).1.set _ _)⟩;rw[uH EC]at s7;obtain⟨a0,a1,a2,a3,a4,a5,a6⟩:=s7;refine⟨?_,?_,?_,kM _ _ _ a3,?_,?_,?_⟩;rw[uC _ (.inr (by omega))];exact a0;rw[uC _ (.inr (by omega))];exact a1;rw[uC _ (.inr (by omega))];exact a2;rw[uC _ (.inr (by omega))];exact a4;rw[uC _ (.inr (by omega))];exact a5;rw[uC _ (.inr (by omega))];exact a6)
     have XN:=uU (show Ext a (wr.setCell (aA bc (j*8+3)) (iv 2)) from(uH D).sc bc (j*8+3) (kA ha (f.rw.nc M).2) _);have ax:=uU (show ∀q,q<x.A.length->(wr.setCell (aA bc (j*8+3)) (iv 2)).cell? (aA w.heap.size q)=some (.bool (H q)) from λq hq=>by rw[uC _ (.inl (λe=>uH SB e.symm))];exact uH o q hq);clear f s7;go_wp2_with (fail);go_roundw
     case rel=>exact⟨j+1,by omega,by go_num,by rw[uH EN,uH wd];refine congrArg (Value.int IntKind.i64) ?_;omega,uH GN,uH ax,uH XN⟩
     case measure=>simp[intOf];omega
    rw[F]at c0;have N:=uU (uH NO (by simp[kX,F]));clear f s7;go_wp2_with (fail);go_roundw
    case rel=>exact⟨j+1,by omega,by go_num,by rw[(uH N).1],by rw[(uH N).2];exact uH l,uH o,uH D⟩
    case measure=>simp[intOf];omega
   have je:j=x.A.length:=by omega
   subst je;go_wp2_with (fail);go_ret2;exact⟨H,rfl,uH HI,by rw[uH ZE];exact(uH l).ok,uH D⟩
theorem wd_eq0(a b:Wd)(w:World):(Op.equalIn 10000 86 (.agg #[iv a.k,iv a.n,iv a.a]) (.agg #[iv b.k,iv b.n,iv b.a])).run prog w=.ok (wdB a b) w:=by
 rw[run_equalIn_struct w 9999 _ _ _ (by kernel_rfl) (by kernel_rfl)];simp[go_sem,wdB];repeat' split
 all_goals simp_all
theorem wd_eq(a b:Wd)(w:World):(binOp .eql 86 (.agg #[iv a.k,iv a.n,iv a.a]) (.agg #[iv b.k,iv b.n,iv b.a])).run prog w=.ok (.bool (wdB a b)) w:=by
 rw[run_eql_struct,wd_eq0];rfl
theorem a1v.nm{c:Nat}{nm:Int}(h:a1v x f c y cd nm R):nm=0:=by
 obtain h|h|h:=h;exact h.2.2.2;exact h.2.2.2.2;exact h.2.2.2.2
theorem a1a.nm{nm:Int}(h:a1a x f y cd nm R)(b:cd≠0)(a:∀i,R i->cd≠0->nm=0):nm=0:=by
 obtain h|h:=h;exact h.2.2.2;exact a _ h.2 b
theorem DoR.nm{a b c:Nat}{nm:Int}(h:DoR x a b c n y cd nm k)(d:cd≠0):nm=0:=by
 unfold DoR at h;split at h;exact h.1;exact absurd h.2.1 d;exact absurd h.2.1 d;exact absurd h.2.1 d;exact h.nm;exact h.nm;exact h.nm;exact h.nm;exact h.nm d (λi r _=>r.1);exact h.nm d (λi r q=>absurd r.2.1 q);exact h.nm d (λi r q=>absurd r.2.1 q);exact h.nm d (λi r q=>absurd r.2.1 q);exact absurd h.2.1 d;exact absurd h.2.1 d;obtain e|e:=h.2
 ·exact e.2.2
 exact absurd e.2.1 d;exact h.nm d (λi r q=>absurd r.2.1 q);exact h.nm d (λi r q=>absurd r.2.1 q);exact absurd h.1 d;exact absurd h.1 d;exact absurd h.2.1 d;exact absurd h.2.1 d;exact absurd h.1 d;exact absurd h.2.1 d;exact absurd h.1 d;exact h.elim
end Go.Proofs.YtolmnenlnpbcfaaGreatDoor
