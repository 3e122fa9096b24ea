import Derived.Test.YtgkpaibbdkggiaaGreatDoorDd
set_option maxRecDepth 100000
set_option maxHeartbeats 40000000
namespace Go.Proofs.YtgkpaibbdkggiaaGreatDoor
open Go.RowKit Tryz
attribute [local go_sem ↓] Go.wp_at_zero Go.wp_at_succ
variable{w w':World}{x:Hp}{B g kr kc br bc gb go b:Nat}{ar ac:Option Addr}{pb pk role:Nat->Nat}{pa:Nat->Option Addr}{vg:Value}{y:Wd}{G:List Int}
theorem b8w(b:eD x y)(c:y.k=2->0<=y.a):a5f x y=uX x y:=by grind[eD,a5f,uX,a6e,eE,whB,uK]
theorem b4p[qr](B g:Nat)(x:Hp)(y:Wd)(w:World)(h:GOk B w g x)(s:Snd x)(j:eD x y)(f:y.k=2->0<=y.a)(a:World)(r:a.heap.size<=B)(q:Ext a w)(p:B<=w.heap.size):
  Calls prog 128 #[pP g,y.v] w λe w'=>e=.returned (.bool (a6e x y))/\GOk B w' g (uX x y)/\Ext a w':=by
 obtain⟨t,E,H,D,z,G,A,C,u,F,i,h⟩:=h;obtain⟨I,J,rfl⟩:=h.gr.form;refine(a6n y w h (λc=>⟨f c,by have:=(j c).1;have:=f c;omega⟩) s.ok.n8 (by have:=s.r1.D;have:=s.ok.n8;omega) a r q p).mono ?_;rintro e w' ⟨o,b,n⟩;obtain⟨l,m,d,b⟩:=b;rw[b8w j f]at b;exact⟨o,⟨_,_,_,_,_,_,_,_,_,_,_,b⟩,n⟩
theorem a0v[qr](B g:Nat)(x:Hp)(p b:Int)(w:World)(h:GOk B w g x)(a:World)(F:a.heap.size<=B)(i:Ext a w):
  Calls prog 85 #[pP g,iv p,iv b] w λe w'=>e=.returned (.tuple #[])/\GOk B w' g (dC x p b)/\Ext a w':=by
 obtain⟨j,u,C,s,m,A,n,r,k,y,d,h⟩:=h;have H:=uU h;obtain⟨_,_,_,_,_,v,D,z,_⟩:=h.bx;have l:=h.nf.2 5;have t:=h.nf.2 6;have E:=h.nf.2 7;clear h;go_in;go_wp21;go_end0;have f:=((H.bx.set5 p).set6 b).set7 0;have c:=uZ.setCell (S:=λq=>q=g) (uZ.setCell (S:=λq=>q=g) (tJ w g 5 (iv p)) (p:=(aA g 6)) rfl (iv b)) (p:=(aA g 7)) rfl (iv 0);exact⟨rfl,⟨_,_,_,_,_,_,_,_,_,_,_,H.boxed (x':=dC x p b) c (((H.nf.set _ _).set _ _).set _ _) rfl rfl rfl f⟩,c.ext i (λq o e=>by have:=H.lo;omega)⟩
theorem a0k(w:World)(n:Nat)(cs:Array Value)(t:TypeId)(j:Nat):((w.drewN n).alloc (.cells cs t)).cell? (aA w.heap.size j)=cs[j]?:=by
 have e:(w.drewN n).heap.size=w.heap.size:=by simp
 have:=heap_alloc_new (w.drewN n) (.cells cs t);rw[e]at this;exact cell_of_row _ w.heap.size j _ _ (0,0) this
theorem a3w(w:World)(n:Nat)(o:Obj)(b j:Nat)(h:b<w.heap.size):((w.drewN n).alloc o).cell? (aA b j)=w.cell? (aA b j):=by
 have x:=((hO w).drewN n).alloc o;exact x.cell (p:=(aA b j)) h
theorem a3m(w:World)(n:Nat)(cs:Array Value)(t:TypeId)(j:Nat):((w.drewN n).alloc (.cells cs t)).frozen? (aA w.heap.size j)=false:=by
 have e:(w.drewN n).heap.size=w.heap.size:=by simp
 have a:∀W:World,(W.alloc (.cells cs t)).frozen? (aA W.heap.size j)=false:=λW=>by simp[go_sem]
 have:=a (w.drewN n);rw[e]at this;exact this
theorem c0q[qr](B g:Nat)(x:Hp)(w:World)(h:GOk B w g x)(s:Snd x)(a:World)(Q:a.heap.size<=B)(I:Ext a w)(hB:B<=w.heap.size):
  Calls prog 86 #[pP g] w λe w'=>e=.returned (.tuple #[])/\GOk B w' g (eH x)/\Ext a w':=by
 obtain⟨ar,kr,ac,kc,vg,br,bc,pb,pa,pk,aa,h⟩:=h;have G:=uU (show GOk B w g x from⟨_,_,_,_,_,_,_,_,_,_,_,h⟩);have H:=uU h;have U:=h.bx.2.2.2.2.1;have X:=h.bx.2.2.2.2.2.2.1;have L:=cLt U;have lo:=h.lo;have n8:=s.ok.n8;have S:=uU s;have hh:=s.r1.I;clear h;by_cases v:x.I=x.A.length;have E:=uU (show eH x=dC x 2 0 by unfold eH;rw[if_pos v]);have z:(x.I == (x.A.length:Int))=true:=by simpa using v
 clear v;go_in;go_wp21;go_quiet (fail);go_wp21;refine(a0v B g x 2 0 _ (G.ext ((hO w).drewN _)) a Q (I.drewN _)).mono ?_;rintro e w2 ⟨rfl,V,x2⟩;have H2:=uU V;clear V;go_wp21;try simp only[Exit.inBlock,Exit.then]
 refine bodyPost_ret (results_none rfl _ _ _) rfl ?_;exact⟨rfl,by rw[uH E];exact uH H2,x2⟩;obtain⟨i,O⟩:∃i:Nat,x.I=(i:Int):=⟨x.I.toNat,by omega⟩;have d:i<x.A.length:=by omega
 have z:(x.I == (x.A.length:Int))=false:=by simpa using v
 rw[O]at z X;have hn:0<x.A.length:=by omega
 rw[H.hc hn]at U;obtain⟨p0,p1,p2,p3,p4,p5,p6⟩:=H.rw.s i d;have p7:=H.rw.p7 i d;have ab:=cLt p0;have Z:=i0N i;have i1:(i:Int)<(x.A.length:Int):=by omega
 have T:x.I.toNat=i:=by omega
 have K:=uU (show eH x={ (if kZ (x.c i)=true then uK x i else x) with I:=x.I+1 } by unfold eH;rw[if_neg v,T]);have u:=uU O;have R:=λn j=>a0k w n #[iv 0,iv 0,iv 0,iv 0,iv 0,iv 0,iv 0,.slice none 0 0] 51 j
 have zf:=λn j=>a3m w n #[iv 0,iv 0,iv 0,iv 0,iv 0,iv 0,iv 0,.slice none 0 0] 51 j
 have zo:=λn o b j (h:b<w.heap.size)=>a3w w n o b j h
 clear v O T hh;go_in;go_wp21;go_quiet (fail);go_wp21;go_region;all_goals
  obtain⟨M,l⟩:∃W,W=(((((((((w.drewN (nq+1)).alloc (.cells #[iv 0,iv 0,iv 0,iv 0,iv 0,iv 0,iv 0,.slice none 0 0] 51)).setCell (aA w.heap.size 0) (iv (x.c i).st)).setCell (aA w.heap.size 1) (iv (x.c i).kind)).setCell (aA w.heap.size 2) (iv (x.c i).T)).setCell (aA w.heap.size 3) (iv (x.c i).U)).setCell (aA w.heap.size 4) (iv (x.c i).born)).setCell (aA w.heap.size 5) (iv (x.c i).J)).setCell (aA w.heap.size 6) (iv (x.c i).to)).setCell (aA w.heap.size 7) (.slice (pa i) (x.c i).F.length (pk i)):=⟨_,rfl⟩;have k:Ext w M:=by
   rw[l];exact(((((((((hO w).drewN (nq+1)).alloc _).setCell (hT _) _).setCell (hT _) _).setCell (hT _) _).setCell (hT _) _).setCell (hT _) _).setCell (hT _) _).setCell (hT _) _ |>.setCell (hT _) _
  have l3:M.cell? (aA w.heap.size 3)=some (iv (x.c i).U):=by
   rw[l,uC _ (.inr (by omega)),uC _ (.inr (by omega)),uC _ (.inr (by omega)),uC _ (.inr (by omega))];exact kM _ _ _ (by rw[uC _ (.inr (by omega)),uC _ (.inr (by omega)),uC _ (.inr (by omega)),R];rfl)
  rw[<-l];clear l R zf zo;have d6:=k.keep X;have f6:M.frozen? (aA g 6)=false:=((cE k).2 g 6 L).trans (H.nf.2 6);cases Y:((x.c i).U == 1)
  cases l2:((x.c i).U == 2)
  ·have y:=uU (show eH x={ x with I:=x.I+1 } by rw[uH K,if_neg (by simp[kZ,Y,l2])]);have r:=uU ((G.ext k).set6 (x.I+1));have m:=uU ((I.trans k).sc g 6 (show a.heap.size<=g by omega) (iv (x.I+1)));rw[uH u]at r m y;go_wp21;go_end0;exact⟨rfl,by rw[uH y];exact uH r,m⟩
  
  have F:=uU (show kZ (x.c i)=true by simp[kZ,l2]);have J:=uU (show eD x ⟨2,0,i⟩ from λ_=>⟨by simpa using d,by
   have f:=(a9w _).1 F;have e:((i:Int)).toNat=i:=by omega
   show(x.c ((i:Int)).toNat).st=1;rw[e];obtain⟨_,b,_⟩|⟨_,b⟩|⟨a,_⟩:=S.r2.1 i d;have:=b.2.2.1;obtain q|q:=f <;> omega
   have:=b.1.2.2.1;obtain q|q:=f <;> omega
   exact a⟩)
  go_wp21;refine(b4p B g x ⟨2,0,i⟩ _ (G.ext k) S J (λ_=>Z) a Q (I.trans k) (kA hB k.size)).mono ?_;rintro e N ⟨rfl,t,D⟩;have r:=uU (t.set6 (x.I+1));have m:=uU (D.sc g 6 (show a.heap.size<=g by omega) (iv (x.I+1)));obtain⟨C,_,_,A,_,eg⟩:=t.box;have e6:N.cell? (aA g 6)=some (iv i):=by rw[C,(a0b x _).2.2.2.1,uH u]
  have P:=A 6;rw[uH u]at r m;have y:=uU (show eH x={ uX x ⟨2,0,i⟩ with I:=(i:Int)+1 } by
   rw[uH K,if_pos (uH F),uH u];have:uX x ⟨2,0,i⟩=uK x i:=by unfold uX;simp
   rw[this])
  clear t D A C;go_wp21;go_end0;exact⟨rfl,by rw[uH y];exact uH r,m⟩
  
  have F:=uU (show kZ (x.c i)=true by simp[kZ,Y]);have J:=uU (show eD x ⟨2,0,i⟩ from λ_=>⟨by simpa using d,by
   have f:=(a9w _).1 F;have e:((i:Int)).toNat=i:=by omega
   show(x.c ((i:Int)).toNat).st=1;rw[e];obtain⟨_,b,_⟩|⟨_,b⟩|⟨a,_⟩:=S.r2.1 i d;have:=b.2.2.1;obtain q|q:=f <;> omega
   have:=b.1.2.2.1;obtain q|q:=f <;> omega
   exact a⟩)
  go_wp21;refine(b4p B g x ⟨2,0,i⟩ _ (G.ext k) S J (λ_=>Z) a Q (I.trans k) (kA hB k.size)).mono ?_;rintro e N ⟨rfl,t,D⟩;have r:=uU (t.set6 (x.I+1));have m:=uU (D.sc g 6 (show a.heap.size<=g by omega) (iv (x.I+1)));obtain⟨C,_,_,A,_,eg⟩:=t.box;have e6:N.cell? (aA g 6)=some (iv i):=by rw[C,(a0b x _).2.2.2.1,uH u]
  have P:=A 6;rw[uH u]at r m;have y:=uU (show eH x={ uX x ⟨2,0,i⟩ with I:=(i:Int)+1 } by
   rw[uH K,if_pos (uH F),uH u];have:uX x ⟨2,0,i⟩=uK x i:=by unfold uX;simp
   rw[this])
  clear t D A C;go_wp21;go_end0;exact⟨rfl,by rw[uH y];exact uH r,m⟩
theorem GAt.drop[qr](h:GAt B w g x ar kr ac kc vg br bc pb pa pk role)(i:Nat)(C:i+1=x.A.length):
  GOk B (w.setCell (aA g 4) (.slice ac i kc)) g { x with A:=x.A.take i }:=by
 have j:∀q,q<w.heap.size->role q≠0->(w.setCell (aA g 4) (.slice ac i kc)).heap[q]?=w.heap[q]?:=λq a n=>kP _ _ _ _ (λe=>n (e▸h.sp.g))
 have b:=h.rw.same (w':=w.setCell (aA g 4) (.slice ac i kc)) (by simp[World.setCell]) (λf=>j br (h.rw.nr f).1.1 (by rw[h.sp.r f];omega)) (λf=>j bc (h.rw.nc f).1.1 (by rw[h.sp.c f];omega)) (λq a f=>j (pb q) (h.rw.pl q a f).2.1.1 (by rw[h.sp.p q a f];omega));have f:({ x with A:=x.A.take i }:Hp).A.length=i:=by simp;omega
 have n:0<x.A.length:=by omega
 have o:∀q,q<i->({ x with A:=x.A.take i }:Hp).c q=x.c q:=λq a=>by grind[Hp.c,GOk]
 refine⟨ar,kr,ac,kc,vg,br,bc,pb,pa,pk,role,?_,h.nf.set _ _,h.lo,h.ha,λ_=>h.hc n,⟨b.r,λq a=>?_,λq a=>?_,λq a k m=>?_,λq a l=>?_,b.nr,λ_=>b.nc n,λ_=>b.d n,λq A a t u v z=>?_,λq a=>?_⟩,h.gr.block (λq a=>j q (h.gr.lt q a).2 (by rw[h.sp.y q a];omega)),⟨h.sp.g,h.sp.r,λ_=>h.sp.c n,h.sp.y,λq a l=>?_⟩,by rw[f];have:=h.kl;omega,h.pr.of (λq a v=>j q a (by rw[v];omega)) (λ_ _ h=>h),λm=>(h.cc m).block rfl (j bc (h.cc m).nf.1 (by rw[(h.cc m).ro];omega)) (by simp[World.setCell]),λl=>h.rob l (j br (h.rw.nr l).1.1 (by rw[h.sp.r l];omega))⟩;rw[f];exact h.bx.set4 _;rw[f]at a;rw[o q a];exact b.s q (by omega);rw[f]at a;rw[o q a];exact b.p7 q (by omega);rw[f]at a;rw[o q a]at m ⊢;exact b.p q (by omega) k m;rw[f]at a;exact b.pl q (by omega) l;rw[f]at a t;exact b.dp q A (by omega) (by omega) u v z;rw[f]at a;rw[o q a];exact b.kp q (by omega);rw[f]at a;exact h.sp.p q (by omega) l
theorem GAt.setr[qr](h:GAt B w g x ar kr ac kc vg br bc pb pa pk role)(j:Nat)(O:j<x.B.length)(y:Wd)(o:uZ (λq=>q=br) w w')(L:Nf1 br w')(N:yD w' br (j*3) y)(M:∀m,(m<j*3\/j*3+3<=m)->w'.cell? (aA br m)=w.cell? (aA br m)):
  GAt B w' g { x with B:=x.B.set j y } ar kr ac kc vg br bc pb pa pk role:=by
 have v:0<x.B.length:=by omega
 have f:∀q,q<w.heap.size->role q≠2->w'.heap[q]?=w.heap[q]?:=λq b i=>o.block q b (λe=>i (e▸h.sp.r v))
 have E:=f g h.nf.1 (by rw[h.sp.g];omega);have t:({ x with B:=x.B.set j y }:Hp).B.length=x.B.length:=by simp
 have F:∀q,q<x.A.length->0<pk q->w'.heap[pb q]?=w.heap[pb q]?:=λq b t=>f (pb q) (h.rw.pl q b t).2.1.1 (by rw[h.sp.p q b t];omega)
 have z:0<x.A.length->w'.heap[bc]?=w.heap[bc]?:=λi=>f bc (h.rw.nc i).1.1 (by rw[h.sp.c i];omega)
 refine⟨?_,uY h.nf E o.size,h.lo,λ_=>h.ha v,h.hc,⟨λm D=>?_,λq b=>?_,λq b=>?_,λq b k n=>?_,λq b u=>?_,λ_=>⟨L,(h.rw.nr v).2⟩,λi=>⟨uY (h.rw.nc i).1 (z i) o.size,(h.rw.nc i).2⟩,h.rw.d,h.rw.dp,h.rw.kp⟩,h.gr.block (λq b=>f q (h.gr.lt q b).2 (by rw[h.sp.y q b];omega)),⟨h.sp.g,λ_=>h.sp.r v,h.sp.c,h.sp.y,h.sp.p⟩,h.kl,h.pr.of (λq b K=>f q b (by rw[K];omega)) (λ_ _ h=>h),λn=>(h.cc n).block rfl (f bc (h.cc n).nf.1 (by rw[(h.cc n).ro];omega)) o.size,λ_ m D=>?_⟩;rw[t];exact h.bx.block E;have C:m<x.B.length:=by rw[t]at D;exact D
 by_cases e:m=j;grind[Nf1,yD];have A:j≠m:=λJ=>e J.symm
 have:({ x with B:=x.B.set j y }:Hp).B[m]=x.B[m]:=by simp[A]
 rw[this];exact(h.rw.r m C).of λl t=>M _ (by omega)
 exact(h.rw.s q b).of λm _=>cOb bc _ (z (by have:q<x.A.length:=b;omega))
 rw[cOb bc _ (z (by have:q<x.A.length:=b;omega))];exact h.rw.p7 q b;exact(h.rw.p q b k n).of λm _=>cOb (pb q) _ (F q b (h.rw.pw b (by have:k<(x.c q).F.length:=n;omega)))
 have⟨I,H,G⟩:=h.rw.pl q b u;exact⟨I,eN H (F q b u) o.size,G⟩;by_cases e:m<j*3\/j*3+3<=m
 ·rw[M m e];exact h.rc v m D
 obtain⟨a,b,c⟩:=N;obtain e|e|e:m=j*3\/m=j*3+1\/m=j*3+2:=by omega
 all_goals(subst e;exact⟨_,by assumption⟩)
theorem GAt.move[qr](h:GAt B w g x ar kr ac kc vg br bc pb pa pk role)(t f:Nat)(z:t≠f)(H:t<x.A.length)(n:f<x.A.length)(o:uZ (λq=>q=bc) w w')(C:Nf1 bc w')(D:S7 w' bc (t*8) (x.c f))(G:w'.cell? (aA bc (t*8+7))=some (.slice (pa f) (x.c f).F.length (pk f)))(A:S7 w' bc (f*8) (mvC t))(I:w'.cell? (aA bc (f*8+7))=some (.slice none 0 0))
  (v:∀q,q<x.A.length->q≠t->q≠f->∀k,k<8->w'.cell? (aA bc (q*8+k))=w.cell? (aA bc (q*8+k))) (r:∀j,x.A.length*8<=j->w'.cell? (aA bc j)=w.cell? (aA bc j)) :
  ∃pb' pa' pk' role',GAt B w' g { x with A:=(x.A.set t (x.c f)).set f (mvC t) } ar kr ac kc vg br bc pb' pa' pk' role':=by
 have m:∀q,({ x with A:=(x.A.set t (x.c f)).set f (mvC t) }:Hp).c q=if q=f then mvC t else if q=t then x.c f else x.c q:=λq=>by grind[Hp.c,mvC,Hp.c_set,Nf1,S7]
 refine⟨_,_,_,_,h.turn ((x.A.set t (x.c f)).set f (mvC t)) (by simp) (λq=>if q=t then f else q) (λq=>if q=f then none else if q=t then pa f else pa q) (λq=>if q=f then 0 else if q=t then pk f else pk q) (λb=>if 0<pk f/\b=pb f then 6+t else role b) (by omega) o C (λq i=>?_) (λq i=>?_) (λq i=>?_) (λq i l=>?_) (λb F=>?_) r⟩;rw[m q];by_cases a:q=f
 ·subst a;rw[if_pos rfl];exact A
 rw[if_neg a];by_cases d:q=t
 ·subst d;rw[if_pos rfl];exact D
 rw[if_neg d];exact(h.rw.s q i).of λj E=>v q i d a j (by omega)
 rw[m q];by_cases a:q=f
 ·grind[Nf1,S7,Hp.c,mvC]
 simp only[if_neg a];by_cases d:q=t
 ·grind[Nf1,S7,Hp.c,mvC]
 simp only[if_neg d];rw[v q i d a 7 (by omega)];exact h.rw.p7 q i;rw[m q];by_cases a:q=f
 ·rw[if_pos a];simp[mvC]
 simp only[if_neg a];by_cases d:q=t
 ·simp only[if_pos d];exact h.rw.kp f n
 simp only[if_neg d];exact h.rw.kp q i;rw[m q];by_cases a:q=f
 ·rw[if_pos a]at l;omega
 rw[if_neg a]at l;simp only[if_neg a];by_cases d:q=t
 ·grind[Grw.at,Nf1,S7,Hp.c,mvC]
 rw[if_neg d]at l;simp only[if_neg d];refine⟨⟨i,trivial⟩,trivial,trivial,?_⟩;rw[if_neg (λe=>?_)]
 ·exact h.sp.p q i l
 have y:=h.sp.p q i l;have u:=h.sp.p f n e.1;rw[e.2]at y;omega;by_cases e:0<pk f/\b=pb f
 ·have u:=h.sp.p f n e.1;rw[<-e.2]at u;omega
 rw[if_neg e]
theorem b4q(x:Hp)(y:Wd)(v:Int):uX { x with sub:=v } y={ uX x y with sub:=v }:=by
 have e:∀i,uK { x with sub:=v } i={ uK x i with sub:=v }:=λi=>by
  have a:eE { x with sub:=v } i=eE x i:=rfl;unfold uK;rw[a];split <;> rfl
 unfold uX;split;exact e _;rfl
theorem b4r[qr](B g:Nat)(x:Hp)(y:Wd)(w:World)(h:GOk B w g x)(q:x.A.length<=8000)(r:x.D.length<=8000)(j:eD x y)(f:y.k=2->0<=y.a)(a:World)(t:a.heap.size<=B)(s:Ext a w)(p:B<=w.heap.size):
  Calls prog 128 #[pP g,y.v] w λe w'=>e=.returned (.bool (a6e x y))/\GOk B w' g (uX x y)/\Ext a w':=by
 have⟨u,F,I,E,A,H,C,D,z,G,i,h⟩:=h;obtain⟨J,K,rfl⟩:=h.gr.form;refine(a6n y w h (λc=>⟨f c,by have:=(j c).1;have:=f c;omega⟩) q r a t s p).mono ?_;rintro e w' ⟨o,b,n⟩;have⟨l,m,d,b⟩:=b;rw[b8w j f]at b;exact⟨o,⟨_,_,_,_,_,_,_,_,_,_,_,b⟩,n⟩
theorem GAt.gtail[qr]{n cap:Nat}{v':Value}(h:GAt B w g x ar kr ac kc (sO gb go n cap) br bc pb pa pk role)(k:Grw w B v' G)(t:v'.ownBlock=some gb):
  GOk B (w.setCell (aA g 8) v') g { x with D:=G }:=by
 have b:∀q,q<w.heap.size->role q≠0->(w.setCell (aA g 8) v').heap[q]?=w.heap[q]?:=λq i l=>kP _ _ _ _ (λe=>l (e▸h.sp.g))
 have a:=h.rw.same (w':=w.setCell (aA g 8) v') (by simp[World.setCell]) (λf=>b br (h.rw.nr f).1.1 (by rw[h.sp.r f];omega)) (λf=>b bc (h.rw.nc f).1.1 (by rw[h.sp.c f];omega)) (λq i f=>b (pb q) (h.rw.pl q i f).2.1.1 (by rw[h.sp.p q i f];omega));have o:role gb=4:=h.sp.y gb rfl;refine⟨_,_,_,_,_,_,_,_,_,_,_,⟨h.bx.set8 _,h.nf.set _ _,h.lo,h.ha,h.hc,⟨a.r,a.s,a.p7,a.p,a.pl,a.nr,a.nc,a.d,a.dp,a.kp⟩,k.block (λq i=>?_),⟨h.sp.g,h.sp.r,h.sp.c,λq i=>?_,h.sp.p⟩,h.kl,h.pr.of (λq i m=>b q i (by rw[m];omega)) (λ_ _ h=>h),λj=>(h.cc j).block rfl (b bc (h.cc j).nf.1 (by rw[(h.cc j).ro];omega)) (by simp[World.setCell]),λn=>h.rob n (b br (h.rw.nr n).1.1 (by rw[h.sp.r n];omega))⟩⟩;refine b q ?_ ?_
 ·exact(k.lt q i).2
 grind[Grw.at,Grw,GOk];grind[Grw.at,Grw,GOk]
theorem Grw.tail1{g:Int}(h:Grw w B (sO gb go (G.length+1) 1) (g::G)):Grw w B (sO gb go G.length 0) G:=by
 obtain⟨_,e⟩|⟨gb',go',cap',cur,e,hb,hg,hn,hs,ht⟩:=h
 cases e
 simp only[Value.slice.injEq,Option.some.injEq,Addr.mk.injEq]at e;obtain⟨⟨rfl,rfl,_⟩,_,rfl⟩:=e;have a:G.length+1<=1:=hn;have:G=[]:=mU (by omega);subst this;exact .inr ⟨gb,go,0,cur,rfl,hb,hg,by simp,by omega,by simp⟩
def a4i(w:World)(b:Nat)(p:Pr):World:=(((((w.setCell ⟨b,0,none⟩ (.int .i64 p.key.k)).setCell ⟨b,1,none⟩ (.int .i64 p.key.n)).setCell ⟨b,2,none⟩ (.int .i64 p.key.a)).setCell ⟨b,3,none⟩ (.int .i64 p.val.k)).setCell ⟨b,4,none⟩ (.int .i64 p.val.n)).setCell ⟨b,5,none⟩ (.int .i64 p.val.a)
theorem d1b(w:World)(b:Nat)(p:Pr)(c f e d g a:Value)(m:w.cell? (aA b 0)=some c)(l:w.cell? (aA b 1)=some f)(i:w.cell? (aA b 2)=some e)(h:w.cell? (aA b 3)=some d)(j:w.cell? (aA b 4)=some g)(k:w.cell? (aA b 5)=some a):qY (a4i w b p) b 0 p:=by grind[Cl.p,eX.cell,HAt.cell,S7.some,qY,a4i,uC,dJ]
theorem c7q{a:World}(p:Pr)(h:Ext a w)(c:a.heap.size<=b):Ext a (a4i w b p):=by
 unfold a4i;exact(((((h.sc b 0 c _).sc b 1 c _).sc b 2 c _).sc b 3 c _).sc b 4 c _).sc b 5 c _
theorem b4s(w:World)(n:Nat)(p:Pr)(t:TypeId):Ext w (a4i ((w.drewN n).alloc (.cells #[iv 0,iv 0,iv 0,iv 0,iv 0,iv 0] t)) w.heap.size p)/\qY (a4i ((w.drewN n).alloc (.cells #[iv 0,iv 0,iv 0,iv 0,iv 0,iv 0] t)) w.heap.size p) w.heap.size 0 p:=
 ⟨c7q p (((hO w).drewN n).alloc _) (hT _),d1b _ _ p _ _ _ _ _ _ (a0k w n _ t 0) (a0k w n _ t 1) (a0k w n _ t 2) (a0k w n _ t 3) (a0k w n _ t 4) (a0k w n _ t 5)⟩
theorem c0r[qr](B g:Nat)(x:Hp)(w:World)(h:GOk B w g x)(s:Snd x)(hp:x.E=2)(a:World)(ha:a.heap.size<=B)(hx:Ext a w)(i:Nat)(G:List Int)(E:x.D=(i:Int)::G)(f:i<x.A.length)(k:Nat)(l:x.sub=(k:Int))(t:k<(x.c i).F.length):
  Calls prog 87 #[pP g] w λe w'=>e=.returned (.tuple #[])/\GOk B w' g { uX (uX x ((x.c i).p k).key) ((x.c i).p k).val with sub:=(k:Int)+1 }/\Ext a w':=by
 have⟨ar,kr,ac,kc,vg,br,bc,U,pa,pk,D,h⟩:=h;obtain⟨ag,kg,rfl⟩:=h.gr.form;have H:=uU h;have hn:0<x.A.length:=by omega
 have M:=h.bx.2.2.2.2.1;have L:=h.bx.2.2.2.2.2.2.2.1;have P:=h.bx.2.2.2.2.2.2.2.2.1;have⟨gb,go,C,y,_⟩:=h.gr.at 0 (by rw[E];simp);have eg:x.D[0]'(by rw[E];simp)=(i:Int):=by simp[E]
 rw[eg]at y;simp only[Nat.add_zero]at y;rw[h.hc hn]at M;rw[C]at P;rw[l]at L;have Q:=h.rw.p7 i f;rw[(h.rw.pl i f (h.rw.pw f (by omega))).1]at Q;have⟨q0,q1,q2,q3,q4,q5⟩:=h.rw.p i f k t;have lg:x.D.length=G.length+1:=by rw[E];rfl
 rw[lg]at P;have O:=cLt M;have lo:=h.lo;have n8:=s.ok.n8;have ae:G.length<=8000:=by have:=s.r1.D;omega
 have p2:=s.ok.p200 i f;have J:=uU (s.good_pair (.inr hp) i k f t);have f7:=h.nf.2 7;have K0:((x.c i).p k).key.k=2->0<=((x.c i).p k).key.a/\((x.c i).p k).key.a<x.A.length:=λl=>by
  have I:=(((s.r4.2 i f).2 k t).2 (λd=>by have:=d.1;omega)).1.1;unfold uJ at I;omega
 have K1:=uU (show((x.c i).p k).val.k=2->0<=((x.c i).p k).val.a/\((x.c i).p k).val.a<x.A.length from λl=>by
  have I:=(((s.r4.2 i f).2 k t).2 (λd=>by have:=d.1;omega)).2.1;unfold uJ at I;omega)
 have R:({ uX x ((x.c i).p k).key with sub:=(k:Int)+1 }:Hp).A.length<=8000/\({ uX x ((x.c i).p k).key with sub:=(k:Int)+1 }:Hp).D.length<=8000/\eD { uX x ((x.c i).p k).key with sub:=(k:Int)+1 } ((x.c i).p k).val:=by
  have e:=(a0b x ((x.c i).p k).key).2.1;have g2:=(s.shdW _ J.1).r1.D;refine⟨?_,?_,?_⟩;show(uX x ((x.c i).p k).key).A.length<=8000;omega;show(uX x ((x.c i).p k).key).D.length<=8000;omega;exact J.2.keep (z:={ uX x ((x.c i).p k).key with sub:=(k:Int)+1 }) e (a4u x _ J.1)
 have i0:=i0N i;have i1:(i:Int)<(x.A.length:Int):=by omega
 have k0:=i0N k;have k1:(k:Int)<((x.c i).F.length:Int):=by omega
 have g1:(0:Int)<(G.length:Int)+1:=by omega
 have GR:=uU (show x.D.length<=8000 by have:=s.r1.D;omega);have zn:=λn j=>a0k w n #[iv 0,iv 0,iv 0,iv 0,iv 0,iv 0] 53 j
 have zf:=λn j=>a3m w n #[iv 0,iv 0,iv 0,iv 0,iv 0,iv 0] 53 j
 have zo:=λn o b j (h:b<w.heap.size)=>a3w w n o b j h
 have af:=cLt Q;have ad:U i<w.heap.size:=uQ q0;clear h eg E l lg C s;go_in;go_wp21;go_quiet (fail);go_wp21;go_region;all_goals
  have⟨m,r⟩:∃W,W=a4i ((w.drewN (nq+1)).alloc (.cells #[iv 0,iv 0,iv 0,iv 0,iv 0,iv 0] 53)) w.heap.size ((x.c i).p k):=⟨_,rfl⟩;have PB:=b4s w (nq+1) ((x.c i).p k) 53;rw[<-r]at PB;unfold a4i at r;rw[<-r];clear r zn zf zo q0 q1 q2 q3 q4 q5;have⟨v,y0,y1,y2,y3,y4,y5⟩:=PB;have d7:=v.keep L;have ah:=cLt d7;have T:m.frozen? (aA g 7)=false:=((cE v).2 g 7 O).trans f7;clear M L P Q y f7;have Y5:(m.setCell (aA g 7) (iv ((k:Int)+1))).cell? (aA w.heap.size 5)=some (iv ((x.c i).p k).val.a):=(uC _ (.inl (by omega))).trans y5;go_wp21;refine(b4a ((x.c i).p k).key _ (show GAt B (m.setCell (aA g 7) (iv ((k:Int)+1))) g { x with sub:=(k:Int)+1 } ar kr ac kc (.slice ag x.D.length kg) br bc U pa pk D from
   (H.ext v).boxed (x':={ x with sub:=(k:Int)+1 }) (tJ m g 7 _) ((H.ext v).nf.set _ _) rfl rfl rfl ((H.ext v).bx.set7 _)) (λl=>uH K0 l) n8 GR a ha ((hx.trans v).sc g 7 (show a.heap.size<=g by omega) (iv ((k:Int)+1))) ?_).mono ?_
  have:=v.size;simp[World.setCell];omega;rintro e Z ⟨rfl,A,X,fr⟩;have⟨ab,aa,N,A⟩:=uH A;have F:Z.heap[w.heap.size]?=(m.setCell (aA g 7) (iv ((k:Int)+1))).heap[w.heap.size]?:=uH fr w.heap.size (by have:=(show w.heap.size<m.heap.size from uQ y0);simpa[World.setCell]using this) (by omega) (by omega) (show ∀b o n,ag=some ⟨b,o,n⟩->b≠w.heap.size from λb o n e e2=>by
   have:=H.gr.lt b (by rw[e];rfl);omega);have z3:=(cOb w.heap.size 3 F).trans (show(m.setCell (aA g 7) (iv ((k:Int)+1))).cell? (aA w.heap.size 3)=some (iv ((x.c i).p k).val.k) from(uC _ (.inl (by omega))).trans y3);have z4:=(cOb w.heap.size 4 F).trans (show(m.setCell (aA g 7) (iv ((k:Int)+1))).cell? (aA w.heap.size 4)=some (iv ((x.c i).p k).val.n) from(uC _ (.inl (by omega))).trans y4);have z5:=(cOb w.heap.size 5 F).trans Y5
  have H4:=uU (show GOk B Z g { uX x ((x.c i).p k).key with sub:=(k:Int)+1 } by
   rw[b8w (x:={ x with sub:=(k:Int)+1 }) J.1 (λl=>(uH K0 l).1),b4q]at A;exact⟨_,_,_,_,_,_,_,_,_,_,_,A⟩)
  have X4:=uU X;clear A X fr F Y5 y0 y1 y2 y3 y4 y5 d7 T;go_wp21;refine(b4r B g { uX x ((x.c i).p k).key with sub:=(k:Int)+1 } ((x.c i).p k).val _ H4 R.1 R.2.1 R.2.2 (λl=>(K1 l).1) a ha X4 ?_).mono ?_;have I:=H4.box.2.2.2.2;omega;rintro e w5 ⟨rfl,K,x5⟩;rw[b4q]at K;have H5:=uU K;clear K;go_wp21;try simp only[Exit.inBlock,Exit.then]
  refine bodyPost_ret (results_none rfl _ _ _) rfl ?_;exact⟨rfl,H5,x5⟩
theorem b4t(x:Hp)(k:Nat)(a:k<x.A.length)(d:∀q,q<k->(x.c q).st≠0)(b:(x.c k).st=0):uE x=k:=by grind[Hp.c,uE,a0i]
theorem c4h(x:Hp)(a:∀q,q<x.A.length->(x.c q).st≠0):uE x=x.A.length:=by grind[Hp.c,uE,a0i]
theorem b4u[qr](h:GAt B w g x ar kr ac kc vg br bc pb pa pk role)(F:x.A.length<=8000):
  Calls prog 124 #[pP g] w λe w'=>e=.returned (iv (uE x))/\Ext w w':=by
 have m:=h.bx.2.2.2.2.1;go_in;go_wp21;go_loopw [10] (λi wr=>∃k:Nat,k<=x.A.length/\i=iv k/\Hid (∀q,q<k->(x.c q).st≠0)/\Ext w wr) (λi _=>x.A.length-(intOf i).toNat)
 case atStart=>exact⟨0,kB _,rfl,(λq j=>by omega),hO _⟩
 case round=>
  obtain⟨k,o,rfl,f,a⟩:=hrel;by_cases b:k<x.A.length
  ·have n:0<x.A.length:=by omega
   have l:=h.ext a;have⟨D,p,r,y,A,t,v⟩:=l.rw.s k b;have C:=l.rw.p7 k b;obtain rfl:ac=some (aA bc 0):=h.hc n;have z:=i0N k;have u:(k:Int)<(x.A.length:Int):=by omega
   cases q:((x.c k).st == 0)
   ·have Q:∀q,q<k+1->(x.c q).st≠0:=λq j=>by
     by_cases e:q=k;rw[e];simpa using ‹((x.c k).st == 0)=false›;exact f q (by omega)
    go_wp2;go_roundw
    case rel=>exact⟨k+1,by omega,by go_num,Q,a.alloc _⟩
    simp[intOf];omega
   have Q:=b4t x k b f (by simpa using q);go_wp2;go_ret;exact⟨by rw[uH Q];rfl,a.alloc _⟩
  have d:k=x.A.length:=by omega
  subst d;have E:=a.keep m;go_wp2;go_ret;exact⟨by rw[(show uE x=x.A.length from c4h x (λq j=>uH f q (by omega)))];rfl,a⟩
theorem GOk.set11[qr](h:GOk B w g x)(v:Int):GOk B (w.setCell (aA g 11) (iv v)) g { x with Q:=v }:=by
 have⟨b,i,m,l,e,f,j,k,c,d,a,h⟩:=h;exact⟨_,_,_,_,_,_,_,_,_,_,_,h.boxed (x':={ x with Q:=v }) (tJ w g 11 _) (h.nf.set _ _) rfl rfl rfl (h.bx.set11 v)⟩
theorem c0s[qr](B g:Nat)(x:Hp)(w:World)(h:GOk B w g x)(s:Snd x)(a:World)(y:a.heap.size<=B)(v:Ext a w)(k:x.I=0):
  Calls prog 91 #[pP g] w λe w'=>e=.returned (.tuple #[])/\GOk B w' g (dX x)/\Ext a w':=by
 have⟨u,_,_,_,L,q⟩:=h.box;rw[k]at u;have E:=uU (show dX x={ dC x 0 0 with Q:=if x.Q<1000000000 then x.Q+1 else x.Q } by unfold dX;rw[if_pos k];rfl);have M:=s.r1.Q;go_in;go_wp21;refine(a0v B g x 0 0 _ h a y v).mono ?_;rintro e l ⟨rfl,c,f⟩;have j:=uU c;have r:l.cell? (aA g 11)=some (iv x.Q):=by
  have⟨z,H,K,G,C,J,D,F,A,I,i,h⟩:=c;exact h.bx.2.2.2.2.2.2.2.2.2.2.2.1
 have m:=(c.box).2.2.2.1 11;by_cases b:x.Q<1000000000
 ·have d:=uU (show dX x={ dC x 0 0 with Q:=x.Q+1 } by rw[uH E,if_pos b]);have wr:wrap64 (x.Q+1)=x.Q+1:=by unfold wrap64;omega
  go_wp21;try simp only[Exit.inBlock,Exit.then]
  refine bodyPost_ret (results_none rfl _ _ _) rfl ?_;exact⟨rfl,by rw[uH d];exact (j.set11 (x.Q+1)),(f.sc g 11 (show a.heap.size<=g by omega) (iv (x.Q+1)))⟩
 have d:=uU (show dX x={ dC x 0 0 with Q:=x.Q } by rw[uH E,if_neg b]);go_wp21;try simp only[Exit.inBlock,Exit.then]
 refine bodyPost_ret (results_none rfl _ _ _) rfl ?_;exact⟨rfl,by rw[uH d];exact uH j,f⟩
def yJ(w:World)(b o:Nat)(p:Pr):World:=(((((w.setCell ⟨b,o,none⟩ (iv p.key.k)).setCell ⟨b,o+1,none⟩ (iv p.key.n)).setCell ⟨b,o+2,none⟩ (iv p.key.a)).setCell ⟨b,o+3,none⟩ (iv p.val.k)).setCell ⟨b,o+4,none⟩ (iv p.val.n)).setCell ⟨b,o+5,none⟩ (iv p.val.a)
theorem b4w(w:World)(b o:Nat)(p q:Pr)(h:qY w b o q):qY (yJ w b o p) b o p:=by
 obtain⟨i,g,d,c,e,f⟩:=h;unfold yJ;refine⟨?_,?_,?_,?_,?_,?_⟩;grind[uC,dJ,Cl.p,qY,yJ]
 ·iterate 4 rw[uC _ (.inr (by omega))]
  refine dJ (u:=iv q.key.n) ?_;rw[uC _ (.inr (by omega))];exact g
 ·iterate 3 rw[uC _ (.inr (by omega))]
  refine dJ (u:=iv q.key.a) ?_;iterate 2 rw[uC _ (.inr (by omega))]
  exact d
 ·iterate 2 rw[uC _ (.inr (by omega))]
  refine dJ (u:=iv q.val.k) ?_;iterate 3 rw[uC _ (.inr (by omega))]
  exact c
 ·rw[uC _ (.inr (by omega))];refine dJ (u:=iv q.val.n) ?_;iterate 4 rw[uC _ (.inr (by omega))]
  exact e
 refine dJ (u:=iv q.val.a) ?_;iterate 5 rw[uC _ (.inr (by omega))]
 exact f
theorem a1z(w:World)(b o:Nat)(p:Pr):uZ (λq=>q=b) w (yJ w b o p):=
 uZ.setCell (S:=λq=>q=b) (uZ.setCell (S:=λq=>q=b) (uZ.setCell (S:=λq=>q=b) (uZ.setCell (S:=λq=>q=b) (uZ.setCell (S:=λq=>q=b) (tJ w b o _) (p:=(aA b (o+1))) rfl _) (p:=(aA b (o+2))) rfl _) (p:=(aA b (o+3))) rfl _) (p:=(aA b (o+4))) rfl _) (p:=(aA b (o+5))) rfl _
theorem b4x(h:Nf1 b w)(o:Nat)(p:Pr):Nf1 b (yJ w b o p):=(((((h.set _ _).set _ _).set _ _).set _ _).set _ _).set _ _
theorem a7a(w:World)(b o:Nat)(p:Pr)(k:Nat)(a:k<o\/o+6<=k):(yJ w b o p).cell? (aA b k)=w.cell? (aA b k):=by grind[Cl.p,yJ,eX.cell,HAt.cell,uC]
theorem pair_fr(w:World)(n:Nat)(p:Pr)(t:TypeId)(j:Nat):(a4i ((w.drewN n).alloc (.cells #[iv 0,iv 0,iv 0,iv 0,iv 0,iv 0] t)) w.heap.size p).frozen? (aA w.heap.size j)=false:=by
 unfold a4i;simp only[World.frozen?_setCell];exact a3m w n _ t j
theorem c0u[qr](B g:Nat)(x:Hp)(w:World)(h:GOk B w g x)(n8:x.A.length<=8000)(a:World)(ha:a.heap.size<=B)(hx:Ext a w)(i:Nat)(hi:x.I=(i:Int))(d:i<x.A.length)(k:Nat)(hk:x.sub=(k:Int))(A:k<(x.c i).F.length)(p2:(x.c i).F.length<=200)(F1:uJ ((x.c i).p k).key x.A.length)(F2:uJ ((x.c i).p k).val x.A.length):
  Calls prog 90 #[pP g] w λe w'=>e=.returned (.tuple #[])/\GOk B w' g { x with A:=x.A.set i (zK x (x.c i) k),sub:=(k:Int)+1 }/\Ext a w':=by
 obtain⟨ar,kr,ac,kc,vg,br,bc,z,pa,pk,ae,h⟩:=h;have H:=uU h;have hn:0<x.A.length:=by omega
 have I:=h.bx.2.2.2.2.1;have N:=h.bx.2.2.2.2.2.2.1;have K:=h.bx.2.2.2.2.2.2.2.1;rw[h.hc hn]at I;rw[hk]at K;rw[hi]at N;have J:=h.rw.p7 i d;rw[(h.rw.pl i d (h.rw.pw d (by omega))).1]at J;obtain⟨P,U,X,V,T,Y⟩:=h.rw.p i d k A;have ah:=cLt I;have lo:=h.lo;have f7:=h.nf.2 7;have fp:=(h.rw.pl i d (h.rw.pw d (by omega))).2.1.2;have i0:=i0N i;have i1:(i:Int)<(x.A.length:Int):=by omega
 have k0:=i0N k;have k1:(k:Int)<((x.c i).F.length:Int):=by omega
 have zn:=λn j=>a0k w n #[iv 0,iv 0,iv 0,iv 0,iv 0,iv 0] 53 j
 have zf:=λn j=>a3m w n #[iv 0,iv 0,iv 0,iv 0,iv 0,iv 0] 53 j
 have zo:=λn o b j (h:b<w.heap.size)=>a3w w n o b j h
 have ai:=cLt J;have ag:z i<w.heap.size:=uQ P;have ne:((i:Int) == (x.A.length:Int))=false:=by simp;omega
 have FF:=uU (kG F1 F2);have HK:=uU hk;have HI:=uU hi;have O:=uU (show ¬g=z i from λe=>by have h1:=h.sp.g;have h2:=h.sp.p i d (h.rw.pw d (by omega));rw[e]at h1;omega);clear h hi hk F1 F2;go_in;go_wp21;go_quiet (fail);obtain⟨m1,rfl⟩:∃m,m=nq:=⟨_,rfl⟩;go_wp21;go_quiet (fail);go_wp21;go_region;all_goals
  obtain⟨W2,G⟩:∃W,W=a4i ((w.drewN (m1+nq+1)).alloc (.cells #[iv 0,iv 0,iv 0,iv 0,iv 0,iv 0] 53)) w.heap.size ((x.c i).p k):=⟨_,rfl⟩;have PB:=b4s w (m1+nq+1) ((x.c i).p k) 53;have PF:=pair_fr w (m1+nq+1) ((x.c i).p k) 53;rw[<-G]at PB PF;unfold a4i at G;rw[<-G];clear G zn zf zo P U X V T Y;obtain⟨X2,y0,y1,y2,y3,y4,y5⟩:=PB;have BX:=cLt y0;clear I N K J;go_wp21;refine(a6z ((x.c i).p k).key _ (H.ext X2) FF.1).mono ?_;rintro e w3 ⟨rfl,D⟩;obtain⟨s,L⟩:∃r,r=zL x ((x.c i).p k).key:=⟨_,rfl⟩;have R1:=uU L;rw[<-L];have z0:=D.keep y0;have z1:=D.keep y1;have z2:=D.keep y2;have z3:=D.keep y3;have z4:=D.keep y4;have z5:=D.keep y5;have S:=λj=>((cE D).2 w.heap.size j BX).trans (PF j)
  have ad:=cLt z0;have X3:=X2.trans D;clear L y0 y1 y2 y3 y4 y5 PF BX X2 D;obtain⟨F,f⟩:∃W,W=(((w3.setCell (aA w.heap.size 0) (iv s.k)).setCell (aA w.heap.size 1) (iv s.n)).setCell (aA w.heap.size 2) (iv s.a)):=⟨_,rfl⟩;have Z:Ext w F:=by rw[f];exact((X3.sc w.heap.size 0 (hT _) _).sc w.heap.size 1 (hT _) _).sc w.heap.size 2 (hT _) _
  have u0:F.cell? (aA w.heap.size 0)=some (iv s.k):=by rw[f,uC _ (.inr (by omega)),uC _ (.inr (by omega))];exact dJ z0
  have u1:F.cell? (aA w.heap.size 1)=some (iv s.n):=by rw[f,uC _ (.inr (by omega))];exact dJ ((uC _ (.inr (by omega))).trans z1)
  have u2:F.cell? (aA w.heap.size 2)=some (iv s.a):=by rw[f];refine dJ (u:=iv ((x.c i).p k).key.a) ?_;rw[uC _ (.inr (by omega)),uC _ (.inr (by omega))];exact z2
  have u3:F.cell? (aA w.heap.size 3)=some (iv ((x.c i).p k).val.k):=by rw[f,uC _ (.inr (by omega)),uC _ (.inr (by omega)),uC _ (.inr (by omega))];exact z3
  have u4:F.cell? (aA w.heap.size 4)=some (iv ((x.c i).p k).val.n):=by rw[f,uC _ (.inr (by omega)),uC _ (.inr (by omega)),uC _ (.inr (by omega))];exact z4
  have u5:F.cell? (aA w.heap.size 5)=some (iv ((x.c i).p k).val.a):=by rw[f,uC _ (.inr (by omega)),uC _ (.inr (by omega)),uC _ (.inr (by omega))];exact z5
  have Q:∀j,F.frozen? (aA w.heap.size j)=false:=λj=>by rw[f];simp only[World.frozen?_setCell];exact S j
  have R:=cLt u0;go_wp21;rw[<-f];clear f z0 z1 z2 z3 z4 z5 S ad X3;refine(a6z ((x.c i).p k).val _ (H.ext Z) FF.2).mono ?_;rintro e w5 ⟨rfl,C⟩;obtain⟨t,M⟩:∃r,r=zL x ((x.c i).p k).val:=⟨_,rfl⟩;have R2:=uU M;rw[<-M];have t0:=C.keep u0;have t1:=C.keep u1;have t2:=C.keep u2;have t3:=C.keep u3;have t4:=C.keep u4;have t5:=C.keep u5;have ab:=λj=>((cE C).2 w.heap.size j R).trans (Q j)
  have aa:=cLt t0;have X5:=Z.trans C;have E:=uU (H.ext X5);have I:=E.bx.2.2.2.2.1;have N:=E.bx.2.2.2.2.2.2.1;have K:=E.bx.2.2.2.2.2.2.2.1;rw[H.hc hn]at I;rw[uH HK]at K;rw[uH HI]at N;have J:=E.rw.p7 i d;rw[(H.rw.pl i d (H.rw.pw d (by omega))).1]at J;obtain⟨P,U,X,V,T,Y⟩:=E.rw.p i d k A;have g7:=E.nf.2 7;have gp:=(E.rw.pl i d (E.rw.pw d (by omega))).2.1.2;have af:¬g=z i:=uH O;have ak:¬z i=g:=λe=>uH O e.symm
  clear M u0 u1 u2 u3 u4 u5 Q R Z C f7 fp;obtain⟨v,l⟩:∃W,W=(((w5.setCell (aA w.heap.size 3) (iv t.k)).setCell (aA w.heap.size 4) (iv t.n)).setCell (aA w.heap.size 5) (iv t.a)):=⟨_,rfl⟩;have X6:Ext w v:=by rw[l];exact((X5.sc w.heap.size 3 (hT _) _).sc w.heap.size 4 (hT _) _).sc w.heap.size 5 (hT _) _
  have v0:v.cell? (aA w.heap.size 0)=some (iv s.k):=by rw[l,uC _ (.inr (by omega)),uC _ (.inr (by omega)),uC _ (.inr (by omega))];exact t0
  have v1:v.cell? (aA w.heap.size 1)=some (iv s.n):=by rw[l,uC _ (.inr (by omega)),uC _ (.inr (by omega)),uC _ (.inr (by omega))];exact t1
  have v2:v.cell? (aA w.heap.size 2)=some (iv s.a):=by rw[l,uC _ (.inr (by omega)),uC _ (.inr (by omega)),uC _ (.inr (by omega))];exact t2
  have v3:v.cell? (aA w.heap.size 3)=some (iv t.k):=by rw[l,uC _ (.inr (by omega)),uC _ (.inr (by omega))];exact dJ t3
  have v4:v.cell? (aA w.heap.size 4)=some (iv t.n):=by rw[l,uC _ (.inr (by omega))];exact dJ ((uC _ (.inr (by omega))).trans t4)
  have v5:v.cell? (aA w.heap.size 5)=some (iv t.a):=by rw[l];refine dJ (u:=iv ((x.c i).p k).val.a) ?_;rw[uC _ (.inr (by omega)),uC _ (.inr (by omega))];exact t5
  go_wp21;rw[<-l];clear l t0 t1 t2 t3 t4 t5 ab aa X5 E I N K J P U X V T Y g7 gp;have y:=uU (H.ext X6);have I:=y.bx.2.2.2.2.1;have N:=y.bx.2.2.2.2.2.2.1;have K:=y.bx.2.2.2.2.2.2.2.1;rw[H.hc hn]at I;rw[uH HK]at K;rw[uH HI]at N;have J:=y.rw.p7 i d;rw[(H.rw.pl i d (H.rw.pw d (by omega))).1]at J;obtain⟨P,U,X,V,T,Y⟩:=y.rw.p i d k A;have g7:=y.nf.2 7;have gp:=(y.rw.pl i d (y.rw.pw d (by omega))).2.1.2;have n1:¬w.heap.size=z i:=by omega
  have n2:¬z i=w.heap.size:=by omega
  have n3:¬w.heap.size=g:=by omega
  have n4:¬g=w.heap.size:=by omega
  have FN:=uU (show GOk B (((yJ v (z i) (k*6) ⟨s,t⟩).setCell (aA g 7) (iv ((k:Int)+1))).drew) g { x with A:=x.A.set i (zK x (x.c i) k),sub:=(k:Int)+1 }/\Ext a (((yJ v (z i) (k*6) ⟨s,t⟩).setCell (aA g 7) (iv ((k:Int)+1))).drew) by
   have g1:=y.setp i d k A ⟨s,t⟩ (a1z v (z i) (k*6) ⟨s,t⟩) (b4x (y.rw.pl i d (y.rw.pw d (by omega))).2.1.n1 _ _) (b4w v (z i) (k*6) ⟨s,t⟩ _ (y.rw.p i d k A)) (λj hj=>a7a v (z i) (k*6) ⟨s,t⟩ j hj);have e:({ x.c i with F:=(x.c i).F.set k ⟨s,t⟩ }:Cl)=zK x (x.c i) k:=by unfold zK;rw[uH R1,uH R2]
   rw[e]at g1;have g2:GOk B (yJ v (z i) (k*6) ⟨s,t⟩) g { x with A:=x.A.set i (zK x (x.c i) k) }:=⟨_,_,_,_,_,_,_,_,_,_,_,g1⟩;refine⟨(g2.set7 ((k:Int)+1)).ext (eDr _),?_⟩;have aj:=(y.rw.pl i d (y.rw.pw d (by omega))).2.2.2;exact((((a1z v (z i) (k*6) ⟨s,t⟩).ext (hx.trans X6) (λq hq e=>by omega)).sc g 7 (show a.heap.size<=g by omega) _)).drew)
  unfold yJ at FN;go_region;all_goals
   go_wp21;try simp only[Exit.inBlock,Exit.then]
   refine bodyPost_ret (results_none rfl _ _ _) rfl ?_;exact⟨rfl,FN.1,FN.2⟩
theorem b8y[qr](B g:Nat)(x:Hp)(w:World)(h:GOk B w g x)(s:Snd x)(a:World)(ha:a.heap.size<=B)(hx:Ext a w)(i:Nat)(G:List Int)(r:x.D=(i:Int)::G)(f:i<x.A.length)(ae:¬x.sub<((x.c i).F.length:Int)):
  Calls prog 87 #[pP g] w λe w'=>e=.returned (.tuple #[])/\GOk B w' g { x with A:=x.A.set i (a1w (x.c i)),D:=G,sub:=0 }/\Ext a w':=by
 have⟨K,X,ac,Q,vg,br,b,P,L,pk,j,h⟩:=h;obtain⟨ag,z,rfl⟩:=h.gr.form;have R:x.D.length=G.length+1:=by rw[r];rfl
 have m:0<x.A.length:=by omega
 have c4:=h.bx.2.2.2.2.1;have c7:=h.bx.2.2.2.2.2.2.2.1;have c8:=h.bx.2.2.2.2.2.2.2.2.1;have⟨l,E,I,t,_⟩:=h.gr.at 0 (by rw[r];simp);have eg:x.D[0]'(by rw[r];simp)=(i:Int):=by simp[r]
 rw[eg]at t;simp only[Nat.add_zero]at t;rw[h.hc m]at c4;rw[I,R]at c8 h;have p5:=(h.rw.s i f).2.2.2.2.2.1;have p7:=h.rw.p7 i f;have lo:=h.lo;have n8:=s.ok.n8;have aa:G.length<=8000:=by have:=s.r1.D;omega
 have f7:=h.nf.2 7;have f8:=h.nf.2 8;have f5:=(h.rw.nc m).1.2 (i*8+5);have i0:(0:Int)<=(i:Int):=by omega
 have i1:(i:Int)<(x.A.length:Int):=by omega
 have g1:(0:Int)<(G.length:Int)+1:=by omega
 have g2:(1:Int)<=(G.length:Int)+1:=by omega
 have ad:¬g=b:=λe=>by have h1:=h.sp.g;have h2:=h.sp.c m;rw[e]at h1;omega
 have ab:=(h.rw.nc m).2;have u:∀n o,(∀W,Ext w W->Grw W B o G)->o.ownBlock=some l->GOk B ((((w.drewN n).setCell (aA b (i*8+5)) (iv 2)).setCell (aA g 8) o).setCell (aA g 7) (iv 0)) g { x with A:=x.A.set i (a1w (x.c i)),D:=G,sub:=0 }/\Ext a ((((w.drewN n).setCell (aA b (i*8+5)) (iv 2)).setCell (aA g 8) o).setCell (aA g 7) (iv 0)):=λn o U J=>by
  have D:=h.ext ((hO w).drewN n);have Z:GAt B ((w.drewN n).setCell (aA b (i*8+5)) (iv 2)) g { x with A:=x.A.set i (a1w (x.c i)) } K X (some (aA b 0)) Q (sO l E (G.length+1) z) br b P L pk j:=by
   rw[<-h.hc m];refine D.setc f rfl (uZ.setCell (S:=λq=>q=b) (uZ.refl _ (w.drewN n)) (p:=(aA b (i*8+5))) rfl _) ?_ (λk hk=>uC _ (.inr (by omega))) ((D.rw.nc m).1.set _ _);have⟨V,a1,Y,T,N,M,O⟩:=D.rw.s i f;refine⟨?_,?_,?_,?_,?_,kM _ _ _ M,?_⟩;all_goals rw[uC _ (.inr (by omega))];assumption
  have r4:j l=4:=h.sp.y l rfl;have H:l≠b:=λe=>by have:=h.sp.c m;rw[<-e]at this;omega
  have F:Grw ((w.drewN n).setCell (aA b (i*8+5)) (iv 2)) B o G:=(U _ ((hO w).drewN n)).block (λq v=>kP _ _ _ _ (λe=>by rw[J]at v;injection v with v;exact H (v.trans e)));refine⟨(Z.gtail F J).set7 0,?_⟩;exact(((hx.drewN n).sc b (i*8+5) (by omega:a.heap.size<=b) _).sc g 8 (by omega:a.heap.size<=g) _).sc g 7 (by omega:a.heap.size<=g) _
 have V0:=uU (show z≠1->∀W,Ext w W->Grw W B (sO l (E+1) G.length (z-1)) G from λ_ W e=>by
  have d:=(h.ext e).gr;rw[r]at d;exact d.tail)
 have V1:=uU (show z=1->∀W,Ext w W->Grw W B (sO l E G.length 0) G from λek W e=>by
  have d:=(h.ext e).gr;rw[r,ek]at d;exact d.tail1)
 go_enter func87,ntmps87;go_wp2_with (fail);go_quiet (fail);go_wp2_with (fail);have⟨C,A⟩:=uH u nq _ (V1 (by assumption)) rfl;refine bodyPost_ret (results_none rfl _ _ _) rfl ?_;exact⟨rfl,C,A⟩;have⟨C,A⟩:=uH u nq _ (V0 (by assumption)) rfl;refine bodyPost_ret (results_none rfl _ _ _) rfl ?_;exact⟨rfl,C,A⟩
def lkH(x:Hp)(j:Nat):Hp:=(x.B.take j).foldl uX x
def grB(x:Hp):Bool:=!x.D.isEmpty
theorem c0v(x:Hp)(j:Nat)(h:j<x.B.length):lkH x (j+1)=uX (lkH x j) x.B[j]:=by
 unfold lkH;rw[kx h,List.foldl_append];rfl
theorem b8z(x:Hp):lkH x x.B.length=zX x:=by grind[lkH,zX]
theorem c6i(s:Snd x)(c:x.E=2)(j:Nat):Shd x (lkH x j):=by
 refine(Shd.fold (.inr c) (x.B.take j) x (λy b=>?_) (Shd.refl s)).1;have⟨i,a,e⟩:=List.mem_iff_getElem.1 (List.mem_of_mem_take b);rw[<-e];exact s.good_reg i a
theorem ssh_gr{z:Hp}(b:Bool)(a:grB z=b):(a6e z y=true->grB (a5f z y)=true)/\(a6e z y=false->grB (a5f z y)=b):=by
 exact⟨λh=>by unfold a5f;rw[if_pos h];simp[grB],λh=>by unfold a5f;rw[h];simpa using a⟩
theorem c0w[qr](B g:Nat)(x:Hp)(w:World)(h:GOk B w g x)(s:Snd x)(hp:x.E=2)(a:World)(P:a.heap.size<=B)(hx:Ext a w)(F:x.D=[]):
  Calls prog 87 #[pP g] w λe w'=>e=.returned (.tuple #[])/\GOk B w' g (dW x)/\Ext a w':=by
 have⟨Q,kr,ac,X,vg,br,V,W,S,pk,L,h⟩:=h;obtain⟨ag,kg,rfl⟩:=h.gr.form;have Y:x.D.length=0:=by rw[F];rfl
 have c3:=h.bx.2.2.2.1;have c8:=h.bx.2.2.2.2.2.2.2.2.1;rw[Y]at c8;have lo:=h.lo;have ad:x.B.length<=16:=by have:=s.r1.B;omega
 have r0:0<x.B.length:=by have:=s.r1.B;omega
 rw[h.ha r0]at c3;have K:=uU (show dW x=if (zX x).D=[] then dC (zX x) 3 0 else zX x by unfold dW;rw[F]);have O:=c6i s hp;go_in;go_wp21;go_loopw [4,85] (λsm i wr=>∃j,j<=x.B.length/\i=iv (j:Nat)/\sm=.bool (grB (lkH x j))/\Hid (∃l m c,GAt B wr g (lkH x j) Q kr ac X (.slice l (lkH x j).D.length m) br V W S pk c)/\Ext a wr) (λ_ i _=>x.B.length-(intOf i).toNat)
 case atStart=>exact⟨0,kB _,rfl,by rw[(show grB (lkH x 0)=false by simp[lkH,grB,F])],⟨_,_,_,h⟩,hx⟩
 case round=>
  obtain⟨j,hj,rfl,rfl,n,f⟩:=hrel;by_cases d:j<x.B.length
  ·have⟨l,m,c,u⟩:=uH n;have t:(lkH x j).B=x.B:=(uH O j).B;have⟨Z,w1,G⟩:=u.rw.r j (t▸d);have E:(lkH x j).B[j]'(t▸d)=x.B[j]:=by simp[t]
   rw[E]at Z w1 G;have N:=uU u;have p:(lkH x j).A.length<=8000/\(lkH x j).D.length<=8000/\eD (lkH x j) x.B[j]/\(x.B[j].k=2->0<=x.B[j].a/\x.B[j].a<(lkH x j).A.length):=by
    have v:=(uH O j).s;have h8:=v.ok.n8;have U:=v.r1.D;refine⟨h8,by omega,?_,λI=>?_⟩
    ·have:=v.good_reg j (t▸d);rw[E]at this;exact this
    ·have:=(v.r4.1 j (t▸d)).1;rw[E]at this;unfold uJ at this;omega
   have M:=uU (show lkH x (j+1)=a5f (lkH x j) x.B[j] by rw[c0v x j d,b8w (uH p).2.2.1 (λI=>((uH p).2.2.2 I).1)]);have aa:=i0N j;have ab:(j:Int)<(x.B.length:Int):=by omega
   have⟨b0,o⟩:∃b,grB (lkH x j)=b:=⟨_,rfl⟩;have z:=ssh_gr (y:=x.B[j]) b0 o;rw[o];go_wp21;refine(a6n x.B[j] _ ((uH N).ext (eAl wr _)) (uH p).2.2.2 (uH p).1 (uH p).2.1 a P (f.alloc _) ?_).mono ?_
   ·have:=(uH N).nf.1;simp;omega
   rintro e w3 ⟨rfl,D,J⟩;rw[<-uH M]at D;have⟨r,n⟩:∃r,a6e (lkH x j) x.B[j]=r:=⟨_,rfl⟩;rw[<-uH M,n]at z;rw[n];cases r
   focus have A:=(uH z).2 rfl
   rotate_left
   focus have A:=(uH z).1 rfl
   all_goals
    go_wp2;go_roundw
    case rel=>exact⟨j+1,by omega,by go_num,by rw[uH A],D,J⟩
    simp[intOf];omega
  ·have T:j=x.B.length:=by omega
   subst T;rw[b8z]at n ⊢;have HL:GOk B wr g (zX x):=by
    have⟨l,m,c,u⟩:=uH n;exact⟨_,_,_,_,_,_,_,_,_,_,_,u⟩
   cases q:grB (zX x)
   ·have C:dW x=dC (zX x) 3 0:=by
     have:(zX x).D=[]:=by simpa[grB]using q
     rw[uH K,if_pos this]
    go_wp21;refine(a0v B g (zX x) 3 0 _ (uH HL) a P f).mono ?_;rintro e G ⟨rfl,h2,x2⟩;go_wp21;go_end0;exact⟨rfl,by rw[uH C];exact h2,x2⟩
   ·have C:dW x=zX x:=by
     have:¬(zX x).D=[]:=λe=>by simp[grB,e]at q
     rw[uH K,if_neg this]
    go_wp21;go_end0;exact⟨rfl,uH C▸uH HL,f⟩
theorem c4m[qr](B g:Nat)(x:Hp)(w:World)(h:GOk B w g x)(s:Snd x)(o:x.E=2)(a:World)(l:a.heap.size<=B)(j:Ext a w):
  Calls prog 87 #[pP g] w λe w'=>e=.returned (.tuple #[])/\GOk B w' g (dW x)/\Ext a w':=by
 cases b:x.D with
 | nil=>exact c0w B g x w h s o a l j b
 | cons i0 G=>
  have r:=s.r5.2.2 i0 (b▸mP ..);obtain⟨i,rfl⟩:∃i:Nat,i0=(i:Int):=⟨i0.toNat,by omega⟩;have n:((i:Int)).toNat=i:=by omega
  have d:i<x.A.length:=by omega
  by_cases f:x.sub<((x.c i).F.length:Int);have⟨k,m⟩:∃k:Nat,x.sub=(k:Int):=⟨x.sub.toNat,by have:=s.r1.sub;omega⟩;have e:dW x={ uX (uX x ((x.c i).p k).key) ((x.c i).p k).val with sub:=(k:Int)+1 }:=by
   have q:x.sub.toNat=k:=by omega
   unfold dW;rw[b];simp only[n,if_pos f,q];rw[m]
  rw[e];exact c0r B g x w h s o a l j i G b d k m (by omega);have e:dW x={ x with A:=x.A.set i (a1w (x.c i)),D:=G,sub:=0 }:=by
   unfold dW;rw[b];simp only[n,if_neg f]
  rw[e];exact b8y B g x w h s a l j i G b d f
theorem c0x[qr](B g:Nat)(x:Hp)(w:World)(h:GOk B w g x)(s:Snd x)(a:World)(ha:a.heap.size<=B)(X:Ext a w):
  Calls prog 88 #[pP g] w λe w'=>e=.returned (.tuple #[])/\GOk B w' g (dD x)/\Ext a w':=by
 obtain⟨ar,kr,ac,kc,vg,br,m,pb,Q,T,I,h⟩:=h;have HO:=uU (show GOk B w g x from⟨_,_,_,_,_,_,_,_,_,_,_,h⟩);have H:=uU h;have K:=h.bx.2.2.2.2.1;have P:=h.bx.2.2.2.2.2.2.1;have c1:=h.bx.2.1;have ae:=cLt K;have lo:=h.lo;have n8:=s.ok.n8;have hh:=s.r1.I;clear h;by_cases A:x.I=x.A.length;have E:=uU (show dD x=dC x 4 0 by unfold dD;rw[if_pos A]);have F:(x.I == (x.A.length:Int))=true:=by simpa using A
 clear A;go_in;go_wp21;go_quiet (fail);go_wp21;refine(a0v B g x 4 0 _ (HO.ext ((hO w).drewN _)) a ha (X.drewN _)).mono ?_;rintro e w2 ⟨rfl,O,x2⟩;have f:=uU O;clear O;go_wp21;try simp only[Exit.inBlock,Exit.then]
 refine bodyPost_ret (results_none rfl _ _ _) rfl ?_;exact⟨rfl,by rw[uH E];exact uH f,x2⟩;obtain⟨i,R⟩:∃i:Nat,x.I=(i:Int):=⟨x.I.toNat,by omega⟩;have d:i<x.A.length:=by omega
 have V:=uU (show wrap64 (1+((x.c i).F.length:Int))=1+((x.c i).F.length:Int)/\wrap64 (x.K-(1+((x.c i).F.length:Int)))=x.K-(1+((x.c i).F.length:Int)) by
  have ad:=s.ok.p200 i d;have ah:x.K<=4000:=by have:=s.r3.2;have:=s.r1.M;omega
  have ai:0<=x.K:=by have:=s.r3.1;omega
  exact⟨a1e _ (by omega) (by omega),a1e _ (by omega) (by omega)⟩)
 have F:(x.I == (x.A.length:Int))=false:=by simpa using A
 rw[R]at F P;have u:0<x.A.length:=by omega
 rw[H.hc u]at K;obtain⟨p0,p1,p2,p3,p4,p5,p6⟩:=H.rw.s i d;have p7:=H.rw.p7 i d;have af:=cLt p0;have U:=uU (show ¬g=m from λe=>by have h1:=H.sp.g;have O:=H.sp.c u;rw[e]at h1;omega);have i0:=i0N i;have i1:(i:Int)<(x.A.length:Int):=by omega
 have ei:x.I.toNat=i:=by omega
 have M:=uU (show dD x=if whB (x.c i)=true then { x with K:=x.K-(1+(x.c i).F.length),A:=x.A.set i Cl0,I:=x.I+1 } else { x with A:=x.A.set i (tC (x.c i)),I:=x.I+1 } by unfold dD;rw[if_neg A,ei]);have L:=uU R;have J:=λn j=>a0k w n #[iv 0,iv 0,iv 0,iv 0,iv 0,iv 0,iv 0,.slice none 0 0] 51 j
 have zf:=λn j=>a3m w n #[iv 0,iv 0,iv 0,iv 0,iv 0,iv 0,iv 0,.slice none 0 0] 51 j
 have zo:=λn o b j (h:b<w.heap.size)=>a3w w n o b j h
 clear A R ei hh;go_in;go_wp21;go_quiet (fail);go_wp21;go_region;all_goals
  obtain⟨r,l⟩:∃W,W=(((((((((w.drewN (nq+1)).alloc (.cells #[iv 0,iv 0,iv 0,iv 0,iv 0,iv 0,iv 0,.slice none 0 0] 51)).setCell (aA w.heap.size 0) (iv (x.c i).st)).setCell (aA w.heap.size 1) (iv (x.c i).kind)).setCell (aA w.heap.size 2) (iv (x.c i).T)).setCell (aA w.heap.size 3) (iv (x.c i).U)).setCell (aA w.heap.size 4) (iv (x.c i).born)).setCell (aA w.heap.size 5) (iv (x.c i).J)).setCell (aA w.heap.size 6) (iv (x.c i).to)).setCell (aA w.heap.size 7) (.slice (Q i) (x.c i).F.length (T i)):=⟨_,rfl⟩;have v:Ext w r:=by
   rw[l];exact(((((((((hO w).drewN (nq+1)).alloc _).setCell (hT _) _).setCell (hT _) _).setCell (hT _) _).setCell (hT _) _).setCell (hT _) _).setCell (hT _) _).setCell (hT _) _ |>.setCell (hT _) _
  have l0:r.cell? (aA w.heap.size 0)=some (iv (x.c i).st):=by
   rw[l,uC _ (.inr (by omega)),uC _ (.inr (by omega)),uC _ (.inr (by omega)),uC _ (.inr (by omega)),uC _ (.inr (by omega)),uC _ (.inr (by omega)),uC _ (.inr (by omega))];exact kM _ _ _ (by rw[J];rfl)
  have l5:r.cell? (aA w.heap.size 5)=some (iv (x.c i).J):=by
   rw[l,uC _ (.inr (by omega)),uC _ (.inr (by omega))];exact kM _ _ _ (by rw[uC _ (.inr (by omega)),uC _ (.inr (by omega)),uC _ (.inr (by omega)),uC _ (.inr (by omega)),uC _ (.inr (by omega)),J];rfl)
  have l7:r.cell? (aA w.heap.size 7)=some (.slice (Q i) (x.c i).F.length (T i)):=by
   rw[l];exact kM _ _ _ (by rw[uC _ (.inr (by omega)),uC _ (.inr (by omega)),uC _ (.inr (by omega)),uC _ (.inr (by omega)),uC _ (.inr (by omega)),uC _ (.inr (by omega)),uC _ (.inr (by omega)),J];rfl)
  rw[<-l];clear l J zf zo p0 p1 p2 p3 p4 p6 p7;have f:=uU (H.ext v);have d6:=v.keep P;have d4:=v.keep K;have d1:=v.keep c1;have d5:=v.keep p5;have Z:r.frozen? (aA g 6)=false:=f.nf.2 6;have f1:r.frozen? (aA g 1)=false:=f.nf.2 1;have Y:=(f.rw.nc u).1.2;have aa:¬m=g:=λe=>uH U e.symm
  clear c1 K P p5;have G3:=uU (show GOk B (r.setCell (aA m (i*8+5)) (iv 0)) g { x with A:=x.A.set i (tC (x.c i)) } by
   refine⟨_,_,_,_,_,_,_,_,_,_,_,f.setc d rfl (tJ r m (i*8+5) _) ?_ (λk hk=>uC _ (.inr (by omega))) ((f.rw.nc u).1.set _ _)⟩;obtain⟨a0,a1,a2,a3,a4,a5,a6⟩:=f.rw.s i d;refine⟨?_,?_,?_,?_,?_,kM _ _ _ a5,?_⟩;rw[uC _ (.inr (by omega))];exact a0;rw[uC _ (.inr (by omega))];exact a1;rw[uC _ (.inr (by omega))];exact a2;rw[uC _ (.inr (by omega))];exact a3;rw[uC _ (.inr (by omega))];exact a4;rw[uC _ (.inr (by omega))];exact a6)
  have D:=uU ((G3.set6 ((i:Int)+1)).ext (eDr _));clear G3;have N:=(f.rw.nc u).2;have G:=uU (((X.trans v).sc m (i*8+5) (show a.heap.size<=m from kA ha N) (iv 0)).sc g 6 (show a.heap.size<=g by omega) (iv ((i:Int)+1)) |>.drew);cases q1:((x.c i).st == 1)
  ·have y:=uU (show dD x={ x with A:=x.A.set i (tC (x.c i)),I:=x.I+1 } by rw[uH M,if_neg (by simp[whB,q1])]);rw[uH L]at y;go_wp21;go_region;all_goals
    go_wp21;go_end0;exact⟨rfl,by rw[uH y];exact uH D,G⟩
  cases q2:((x.c i).J == 0)
  ·have y:=uU (show dD x={ x with A:=x.A.set i (tC (x.c i)),I:=x.I+1 } by rw[uH M,if_neg (by simp[whB,q2])]);rw[uH L]at y;go_wp21;go_region;all_goals
    go_wp21;go_end0;exact⟨rfl,by rw[uH y];exact uH D,G⟩
  have y:=uU (show dD x={ x with K:=x.K-(1+(x.c i).F.length),A:=x.A.set i Cl0,I:=x.I+1 } by rw[uH M,if_pos (by simp[whB,q1,q2])]);rw[uH L]at y;clear D G;go_wp21;go_region;all_goals
   rw[V.1,V.2];obtain⟨C,t⟩:∃W,W=(r.setCell (aA g 1) (iv (x.K-(1+(x.c i).F.length)))).drew:=⟨_,rfl⟩;have z:=uU (show GAt B C g { x with K:=x.K-(1+(x.c i).F.length) } ar kr ac kc vg br m pb Q T I by
    rw[t];exact(f.boxed (x':={ x with K:=x.K-(1+(x.c i).F.length) }) (tJ r g 1 _) (f.nf.set _ _) rfl rfl rfl (f.bx.set1 _)).ext (eDr _))
   have G:Ext a C:=by rw[t];exact((X.trans v).sc g 1 (show a.heap.size<=g by omega) _).drew
   rw[<-t];clear t V l0 l5 l7 d1 d4 d5 d6 Z f1 Y v;have e4:=z.bx.2.2.2.2.1;rw[f.hc u]at e4;have e6:C.cell? (aA g 6)=some (iv i):=by rw[<-uH L];exact z.bx.2.2.2.2.2.2.1
   obtain⟨e0,e1,e2,e3,ab,e5,ag⟩:=z.rw.s i d;have e7:=z.rw.p7 i d;have Z:C.frozen? (aA g 6)=false:=z.nf.2 6;have Y:=(z.rw.nc u).1.2;have D:=uU (((z.wipe i d 0 0).set6 ((i:Int)+1)).ext (eDr _));have X4:=uU (show Ext a (((zD C m (i*8) 0 0).setCell (aA g 6) (iv ((i:Int)+1))).drew) from(((a0c C m (i*8) 0 0).ext G (λq hq e=>by have:=(z.rw.nc u).2;omega)).sc g 6 (show a.heap.size<=g by omega) _).drew);unfold zD at D X4;go_wp21;go_region;all_goals
    go_wp21;go_end0;exact⟨rfl,by rw[uH y];exact uH D,X4⟩
def limB(x:Hp):Bool:=cH x.M 1 4000 && ((x.B.length:Int) == 16) && decide ((x.A.length:Int)<=2*x.M) && decide ((x.D.length:Int)<=(x.A.length:Int)) && cH x.born 0 1000000000 && cH x.Q 0 1000000000 && cH x.S 0 1000000000 && cH x.per 0 64 && cH x.V 0 4000 && cH x.E 0 6 && cH x.I 0 (x.A.length:Int) && cH x.sub 0 200
theorem d2c(x:Hp):limB x=true↔R1 x:=by
 simp only[limB,cH,Bool.and_eq_true,decide_eq_true_eq,beq_iff_eq];constructor;rintro h;exact⟨by omega,by omega,by omega,by omega,by omega,by omega,by omega,by omega,by omega,by omega,by omega,by omega⟩;rintro⟨_,_,_,_,_,_,_,_,_,_,_,_⟩;omega
theorem a4e(x:Hp)(b:Nat)(w:World){ag:Option Addr}{kg:Nat}(h:HAt w b x ar kr ac kc ag kg):
  Calls prog 97 #[pP b] w λe w'=>∃r:Bool,Hid (e=.returned (.bool r))/\(r=true↔R1 x)/\Ext w w':=by
 have c:∀r,limB x=r->Calls prog 97 #[pP b] w λe w'=>e=.returned (.bool r)/\Ext w w':=by
  intro r d;obtain⟨S,P,K,F,O,z,v,E,Q,U,t,m,q,N,A,M,R,C,G⟩:=h;unfold limB at d;cases j:cH x.M 1 4000;rotate_left;have D:=a0f j;cases n:((x.B.length:Int) == 16);rotate_left;have s:(x.B.length:Int)=16:=by simpa using n
  cases i:decide ((x.A.length:Int)<=2*x.M);rotate_left;have o:(x.A.length:Int)<=2*x.M:=of_decide_eq_true i;cases g:decide ((x.D.length:Int)<=(x.A.length:Int));rotate_left;have u:x.D.length<=x.A.length:=by have:=of_decide_eq_true g;omega
  cases H:cH x.born 0 1000000000;rotate_left;cases y:cH x.Q 0 1000000000;rotate_left;cases J:cH x.S 0 1000000000;rotate_left;cases L:cH x.per 0 64;rotate_left;cases T:cH x.V 0 4000;rotate_left;cases I:cH x.E 0 6;rotate_left;cases p:cH x.I 0 (x.A.length:Int);rotate_left;cases l:cH x.sub 0 200
  all_goals
   simp only[*,Bool.false_and,Bool.and_false,Bool.and_true]at d;subst d;try have k:decide (x.D.length<=x.A.length)=false:=decide_eq_false (by have:=of_decide_eq_false g;omega)
   as_aux_lemma=>
    go_in;go_wp21;simp only[List.append];refine wp_region_quiet_lit (by kernel_rfl) lim_lex ?_;repeat (go_big_quiet_step ((go_at_call 30;first|(refine Calls.quiet_of_same (a0q _ _ _ true ?_ _);assumption)|(refine Calls.quiet_of_same (a0q _ _ _ false ?_ _);assumption))))
    refine wpQuiet_nil ?_;intro _ f;obtain⟨B,a⟩:=f;subst a;go_wp2;go_ret;exact⟨rfl,Ext.drewN (hO w) _⟩
 exact(c _ rfl).mono λ_ _ h=>⟨_,h.1,d2c x,h.2⟩
