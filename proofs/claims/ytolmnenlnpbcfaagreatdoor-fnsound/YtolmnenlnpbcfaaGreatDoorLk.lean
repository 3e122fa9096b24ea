import Derived.Test.YtolmnenlnpbcfaaGreatDoorHh
import Derived.Test.YtolmnenlnpbcfaaGreatDoorAh
set_option maxRecDepth 100000
set_option maxHeartbeats 4000000
namespace Go.Proofs.YtolmnenlnpbcfaaGreatDoor
open Go.RowKit Tryz
attribute [local go_sem ↓] Go.wp_at_zero Go.wp_at_succ
variable{w:World}{x:Hp}{B g gb go b:Nat}{y:Wd}{G:List Int}
theorem b9m(b:eC x y)(c:y.k=2->0<=y.a):a5i x y=uX x y:=by grind[eC,a5i,uX,a6h,eN,whB,uK]
theorem b4u[qd](B g:Nat)(x:Hp)(y:Wd)(w:World)(h:GOk B w g x)(s:Snd x)(j:eC x y)(f:y.k=2->0<=y.a)(a:World)(r:a.heap.size<=B)(q:Ext a w)(p:B<=w.heap.size):
  Calls prog 154 #[pP g,y.v] w λe w'=>e=.returned (.bool (a6h x y))/\GOk B w' g (uX x y)/\Ext a w':=by
 obtain⟨t,E,H,D,z,G,A,C,u,F,i,h⟩:=h;obtain⟨I,J,rfl⟩:=h.gr.form;refine(a6q y w h (λc=>⟨f c,by have:=(j c).1;have:=f c;omega⟩) s.ok.n8 (by have:=s.r1.D;have:=s.ok.n8;omega) a r q p).mono ?_;rintro e w' ⟨o,b,n⟩;obtain⟨l,m,d,b⟩:=b;rw[b9m j f]at b;exact⟨o,⟨_,_,_,_,_,_,_,_,_,_,_,b⟩,n⟩
theorem a0w[qd](B g:Nat)(x:Hp)(p b:Int)(w:World)(h:GOk B w g x)(a:World)(F:a.heap.size<=B)(i:Ext a w):
  Calls prog 109 #[pP g,iv p,iv b] w λe w'=>e=.returned (.tuple #[])/\GOk B w' g (dC x p b)/\Ext a w':=by
 obtain⟨j,u,C,s,m,A,n,r,k,y,d,h⟩:=h;have H:=uU h;obtain⟨_,_,_,_,_,v,D,z,_⟩:=h.bx;have l:=h.nf.2 5;have t:=h.nf.2 6;have E:=h.nf.2 7;clear h;go_in;go_wp21;go_end0;have f:=((H.bx.set5 p).set6 b).set7 0;have c:=uQ.setCell (S:=λq=>q=g) (uQ.setCell (S:=λq=>q=g) (tE w g 5 (iv p)) (p:=(aA g 6)) rfl (iv b)) (p:=(aA g 7)) rfl (iv 0);exact⟨rfl,⟨_,_,_,_,_,_,_,_,_,_,_,H.boxed (x':=dC x p b) c (((H.nf.set _ _).set _ _).set _ _) rfl rfl rfl f⟩,c.ext i (λq o e=>by have:=H.lo;omega)⟩
theorem a0k(w:World)(n:Nat)(cs:Array Value)(t:TypeId)(j:Nat):((w.drewN n).alloc (.cells cs t)).cell? (aA w.heap.size j)=cs[j]?:=by
 have e:(w.drewN n).heap.size=w.heap.size:=by simp
 have:=heap_alloc_new (w.drewN n) (.cells cs t);rw[e]at this;exact cell_of_row _ w.heap.size j _ _ (0,0) this
theorem a3y(w:World)(n:Nat)(o:Obj)(b j:Nat)(h:b<w.heap.size):((w.drewN n).alloc o).cell? (aA b j)=w.cell? (aA b j):=by
 have x:=((hO w).drewN n).alloc o;exact x.cell (p:=(aA b j)) h
theorem a3o(w:World)(n:Nat)(cs:Array Value)(t:TypeId)(j:Nat):((w.drewN n).alloc (.cells cs t)).frozen? (aA w.heap.size j)=false:=by
 have e:(w.drewN n).heap.size=w.heap.size:=by simp
 have a:∀W:World,(W.alloc (.cells cs t)).frozen? (aA W.heap.size j)=false:=λW=>by simp[go_sem]
 have:=a (w.drewN n);rw[e]at this;exact this
theorem c1c[qd](B g:Nat)(x:Hp)(w:World)(h:GOk B w g x)(s:Snd x)(a:World)(Q:a.heap.size<=B)(I:Ext a w)(hB:B<=w.heap.size):
  Calls prog 110 #[pP g] w λe w'=>e=.returned (.tuple #[])/\GOk B w' g (dW x)/\Ext a w':=by
 obtain⟨ar,kr,ac,kc,vg,br,bc,pb,pa,pk,aa,h⟩:=h;have G:=uU (show GOk B w g x from⟨_,_,_,_,_,_,_,_,_,_,_,h⟩);have H:=uU h;have U:=h.bx.2.2.2.2.1;have X:=h.bx.2.2.2.2.2.2.1;have L:=cLt U;have lo:=h.lo;have n8:=s.ok.n8;have S:=uU s;have hh:=s.r1.I;clear h;by_cases v:x.I=x.A.length;have E:=uU (show dW x=dC x 2 0 by unfold dW;rw[if_pos v]);have z:(x.I == (x.A.length:Int))=true:=by simpa using v
 clear v;go_in;go_wp21;go_quiet (fail);go_wp21;refine(a0w B g x 2 0 _ (G.ext ((hO w).drewN _)) a Q (I.drewN _)).mono ?_;rintro e w2 ⟨rfl,V,x2⟩;have H2:=uU V;clear V;go_wp21;try simp only[Exit.inBlock,Exit.then]
 refine bodyPost_ret (results_none rfl _ _ _) rfl ?_;exact⟨rfl,by rw[uH E];exact uH H2,x2⟩;obtain⟨i,O⟩:∃i:Nat,x.I=(i:Int):=⟨x.I.toNat,by omega⟩;have d:i<x.A.length:=by omega
 have z:(x.I == (x.A.length:Int))=false:=by simpa using v
 rw[O]at z X;have hn:0<x.A.length:=by omega
 rw[H.hc hn]at U;obtain⟨p0,p1,p2,p3,p4,p5,p6⟩:=H.rw.s i d;have p7:=H.rw.p7 i d;have ab:=cLt p0;have Z:=i0N i;have i1:(i:Int)<(x.A.length:Int):=by omega
 have T:x.I.toNat=i:=by omega
 have K:=uU (show dW x={ (if kU (x.c i)=true then uK x i else x) with I:=x.I+1 } by unfold dW;rw[if_neg v,T]);have u:=uU O;have R:=λn j=>a0k w n #[iv 0,iv 0,iv 0,iv 0,iv 0,iv 0,iv 0,.slice none 0 0] 70 j
 have zf:=λn j=>a3o w n #[iv 0,iv 0,iv 0,iv 0,iv 0,iv 0,iv 0,.slice none 0 0] 70 j
 have zo:=λn o b j (h:b<w.heap.size)=>a3y w n o b j h
 clear v O T hh;go_in;go_wp21;go_quiet (fail);go_wp21;go_region;all_goals
  obtain⟨M,l⟩:∃W,W=(((((((((w.drewN (nq+1)).alloc (.cells #[iv 0,iv 0,iv 0,iv 0,iv 0,iv 0,iv 0,.slice none 0 0] 70)).setCell (aA w.heap.size 0) (iv (x.c i).st)).setCell (aA w.heap.size 1) (iv (x.c i).kind)).setCell (aA w.heap.size 2) (iv (x.c i).T)).setCell (aA w.heap.size 3) (iv (x.c i).U)).setCell (aA w.heap.size 4) (iv (x.c i).born)).setCell (aA w.heap.size 5) (iv (x.c i).J)).setCell (aA w.heap.size 6) (iv (x.c i).to)).setCell (aA w.heap.size 7) (.slice (pa i) (x.c i).F.length (pk i)):=⟨_,rfl⟩;have k:Ext w M:=by
   rw[l];exact(((((((((hO w).drewN (nq+1)).alloc _).setCell (hT _) _).setCell (hT _) _).setCell (hT _) _).setCell (hT _) _).setCell (hT _) _).setCell (hT _) _).setCell (hT _) _ |>.setCell (hT _) _
  have l3:M.cell? (aA w.heap.size 3)=some (iv (x.c i).U):=by
   rw[l,uC _ (.inr (by omega)),uC _ (.inr (by omega)),uC _ (.inr (by omega)),uC _ (.inr (by omega))];exact kM _ _ _ (by rw[uC _ (.inr (by omega)),uC _ (.inr (by omega)),uC _ (.inr (by omega)),R];rfl)
  rw[<-l];clear l R zf zo;have d6:=k.keep X;have f6:M.frozen? (aA g 6)=false:=((cX k).2 g 6 L).trans (H.nf.2 6);cases Y:((x.c i).U == 1)
  cases l2:((x.c i).U == 2)
  ·have y:=uU (show dW x={ x with I:=x.I+1 } by rw[uH K,if_neg (by simp[kU,Y,l2])]);have r:=uU ((G.ext k).set6 (x.I+1));have m:=uU ((I.trans k).sc g 6 (show a.heap.size<=g by omega) (iv (x.I+1)));rw[uH u]at r m y;go_wp21;go_end0;exact⟨rfl,by rw[uH y];exact uH r,m⟩
  
  have F:=uU (show kU (x.c i)=true by simp[kU,l2]);have J:=uU (show eC x ⟨2,0,i⟩ from λ_=>⟨by simpa using d,by
   have f:=(b0c _).1 F;have e:((i:Int)).toNat=i:=by omega
   show(x.c ((i:Int)).toNat).st=1;rw[e];obtain⟨_,b,_⟩|⟨_,b⟩|⟨a,_⟩:=S.r2.1 i d;have:=b.2.2.1;obtain q|q:=f <;> omega
   have:=b.1.2.2.1;obtain q|q:=f <;> omega
   exact a⟩)
  go_wp21;refine(b4u B g x ⟨2,0,i⟩ _ (G.ext k) S J (λ_=>Z) a Q (I.trans k) (kA hB k.size)).mono ?_;rintro e N ⟨rfl,t,D⟩;have r:=uU (t.set6 (x.I+1));have m:=uU (D.sc g 6 (show a.heap.size<=g by omega) (iv (x.I+1)));obtain⟨C,_,_,A,_,eg⟩:=t.box;have e6:N.cell? (aA g 6)=some (iv i):=by rw[C,(a0b x _).2.2.2.1,uH u]
  have P:=A 6;rw[uH u]at r m;have y:=uU (show dW x={ uX x ⟨2,0,i⟩ with I:=(i:Int)+1 } by
   rw[uH K,if_pos (uH F),uH u];have:uX x ⟨2,0,i⟩=uK x i:=by unfold uX;simp
   rw[this])
  clear t D A C;go_wp21;go_end0;exact⟨rfl,by rw[uH y];exact uH r,m⟩
  
  have F:=uU (show kU (x.c i)=true by simp[kU,Y]);have J:=uU (show eC x ⟨2,0,i⟩ from λ_=>⟨by simpa using d,by
   have f:=(b0c _).1 F;have e:((i:Int)).toNat=i:=by omega
   show(x.c ((i:Int)).toNat).st=1;rw[e];obtain⟨_,b,_⟩|⟨_,b⟩|⟨a,_⟩:=S.r2.1 i d;have:=b.2.2.1;obtain q|q:=f <;> omega
   have:=b.1.2.2.1;obtain q|q:=f <;> omega
   exact a⟩)
  go_wp21;refine(b4u B g x ⟨2,0,i⟩ _ (G.ext k) S J (λ_=>Z) a Q (I.trans k) (kA hB k.size)).mono ?_;rintro e N ⟨rfl,t,D⟩;have r:=uU (t.set6 (x.I+1));have m:=uU (D.sc g 6 (show a.heap.size<=g by omega) (iv (x.I+1)));obtain⟨C,_,_,A,_,eg⟩:=t.box;have e6:N.cell? (aA g 6)=some (iv i):=by rw[C,(a0b x _).2.2.2.1,uH u]
  have P:=A 6;rw[uH u]at r m;have y:=uU (show dW x={ uX x ⟨2,0,i⟩ with I:=(i:Int)+1 } by
   rw[uH K,if_pos (uH F),uH u];have:uX x ⟨2,0,i⟩=uK x i:=by unfold uX;simp
   rw[this])
  clear t D A C;go_wp21;go_end0;exact⟨rfl,by rw[uH y];exact uH r,m⟩
theorem b4v(x:Hp)(y:Wd)(v:Int):uX { x with sub:=v } y={ uX x y with sub:=v }:=by
 have e:∀i,uK { x with sub:=v } i={ uK x i with sub:=v }:=λi=>by
  have a:eN { x with sub:=v } i=eN x i:=rfl;unfold uK;rw[a];split <;> rfl
 unfold uX;split;exact e _;rfl
theorem b4w[qd](B g:Nat)(x:Hp)(y:Wd)(w:World)(h:GOk B w g x)(q:x.A.length<=8000)(r:x.D.length<=8000)(j:eC x y)(f:y.k=2->0<=y.a)(a:World)(t:a.heap.size<=B)(s:Ext a w)(p:B<=w.heap.size):
  Calls prog 154 #[pP g,y.v] w λe w'=>e=.returned (.bool (a6h x y))/\GOk B w' g (uX x y)/\Ext a w':=by
 have⟨u,F,I,E,A,H,C,D,z,G,i,h⟩:=h;obtain⟨J,K,rfl⟩:=h.gr.form;refine(a6q y w h (λc=>⟨f c,by have:=(j c).1;have:=f c;omega⟩) q r a t s p).mono ?_;rintro e w' ⟨o,b,n⟩;have⟨l,m,d,b⟩:=b;rw[b9m j f]at b;exact⟨o,⟨_,_,_,_,_,_,_,_,_,_,_,b⟩,n⟩
theorem GAt.gtail[qd]{ar:Option Addr}{kr:Nat}{ac:Option Addr}{kc:Nat}{n cap:Nat}{br bc:Nat}{pb:Nat->Nat}{pa:Nat->Option Addr}{pk:Nat->Nat}{role:Nat->Nat}{v':Value}(h:GAt B w g x ar kr ac kc (sO gb go n cap) br bc pb pa pk role)(k:Grw w B v' G)(t:v'.ownBlock=some gb):
  GOk B (w.setCell (aA g 8) v') g { x with D:=G }:=by
 have b:∀q,q<w.heap.size->role q≠0->(w.setCell (aA g 8) v').heap[q]?=w.heap[q]?:=λq i l=>kP _ _ _ _ (λe=>l (e▸h.sp.g))
 have a:=h.rw.same (w':=w.setCell (aA g 8) v') (by simp[World.setCell]) (λf=>b br (h.rw.nr f).1.1 (by rw[h.sp.r f];omega)) (λf=>b bc (h.rw.nc f).1.1 (by rw[h.sp.c f];omega)) (λq i f=>b (pb q) (h.rw.pl q i f).2.1.1 (by rw[h.sp.p q i f];omega));have o:role gb=4:=h.sp.y gb rfl;refine⟨_,_,_,_,_,_,_,_,_,_,_,⟨h.bx.set8 _,h.nf.set _ _,h.lo,h.ha,h.hc,⟨a.r,a.s,a.p7,a.p,a.pl,a.nr,a.nc,a.d,a.dp,a.kp⟩,k.block (λq i=>?_),⟨h.sp.g,h.sp.r,h.sp.c,λq i=>?_,h.sp.p⟩,h.kl,h.pr.of (λq i m=>b q i (by rw[m];omega)) (λ_ _ h=>h),λj=>(h.cc j).block rfl (b bc (h.cc j).nf.1 (by rw[(h.cc j).ro];omega)) (by simp[World.setCell]),λn=>h.rob n (b br (h.rw.nr n).1.1 (by rw[h.sp.r n];omega))⟩⟩;refine b q ?_ ?_
 ·exact(k.lt q i).2
 grind[Grw.at,Grw,GOk];grind[Grw.at,Grw,GOk]
theorem Grw.tail1{g:Int}(h:Grw w B (sO gb go (G.length+1) 1) (g::G)):Grw w B (sO gb go G.length 0) G:=by
 obtain⟨_,e⟩|⟨gb',go',cap',cur,e,hb,hg,hn,hs,ht⟩:=h
 cases e
 simp only[Value.slice.injEq,Option.some.injEq,Addr.mk.injEq]at e;obtain⟨⟨rfl,rfl,_⟩,_,rfl⟩:=e;have a:G.length+1<=1:=hn;have:G=[]:=mR (by omega);subst this;exact .inr ⟨gb,go,0,cur,rfl,hb,hg,by simp,by omega,by simp⟩
def a4k(w:World)(b:Nat)(p:Pr):World:=(((((w.setCell ⟨b,0,none⟩ (.int .i64 p.key.k)).setCell ⟨b,1,none⟩ (.int .i64 p.key.n)).setCell ⟨b,2,none⟩ (.int .i64 p.key.a)).setCell ⟨b,3,none⟩ (.int .i64 p.val.k)).setCell ⟨b,4,none⟩ (.int .i64 p.val.n)).setCell ⟨b,5,none⟩ (.int .i64 p.val.a)
theorem d2c(w:World)(b:Nat)(p:Pr)(c f e d g a:Value)(m:w.cell? (aA b 0)=some c)(l:w.cell? (aA b 1)=some f)(i:w.cell? (aA b 2)=some e)(h:w.cell? (aA b 3)=some d)(j:w.cell? (aA b 4)=some g)(k:w.cell? (aA b 5)=some a):qC (a4k w b p) b 0 p:=by grind[Cl.p,eU.cell,HAt.cell,S7.some,qC,a4k,uC,dE]
theorem c8m{a:World}(p:Pr)(h:Ext a w)(c:a.heap.size<=b):Ext a (a4k w b p):=by
 unfold a4k;exact(((((h.sc b 0 c _).sc b 1 c _).sc b 2 c _).sc b 3 c _).sc b 4 c _).sc b 5 c _
theorem b4x(w:World)(n:Nat)(p:Pr)(t:TypeId):Ext w (a4k ((w.drewN n).alloc (.cells #[iv 0,iv 0,iv 0,iv 0,iv 0,iv 0] t)) w.heap.size p)/\qC (a4k ((w.drewN n).alloc (.cells #[iv 0,iv 0,iv 0,iv 0,iv 0,iv 0] t)) w.heap.size p) w.heap.size 0 p:=
 ⟨c8m p (((hO w).drewN n).alloc _) (hT _),d2c _ _ p _ _ _ _ _ _ (a0k w n _ t 0) (a0k w n _ t 1) (a0k w n _ t 2) (a0k w n _ t 3) (a0k w n _ t 4) (a0k w n _ t 5)⟩
theorem c1d[qd](B g:Nat)(x:Hp)(w:World)(h:GOk B w g x)(s:Snd x)(hp:x.E=2)(a:World)(ha:a.heap.size<=B)(hx:Ext a w)(i:Nat)(G:List Int)(E:x.D=(i:Int)::G)(f:i<x.A.length)(k:Nat)(l:x.sub=(k:Int))(t:k<(x.c i).F.length):
  Calls prog 111 #[pP g] w λe w'=>e=.returned (.tuple #[])/\GOk B w' g { uX (uX x ((x.c i).p k).key) ((x.c i).p k).val with sub:=(k:Int)+1 }/\Ext a w':=by
 have⟨ar,kr,ac,kc,vg,br,bc,U,pa,pk,D,h⟩:=h;obtain⟨ag,kg,rfl⟩:=h.gr.form;have H:=uU h;have hn:0<x.A.length:=by omega
 have M:=h.bx.2.2.2.2.1;have L:=h.bx.2.2.2.2.2.2.2.1;have P:=h.bx.2.2.2.2.2.2.2.2.1;have⟨gb,go,C,y,_⟩:=h.gr.at 0 (by rw[E];simp);have eg:x.D[0]'(by rw[E];simp)=(i:Int):=by simp[E]
 rw[eg]at y;simp only[Nat.add_zero]at y;rw[h.hc hn]at M;rw[C]at P;rw[l]at L;have Q:=h.rw.p7 i f;rw[(h.rw.pl i f (h.rw.pw f (by omega))).1]at Q;have⟨q0,q1,q2,q3,q4,q5⟩:=h.rw.p i f k t;have lg:x.D.length=G.length+1:=by rw[E];rfl
 rw[lg]at P;have O:=cLt M;have lo:=h.lo;have n8:=s.ok.n8;have ae:G.length<=8000:=by have:=s.r1.D;omega
 have p2:=s.ok.p200 i f;have J:=uU (s.good_pair (.inr hp) i k f t);have f7:=h.nf.2 7;have K0:((x.c i).p k).key.k=2->0<=((x.c i).p k).key.a/\((x.c i).p k).key.a<x.A.length:=λl=>by
  have I:=(((s.r4.2 i f).2 k t).2 (λd=>by have:=d.1;omega)).1.1;unfold uJ at I;omega
 have K1:=uU (show((x.c i).p k).val.k=2->0<=((x.c i).p k).val.a/\((x.c i).p k).val.a<x.A.length from λl=>by
  have I:=(((s.r4.2 i f).2 k t).2 (λd=>by have:=d.1;omega)).2.1;unfold uJ at I;omega)
 have R:({ uX x ((x.c i).p k).key with sub:=(k:Int)+1 }:Hp).A.length<=8000/\({ uX x ((x.c i).p k).key with sub:=(k:Int)+1 }:Hp).D.length<=8000/\eC { uX x ((x.c i).p k).key with sub:=(k:Int)+1 } ((x.c i).p k).val:=by
  have e:=(a0b x ((x.c i).p k).key).2.1;have g2:=(s.shdW _ J.1).r1.D;refine⟨?_,?_,?_⟩;show(uX x ((x.c i).p k).key).A.length<=8000;omega;show(uX x ((x.c i).p k).key).D.length<=8000;omega;exact J.2.keep (z:={ uX x ((x.c i).p k).key with sub:=(k:Int)+1 }) e (a4x x _ J.1)
 have i0:=i0N i;have i1:(i:Int)<(x.A.length:Int):=by omega
 have k0:=i0N k;have k1:(k:Int)<((x.c i).F.length:Int):=by omega
 have g1:(0:Int)<(G.length:Int)+1:=by omega
 have GR:=uU (show x.D.length<=8000 by have:=s.r1.D;omega);have zn:=λn j=>a0k w n #[iv 0,iv 0,iv 0,iv 0,iv 0,iv 0] 90 j
 have zf:=λn j=>a3o w n #[iv 0,iv 0,iv 0,iv 0,iv 0,iv 0] 90 j
 have zo:=λn o b j (h:b<w.heap.size)=>a3y w n o b j h
 have af:=cLt Q;have ad:U i<w.heap.size:=uZ q0;clear h eg E l lg C s;go_in;go_wp21;go_quiet (fail);go_wp21;go_region;all_goals
  have⟨m,r⟩:∃W,W=a4k ((w.drewN (nq+1)).alloc (.cells #[iv 0,iv 0,iv 0,iv 0,iv 0,iv 0] 90)) w.heap.size ((x.c i).p k):=⟨_,rfl⟩;have PB:=b4x w (nq+1) ((x.c i).p k) 90;rw[<-r]at PB;unfold a4k at r;rw[<-r];clear r zn zf zo q0 q1 q2 q3 q4 q5;have⟨v,y0,y1,y2,y3,y4,y5⟩:=PB;have d7:=v.keep L;have ah:=cLt d7;have T:m.frozen? (aA g 7)=false:=((cX v).2 g 7 O).trans f7;clear M L P Q y f7;have Y5:(m.setCell (aA g 7) (iv ((k:Int)+1))).cell? (aA w.heap.size 5)=some (iv ((x.c i).p k).val.a):=(uC _ (.inl (by omega))).trans y5;go_wp21;refine(b4h ((x.c i).p k).key _ (show GAt B (m.setCell (aA g 7) (iv ((k:Int)+1))) g { x with sub:=(k:Int)+1 } ar kr ac kc (.slice ag x.D.length kg) br bc U pa pk D from
   (H.ext v).boxed (x':={ x with sub:=(k:Int)+1 }) (tE m g 7 _) ((H.ext v).nf.set _ _) rfl rfl rfl ((H.ext v).bx.set7 _)) (λl=>uH K0 l) n8 GR a ha ((hx.trans v).sc g 7 (show a.heap.size<=g by omega) (iv ((k:Int)+1))) ?_).mono ?_
  have:=v.size;simp[World.setCell];omega;rintro e Z ⟨rfl,A,X,fr⟩;have⟨ab,aa,N,A⟩:=uH A;have F:Z.heap[w.heap.size]?=(m.setCell (aA g 7) (iv ((k:Int)+1))).heap[w.heap.size]?:=uH fr w.heap.size (by have:=(show w.heap.size<m.heap.size from uZ y0);simpa[World.setCell]using this) (by omega) (by omega) (show ∀b o n,ag=some ⟨b,o,n⟩->b≠w.heap.size from λb o n e e2=>by
   have:=H.gr.lt b (by rw[e];rfl);omega);have z3:=(cOb w.heap.size 3 F).trans (show(m.setCell (aA g 7) (iv ((k:Int)+1))).cell? (aA w.heap.size 3)=some (iv ((x.c i).p k).val.k) from(uC _ (.inl (by omega))).trans y3);have z4:=(cOb w.heap.size 4 F).trans (show(m.setCell (aA g 7) (iv ((k:Int)+1))).cell? (aA w.heap.size 4)=some (iv ((x.c i).p k).val.n) from(uC _ (.inl (by omega))).trans y4);have z5:=(cOb w.heap.size 5 F).trans Y5
  have H4:=uU (show GOk B Z g { uX x ((x.c i).p k).key with sub:=(k:Int)+1 } by
   rw[b9m (x:={ x with sub:=(k:Int)+1 }) J.1 (λl=>(uH K0 l).1),b4v]at A;exact⟨_,_,_,_,_,_,_,_,_,_,_,A⟩)
  have X4:=uU X;clear A X fr F Y5 y0 y1 y2 y3 y4 y5 d7 T;go_wp21;refine(b4w B g { uX x ((x.c i).p k).key with sub:=(k:Int)+1 } ((x.c i).p k).val _ H4 R.1 R.2.1 R.2.2 (λl=>(K1 l).1) a ha X4 ?_).mono ?_;have I:=H4.box.2.2.2.2;omega;rintro e w5 ⟨rfl,K,x5⟩;rw[b4v]at K;have H5:=uU K;clear K;go_wp21;try simp only[Exit.inBlock,Exit.then]
  refine bodyPost_ret (results_none rfl _ _ _) rfl ?_;exact⟨rfl,H5,x5⟩
def yE(w:World)(b o:Nat)(p:Pr):World:=(((((w.setCell ⟨b,o,none⟩ (iv p.key.k)).setCell ⟨b,o+1,none⟩ (iv p.key.n)).setCell ⟨b,o+2,none⟩ (iv p.key.a)).setCell ⟨b,o+3,none⟩ (iv p.val.k)).setCell ⟨b,o+4,none⟩ (iv p.val.n)).setCell ⟨b,o+5,none⟩ (iv p.val.a)
theorem b5d(w:World)(b o:Nat)(p q:Pr)(h:qC w b o q):qC (yE w b o p) b o p:=by
 obtain⟨i,g,d,c,e,f⟩:=h;unfold yE;refine⟨?_,?_,?_,?_,?_,?_⟩;grind[uC,dE,Cl.p,qC,yE]
 ·iterate 4 rw[uC _ (.inr (by omega))]
  refine dE (u:=iv q.key.n) ?_;rw[uC _ (.inr (by omega))];exact g
 ·iterate 3 rw[uC _ (.inr (by omega))]
  refine dE (u:=iv q.key.a) ?_;iterate 2 rw[uC _ (.inr (by omega))]
  exact d
 ·iterate 2 rw[uC _ (.inr (by omega))]
  refine dE (u:=iv q.val.k) ?_;iterate 3 rw[uC _ (.inr (by omega))]
  exact c
 ·rw[uC _ (.inr (by omega))];refine dE (u:=iv q.val.n) ?_;iterate 4 rw[uC _ (.inr (by omega))]
  exact e
 refine dE (u:=iv q.val.a) ?_;iterate 5 rw[uC _ (.inr (by omega))]
 exact f
theorem a2d(w:World)(b o:Nat)(p:Pr):uQ (λq=>q=b) w (yE w b o p):=
 uQ.setCell (S:=λq=>q=b) (uQ.setCell (S:=λq=>q=b) (uQ.setCell (S:=λq=>q=b) (uQ.setCell (S:=λq=>q=b) (uQ.setCell (S:=λq=>q=b) (tE w b o _) (p:=(aA b (o+1))) rfl _) (p:=(aA b (o+2))) rfl _) (p:=(aA b (o+3))) rfl _) (p:=(aA b (o+4))) rfl _) (p:=(aA b (o+5))) rfl _
theorem b5e(h:Nf1 b w)(o:Nat)(p:Pr):Nf1 b (yE w b o p):=(((((h.set _ _).set _ _).set _ _).set _ _).set _ _).set _ _
theorem a7b(w:World)(b o:Nat)(p:Pr)(k:Nat)(a:k<o\/o+6<=k):(yE w b o p).cell? (aA b k)=w.cell? (aA b k):=by grind[Cl.p,yE,eU.cell,HAt.cell,uC]
theorem pair_fr(w:World)(n:Nat)(p:Pr)(t:TypeId)(j:Nat):(a4k ((w.drewN n).alloc (.cells #[iv 0,iv 0,iv 0,iv 0,iv 0,iv 0] t)) w.heap.size p).frozen? (aA w.heap.size j)=false:=by
 unfold a4k;simp only[World.frozen?_setCell];exact a3o w n _ t j
theorem c1i[qd](B g:Nat)(x:Hp)(w:World)(h:GOk B w g x)(n8:x.A.length<=8000)(a:World)(ha:a.heap.size<=B)(hx:Ext a w)(i:Nat)(hi:x.I=(i:Int))(d:i<x.A.length)(k:Nat)(hk:x.sub=(k:Int))(A:k<(x.c i).F.length)(p2:(x.c i).F.length<=200)(F1:uJ ((x.c i).p k).key x.A.length)(F2:uJ ((x.c i).p k).val x.A.length):
  Calls prog 114 #[pP g] w λe w'=>e=.returned (.tuple #[])/\GOk B w' g { x with A:=x.A.set i (zX x (x.c i) k),sub:=(k:Int)+1 }/\Ext a w':=by
 obtain⟨ar,kr,ac,kc,vg,br,bc,z,pa,pk,ae,h⟩:=h;have H:=uU h;have hn:0<x.A.length:=by omega
 have I:=h.bx.2.2.2.2.1;have N:=h.bx.2.2.2.2.2.2.1;have K:=h.bx.2.2.2.2.2.2.2.1;rw[h.hc hn]at I;rw[hk]at K;rw[hi]at N;have J:=h.rw.p7 i d;rw[(h.rw.pl i d (h.rw.pw d (by omega))).1]at J;obtain⟨P,U,X,V,T,Y⟩:=h.rw.p i d k A;have ah:=cLt I;have lo:=h.lo;have f7:=h.nf.2 7;have fp:=(h.rw.pl i d (h.rw.pw d (by omega))).2.1.2;have i0:=i0N i;have i1:(i:Int)<(x.A.length:Int):=by omega
 have k0:=i0N k;have k1:(k:Int)<((x.c i).F.length:Int):=by omega
 have zn:=λn j=>a0k w n #[iv 0,iv 0,iv 0,iv 0,iv 0,iv 0] 90 j
 have zf:=λn j=>a3o w n #[iv 0,iv 0,iv 0,iv 0,iv 0,iv 0] 90 j
 have zo:=λn o b j (h:b<w.heap.size)=>a3y w n o b j h
 have ai:=cLt J;have ag:z i<w.heap.size:=uZ P;have ne:((i:Int) == (x.A.length:Int))=false:=by simp;omega
 have FF:=uU (kG F1 F2);have HK:=uU hk;have HI:=uU hi;have O:=uU (show ¬g=z i from λe=>by have h1:=h.sp.g;have h2:=h.sp.p i d (h.rw.pw d (by omega));rw[e]at h1;omega);clear h hi hk F1 F2;go_in;go_wp21;go_quiet (fail);obtain⟨m1,rfl⟩:∃m,m=nq:=⟨_,rfl⟩;go_wp21;go_quiet (fail);go_wp21;go_region;all_goals
  obtain⟨W2,G⟩:∃W,W=a4k ((w.drewN (m1+nq+1)).alloc (.cells #[iv 0,iv 0,iv 0,iv 0,iv 0,iv 0] 90)) w.heap.size ((x.c i).p k):=⟨_,rfl⟩;have PB:=b4x w (m1+nq+1) ((x.c i).p k) 90;have PF:=pair_fr w (m1+nq+1) ((x.c i).p k) 90;rw[<-G]at PB PF;unfold a4k at G;rw[<-G];clear G zn zf zo P U X V T Y;obtain⟨X2,y0,y1,y2,y3,y4,y5⟩:=PB;have BX:=cLt y0;clear I N K J;go_wp21;refine(a7a ((x.c i).p k).key _ (H.ext X2) FF.1).mono ?_;rintro e w3 ⟨rfl,D⟩;obtain⟨s,L⟩:∃r,r=qK x ((x.c i).p k).key:=⟨_,rfl⟩;have R1:=uU L;rw[<-L];have z0:=D.keep y0;have z1:=D.keep y1;have z2:=D.keep y2;have z3:=D.keep y3;have z4:=D.keep y4;have z5:=D.keep y5;have S:=λj=>((cX D).2 w.heap.size j BX).trans (PF j)
  have ad:=cLt z0;have X3:=X2.trans D;clear L y0 y1 y2 y3 y4 y5 PF BX X2 D;obtain⟨F,f⟩:∃W,W=(((w3.setCell (aA w.heap.size 0) (iv s.k)).setCell (aA w.heap.size 1) (iv s.n)).setCell (aA w.heap.size 2) (iv s.a)):=⟨_,rfl⟩;have Z:Ext w F:=by rw[f];exact((X3.sc w.heap.size 0 (hT _) _).sc w.heap.size 1 (hT _) _).sc w.heap.size 2 (hT _) _
  have u0:F.cell? (aA w.heap.size 0)=some (iv s.k):=by rw[f,uC _ (.inr (by omega)),uC _ (.inr (by omega))];exact dE z0
  have u1:F.cell? (aA w.heap.size 1)=some (iv s.n):=by rw[f,uC _ (.inr (by omega))];exact dE ((uC _ (.inr (by omega))).trans z1)
  have u2:F.cell? (aA w.heap.size 2)=some (iv s.a):=by rw[f];refine dE (u:=iv ((x.c i).p k).key.a) ?_;rw[uC _ (.inr (by omega)),uC _ (.inr (by omega))];exact z2
  have u3:F.cell? (aA w.heap.size 3)=some (iv ((x.c i).p k).val.k):=by rw[f,uC _ (.inr (by omega)),uC _ (.inr (by omega)),uC _ (.inr (by omega))];exact z3
  have u4:F.cell? (aA w.heap.size 4)=some (iv ((x.c i).p k).val.n):=by rw[f,uC _ (.inr (by omega)),uC _ (.inr (by omega)),uC _ (.inr (by omega))];exact z4
  have u5:F.cell? (aA w.heap.size 5)=some (iv ((x.c i).p k).val.a):=by rw[f,uC _ (.inr (by omega)),uC _ (.inr (by omega)),uC _ (.inr (by omega))];exact z5
  have Q:∀j,F.frozen? (aA w.heap.size j)=false:=λj=>by rw[f];simp only[World.frozen?_setCell];exact S j
  have R:=cLt u0;go_wp21;rw[<-f];clear f z0 z1 z2 z3 z4 z5 S ad X3;refine(a7a ((x.c i).p k).val _ (H.ext Z) FF.2).mono ?_;rintro e w5 ⟨rfl,C⟩;obtain⟨t,M⟩:∃r,r=qK x ((x.c i).p k).val:=⟨_,rfl⟩;have R2:=uU M;rw[<-M];have t0:=C.keep u0;have t1:=C.keep u1;have t2:=C.keep u2;have t3:=C.keep u3;have t4:=C.keep u4;have t5:=C.keep u5;have ab:=λj=>((cX C).2 w.heap.size j R).trans (Q j)
  have aa:=cLt t0;have X5:=Z.trans C;have E:=uU (H.ext X5);have I:=E.bx.2.2.2.2.1;have N:=E.bx.2.2.2.2.2.2.1;have K:=E.bx.2.2.2.2.2.2.2.1;rw[H.hc hn]at I;rw[uH HK]at K;rw[uH HI]at N;have J:=E.rw.p7 i d;rw[(H.rw.pl i d (H.rw.pw d (by omega))).1]at J;obtain⟨P,U,X,V,T,Y⟩:=E.rw.p i d k A;have g7:=E.nf.2 7;have gp:=(E.rw.pl i d (E.rw.pw d (by omega))).2.1.2;have af:¬g=z i:=uH O;have ak:¬z i=g:=λe=>uH O e.symm
  clear M u0 u1 u2 u3 u4 u5 Q R Z C f7 fp;obtain⟨v,l⟩:∃W,W=(((w5.setCell (aA w.heap.size 3) (iv t.k)).setCell (aA w.heap.size 4) (iv t.n)).setCell (aA w.heap.size 5) (iv t.a)):=⟨_,rfl⟩;have X6:Ext w v:=by rw[l];exact((X5.sc w.heap.size 3 (hT _) _).sc w.heap.size 4 (hT _) _).sc w.heap.size 5 (hT _) _
  have v0:v.cell? (aA w.heap.size 0)=some (iv s.k):=by rw[l,uC _ (.inr (by omega)),uC _ (.inr (by omega)),uC _ (.inr (by omega))];exact t0
  have v1:v.cell? (aA w.heap.size 1)=some (iv s.n):=by rw[l,uC _ (.inr (by omega)),uC _ (.inr (by omega)),uC _ (.inr (by omega))];exact t1
  have v2:v.cell? (aA w.heap.size 2)=some (iv s.a):=by rw[l,uC _ (.inr (by omega)),uC _ (.inr (by omega)),uC _ (.inr (by omega))];exact t2
  have v3:v.cell? (aA w.heap.size 3)=some (iv t.k):=by rw[l,uC _ (.inr (by omega)),uC _ (.inr (by omega))];exact dE t3
  have v4:v.cell? (aA w.heap.size 4)=some (iv t.n):=by rw[l,uC _ (.inr (by omega))];exact dE ((uC _ (.inr (by omega))).trans t4)
  have v5:v.cell? (aA w.heap.size 5)=some (iv t.a):=by rw[l];refine dE (u:=iv ((x.c i).p k).val.a) ?_;rw[uC _ (.inr (by omega)),uC _ (.inr (by omega))];exact t5
  go_wp21;rw[<-l];clear l t0 t1 t2 t3 t4 t5 ab aa X5 E I N K J P U X V T Y g7 gp;have y:=uU (H.ext X6);have I:=y.bx.2.2.2.2.1;have N:=y.bx.2.2.2.2.2.2.1;have K:=y.bx.2.2.2.2.2.2.2.1;rw[H.hc hn]at I;rw[uH HK]at K;rw[uH HI]at N;have J:=y.rw.p7 i d;rw[(H.rw.pl i d (H.rw.pw d (by omega))).1]at J;obtain⟨P,U,X,V,T,Y⟩:=y.rw.p i d k A;have g7:=y.nf.2 7;have gp:=(y.rw.pl i d (y.rw.pw d (by omega))).2.1.2;have n1:¬w.heap.size=z i:=by omega
  have n2:¬z i=w.heap.size:=by omega
  have n3:¬w.heap.size=g:=by omega
  have n4:¬g=w.heap.size:=by omega
  have FN:=uU (show GOk B (((yE v (z i) (k*6) ⟨s,t⟩).setCell (aA g 7) (iv ((k:Int)+1))).drew) g { x with A:=x.A.set i (zX x (x.c i) k),sub:=(k:Int)+1 }/\Ext a (((yE v (z i) (k*6) ⟨s,t⟩).setCell (aA g 7) (iv ((k:Int)+1))).drew) by
   have g1:=y.setp i d k A ⟨s,t⟩ (a2d v (z i) (k*6) ⟨s,t⟩) (b5e (y.rw.pl i d (y.rw.pw d (by omega))).2.1.n1 _ _) (b5d v (z i) (k*6) ⟨s,t⟩ _ (y.rw.p i d k A)) (λj hj=>a7b v (z i) (k*6) ⟨s,t⟩ j hj);have e:({ x.c i with F:=(x.c i).F.set k ⟨s,t⟩ }:Cl)=zX x (x.c i) k:=by unfold zX;rw[uH R1,uH R2]
   rw[e]at g1;have g2:GOk B (yE v (z i) (k*6) ⟨s,t⟩) g { x with A:=x.A.set i (zX x (x.c i) k) }:=⟨_,_,_,_,_,_,_,_,_,_,_,g1⟩;refine⟨(g2.set7 ((k:Int)+1)).ext (eDr _),?_⟩;have aj:=(y.rw.pl i d (y.rw.pw d (by omega))).2.2.2;exact((((a2d v (z i) (k*6) ⟨s,t⟩).ext (hx.trans X6) (λq hq e=>by omega)).sc g 7 (show a.heap.size<=g by omega) _)).drew)
  unfold yE at FN;go_region;all_goals
   go_wp21;try simp only[Exit.inBlock,Exit.then]
   refine bodyPost_ret (results_none rfl _ _ _) rfl ?_;exact⟨rfl,FN.1,FN.2⟩
theorem GOk.set11[qd](h:GOk B w g x)(v:Int):GOk B (w.setCell (aA g 11) (iv v)) g { x with Q:=v }:=by
 have⟨b,i,m,l,e,f,j,k,c,d,a,h⟩:=h;exact⟨_,_,_,_,_,_,_,_,_,_,_,h.boxed (x':={ x with Q:=v }) (tE w g 11 _) (h.nf.set _ _) rfl rfl rfl (h.bx.set11 v)⟩
theorem c1g[qd](B g:Nat)(x:Hp)(w:World)(h:GOk B w g x)(s:Snd x)(a:World)(y:a.heap.size<=B)(v:Ext a w)(k:x.I=0):
  Calls prog 115 #[pP g] w λe w'=>e=.returned (.tuple #[])/\GOk B w' g (dL x)/\Ext a w':=by
 have⟨u,_,_,_,L,q⟩:=h.box;rw[k]at u;have E:=uU (show dL x={ dC x 0 0 with Q:=if x.Q<1000000000 then x.Q+1 else x.Q } by unfold dL;rw[if_pos k];rfl);have M:=s.r1.Q;go_in;go_wp21;refine(a0w B g x 0 0 _ h a y v).mono ?_;rintro e l ⟨rfl,c,f⟩;have j:=uU c;have r:l.cell? (aA g 11)=some (iv x.Q):=by
  have⟨z,H,K,G,C,J,D,F,A,I,i,h⟩:=c;exact h.bx.2.2.2.2.2.2.2.2.2.2.2.1
 have m:=(c.box).2.2.2.1 11;by_cases b:x.Q<1000000000
 ·have d:=uU (show dL x={ dC x 0 0 with Q:=x.Q+1 } by rw[uH E,if_pos b]);have wr:wrap64 (x.Q+1)=x.Q+1:=by unfold wrap64;omega
  go_wp21;try simp only[Exit.inBlock,Exit.then]
  refine bodyPost_ret (results_none rfl _ _ _) rfl ?_;exact⟨rfl,by rw[uH d];exact (j.set11 (x.Q+1)),(f.sc g 11 (show a.heap.size<=g by omega) (iv (x.Q+1)))⟩
 have d:=uU (show dL x={ dC x 0 0 with Q:=x.Q } by rw[uH E,if_neg b]);go_wp21;try simp only[Exit.inBlock,Exit.then]
 refine bodyPost_ret (results_none rfl _ _ _) rfl ?_;exact⟨rfl,by rw[uH d];exact uH j,f⟩
theorem c1m[qd](B g:Nat)(x:Hp)(w:World)(h:GOk B w g x)(s:Snd x)(a:World)(ha:a.heap.size<=B)(X:Ext a w):
  Calls prog 112 #[pP g] w λe w'=>e=.returned (.tuple #[])/\GOk B w' g (dZ x)/\Ext a w':=by
 obtain⟨ar,kr,ac,kc,vg,br,m,pb,Q,T,I,h⟩:=h;have HO:=uU (show GOk B w g x from⟨_,_,_,_,_,_,_,_,_,_,_,h⟩);have H:=uU h;have K:=h.bx.2.2.2.2.1;have P:=h.bx.2.2.2.2.2.2.1;have c1:=h.bx.2.1;have ae:=cLt K;have lo:=h.lo;have n8:=s.ok.n8;have hh:=s.r1.I;clear h;by_cases A:x.I=x.A.length;have E:=uU (show dZ x=dC x 4 0 by unfold dZ;rw[if_pos A]);have F:(x.I == (x.A.length:Int))=true:=by simpa using A
 clear A;go_in;go_wp21;go_quiet (fail);go_wp21;refine(a0w B g x 4 0 _ (HO.ext ((hO w).drewN _)) a ha (X.drewN _)).mono ?_;rintro e w2 ⟨rfl,O,x2⟩;have f:=uU O;clear O;go_wp21;try simp only[Exit.inBlock,Exit.then]
 refine bodyPost_ret (results_none rfl _ _ _) rfl ?_;exact⟨rfl,by rw[uH E];exact uH f,x2⟩;obtain⟨i,R⟩:∃i:Nat,x.I=(i:Int):=⟨x.I.toNat,by omega⟩;have d:i<x.A.length:=by omega
 have V:=uU (show wrap64 (1+((x.c i).F.length:Int))=1+((x.c i).F.length:Int)/\wrap64 (x.K-(1+((x.c i).F.length:Int)))=x.K-(1+((x.c i).F.length:Int)) by
  have ad:=s.ok.p200 i d;have ah:x.K<=4000:=by have:=s.r3.2;have:=s.r1.M;omega
  have ai:0<=x.K:=by have:=s.r3.1;omega
  exact⟨a1g _ (by omega) (by omega),a1g _ (by omega) (by omega)⟩)
 have F:(x.I == (x.A.length:Int))=false:=by simpa using A
 rw[R]at F P;have u:0<x.A.length:=by omega
 rw[H.hc u]at K;obtain⟨p0,p1,p2,p3,p4,p5,p6⟩:=H.rw.s i d;have p7:=H.rw.p7 i d;have af:=cLt p0;have U:=uU (show ¬g=m from λe=>by have h1:=H.sp.g;have O:=H.sp.c u;rw[e]at h1;omega);have i0:=i0N i;have i1:(i:Int)<(x.A.length:Int):=by omega
 have ei:x.I.toNat=i:=by omega
 have M:=uU (show dZ x=if whB (x.c i)=true then { x with K:=x.K-(1+(x.c i).F.length),A:=x.A.set i Cl0,I:=x.I+1 } else { x with A:=x.A.set i (zK (x.c i)),I:=x.I+1 } by unfold dZ;rw[if_neg A,ei]);have L:=uU R;have J:=λn j=>a0k w n #[iv 0,iv 0,iv 0,iv 0,iv 0,iv 0,iv 0,.slice none 0 0] 70 j
 have zf:=λn j=>a3o w n #[iv 0,iv 0,iv 0,iv 0,iv 0,iv 0,iv 0,.slice none 0 0] 70 j
 have zo:=λn o b j (h:b<w.heap.size)=>a3y w n o b j h
 clear A R ei hh;go_in;go_wp21;go_quiet (fail);go_wp21;go_region;all_goals
  obtain⟨r,l⟩:∃W,W=(((((((((w.drewN (nq+1)).alloc (.cells #[iv 0,iv 0,iv 0,iv 0,iv 0,iv 0,iv 0,.slice none 0 0] 70)).setCell (aA w.heap.size 0) (iv (x.c i).st)).setCell (aA w.heap.size 1) (iv (x.c i).kind)).setCell (aA w.heap.size 2) (iv (x.c i).T)).setCell (aA w.heap.size 3) (iv (x.c i).U)).setCell (aA w.heap.size 4) (iv (x.c i).born)).setCell (aA w.heap.size 5) (iv (x.c i).J)).setCell (aA w.heap.size 6) (iv (x.c i).to)).setCell (aA w.heap.size 7) (.slice (Q i) (x.c i).F.length (T i)):=⟨_,rfl⟩;have v:Ext w r:=by
   rw[l];exact(((((((((hO w).drewN (nq+1)).alloc _).setCell (hT _) _).setCell (hT _) _).setCell (hT _) _).setCell (hT _) _).setCell (hT _) _).setCell (hT _) _).setCell (hT _) _ |>.setCell (hT _) _
  have l0:r.cell? (aA w.heap.size 0)=some (iv (x.c i).st):=by
   rw[l,uC _ (.inr (by omega)),uC _ (.inr (by omega)),uC _ (.inr (by omega)),uC _ (.inr (by omega)),uC _ (.inr (by omega)),uC _ (.inr (by omega)),uC _ (.inr (by omega))];exact kM _ _ _ (by rw[J];rfl)
  have l5:r.cell? (aA w.heap.size 5)=some (iv (x.c i).J):=by
   rw[l,uC _ (.inr (by omega)),uC _ (.inr (by omega))];exact kM _ _ _ (by rw[uC _ (.inr (by omega)),uC _ (.inr (by omega)),uC _ (.inr (by omega)),uC _ (.inr (by omega)),uC _ (.inr (by omega)),J];rfl)
  have l7:r.cell? (aA w.heap.size 7)=some (.slice (Q i) (x.c i).F.length (T i)):=by
   rw[l];exact kM _ _ _ (by rw[uC _ (.inr (by omega)),uC _ (.inr (by omega)),uC _ (.inr (by omega)),uC _ (.inr (by omega)),uC _ (.inr (by omega)),uC _ (.inr (by omega)),uC _ (.inr (by omega)),J];rfl)
  rw[<-l];clear l J zf zo p0 p1 p2 p3 p4 p6 p7;have f:=uU (H.ext v);have d6:=v.keep P;have d4:=v.keep K;have d1:=v.keep c1;have d5:=v.keep p5;have Z:r.frozen? (aA g 6)=false:=f.nf.2 6;have f1:r.frozen? (aA g 1)=false:=f.nf.2 1;have Y:=(f.rw.nc u).1.2;have aa:¬m=g:=λe=>uH U e.symm
  clear c1 K P p5;have G3:=uU (show GOk B (r.setCell (aA m (i*8+5)) (iv 0)) g { x with A:=x.A.set i (zK (x.c i)) } by
   refine⟨_,_,_,_,_,_,_,_,_,_,_,f.setc d rfl (tE r m (i*8+5) _) ?_ (λk hk=>uC _ (.inr (by omega))) ((f.rw.nc u).1.set _ _)⟩;obtain⟨a0,a1,a2,a3,a4,a5,a6⟩:=f.rw.s i d;refine⟨?_,?_,?_,?_,?_,kM _ _ _ a5,?_⟩;rw[uC _ (.inr (by omega))];exact a0;rw[uC _ (.inr (by omega))];exact a1;rw[uC _ (.inr (by omega))];exact a2;rw[uC _ (.inr (by omega))];exact a3;rw[uC _ (.inr (by omega))];exact a4;rw[uC _ (.inr (by omega))];exact a6)
  have D:=uU ((G3.set6 ((i:Int)+1)).ext (eDr _));clear G3;have N:=(f.rw.nc u).2;have G:=uU (((X.trans v).sc m (i*8+5) (show a.heap.size<=m from kA ha N) (iv 0)).sc g 6 (show a.heap.size<=g by omega) (iv ((i:Int)+1)) |>.drew);cases q1:((x.c i).st == 1)
  ·have y:=uU (show dZ x={ x with A:=x.A.set i (zK (x.c i)),I:=x.I+1 } by rw[uH M,if_neg (by simp[whB,q1])]);rw[uH L]at y;go_wp21;go_region;all_goals
    go_wp21;go_end0;exact⟨rfl,by rw[uH y];exact uH D,G⟩
  cases q2:((x.c i).J == 0)
  ·have y:=uU (show dZ x={ x with A:=x.A.set i (zK (x.c i)),I:=x.I+1 } by rw[uH M,if_neg (by simp[whB,q2])]);rw[uH L]at y;go_wp21;go_region;all_goals
    go_wp21;go_end0;exact⟨rfl,by rw[uH y];exact uH D,G⟩
  have y:=uU (show dZ x={ x with K:=x.K-(1+(x.c i).F.length),A:=x.A.set i Cl0,I:=x.I+1 } by rw[uH M,if_pos (by simp[whB,q1,q2])]);rw[uH L]at y;clear D G;go_wp21;go_region;all_goals
   rw[V.1,V.2];obtain⟨C,t⟩:∃W,W=(r.setCell (aA g 1) (iv (x.K-(1+(x.c i).F.length)))).drew:=⟨_,rfl⟩;have z:=uU (show GAt B C g { x with K:=x.K-(1+(x.c i).F.length) } ar kr ac kc vg br m pb Q T I by
    rw[t];exact(f.boxed (x':={ x with K:=x.K-(1+(x.c i).F.length) }) (tE r g 1 _) (f.nf.set _ _) rfl rfl rfl (f.bx.set1 _)).ext (eDr _))
   have G:Ext a C:=by rw[t];exact((X.trans v).sc g 1 (show a.heap.size<=g by omega) _).drew
   rw[<-t];clear t V l0 l5 l7 d1 d4 d5 d6 Z f1 Y v;have e4:=z.bx.2.2.2.2.1;rw[f.hc u]at e4;have e6:C.cell? (aA g 6)=some (iv i):=by rw[<-uH L];exact z.bx.2.2.2.2.2.2.1
   obtain⟨e0,e1,e2,e3,ab,e5,ag⟩:=z.rw.s i d;have e7:=z.rw.p7 i d;have Z:C.frozen? (aA g 6)=false:=z.nf.2 6;have Y:=(z.rw.nc u).1.2;have D:=uU (((z.wipe i d 0 0).set6 ((i:Int)+1)).ext (eDr _));have X4:=uU (show Ext a (((zN C m (i*8) 0 0).setCell (aA g 6) (iv ((i:Int)+1))).drew) from(((a0c C m (i*8) 0 0).ext G (λq hq e=>by have:=(z.rw.nc u).2;omega)).sc g 6 (show a.heap.size<=g by omega) _).drew);unfold zN at D X4;go_wp21;go_region;all_goals
    go_wp21;go_end0;exact⟨rfl,by rw[uH y];exact uH D,X4⟩
theorem b9o[qd](B g:Nat)(x:Hp)(w:World)(h:GOk B w g x)(s:Snd x)(a:World)(ha:a.heap.size<=B)(hx:Ext a w)(i:Nat)(G:List Int)(r:x.D=(i:Int)::G)(f:i<x.A.length)(ae:¬x.sub<((x.c i).F.length:Int)):
  Calls prog 111 #[pP g] w λe w'=>e=.returned (.tuple #[])/\GOk B w' g { x with A:=x.A.set i (a2a (x.c i)),D:=G,sub:=0 }/\Ext a w':=by
 have⟨K,X,ac,Q,vg,br,b,P,L,pk,j,h⟩:=h;obtain⟨ag,z,rfl⟩:=h.gr.form;have R:x.D.length=G.length+1:=by rw[r];rfl
 have m:0<x.A.length:=by omega
 have c4:=h.bx.2.2.2.2.1;have c7:=h.bx.2.2.2.2.2.2.2.1;have c8:=h.bx.2.2.2.2.2.2.2.2.1;have⟨l,E,I,t,_⟩:=h.gr.at 0 (by rw[r];simp);have eg:x.D[0]'(by rw[r];simp)=(i:Int):=by simp[r]
 rw[eg]at t;simp only[Nat.add_zero]at t;rw[h.hc m]at c4;rw[I,R]at c8 h;have p5:=(h.rw.s i f).2.2.2.2.2.1;have p7:=h.rw.p7 i f;have lo:=h.lo;have n8:=s.ok.n8;have aa:G.length<=8000:=by have:=s.r1.D;omega
 have f7:=h.nf.2 7;have f8:=h.nf.2 8;have f5:=(h.rw.nc m).1.2 (i*8+5);have i0:(0:Int)<=(i:Int):=by omega
 have i1:(i:Int)<(x.A.length:Int):=by omega
 have g1:(0:Int)<(G.length:Int)+1:=by omega
 have g2:(1:Int)<=(G.length:Int)+1:=by omega
 have ad:¬g=b:=λe=>by have h1:=h.sp.g;have h2:=h.sp.c m;rw[e]at h1;omega
 have ab:=(h.rw.nc m).2;have u:∀n o,(∀W,Ext w W->Grw W B o G)->o.ownBlock=some l->GOk B ((((w.drewN n).setCell (aA b (i*8+5)) (iv 2)).setCell (aA g 8) o).setCell (aA g 7) (iv 0)) g { x with A:=x.A.set i (a2a (x.c i)),D:=G,sub:=0 }/\Ext a ((((w.drewN n).setCell (aA b (i*8+5)) (iv 2)).setCell (aA g 8) o).setCell (aA g 7) (iv 0)):=λn o U J=>by
  have D:=h.ext ((hO w).drewN n);have Z:GAt B ((w.drewN n).setCell (aA b (i*8+5)) (iv 2)) g { x with A:=x.A.set i (a2a (x.c i)) } K X (some (aA b 0)) Q (sO l E (G.length+1) z) br b P L pk j:=by
   rw[<-h.hc m];refine D.setc f rfl (uQ.setCell (S:=λq=>q=b) (uQ.refl _ (w.drewN n)) (p:=(aA b (i*8+5))) rfl _) ?_ (λk hk=>uC _ (.inr (by omega))) ((D.rw.nc m).1.set _ _);have⟨V,a1,Y,T,N,M,O⟩:=D.rw.s i f;refine⟨?_,?_,?_,?_,?_,kM _ _ _ M,?_⟩;all_goals rw[uC _ (.inr (by omega))];assumption
  have r4:j l=4:=h.sp.y l rfl;have H:l≠b:=λe=>by have:=h.sp.c m;rw[<-e]at this;omega
  have F:Grw ((w.drewN n).setCell (aA b (i*8+5)) (iv 2)) B o G:=(U _ ((hO w).drewN n)).block (λq v=>kP _ _ _ _ (λe=>by rw[J]at v;injection v with v;exact H (v.trans e)));refine⟨(Z.gtail F J).set7 0,?_⟩;exact(((hx.drewN n).sc b (i*8+5) (by omega:a.heap.size<=b) _).sc g 8 (by omega:a.heap.size<=g) _).sc g 7 (by omega:a.heap.size<=g) _
 have V0:=uU (show z≠1->∀W,Ext w W->Grw W B (sO l (E+1) G.length (z-1)) G from λ_ W e=>by
  have d:=(h.ext e).gr;rw[r]at d;exact d.tail)
 have V1:=uU (show z=1->∀W,Ext w W->Grw W B (sO l E G.length 0) G from λek W e=>by
  have d:=(h.ext e).gr;rw[r,ek]at d;exact d.tail1)
 go_enter func111,ntmps111;go_wp2_with (fail);go_quiet (fail);go_wp2_with (fail);have⟨C,A⟩:=uH u nq _ (V1 (by assumption)) rfl;refine bodyPost_ret (results_none rfl _ _ _) rfl ?_;exact⟨rfl,C,A⟩;have⟨C,A⟩:=uH u nq _ (V0 (by assumption)) rfl;refine bodyPost_ret (results_none rfl _ _ _) rfl ?_;exact⟨rfl,C,A⟩
def lkH(x:Hp)(j:Nat):Hp:=(x.B.take j).foldl uX x
def grB(x:Hp):Bool:=!x.D.isEmpty
theorem c1j(x:Hp)(j:Nat)(h:j<x.B.length):lkH x (j+1)=uX (lkH x j) x.B[j]:=by
 unfold lkH;rw[kj h,List.foldl_append];rfl
theorem b9p(x:Hp):lkH x x.B.length=zC x:=by grind[lkH,zC]
theorem c7c(s:Snd x)(c:x.E=2)(j:Nat):Shd x (lkH x j):=by
 refine(Shd.fold (.inr c) (x.B.take j) x (λy b=>?_) (Shd.refl s)).1;have⟨i,a,e⟩:=List.mem_iff_getElem.1 (List.mem_of_mem_take b);rw[<-e];exact s.good_reg i a
theorem ssh_gr{z:Hp}(b:Bool)(a:grB z=b):(a6h z y=true->grB (a5i z y)=true)/\(a6h z y=false->grB (a5i z y)=b):=by
 exact⟨λh=>by unfold a5i;rw[if_pos h];simp[grB],λh=>by unfold a5i;rw[h];simpa using a⟩
theorem c1k[qd](B g:Nat)(x:Hp)(w:World)(h:GOk B w g x)(s:Snd x)(hp:x.E=2)(a:World)(P:a.heap.size<=B)(hx:Ext a w)(F:x.D=[]):
  Calls prog 111 #[pP g] w λe w'=>e=.returned (.tuple #[])/\GOk B w' g (dX x)/\Ext a w':=by
 have⟨Q,kr,ac,X,vg,br,V,W,S,pk,L,h⟩:=h;obtain⟨ag,kg,rfl⟩:=h.gr.form;have Y:x.D.length=0:=by rw[F];rfl
 have c3:=h.bx.2.2.2.1;have c8:=h.bx.2.2.2.2.2.2.2.2.1;rw[Y]at c8;have lo:=h.lo;have ad:x.B.length<=16:=by have:=s.r1.B;omega
 have r0:0<x.B.length:=by have:=s.r1.B;omega
 rw[h.ha r0]at c3;have K:=uU (show dX x=if (zC x).D=[] then dC (zC x) 3 0 else zC x by unfold dX;rw[F]);have O:=c7c s hp;go_in;go_wp21;go_loopw [4,85] (λsm i wr=>∃j,j<=x.B.length/\i=iv (j:Nat)/\sm=.bool (grB (lkH x j))/\Hid (∃l m c,GAt B wr g (lkH x j) Q kr ac X (.slice l (lkH x j).D.length m) br V W S pk c)/\Ext a wr) (λ_ i _=>x.B.length-(intOf i).toNat)
 case atStart=>exact⟨0,kB _,rfl,by rw[(show grB (lkH x 0)=false by simp[lkH,grB,F])],⟨_,_,_,h⟩,hx⟩
 case round=>
  obtain⟨j,hj,rfl,rfl,n,f⟩:=hrel;by_cases d:j<x.B.length
  ·have⟨l,m,c,u⟩:=uH n;have t:(lkH x j).B=x.B:=(uH O j).B;have⟨Z,w1,G⟩:=u.rw.r j (t▸d);have E:(lkH x j).B[j]'(t▸d)=x.B[j]:=by simp[t]
   rw[E]at Z w1 G;have N:=uU u;have p:(lkH x j).A.length<=8000/\(lkH x j).D.length<=8000/\eC (lkH x j) x.B[j]/\(x.B[j].k=2->0<=x.B[j].a/\x.B[j].a<(lkH x j).A.length):=by
    have v:=(uH O j).s;have h8:=v.ok.n8;have U:=v.r1.D;refine⟨h8,by omega,?_,λI=>?_⟩
    ·have:=v.good_reg j (t▸d);rw[E]at this;exact this
    ·have:=(v.r4.1 j (t▸d)).1;rw[E]at this;unfold uJ at this;omega
   have M:=uU (show lkH x (j+1)=a5i (lkH x j) x.B[j] by rw[c1j x j d,b9m (uH p).2.2.1 (λI=>((uH p).2.2.2 I).1)]);have aa:=i0N j;have ab:(j:Int)<(x.B.length:Int):=by omega
   have⟨b0,o⟩:∃b,grB (lkH x j)=b:=⟨_,rfl⟩;have z:=ssh_gr (y:=x.B[j]) b0 o;rw[o];go_wp21;refine(a6q x.B[j] _ ((uH N).ext (eAl wr _)) (uH p).2.2.2 (uH p).1 (uH p).2.1 a P (f.alloc _) ?_).mono ?_
   ·have:=(uH N).nf.1;simp;omega
   rintro e w3 ⟨rfl,D,J⟩;rw[<-uH M]at D;have⟨r,n⟩:∃r,a6h (lkH x j) x.B[j]=r:=⟨_,rfl⟩;rw[<-uH M,n]at z;rw[n];cases r
   focus have A:=(uH z).2 rfl
   rotate_left
   focus have A:=(uH z).1 rfl
   all_goals
    go_wp2;go_roundw
    case rel=>exact⟨j+1,by omega,by go_num,by rw[uH A],D,J⟩
    simp[intOf];omega
  ·have T:j=x.B.length:=by omega
   subst T;rw[b9p]at n ⊢;have HL:GOk B wr g (zC x):=by
    have⟨l,m,c,u⟩:=uH n;exact⟨_,_,_,_,_,_,_,_,_,_,_,u⟩
   cases q:grB (zC x)
   ·have C:dX x=dC (zC x) 3 0:=by
     have:(zC x).D=[]:=by simpa[grB]using q
     rw[uH K,if_pos this]
    go_wp21;refine(a0w B g (zC x) 3 0 _ (uH HL) a P f).mono ?_;rintro e G ⟨rfl,h2,x2⟩;go_wp21;go_end0;exact⟨rfl,by rw[uH C];exact h2,x2⟩
   ·have C:dX x=zC x:=by
     have:¬(zC x).D=[]:=λe=>by simp[grB,e]at q
     rw[uH K,if_neg this]
    go_wp21;go_end0;exact⟨rfl,uH C▸uH HL,f⟩
theorem c5i[qd](B g:Nat)(x:Hp)(w:World)(h:GOk B w g x)(s:Snd x)(o:x.E=2)(a:World)(l:a.heap.size<=B)(j:Ext a w):
  Calls prog 111 #[pP g] w λe w'=>e=.returned (.tuple #[])/\GOk B w' g (dX x)/\Ext a w':=by
 cases b:x.D with
 | nil=>exact c1k B g x w h s o a l j b
 | cons i0 G=>
  have r:=s.r5.2.2 i0 (b▸mH ..);obtain⟨i,rfl⟩:∃i:Nat,i0=(i:Int):=⟨i0.toNat,by omega⟩;have n:((i:Int)).toNat=i:=by omega
  have d:i<x.A.length:=by omega
  by_cases f:x.sub<((x.c i).F.length:Int);have⟨k,m⟩:∃k:Nat,x.sub=(k:Int):=⟨x.sub.toNat,by have:=s.r1.sub;omega⟩;have e:dX x={ uX (uX x ((x.c i).p k).key) ((x.c i).p k).val with sub:=(k:Int)+1 }:=by
   have q:x.sub.toNat=k:=by omega
   unfold dX;rw[b];simp only[n,if_pos f,q];rw[m]
  rw[e];exact c1d B g x w h s o a l j i G b d k m (by omega);have e:dX x={ x with A:=x.A.set i (a2a (x.c i)),D:=G,sub:=0 }:=by
   unfold dX;rw[b];simp only[n,if_neg f]
  rw[e];exact b9o B g x w h s a l j i G b d f
end Go.Proofs.YtolmnenlnpbcfaaGreatDoor
