import Derived.Test.YtddkhnclmeikfaaGreatSpecI
import Derived.Test.YtddkhnclmeikfaaGreatGg1
set_option maxRecDepth 100000
set_option maxHeartbeats 1000000
namespace Go.Proofs.YtddkhnclmeikfaaGreat
open Go.RowKit Tryz
attribute [local go_sem ↓] Go.wp_at_zero Go.wp_at_succ
variable{w:World}{B gb go b:Nat}{x:Hp}{G:List Int}
theorem b5q(x:Hp)(y:Wd)(v:Int):shadeW { x with sub:=v } y={ shadeW x y with sub:=v }:=by
 have e:∀i,uD { x with sub:=v } i={ uD x i with sub:=v }:=λi=>by
  have a:eQ { x with sub:=v } i=eQ x i:=rfl;unfold uD;rw[a]
  split <;> rfl
 unfold shadeW
 split
 ·exact e _
 ·rfl
theorem b0x[Inhabited uQ](B g:Nat)(x:Hp)(y:Wd)(w:World)(h:GOk B w g x)(q:x.A.length<=8000)(r:x.D.length<=8000)(j:dQ x y)(f:y.k=2->0<=y.a)(a:World)(t:a.heap.size<=B)(s:Ext a w)(p:B<=w.heap.size):
  Calls prog 232 #[pP g,y.v] w λe w'=>e=.returned (.bool (a6x x y))/\GOk B w' g (shadeW x y)/\Ext a w':=by
 obtain⟨u,F,I,E,A,H,C,D,z,G,i,h⟩:=h;obtain⟨J,K,rfl⟩:=h.gr.form;refine(a7c y w h (λc=>⟨f c,by have:=(j c).1;have:=f c;omega⟩) q r a t s p).mono ?_;rintro e w' ⟨o,b,n⟩;obtain⟨l,m,d,b⟩:=b;rw[b9f j f] at b;exact⟨o,⟨_,_,_,_,_,_,_,_,_,_,_,b⟩,n⟩
theorem GAt.gtail[Inhabited uQ]{g:Nat}{ar:Option Addr}{kr:Nat}{ac:Option Addr}{kc:Nat}{n cap:Nat}{br bc:Nat}{pb:Nat->Nat}{pa:Nat->Option Addr}{pk:Nat->Nat}{role:Nat->Nat}{v':Value}(h:GAt B w g x ar kr ac kc (sO gb go n cap) br bc pb pa pk role)(k:Grw w B v' G)(t:v'.ownBlock=some gb):
  GOk B (w.setCell (aA g 8) v') g { x with D:=G }:=by
 have b:∀q,q<w.heap.size->role q≠0->(w.setCell (aA g 8) v').heap[q]?=w.heap[q]?:=λq i l=>Below.heap_setCell _ _ _ _ (λe=>l (by rw[e];exact h.sp.g))
 have a:=h.rw.same (w':=w.setCell (aA g 8) v') (by simp [World.setCell]) (λf=>b br (h.rw.nr f).1.1 (by rw[h.sp.r f];omega)) (λf=>b bc (h.rw.nc f).1.1 (by rw[h.sp.c f];omega)) (λq i f=>b (pb q) (h.rw.pl q i f).2.1.1 (by rw[h.sp.p q i f];omega));have o:role gb=4:=h.sp.y gb rfl;refine⟨_,_,_,_,_,_,_,_,_,_,_,⟨h.bx.set8 _,h.nf.set _ _,h.lo,h.ha,h.hc,⟨a.r,a.s,a.p7,a.p,a.pl,a.nr,a.nc,a.d,a.dp,a.kp⟩,k.block (λq i=>?_),⟨h.sp.g,h.sp.r,h.sp.c,λq i=>?_,h.sp.p⟩,h.kl,h.pr.of (λq i m=>b q i (by rw[m];omega)) (λ_ _ h=>h),λj=>(h.cc j).block rfl (b bc (h.cc j).nf.1 (by rw[(h.cc j).ro];omega)) (by simp [World.setCell])⟩⟩
 ·refine b q ?_ ?_
  ·exact(k.lt q i).2
  ·grind [Grw.at,Grw,GOk]
 ·grind [Grw.at,Grw,GOk]
theorem Grw.tail1{g:Int}(h:Grw w B (sO gb go (G.length+1) 1) (g::G)):Grw w B (sO gb go G.length 0) G:=by
 rcases h with⟨_,e⟩ | ⟨gb',go',cap',cur,e,hb,hg,hn,hs,ht⟩
 ·cases e
 ·simp only [Value.slice.injEq,Option.some.injEq,Addr.mk.injEq] at e;obtain⟨⟨rfl,rfl,_⟩,_,rfl⟩:=e;have a:G.length+1<=1:=hn;have:G=[]:=List.eq_nil_of_length_eq_zero (by omega);subst this;exact .inr ⟨gb,go,0,cur,rfl,hb,hg,by simp,by omega,by simp⟩
def a4r(w:World)(b:Nat)(p:Pr):World:=(((((w.setCell ⟨b,0,none⟩ (.int .i64 p.key.k)).setCell ⟨b,1,none⟩ (.int .i64 p.key.n)).setCell ⟨b,2,none⟩ (.int .i64 p.key.a)).setCell ⟨b,3,none⟩ (.int .i64 p.val.k)).setCell ⟨b,4,none⟩ (.int .i64 p.val.n)).setCell ⟨b,5,none⟩ (.int .i64 p.val.a)
theorem d0x(w:World)(b:Nat)(p:Pr)(c f e d g a:Value)(m:w.cell? (aA b 0)=some c)(l:w.cell? (aA b 1)=some f)(i:w.cell? (aA b 2)=some e)(h:w.cell? (aA b 3)=some d)(j:w.cell? (aA b 4)=some g)(k:w.cell? (aA b 5)=some a):qN (a4r w b p) b 0 p:=by grind [Cl.p,dW.cell,HAt.cell,S7.some,qN,a4r,uC,dD]
theorem c7q{a:World}(p:Pr)(h:Ext a w)(c:a.heap.size<=b):Ext a (a4r w b p):=by
 unfold a4r;exact(((((h.setCell (p:=(aA b 0)) c _).setCell (p:=(aA b 1)) c _).setCell (p:=(aA b 2)) c _).setCell (p:=(aA b 3)) c _).setCell (p:=(aA b 4)) c _).setCell (p:=(aA b 5)) c _
theorem b5r(w:World)(n:Nat)(p:Pr)(t:TypeId):Ext w (a4r ((w.drewN n).alloc (.cells #[iv 0,iv 0,iv 0,iv 0,iv 0,iv 0] t)) w.heap.size p)/\qN (a4r ((w.drewN n).alloc (.cells #[iv 0,iv 0,iv 0,iv 0,iv 0,iv 0] t)) w.heap.size p) w.heap.size 0 p:=
 ⟨c7q p (((Ext.refl w).drewN n).alloc _) (Nat.le_refl _),d0x _ _ p _ _ _ _ _ _ (a0t w n _ t 0) (a0t w n _ t 1) (a0t w n _ t 2) (a0t w n _ t 3) (a0t w n _ t 4) (a0t w n _ t 5)⟩
theorem c1s[Inhabited uQ](B g:Nat)(x:Hp)(w:World)(h:GOk B w g x)(s:Snd x)(hp:x.E=2)(a:World)(ha:a.heap.size<=B)(hx:Ext a w)(i:Nat)(G:List Int)(E:x.D=(i:Int)::G)(f:i<x.A.length)(k:Nat)(l:x.sub=(k:Int))(t:k<(x.c i).F.length):
  Calls prog 188 #[pP g] w λe w'=>e=.returned (.tuple #[])/\GOk B w' g { shadeW (shadeW x ((x.c i).p k).key) ((x.c i).p k).val with sub:=(k:Int)+1 }/\Ext a w':=by
 obtain⟨ar,kr,ac,kc,vg,br,bc,U,pa,pk,D,h⟩:=h;obtain⟨ag,kg,rfl⟩:=h.gr.form;have H:=uU h;have hn:0<x.A.length:=by omega
 have M:=h.bx.2.2.2.2.1;have L:=h.bx.2.2.2.2.2.2.2.1;have P:=h.bx.2.2.2.2.2.2.2.2.1;obtain⟨gb,go,C,y,_⟩:=h.gr.at 0 (by rw[E];simp);have eg:x.D[0]'(by rw[E];simp)=(i:Int):=by simp [E]
 rw[eg] at y;simp only [Nat.add_zero] at y;rw[h.hc hn] at M;rw[C] at P;rw[l] at L;have Q:=h.rw.p7 i f;rw[(h.rw.pl i f (h.rw.pw f (by omega))).1] at Q;obtain⟨q0,q1,q2,q3,q4,q5⟩:=h.rw.p i f k t;have lg:x.D.length=G.length+1:=by rw[E];rfl
 rw[lg] at P;have O:g<w.heap.size:=uL M;have lo:=h.lo;have n8:=s.ok.n8;have ae:G.length<=8000:=by have:=s.r1.D;omega
 have p2:=s.ok.p200 i f;have J:=uU (s.good_pair (.inr hp) i k f t);have f7:=h.nf.2 7
 have K0:=uU (show((x.c i).p k).key.k=2->0<=((x.c i).p k).key.a/\((x.c i).p k).key.a<x.A.length from λl=>by
  have I:=(((s.r4.2 i f).2 k t).2 (λd=>by have:=d.1;omega)).1.1;unfold uW at I;omega)
 have K1:=uU (show((x.c i).p k).val.k=2->0<=((x.c i).p k).val.a/\((x.c i).p k).val.a<x.A.length from λl=>by
  have I:=(((s.r4.2 i f).2 k t).2 (λd=>by have:=d.1;omega)).2.1;unfold uW at I;omega)
 have R:=uU (show({ shadeW x ((x.c i).p k).key with sub:=(k:Int)+1 }:Hp).A.length<=8000/\({ shadeW x ((x.c i).p k).key with sub:=(k:Int)+1 }:Hp).D.length<=8000/\dQ { shadeW x ((x.c i).p k).key with sub:=(k:Int)+1 } ((x.c i).p k).val from by
  have s2:=s.shdW _ J.1;have e:=(a0b x ((x.c i).p k).key).2.1;have g2:=s2.r1.D;have u:=a3d x _ J.1;refine⟨?_,?_,?_⟩
  ·show(shadeW x ((x.c i).p k).key).A.length<=8000;omega
  ·show(shadeW x ((x.c i).p k).key).D.length<=8000;omega
  ·exact J.2.keep (z:={ shadeW x ((x.c i).p k).key with sub:=(k:Int)+1 }) e u)
 have i0:(0:Int)<=(i:Int):=by omega
 have i1:(i:Int)<(x.A.length:Int):=by omega
 have k0:(0:Int)<=(k:Int):=by omega
 have k1:(k:Int)<((x.c i).F.length:Int):=by omega
 have g1:(0:Int)<(G.length:Int)+1:=by omega
 have GR:=uU (show x.D.length<=8000 by have:=s.r1.D;omega);have zn:=λn j=>a0t w n #[iv 0,iv 0,iv 0,iv 0,iv 0,iv 0] 154 j
 have zf:=λn j=>a3y w n #[iv 0,iv 0,iv 0,iv 0,iv 0,iv 0] 154 j
 have zo:=λn o b j (h:b<w.heap.size)=>a4j w n o b j h
 have af:bc<w.heap.size:=uL Q;have ad:U i<w.heap.size:=uL q0;clear h eg E l lg C s;go_enter func188,ntmps188;go_wp2_with fail;go_quiet (fail);go_wp2_with fail
 go_region
 all_goals
  obtain⟨m,r⟩:∃W,W=a4r ((w.drewN (nq+1)).alloc (.cells #[iv 0,iv 0,iv 0,iv 0,iv 0,iv 0] 154)) w.heap.size ((x.c i).p k):=⟨_,rfl⟩;have PB:=b5r w (nq+1) ((x.c i).p k) 154;rw[<-r] at PB;unfold a4r at r;rw[<-r];clear r zn zf zo q0 q1 q2 q3 q4 q5;obtain⟨v,y0,y1,y2,y3,y4,y5⟩:=PB;have d7:=v.keep L;have ah:g<m.heap.size:=uL d7;have T:m.frozen? (aA g 7)=false:=((uK v).2 g 7 O).trans f7;clear M L P Q y f7
  have H3:=uU (show GAt B (m.setCell (aA g 7) (iv ((k:Int)+1))) g { x with sub:=(k:Int)+1 } ar kr ac kc (.slice ag x.D.length kg) br bc U pa pk D from
   (H.ext v).boxed (x':={ x with sub:=(k:Int)+1 }) (uX.setCell (S:=λq=>q=g) (uX.refl _ m) (p:=(aA g 7)) rfl _) ((H.ext v).nf.set _ _) rfl rfl rfl ((H.ext v).bx.set7 _))
  have V:=uU ((hx.trans v).setCell (p:=(aA g 7)) (show a.heap.size<=g by omega) (iv ((k:Int)+1)));have BX:=uU (show w.heap.size<m.heap.size from uL y0);have Y:=uU (show(m.setCell (aA g 7) (iv ((k:Int)+1))).cell? (aA w.heap.size 3)=some (iv ((x.c i).p k).val.k) from(uC _ (.inl (by omega))).trans y3);have Y4:=uU (show(m.setCell (aA g 7) (iv ((k:Int)+1))).cell? (aA w.heap.size 4)=some (iv ((x.c i).p k).val.n) from(uC _ (.inl (by omega))).trans y4);have Y5:=uU (show(m.setCell (aA g 7) (iv ((k:Int)+1))).cell? (aA w.heap.size 5)=some (iv ((x.c i).p k).val.a) from(uC _ (.inl (by omega))).trans y5)
  have GB:=uU (show ∀b o n,ag=some ⟨b,o,n⟩->b≠w.heap.size from λb o n e e2=>by
   have:=H.gr.lt b (by rw[e];rfl);omega)
  go_wp2_with fail;refine(b4m ((x.c i).p k).key _ H3 (λl=>uH K0 l) n8 GR a ha V ?_).mono ?_
  ·have:=v.size;simp [World.setCell];omega
  rintro e Z ⟨rfl,A,X,fr⟩;obtain⟨ab,aa,N,A⟩:=uH A;have F:Z.heap[w.heap.size]?=(m.setCell (aA g 7) (iv ((k:Int)+1))).heap[w.heap.size]?:=uH fr w.heap.size (by have:=uH BX;simpa [World.setCell] using this) (by omega) (by omega) GB;have z3:=(World.cell?_of_block (a:=(aA w.heap.size 3)) F).trans Y;have z4:=(World.cell?_of_block (a:=(aA w.heap.size 4)) F).trans Y4;have z5:=(World.cell?_of_block (a:=(aA w.heap.size 5)) F).trans Y5
  have H4:=uU (show GOk B Z g { shadeW x ((x.c i).p k).key with sub:=(k:Int)+1 } by
   rw[b9f (x:={ x with sub:=(k:Int)+1 }) J.1 (λl=>(uH K0 l).1),b5q] at A;exact⟨_,_,_,_,_,_,_,_,_,_,_,A⟩)
  have X4:=uU X;clear A X fr F H3 Y Y4 Y5 y0 y1 y2 y3 y4 y5 d7 T V;go_wp2_with fail;refine(b0x B g { shadeW x ((x.c i).p k).key with sub:=(k:Int)+1 } ((x.c i).p k).val _ H4 R.1 R.2.1 R.2.2 (λl=>(K1 l).1) a ha X4 ?_).mono ?_
  ·have I:=H4.box.2.2.2.2;omega
  rintro e w5 ⟨rfl,K,x5⟩;rw[b5q] at K;have H5:=uU K;clear K;go_wp2_with fail
  try simp only [Exit.inBlock,Exit.then]
  refine bodyPost_ret (results_none rfl _ _ _) rfl ?_;exact⟨rfl,H5,x5⟩
def tH(w:World)(b o:Nat)(p:Pr):World:=(((((w.setCell ⟨b,o,none⟩ (iv p.key.k)).setCell ⟨b,o+1,none⟩ (iv p.key.n)).setCell ⟨b,o+2,none⟩ (iv p.key.a)).setCell ⟨b,o+3,none⟩ (iv p.val.k)).setCell ⟨b,o+4,none⟩ (iv p.val.n)).setCell ⟨b,o+5,none⟩ (iv p.val.a)
theorem b5w(w:World)(b o:Nat)(p q:Pr)(h:qN w b o q):qN (tH w b o p) b o p:=by
 obtain⟨i,g,d,c,e,f⟩:=h;unfold tH;refine⟨?_,?_,?_,?_,?_,?_⟩
 ·grind [uC,dD,Cl.p,qN,tH]
 ·iterate 4 rw[uC _ (.inr (by omega))]
  refine dD (u:=iv q.key.n) ?_;rw[uC _ (.inr (by omega))];exact g
 ·iterate 3 rw[uC _ (.inr (by omega))]
  refine dD (u:=iv q.key.a) ?_
  iterate 2 rw[uC _ (.inr (by omega))]
  exact d
 ·iterate 2 rw[uC _ (.inr (by omega))]
  refine dD (u:=iv q.val.k) ?_
  iterate 3 rw[uC _ (.inr (by omega))]
  exact c
 ·rw[uC _ (.inr (by omega))];refine dD (u:=iv q.val.n) ?_
  iterate 4 rw[uC _ (.inr (by omega))]
  exact e
 ·refine dD (u:=iv q.val.a) ?_
  iterate 5 rw[uC _ (.inr (by omega))]
  exact f
theorem a1t(w:World)(b o:Nat)(p:Pr):uX (λq=>q=b) w (tH w b o p):=
 uX.setCell (S:=λq=>q=b) (uX.setCell (S:=λq=>q=b) (uX.setCell (S:=λq=>q=b) (uX.setCell (S:=λq=>q=b) (uX.setCell (S:=λq=>q=b) (uX.setCell (S:=λq=>q=b) (uX.refl _ w) (p:=(aA b o)) rfl _) (p:=(aA b (o+1))) rfl _) (p:=(aA b (o+2))) rfl _) (p:=(aA b (o+3))) rfl _) (p:=(aA b (o+4))) rfl _) (p:=(aA b (o+5))) rfl _
theorem b5x(h:Nf1 b w)(o:Nat)(p:Pr):Nf1 b (tH w b o p):=(((((h.set _ _).set _ _).set _ _).set _ _).set _ _).set _ _
theorem a7r(w:World)(b o:Nat)(p:Pr)(k:Nat)(a:k<o\/o+6<=k):(tH w b o p).cell? (aA b k)=w.cell? (aA b k):=by grind [Cl.p,tH,dW.cell,HAt.cell,uC]
theorem pair_fr(w:World)(n:Nat)(p:Pr)(t:TypeId)(j:Nat):(a4r ((w.drewN n).alloc (.cells #[iv 0,iv 0,iv 0,iv 0,iv 0,iv 0] t)) w.heap.size p).frozen? (aA w.heap.size j)=false:=by
 unfold a4r;simp only [World.frozen?_setCell];exact a3y w n _ t j
theorem c1v[Inhabited uQ](B g:Nat)(x:Hp)(w:World)(h:GOk B w g x)(n8:x.A.length<=8000)(a:World)(ha:a.heap.size<=B)(hx:Ext a w)(i:Nat)(hi:x.I=(i:Int))(d:i<x.A.length)(k:Nat)(hk:x.sub=(k:Int))(A:k<(x.c i).F.length)(p2:(x.c i).F.length<=200)(F1:uW ((x.c i).p k).key x.A.length)(F2:uW ((x.c i).p k).val x.A.length):
  Calls prog 191 #[pP g] w λe w'=>e=.returned (.tuple #[])/\GOk B w' g { x with A:=x.A.set i (qH x (x.c i) k),sub:=(k:Int)+1 }/\Ext a w':=by
 obtain⟨ar,kr,ac,kc,vg,br,bc,z,pa,pk,ae,h⟩:=h;have H:=uU h;have hn:0<x.A.length:=by omega
 have I:=h.bx.2.2.2.2.1;have N:=h.bx.2.2.2.2.2.2.1;have K:=h.bx.2.2.2.2.2.2.2.1;rw[h.hc hn] at I;rw[hk] at K;rw[hi] at N;have J:=h.rw.p7 i d;rw[(h.rw.pl i d (h.rw.pw d (by omega))).1] at J;obtain⟨P,U,X,V,T,Y⟩:=h.rw.p i d k A;have ah:g<w.heap.size:=uL I;have lo:=h.lo;have f7:=h.nf.2 7;have fp:=(h.rw.pl i d (h.rw.pw d (by omega))).2.1.2;have i0:(0:Int)<=(i:Int):=by omega
 have i1:(i:Int)<(x.A.length:Int):=by omega
 have k0:(0:Int)<=(k:Int):=by omega
 have k1:(k:Int)<((x.c i).F.length:Int):=by omega
 have zn:=λn j=>a0t w n #[iv 0,iv 0,iv 0,iv 0,iv 0,iv 0] 154 j
 have zf:=λn j=>a3y w n #[iv 0,iv 0,iv 0,iv 0,iv 0,iv 0] 154 j
 have zo:=λn o b j (h:b<w.heap.size)=>a4j w n o b j h
 have ai:bc<w.heap.size:=uL J;have ag:z i<w.heap.size:=uL P;have ne:((i:Int) == (x.A.length:Int))=false:=by simp;omega
 have FF:=uU (And.intro F1 F2);have HK:=uU hk;have HI:=uU hi;have O:=uU (show ¬g=z i from λe=>by have h1:=h.sp.g;have h2:=h.sp.p i d (h.rw.pw d (by omega));rw[e] at h1;omega);clear h hi hk F1 F2;go_enter func191,ntmps191;go_wp2_with fail;go_quiet (fail);obtain⟨m1,rfl⟩:∃m,m=nq:=⟨_,rfl⟩;go_wp2_with fail;go_quiet (fail);go_wp2_with fail
 go_region
 all_goals
  obtain⟨W2,G⟩:∃W,W=a4r ((w.drewN (m1+nq+1)).alloc (.cells #[iv 0,iv 0,iv 0,iv 0,iv 0,iv 0] 154)) w.heap.size ((x.c i).p k):=⟨_,rfl⟩;have PB:=b5r w (m1+nq+1) ((x.c i).p k) 154;have PF:=pair_fr w (m1+nq+1) ((x.c i).p k) 154;rw[<-G] at PB PF;unfold a4r at G;rw[<-G];clear G zn zf zo P U X V T Y;obtain⟨X2,y0,y1,y2,y3,y4,y5⟩:=PB;have BX:w.heap.size<W2.heap.size:=uL y0;clear I N K J;go_wp2_with fail;refine(a5m ((x.c i).p k).key _ (H.ext X2) FF.1).mono ?_;rintro e w3 ⟨rfl,D⟩;obtain⟨s,L⟩:∃r,r=eZ x ((x.c i).p k).key:=⟨_,rfl⟩;have R1:=uU L;rw[<-L];have z0:=D.keep y0;have z1:=D.keep y1;have z2:=D.keep y2;have z3:=D.keep y3;have z4:=D.keep y4;have z5:=D.keep y5;have S:=λj=>((uK D).2 w.heap.size j BX).trans (PF j)
  have ad:w.heap.size<w3.heap.size:=uL z0;have X3:=X2.trans D;clear L y0 y1 y2 y3 y4 y5 PF BX X2 D;obtain⟨F,f⟩:∃W,W=(((w3.setCell (aA w.heap.size 0) (iv s.k)).setCell (aA w.heap.size 1) (iv s.n)).setCell (aA w.heap.size 2) (iv s.a)):=⟨_,rfl⟩;have Z:Ext w F:=by rw[f];exact((X3.setCell (p:=(aA w.heap.size 0)) (Nat.le_refl _) _).setCell (p:=(aA w.heap.size 1)) (Nat.le_refl _) _).setCell (p:=(aA w.heap.size 2)) (Nat.le_refl _) _
  have u0:F.cell? (aA w.heap.size 0)=some (iv s.k):=by rw[f,uC _ (.inr (by omega)),uC _ (.inr (by omega))];exact dD z0
  have u1:F.cell? (aA w.heap.size 1)=some (iv s.n):=by rw[f,uC _ (.inr (by omega))];exact dD ((uC _ (.inr (by omega))).trans z1)
  have u2:F.cell? (aA w.heap.size 2)=some (iv s.a):=by rw[f];refine dD (u:=iv ((x.c i).p k).key.a) ?_;rw[uC _ (.inr (by omega)),uC _ (.inr (by omega))];exact z2
  have u3:F.cell? (aA w.heap.size 3)=some (iv ((x.c i).p k).val.k):=by rw[f,uC _ (.inr (by omega)),uC _ (.inr (by omega)),uC _ (.inr (by omega))];exact z3
  have u4:F.cell? (aA w.heap.size 4)=some (iv ((x.c i).p k).val.n):=by rw[f,uC _ (.inr (by omega)),uC _ (.inr (by omega)),uC _ (.inr (by omega))];exact z4
  have u5:F.cell? (aA w.heap.size 5)=some (iv ((x.c i).p k).val.a):=by rw[f,uC _ (.inr (by omega)),uC _ (.inr (by omega)),uC _ (.inr (by omega))];exact z5
  have Q:∀j,F.frozen? (aA w.heap.size j)=false:=λj=>by rw[f];simp only [World.frozen?_setCell];exact S j
  have R:w.heap.size<F.heap.size:=uL u0;go_wp2_with fail;rw[<-f];clear f z0 z1 z2 z3 z4 z5 S ad X3;refine(a5m ((x.c i).p k).val _ (H.ext Z) FF.2).mono ?_;rintro e w5 ⟨rfl,C⟩;obtain⟨t,M⟩:∃r,r=eZ x ((x.c i).p k).val:=⟨_,rfl⟩;have R2:=uU M;rw[<-M];have t0:=C.keep u0;have t1:=C.keep u1;have t2:=C.keep u2;have t3:=C.keep u3;have t4:=C.keep u4;have t5:=C.keep u5;have ab:=λj=>((uK C).2 w.heap.size j R).trans (Q j)
  have aa:w.heap.size<w5.heap.size:=uL t0;have X5:=Z.trans C;have E:=uU (H.ext X5);have I:=E.bx.2.2.2.2.1;have N:=E.bx.2.2.2.2.2.2.1;have K:=E.bx.2.2.2.2.2.2.2.1;rw[H.hc hn] at I;rw[uH HK] at K;rw[uH HI] at N;have J:=E.rw.p7 i d;rw[(H.rw.pl i d (H.rw.pw d (by omega))).1] at J;obtain⟨P,U,X,V,T,Y⟩:=E.rw.p i d k A;have g7:=E.nf.2 7;have gp:=(E.rw.pl i d (E.rw.pw d (by omega))).2.1.2;have af:¬g=z i:=uH O;have ak:¬z i=g:=λe=>uH O e.symm
  clear M u0 u1 u2 u3 u4 u5 Q R Z C f7 fp;obtain⟨v,l⟩:∃W,W=(((w5.setCell (aA w.heap.size 3) (iv t.k)).setCell (aA w.heap.size 4) (iv t.n)).setCell (aA w.heap.size 5) (iv t.a)):=⟨_,rfl⟩;have X6:Ext w v:=by rw[l];exact((X5.setCell (p:=(aA w.heap.size 3)) (Nat.le_refl _) _).setCell (p:=(aA w.heap.size 4)) (Nat.le_refl _) _).setCell (p:=(aA w.heap.size 5)) (Nat.le_refl _) _
  have v0:v.cell? (aA w.heap.size 0)=some (iv s.k):=by rw[l,uC _ (.inr (by omega)),uC _ (.inr (by omega)),uC _ (.inr (by omega))];exact t0
  have v1:v.cell? (aA w.heap.size 1)=some (iv s.n):=by rw[l,uC _ (.inr (by omega)),uC _ (.inr (by omega)),uC _ (.inr (by omega))];exact t1
  have v2:v.cell? (aA w.heap.size 2)=some (iv s.a):=by rw[l,uC _ (.inr (by omega)),uC _ (.inr (by omega)),uC _ (.inr (by omega))];exact t2
  have v3:v.cell? (aA w.heap.size 3)=some (iv t.k):=by rw[l,uC _ (.inr (by omega)),uC _ (.inr (by omega))];exact dD t3
  have v4:v.cell? (aA w.heap.size 4)=some (iv t.n):=by rw[l,uC _ (.inr (by omega))];exact dD ((uC _ (.inr (by omega))).trans t4)
  have v5:v.cell? (aA w.heap.size 5)=some (iv t.a):=by rw[l];refine dD (u:=iv ((x.c i).p k).val.a) ?_;rw[uC _ (.inr (by omega)),uC _ (.inr (by omega))];exact t5
  go_wp2_with fail;rw[<-l];clear l t0 t1 t2 t3 t4 t5 ab aa X5 E I N K J P U X V T Y g7 gp;have y:=uU (H.ext X6);have I:=y.bx.2.2.2.2.1;have N:=y.bx.2.2.2.2.2.2.1;have K:=y.bx.2.2.2.2.2.2.2.1;rw[H.hc hn] at I;rw[uH HK] at K;rw[uH HI] at N;have J:=y.rw.p7 i d;rw[(H.rw.pl i d (H.rw.pw d (by omega))).1] at J;obtain⟨P,U,X,V,T,Y⟩:=y.rw.p i d k A;have g7:=y.nf.2 7;have gp:=(y.rw.pl i d (y.rw.pw d (by omega))).2.1.2;have n1:¬w.heap.size=z i:=by omega
  have n2:¬z i=w.heap.size:=by omega
  have n3:¬w.heap.size=g:=by omega
  have n4:¬g=w.heap.size:=by omega
  have FN:=uU (show GOk B (((tH v (z i) (k*6) ⟨s,t⟩).setCell (aA g 7) (iv ((k:Int)+1))).drew) g { x with A:=x.A.set i (qH x (x.c i) k),sub:=(k:Int)+1 }/\Ext a (((tH v (z i) (k*6) ⟨s,t⟩).setCell (aA g 7) (iv ((k:Int)+1))).drew) by
   have g1:=y.setp i d k A ⟨s,t⟩ (a1t v (z i) (k*6) ⟨s,t⟩) (b5x (y.rw.pl i d (y.rw.pw d (by omega))).2.1.n1 _ _) (b5w v (z i) (k*6) ⟨s,t⟩ _ (y.rw.p i d k A)) (λj hj=>a7r v (z i) (k*6) ⟨s,t⟩ j hj);have e:({ x.c i with F:=(x.c i).F.set k ⟨s,t⟩ }:Cl)=qH x (x.c i) k:=by unfold qH;rw[uH R1,uH R2]
   rw[e] at g1;have g2:GOk B (tH v (z i) (k*6) ⟨s,t⟩) g { x with A:=x.A.set i (qH x (x.c i) k) }:=⟨_,_,_,_,_,_,_,_,_,_,_,g1⟩;refine⟨(g2.set7 ((k:Int)+1)).ext (Ext.refl _).drew,?_⟩;have aj:=(y.rw.pl i d (y.rw.pw d (by omega))).2.2.2;exact((((a1t v (z i) (k*6) ⟨s,t⟩).ext (hx.trans X6) (λq hq e=>by omega)).setCell (p:=(aA g 7)) (show a.heap.size<=g by omega) _)).drew)
  unfold tH at FN
  go_region
  all_goals
   go_wp2_with fail
   try simp only [Exit.inBlock,Exit.then]
   refine bodyPost_ret (results_none rfl _ _ _) rfl ?_;exact⟨rfl,FN.1,FN.2⟩
theorem b9h[Inhabited uQ](B g:Nat)(x:Hp)(w:World)(h:GOk B w g x)(s:Snd x)(a:World)(ha:a.heap.size<=B)(hx:Ext a w)(i:Nat)(G:List Int)(r:x.D=(i:Int)::G)(f:i<x.A.length)(ae:¬x.sub<((x.c i).F.length:Int)):
  Calls prog 188 #[pP g] w λe w'=>e=.returned (.tuple #[])/\GOk B w' g { x with A:=x.A.set i (a1j (x.c i)),D:=G,sub:=0 }/\Ext a w':=by
 obtain⟨K,X,ac,Q,vg,br,b,P,L,pk,j,h⟩:=h;obtain⟨ag,z,rfl⟩:=h.gr.form;have R:x.D.length=G.length+1:=by rw[r];rfl
 have m:0<x.A.length:=by omega
 have c4:=h.bx.2.2.2.2.1;have c7:=h.bx.2.2.2.2.2.2.2.1;have c8:=h.bx.2.2.2.2.2.2.2.2.1;obtain⟨l,E,I,t,_⟩:=h.gr.at 0 (by rw[r];simp);have eg:x.D[0]'(by rw[r];simp)=(i:Int):=by simp [r]
 rw[eg] at t;simp only [Nat.add_zero] at t;rw[h.hc m] at c4;rw[I,R] at c8 h;have p5:=(h.rw.s i f).2.2.2.2.2.1;have p7:=h.rw.p7 i f;have lo:=h.lo;have n8:=s.ok.n8;have aa:G.length<=8000:=by have:=s.r1.D;omega
 have f7:=h.nf.2 7;have f8:=h.nf.2 8;have f5:=(h.rw.nc m).1.2 (i*8+5);have i0:(0:Int)<=(i:Int):=by omega
 have i1:(i:Int)<(x.A.length:Int):=by omega
 have g1:(0:Int)<(G.length:Int)+1:=by omega
 have g2:(1:Int)<=(G.length:Int)+1:=by omega
 have ad:=uU (show ¬g=b from λe=>by have h1:=h.sp.g;have h2:=h.sp.c m;rw[e] at h1;omega)
 have ab:=(h.rw.nc m).2
 have u:=uU (show ∀n o,(∀W,Ext w W->Grw W B o G)->o.ownBlock=some l->GOk B ((((w.drewN n).setCell (aA b (i*8+5)) (iv 2)).setCell (aA g 8) o).setCell (aA g 7) (iv 0)) g { x with A:=x.A.set i (a1j (x.c i)),D:=G,sub:=0 }/\Ext a ((((w.drewN n).setCell (aA b (i*8+5)) (iv 2)).setCell (aA g 8) o).setCell (aA g 7) (iv 0)) from λn o U J=>by
  have D:=h.ext ((Ext.refl w).drewN n)
  have Z:GAt B ((w.drewN n).setCell (aA b (i*8+5)) (iv 2)) g { x with A:=x.A.set i (a1j (x.c i)) } K X (some (aA b 0)) Q (sO l E (G.length+1) z) br b P L pk j:=by
   rw[<-h.hc m];refine D.setc f rfl (uX.setCell (S:=λq=>q=b) (uX.refl _ (w.drewN n)) (p:=(aA b (i*8+5))) rfl _) ?_ (λk hk=>uC _ (.inr (by omega))) ((D.rw.nc m).1.set _ _);obtain⟨V,a1,Y,T,N,M,O⟩:=D.rw.s i f;refine⟨?_,?_,?_,?_,?_,World.cell?_setCell_same _ _ _ M,?_⟩
   ·rw[uC _ (.inr (by omega))];exact V
   ·rw[uC _ (.inr (by omega))];exact a1
   ·rw[uC _ (.inr (by omega))];exact Y
   ·rw[uC _ (.inr (by omega))];exact T
   ·rw[uC _ (.inr (by omega))];exact N
   ·rw[uC _ (.inr (by omega))];exact O
  have r4:j l=4:=h.sp.y l rfl;have H:l≠b:=λe=>by have:=h.sp.c m;rw[<-e] at this;omega
  have F:Grw ((w.drewN n).setCell (aA b (i*8+5)) (iv 2)) B o G:=(U _ ((Ext.refl w).drewN n)).block (λq v=>Below.heap_setCell _ _ _ _ (λe=>by rw[J] at v;injection v with v;exact H (v.trans e)));refine⟨(Z.gtail F J).set7 0,?_⟩;exact(((hx.drewN n).setCell (p:=(aA b (i*8+5))) (show a.heap.size<=b by omega) _).setCell (p:=(aA g 8)) (show a.heap.size<=g by omega) _).setCell (p:=(aA g 7)) (show a.heap.size<=g by omega) _)
 have V0:=uU (show z≠1->∀W,Ext w W->Grw W B (sO l (E+1) G.length (z-1)) G from λ_ W e=>by
  have d:=(h.ext e).gr;rw[r] at d;exact d.tail)
 have V1:=uU (show z=1->∀W,Ext w W->Grw W B (sO l E G.length 0) G from λek W e=>by
  have d:=(h.ext e).gr;rw[r,ek] at d;exact d.tail1)
 go_enter func188,ntmps188;go_wp2_with fail;go_quiet (fail);go_wp2_with fail
 ·obtain⟨C,A⟩:=u nq _ (V1 (by assumption)) rfl;refine bodyPost_ret (results_none rfl _ _ _) rfl ?_;exact⟨rfl,C,A⟩
 ·obtain⟨C,A⟩:=u nq _ (V0 (by assumption)) rfl;refine bodyPost_ret (results_none rfl _ _ _) rfl ?_;exact⟨rfl,C,A⟩
def lkH(x:Hp)(j:Nat):Hp:=(x.B.take j).foldl shadeW x
def grB(x:Hp):Bool:=!x.D.isEmpty
theorem c1w(x:Hp)(j:Nat)(h:j<x.B.length):lkH x (j+1)=shadeW (lkH x j) x.B[j]:=by
 unfold lkH;rw[List.take_succ_eq_append_getElem h,List.foldl_append];rfl
theorem b9i(x:Hp):lkH x x.B.length=eE x:=by grind [lkH,eE]
theorem c6b(s:Snd x)(c:x.E=2)(j:Nat):Shd x (lkH x j):=by
 refine(Shd.fold (.inr c) (x.B.take j) x (λy b=>?_) (Shd.refl s)).1;obtain⟨i,a,e⟩:=List.mem_iff_getElem.1 (List.mem_of_mem_take b);rw[<-e];exact s.good_reg i a
theorem ssh_gr{z:Hp}{y:Wd}(b:Bool)(a:grB z=b):(a6x z y=true->grB (a5w z y)=true)/\(a6x z y=false->grB (a5w z y)=b):=by
 refine⟨λh=>?_,λh=>?_⟩
 ·unfold a5w;rw[if_pos h];simp [grB]
 ·unfold a5w;rw[h];simpa using a
theorem c1x[Inhabited uQ](B g:Nat)(x:Hp)(w:World)(h:GOk B w g x)(s:Snd x)(hp:x.E=2)(a:World)(P:a.heap.size<=B)(hx:Ext a w)(F:x.D=[]):
  Calls prog 188 #[pP g] w λe w'=>e=.returned (.tuple #[])/\GOk B w' g (cX x)/\Ext a w':=by
 obtain⟨Q,kr,ac,X,vg,br,V,W,S,pk,L,h⟩:=h;obtain⟨ag,kg,rfl⟩:=h.gr.form;have Y:x.D.length=0:=by rw[F];rfl
 have c3:=h.bx.2.2.2.1;have c8:=h.bx.2.2.2.2.2.2.2.2.1;have H:=uU h;rw[Y] at c8;have lo:=h.lo;have ad:x.B.length<=16:=by have:=s.r1.B;omega
 have r0:0<x.B.length:=by have:=s.r1.B;omega
 rw[h.ha r0] at c3;have R:=uU (show grB (lkH x 0)=false by simp [lkH,grB,F]);have K:=uU (show cX x=if (eE x).D=[] then cZ (eE x) 3 0 else eE x by unfold cX;rw[F]);have O:=uU (c6b s hp);go_enter func188,ntmps188;go_wp2_with fail;go_loopw [4,85] (λsm i wr=>∃j,j<=x.B.length/\i=iv (j:Nat)/\sm=.bool (grB (lkH x j))/\Hid (∃l m c,GAt B wr g (lkH x j) Q kr ac X (.slice l (lkH x j).D.length m) br V W S pk c)/\Ext a wr) (λ_ i _=>x.B.length-(intOf i).toNat)
 case atStart=>exact⟨0,Nat.zero_le _,rfl,by rw[uH R],⟨_,_,_,uH H⟩,hx⟩
 case round=>
  obtain⟨j,hj,rfl,rfl,n,f⟩:=hrel;by_cases d:j<x.B.length
  ·obtain⟨l,m,c,u⟩:=uH n;have t:(lkH x j).B=x.B:=(uH O j).B;obtain⟨Z,w1,G⟩:=u.rw.r j (by rw[t];exact d);have E:(lkH x j).B[j]'(by rw[t];exact d)=x.B[j]:=by simp [t]
   rw[E] at Z w1 G;have N:=uU u
   have p:=uU (show(lkH x j).A.length<=8000/\(lkH x j).D.length<=8000/\dQ (lkH x j) x.B[j]/\(x.B[j].k=2->0<=x.B[j].a/\x.B[j].a<(lkH x j).A.length) by
    have v:=(uH O j).s;have h8:=v.ok.n8;have U:=v.r1.D;refine⟨h8,by omega,?_,λI=>?_⟩
    ·have:=v.good_reg j (by rw[t];exact d);rw[E] at this;exact this
    ·have:=(v.r4.1 j (by rw[t];exact d)).1;rw[E] at this;unfold uW at this;omega)
   have M:=uU (show lkH x (j+1)=a5w (lkH x j) x.B[j] by rw[c1w x j d,b9f (uH p).2.2.1 (λI=>((uH p).2.2.2 I).1)]);have aa:(0:Int)<=(j:Int):=by omega
   have ab:(j:Int)<(x.B.length:Int):=by omega
   obtain⟨b0,o⟩:∃b,grB (lkH x j)=b:=⟨_,rfl⟩;have z:=uU (ssh_gr (y:=x.B[j]) b0 o);rw[o];go_wp2_with fail;refine(a7c x.B[j] _ ((uH N).ext ((Ext.refl wr).alloc _)) (uH p).2.2.2 (uH p).1 (uH p).2.1 a P (f.alloc _) ?_).mono ?_
   ·have:=(uH N).nf.1;simp;omega
   rintro e w3 ⟨rfl,D,J⟩;rw[<-uH M] at D;obtain⟨r,n⟩:∃r,a6x (lkH x j) x.B[j]=r:=⟨_,rfl⟩;rw[<-uH M,n] at z;rw[n];cases r
   ·have A:=uU ((uH z).2 rfl);go_wp2;go_roundw
    case rel=>exact⟨j+1,by omega,by go_num,by rw[uH A],D,J⟩
    case measure=>simp [intOf];omega
   ·have A:=uU ((uH z).1 rfl);go_wp2;go_roundw
    case rel=>exact⟨j+1,by omega,by go_num,by rw[uH A],D,J⟩
    case measure=>simp [intOf];omega
  ·have T:j=x.B.length:=by omega
   subst T;rw[b9i] at n ⊢
   have HL:=uU (show GOk B wr g (eE x) by
    obtain⟨l,m,c,u⟩:=uH n;exact⟨_,_,_,_,_,_,_,_,_,_,_,u⟩)
   cases q:grB (eE x)
   ·have C:=uU (show cX x=cZ (eE x) 3 0 by
     have:(eE x).D=[]:=by simpa [grB] using q
     rw[uH K,if_pos this])
    go_wp2_with fail;refine(a1h B g (eE x) 3 0 _ (uH HL) a P f).mono ?_;rintro e G ⟨rfl,h2,x2⟩;have H2:=uU h2;go_wp2_with fail
    go_end0
    exact⟨rfl,by rw[uH C];exact uH H2,x2⟩
   ·have C:=uU (show cX x=eE x by
     have:¬(eE x).D=[]:=λe=>by simp [grB,e] at q
     rw[uH K,if_neg this])
    go_wp2_with fail
    go_end0
    exact⟨rfl,by rw[uH C];exact uH HL,f⟩
theorem c4q[Inhabited uQ](B g:Nat)(x:Hp)(w:World)(h:GOk B w g x)(s:Snd x)(o:x.E=2)(a:World)(l:a.heap.size<=B)(j:Ext a w):
  Calls prog 188 #[pP g] w λe w'=>e=.returned (.tuple #[])/\GOk B w' g (cX x)/\Ext a w':=by
 cases b:x.D with
 | nil=>exact c1x B g x w h s o a l j b
 | cons i0 G=>
  have r:=s.r5.2.2 i0 (by rw[b];exact List.mem_cons_self ..);obtain⟨i,rfl⟩:∃i:Nat,i0=(i:Int):=⟨i0.toNat,by omega⟩;have n:((i:Int)).toNat=i:=by omega
  have d:i<x.A.length:=by omega
  by_cases f:x.sub<((x.c i).F.length:Int)
  ·obtain⟨k,m⟩:∃k:Nat,x.sub=(k:Int):=⟨x.sub.toNat,by have:=s.r1.sub;omega⟩
   have e:cX x={ shadeW (shadeW x ((x.c i).p k).key) ((x.c i).p k).val with sub:=(k:Int)+1 }:=by
    have q:x.sub.toNat=k:=by omega
    unfold cX;rw[b];simp only [n,if_pos f,q];rw[m]
   rw[e];exact c1s B g x w h s o a l j i G b d k m (by omega)
  ·have e:cX x={ x with A:=x.A.set i (a1j (x.c i)),D:=G,sub:=0 }:=by
    unfold cX;rw[b];simp only [n,if_neg f]
   rw[e];exact b9h B g x w h s a l j i G b d f
theorem c4p[Inhabited uQ](B g:Nat)(x:Hp)(w:World)(h:GOk B w g x)(s:Snd x)(hp:x.E=5)(a:World)(A:a.heap.size<=B)(t:Ext a w):
  Calls prog 191 #[pP g] w λe w'=>e=.returned (.tuple #[])/\GOk B w' g (cV x)/\Ext a w':=by
 have r:=h;obtain⟨O,Z,ac,V,R,br,T,U,Q,pk,y,h⟩:=h;have C:=uU r;have K:=h.bx.2.2.2.2.1;have M:=h.bx.2.2.2.2.2.2.1;have D:=h.bx.2.2.2.2.2.2.2.1;have lo:=h.lo;have L:=s.ok.n8;have hh:=s.r1.I;have hs:=s.r1.sub;by_cases f:x.I=x.A.length
 ·have E:=uU (show cV x=cZ x 6 x.A.length by unfold cV;rw[if_pos f])
  go_enter func191,ntmps191;go_wp2_with fail;go_quiet (fail);go_wp2_with fail;refine(a1h B g x 6 x.A.length _ (C.ext ((Ext.refl w).drewN _)) a A (t.drewN _)).mono ?_;rintro e S ⟨rfl,I,F⟩;have G:=uU I;go_wp2_with fail
  try simp only [Exit.inBlock,Exit.then]
  refine bodyPost_ret (results_none rfl _ _ _) rfl ?_;exact⟨rfl,by rw[uH E];exact uH G,F⟩
 ·obtain⟨i,l⟩:∃i:Nat,x.I=(i:Int):=⟨x.I.toNat,by omega⟩;have b:i<x.A.length:=by omega
  have z:x.I.toNat=i:=by omega
  obtain⟨k,j⟩:∃k:Nat,x.sub=(k:Int):=⟨x.sub.toNat,by omega⟩;have H:x.sub.toNat=k:=by omega
  have q:=s.ok.p200 i b;by_cases u:k<(x.c i).F.length
  ·have E:cV x={ x with A:=x.A.set i (qH x (x.c i) k),sub:=(k:Int)+1 }:=by
    unfold cV;rw[if_neg f,z,if_pos (by omega),H,j]
   have J:¬uE x i:=λd=>by have:=d.1;omega
   have P:=((s.r4.2 i b).2 k u).2 J;rw[E];exact c1v B g x w r L a A t i l b k j u q P.1.1 P.2.1
  ·have E:=uU (show cV x={ x with I:=x.I+1,sub:=0 } by
    unfold cV;rw[if_neg f,z,if_neg (by omega)])
   have o:(x.I == (x.A.length:Int))=false:=by simpa using f
   have N:0<x.A.length:=by omega
   rw[h.hc N] at K;have p7:=h.rw.p7 i b;have Y:=h.nf.2 6;have f7:=h.nf.2 7;rw[l] at o M;rw[j] at D;have i0:(0:Int)<=(i:Int):=by omega
   have X:(i:Int)<(x.A.length:Int):=by omega
   have v:=uU (show ∀n,GOk B (((w.drewN n).setCell (aA g 6) (iv ((i:Int)+1))).setCell (aA g 7) (iv 0)) g { x with I:=(i:Int)+1,sub:=0 }/\Ext a (((w.drewN n).setCell (aA g 6) (iv ((i:Int)+1))).setCell (aA g 7) (iv 0)) from λn=>⟨((r.ext ((Ext.refl w).drewN n)).set6 _).set7 0,((t.drewN n).setCell (p:=(aA g 6)) (show a.heap.size<=g by omega) _).setCell (p:=(aA g 7)) (show a.heap.size<=g by omega) _⟩);rw[l] at E;go_enter func191,ntmps191;go_wp2_with fail;go_quiet (fail);obtain⟨W,rfl⟩:∃m,m=nq:=⟨_,rfl⟩;go_wp2_with fail;go_quiet (fail);go_wp2_with fail
   go_end0
   exact⟨rfl,by rw[uH E];exact(v _).1,(v _).2⟩
end Go.Proofs.YtddkhnclmeikfaaGreat
