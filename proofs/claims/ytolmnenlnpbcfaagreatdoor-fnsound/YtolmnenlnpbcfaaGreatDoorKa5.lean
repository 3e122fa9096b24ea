import Derived.Test.YtolmnenlnpbcfaaGreatDoorJb
import Derived.Test.YtolmnenlnpbcfaaGreatDoorSpecL
import Derived.Test.YtolmnenlnpbcfaaGreatDoorTa
set_option maxRecDepth 100000
set_option maxHeartbeats 1000000
namespace Go.Proofs.YtolmnenlnpbcfaaGreatDoor
open Go.RowKit Go.Proofs.Tryz
attribute [local go_sem ↓] Go.wp_at_zero Go.wp_at_succ
variable{x x1 z:Hp}{C B b t:Nat}{w:World}{F:List Int}{K:List Nat}
theorem b6r.len(h:b6r x t x1):t<x1.A.length/\x1.B=x.B/\x1.D=x.D/\x1.M=x.M/\x1.E=x.E/\x1.I=x.I:=by
 obtain⟨h1,rfl⟩|⟨h1,rfl⟩:=h;exact⟨h1,rfl,rfl,rfl,rfl,rfl⟩;exact⟨by simp;omega,rfl,rfl,rfl,rfl,rfl⟩
theorem b6r.set(h:b6r x t x1)(c:Cl):x1.A.set t c=tW x t c:=by
 unfold tW;obtain⟨h1,rfl⟩|⟨h1,rfl⟩:=h;rw[if_pos h1];rw[if_neg (by omega),h1];simp
theorem zH.made{F':List Int}(h:zH C x F K)(g:a9i x F F')(c:Cl)(Q:c.st=1)(H:z.A=tW x (uE x) c)(p:z.E=x.E)(G:z.I=x.I)(V:0<=x.I/\x.I<=x.A.length):zH (C+1) z F' K:=by
 have⟨I,J,M⟩:=a0i x;have B:=b9r x z (uE x) c I H;have s:z.A.length=if uE x<x.A.length then x.A.length else x.A.length+1:=by rw[H,a3p]
 have E:∀q,q<z.A.length->q≠uE x->q<x.A.length:=λq n o=>by rw[s]at n;split at n <;> omega
 have A:∀q,q<z.A.length->(z.c q).st=0->q<x.A.length/\(x.c q).st=0/\uE x<q:=λq n f=>by
  rw[B q]at f;split at f;rw[Q]at f;omega;rename_i o;refine⟨E q n o,f,?_⟩;obtain u|u:=km q (uE x)
  ·exact absurd f (J q u)
  omega
 have r:∀q,q≠uE x->z.c q=x.c q:=λq n=>by rw[B q,if_neg n]
 have D:∀q,(x.c q).st=1->q<x.A.length->q≠uE x:=λq l n e=>by
  have:=M (by omega);rw[<-e,l]at this;omega
 refine⟨g.1,λi d f=>?_,λv L=>h.nn v (g.2.2.1 v L),?_,λP=>?_,λN=>?_,λa b=>h.k0 (p▸a) (p▸b)⟩;have⟨l,m,_⟩:=A i d f;exact g.2.2.2 i l m (h.al i l m)
 ·have T:=h.le;have R:=g.2.1;have O:z.A.length<=x.A.length+1:=by rw[s];split <;> omega
  have U:yK z<=yK x+1:=by
   unfold yK;rw[p,G];repeat' split
   all_goals omega
  omega
 have k:=h.k3 (p▸P);rw[G];refine⟨k.1,λi d=>⟨(k.2.1 i d).1,?_⟩,λi d l t j y f=>?_⟩
 ·have m:=k.2.1 i d;rw[r i (D i m.2 (by omega))];exact m.2
 have⟨j1,j2,j3⟩:=A j y f;by_cases e:i=uE x
 ·omega
 rw[r i e]at l;exact k.2.2 i d l t j j1 j2;have k:=h.k4 (p▸N);have S:x.A.length<=z.A.length:=by rw[s];split <;> omega
 refine⟨k.1,λi d=>⟨by have:=(k.2.1 i d).1;omega,?_⟩,λi d l t j y f=>?_⟩;have m:=k.2.1 i d;rw[r i (D i m.2 m.1)];exact m.2;have⟨j1,j2,j3⟩:=A j y f;by_cases e:i=uE x
 ·omega
 rw[r i e]at l;exact k.2.2 i (E i d e) l t j j1 j2
theorem SAt.newcell[qd]{W:World}{ar:Option Addr}{kr:Nat}{v4 v8:Value}{br bn:Nat}{cB cO:Nat->Nat}{pb:Nat->Nat}{pa:Nat->Option Addr}{pk:Nat->Nat}{kn hd:Nat}{vf:Value}{vk:Value}{role:Nat->Nat}(h:SAt B w b x ar kr v4 v8 br cB cO bn pb pa pk kn hd vf F vk K role)(U:0<x.B.length)(t:Nat)(d:t<x.A.length)(c':Cl)(m:Nat)(A:c'.F=List.replicate m Pr0)(e:Ext w W)(a:Nat)(o:w.heap.size<=a)(T:Nfp a m W)(S:∀k,k<m->qC W a (k*6) Pr0):
  ∃pb' pa' pk' role',SAt B (eZ W (cB t) (cO t) c' (sS a m m)) b { x with A:=x.A.set t c' } ar kr v4 v8 br cB cO bn pb' pa' pk' kn hd vf F vk K role':=by
 have g:=h.ext e;have y:=(g.rw.nc t d).1;have C:c'.F.length=m:=by rw[A];simp
 have P:cB t≠a:=λu=>by have:=(h.rw.nc t d).1.1;omega
 have L:B<=a:=kA h.sb.lo.1 (by have:=h.sb.nb.1;omega);have N:uQ (λq=>q=cB t\/(q=pb t/\0<pk t)) w (W.setCell (aA (cB t) (cO t+7)) (sS a m m)):=uQ.setCell (uQ.of_ext e) (p:=(aA (cB t) (cO t+7))) (.inl rfl) _;have r:(W.setCell (aA (cB t) (cO t+7)) (sS a m m)).cell? (aA (cB t) (cO t+7))=some (sS a m m):=kM _ _ _ (g.rw.p7 t d);have⟨G,D⟩:=a4b W (cB t) (cO t) c' (x.c t) (sS a m m) _ (g.rw.s t d) (g.rw.p7 t d);have l:=a0a W (cB t) (cO t) c' (sS a m m);have H:uQ (λq=>q=cB t) (W.setCell (aA (cB t) (cO t+7)) (sS a m m)) (eZ W (cB t) (cO t) c' (sS a m m)):=⟨l.os,l.tape,l.output,by have:=l.size;simpa[World.setCell]using this,λq o f=>by
  rw[kP _ _ _ _ f];exact l.block q (by simpa[World.setCell]using o) f⟩
 have E:=(h.rowTo t d U c'.F a (some (aA a 0)) m (by omega) N (y.set _ _) (.inr o) (λ_=>⟨rfl,T.set _ _⟩) L (by rw[C];exact r) (λj Q=>(uC _ (.inr (λu=>Q u.symm))).trans ((cX e).1 (cB t) j (h.rw.nc t d).1.1)) (λk J=>by
  have n:k<m:=by omega
  have:c'.F[k]=Pr0:=by simp[A]
  rw[this];exact(S k n).of λj _=>uC _ (.inl P))).setc (i:=t) (c':=c') (by simpa using d) (by rw[(Hp.c_set x t { x.c t with F:=c'.F } d) t,if_pos rfl]) H G (λk J=>by
  by_cases u:k=cO t+7;rw[u,D,r];rw[(a1n W (cB t) (cO t) c' (sS a m m)) k (by omega),uC _ (.inr (λz=>u z.symm))]) (a3e y _ _ _)
 have R:({ ({ x with A:=x.A.set t { x.c t with F:=c'.F } }:Hp) with A:=(x.A.set t { x.c t with F:=c'.F }).set t c' }:Hp)={ x with A:=x.A.set t c' }:=by simp
 have v:=E;rw[R]at v;exact⟨_,_,_,_,v⟩
theorem SOq.regs16[qd](h:SOq C B w b x)(f:x.B.length=16):∃br kr,b2c C B w b x br kr:=by
 have⟨L,kr,H,j,o,J,g,D,br,p,E,s,q,I,l,G,u,t,F,A,K,a,h,v,k⟩:=h;have c:0<x.B.length:=by omega
 exact⟨br,kr,by have:=h.sb.bx.2.2.2.1;rw[h.sb.ha c,f]at this;exact this,λi z=>by have:=h.rw.r i (by omega);rw[Hp.r_eq]at this;exact this,(h.rw.nr c).1.2,⟨(h.rw.nr c).2,(h.rw.nr c).1.1⟩,λW i y e z=>by have d:=h.ext e;exact⟨L,kr,H,j,o,J,g,D,br,p,E,s,q,I,l,G,u,t,F,A,K,a,d.setr i (by omega) y (cE _ _ _ _) (a2k (d.rw.nr c).1 _ _) (a1o _ _ _ _ _ (d.rw.r i (by omega))) (λm n=>cV _ _ _ _ m n),v.alike (cJ.A rfl) rfl rfl,k⟩⟩
theorem way_19[qd]{bd:Nat}{a p c:Nat}{n:Int}{rv:Value}(h:SOq C B w b x)(s:Snd x)(hd:(default:uL).z bd=some (tK b 19 a p c n rv))(ha:a<16)(v:World)(hv:v.heap.size<=B)(hx:Ext v w):
  Calls prog 201 #[.pointer (some ⟨bd,0,none⟩)] w λe w'=>qW C B b x a p c n 19 v e w':=by
 have D:=uU (tH.of (h.obj hd));have H:=uU h;have E:=hd;have L:=uU (show Calls prog 229 #[.pointer (some ⟨b,0,none⟩)] w λe w'=>∃vv,e=.returned vv/\((vv=.pointer none/\qD x x.A.length (-1))\/∃(y bn kn cb co:Nat)(ap:Option Addr)(kp:Nat),vv=ndp bn y/\qD x x.A.length y/\y<x.A.length/\Hid (b6f C B w b x y bn kn cb co ap kp/\∀(W W2:World)(u:Int),Ext w W->Ext (W.setCell ⟨cb,co+3,none⟩ (iv u)) W2->W2.cell? ⟨bn,y*2,none⟩=some (iv y)/\SOq C B W2 b (hD x y (qN (x.c y) u))))/\Ext w w' from by
  have⟨ar,kr,ac,bn,kn,V,NB⟩:∃(ar:Option Addr)(kr:Nat)(ac:Nat->Option Addr)(bn kn:Nat),VNt w b x ar kr ac (some ⟨bn,0,none⟩) kn/\w.cell? ⟨b,13,none⟩=some (.slice (some ⟨bn,0,none⟩) x.A.length kn):=by
   have⟨ar,kr,a4,n4,k4,a8,m8,k8,br,cB,cO,bn,pb,pa,pk,kn,hd,vf,F,vk,K,role,h,i,k⟩:=h;exact⟨ar,kr,_,bn,kn,h.vn (by rw[s.r1.B];omega) s.ok.p200,h.sb.n13⟩
  refine(c3m x b w bn 0 V s.ok.n8).mono ?_;rintro e w' ⟨vv,he,hv,xe⟩;refine⟨vv,he,?_,xe⟩;obtain hv|⟨y,e1,e2,e3⟩:=hv;exact .inl hv;have⟨bn2,kn2,cb,co,ap,kp,hc,ls⟩:=h.lastS y e3;have U:bn2=bn:=by
   have:=hc.n13.symm.trans NB;simp at this;exact this.1
  subst U;exact .inr ⟨y,bn2,kn2,cb,co,ap,kp,by rw[e1,kO],e2,e3,hc,λW W2 u e e2=>let ⟨_,m0,_,h2,_⟩:=ls W W2 u e e2;⟨m0,h2⟩⟩)
 have⟨d0,d1,d2,d3,d4,d5,d6⟩:=uH D;have ab:=cLt d0;clear h hd;go_in;go_wp21;refine L.mono ?_;rintro e w5 ⟨vv,rfl,hor,x5⟩;have H5:=uU (H.ext x5);have P:=uU (hx.trans x5);obtain⟨rfl,hd1⟩|⟨y,bn,kn,cb,co,ap,kp,rfl,hd1,hy,hcl⟩:=hor
 ·have t:=uU hd1;have⟨br,kr,hr⟩:=H5.B s;have A:=uU (a1w hr (D.ext x5) ha);obtain⟨r0,r1,r2⟩:=hr.r a ha;have f:=hr.f;have g:=uU (show ∀W,Ext w5 W->SOq (C+64000) B (cQ W br (a*3) Wd0) b (regTo x a Wd0)/\Ext v (cQ W br (a*3) Wd0) from λW xW=>⟨(hr.set W a Wd0 xW ha).wide (by omega),(cE W br (a*3) Wd0).ext (P.trans xW) (λq hq e=>by have:=hr.lo.1;omega)⟩);unfold cQ Wd0 at g;clear hr hd1 L x5;go_wp21;refine A.mono ?_;rintro e w6 ⟨rfl,x6⟩;have I:=x6.keep r0;have Y:=x6.keep r1;have T:=x6.keep r2;have kf:=λm=>((cX x6).2 br m (cLt r0)).trans (f m)
  have aa:=cLt I;have Q:=uU (g w6 x6);clear x6;go_wp21;go_ret2;exact⟨_,0,0,rfl,⟨rfl,.inl ⟨t,rfl,rfl⟩⟩,Q.1,Q.2⟩
 have t:=uU hd1;have j:=hcl.1.ext x5;have N:=j.m1;have⟨q0,q1,q2,q3,q4,q5,q6⟩:=j.s;have fc:=j.f;have J:=cLt N;have o:=cLt q0;have⟨W7,hW7⟩:∃W,W=w5.setCell ⟨cb,co+3,none⟩ (iv 3):=⟨_,rfl⟩;have⟨m0,h7⟩:=(λ(W W2:World) (u:Int) (e:Ext w5 W)=>hcl.2 W W2 u (x5.trans e)) w5 W7 3 (hO _) (hW7▸hO _);have⟨br,kr,hr⟩:=h7.regs16 (show(hD x y (qN (x.c y) 3)).B.length=16 from s.r1.B);have O:=tH.of (h7.obj E);have A:=uU (a1w hr O ha);have⟨r0,r1,r2⟩:=hr.r a ha;have f:=hr.f;have g:∀W,Ext W7 W->SOq (C+64000) B (cQ W br (a*3) ⟨2,0,y⟩) b (regTo (hD x y (qN (x.c y) 3)) a ⟨2,0,y⟩)/\Ext v (cQ W br (a*3) ⟨2,0,y⟩):=λW xW=>⟨(hr.set W a ⟨2,0,y⟩ xW ha).wide (by omega),(cE W br (a*3) ⟨2,0,y⟩).ext ((show Ext v W7 by rw[hW7];exact P.setCell (p:=⟨cb,co+3,none⟩) (kA hv j.lo.1) _).trans xW) (λq hq e=>by have:=hr.lo.1;omega)⟩;unfold cQ at g;clear hd1 L x5 hr O h7;go_wp21;rw[<-hW7];clear hW7 N q0 q1 q2 q3 q4 q5 q6 fc J o;refine A.mono ?_;rintro e w8 ⟨rfl,x8⟩;go_wp21;refine(a8h bn (y*2) y _ (x8.keep m0)).mono ?_;rintro e w9 ⟨rfl,x9⟩;have d:=x8.trans x9;have I:=d.keep r0;have Y:=d.keep r1;have T:=d.keep r2;have kf:=λm=>((cX d).2 br m (cLt r0)).trans (f m)
 have X:=cLt I;have R:=uH g w9 d;clear x8 x9 d;go_wp21;go_ret2;exact⟨_,0,1,rfl,⟨rfl,.inr ⟨y,t,rfl,rfl⟩⟩,R.1,R.2⟩
theorem d5n(x:Hp)(t:Nat):eV x t=if a0e x t=true then 2 else 0:=by
 unfold eV a0e a1k;by_cases b:x.E=1;simp[b];by_cases a:x.E=2
 ·simp[a]
 by_cases c:x.E=3
 ·simp[c]
 simp[b,a,c]
theorem b6s(x:Hp)(b bn t:Nat)(w:World)(h:w.cell? (aA b 5)=some (iv x.E))(f:w.cell? (aA b 6)=some (iv x.I))(g:w.cell? (aA bn (t*2))=some (iv t)):
  Calls prog 220 #[pP b,ndp bn t] w λe w'=>e=.returned (iv (eV x t))/\Ext w w':=by
 have a:=d5n x t;have c:=uU (a6y x b bn (t*2) t w h f g);cases q:a0e x t;focus
  rw[q]at c a;have E:eV x t=0:=by rw[uH a];rfl
 rotate_left
 focus
  rw[q]at c a;have E:=uU (show eV x t=2 by rw[uH a];rfl)
 all_goals
  go_in;go_wp21;refine c.mono ?_;rintro e i ⟨rfl,d⟩;go_wp21;go_ret;exact⟨by rw[uH E];rfl,d⟩
structure PMid[qd](C B:Nat)(W1:World)(b:Nat)(z:Hp)(t bn cb co:Nat)(u:Int):Prop where
 m0:W1.cell? ⟨bn,t*2,none⟩=some (iv t)
 m1:W1.cell? ⟨bn,t*2+1,none⟩=some (.pointer (some ⟨cb,co,none⟩))
 s:∃c0,S7 W1 cb co c0
 p7:∃v7,W1.cell? ⟨cb,co+7,none⟩=some v7
 f:∀j,W1.frozen? ⟨cb,j,none⟩=false
 c2:W1.cell? ⟨b,2,none⟩=some (iv u)
 c5:W1.cell? ⟨b,5,none⟩=some (iv z.E)
 c6:W1.cell? ⟨b,6,none⟩=some (iv z.I)
 lo:B<=cb
 dd:∀q ob,(default:uL).z q=some ob->W1.heap[q]?=some ob
 ne:cb≠b/\cb≠bn/\∀q ob,(default:uL).z q=some ob->cb≠q
 fin:∀(k:Int)(n:Nat)(col:Int)(W:World)(qb:Nat),Ext W1 W->a6i W1 W qb n->SOq (C+1) B (eZ W cb co (tZ u k n col) (.slice (some ⟨qb,0,none⟩) n n)) b { z with born:=u,A:=tW z t (tZ u k n col) }
structure PLD[qd](C B:Nat)(w':World)(b:Nat)(z:Hp)(t bn cb co:Nat):Prop where
 ft:t=uE z
 b2:w'.cell? ⟨b,2,none⟩=some (iv z.born)
 f2:w'.frozen? ⟨b,2,none⟩=false
 lo:B<=b
 dd:∀q ob,(default:uL).z q=some ob->w'.heap[q]?=some ob
 mid:∀(u:Int)(W1:World),Ext (w'.setCell ⟨b,2,none⟩ (iv u)) W1->PMid C B W1 b z t bn cb co u
theorem SOq.plc[qd](h:SOq C B w b z)(s:Snd z)(hC:C<=1000000000)(c:Nat)(af:z.K+(1+(c:Int))<=z.M)(v:World)(hv:v.heap.size<=B)(hx:Ext v w):
  Calls prog 219 #[pP b] w λe w'=>∃t bn cb co:Nat,e=.returned (ndp bn t)/\Hid (PLD C B w' b z t bn cb co)/\Ext v w':=by
 have⟨ar,kr,a4,n4,k4,a8,m8,k8,br,cB,cO,bn,pb,pa,pk,kn,hd,vf,F,vk,K,M,h,o,kk,l⟩:=h;have ad:=s.r1.B;have N:0<z.B.length:=by omega
 refine(d1e h o hC N s.ok.n8 l (λV=>by
  have cr:=s.crowd V;have r3:=s.r3;unfold R3 at r3;omega) v hv hx).mono ?_
 rintro e w' ⟨t,he,T,E⟩;have⟨L,i,x,G,ab,ae,aa,F',D,r,Z,g⟩:=uH T;have⟨tl,R,xg,xo,y,H⟩:=r.len;refine⟨t,bn,x t,G t,he,⟨L,?_,g.sb.nb.2 2,g.sb.lo.1,λq j m=>(g.pr q j m).2,λu W1 Q=>?_⟩,E⟩;have:=g.sb.bx.2.2.1;rw[show i.born=z.born by obtain⟨_,rfl⟩|⟨_,rfl⟩:=r <;> rfl]at this;exact this;have d:=(g.boxed (x':={ i with born:=u }) (tE w' b 2 _) (g.sb.nb.set _ _) rfl rfl rfl (g.sb.bx.set2 u) (λk hk=>uC _ (.inr (by omega)))).ext Q;have a:t<({ i with born:=u }:Hp).A.length:=tl;refine⟨(d.sb.nd t a).1,(d.sb.nd t a).2,⟨_,d.rw.s t a⟩,⟨_,d.rw.p7 t a⟩,(d.rw.nc t a).1.2,d.sb.bx.2.2.1,?_,?_,(d.rw.nc t a).2,λq j m=>(d.pr q j m).2,⟨λe=>(by have:=d.sp.c t a;rw[e,d.sp.b]at this;cases this),λe=>(by have:=d.sp.c t a;rw[e,d.sp.n]at this;cases this),λq j m e=>(by have:=d.sp.c t a;rw[e,(d.pr q j m).1]at this;cases this)⟩,λk n f W X eW J=>?_⟩
 ·have:=d.sb.bx.2.2.2.2.2.1;rw[show({ i with born:=u }:Hp).E=z.E from y]at this;exact this
 have:=d.sb.bx.2.2.2.2.2.2.1;rw[show({ i with born:=u }:Hp).I=z.I from H]at this;exact this;have⟨ac,P,Y,I,O⟩:=d.newcell (by show 0<i.B.length;rw[R];exact N:0<({ i with born:=u }:Hp).B.length) t a (tZ u k n f) n rfl eW X J.lt J.nf J.z;have ex:({ ({ i with born:=u }:Hp) with A:=({ i with born:=u }:Hp).A.set t (tZ u k n f) }:Hp)={ z with born:=u,A:=tW z t (tZ u k n f) }:=by
  have U:({ i with born:=u }:Hp).A.set t (tZ u k n f)=tW z t (tZ u k n f):=r.set _;rw[U];obtain⟨_,rfl⟩|⟨_,rfl⟩:=r <;> rfl
 rw[ex]at O;have A:zH (C+1) { z with born:=u,A:=tW z t (tZ u k n f) } F' K:=o.made Z (tZ u k n f) rfl (by rw[L]) rfl rfl s.r1.I;exact⟨_,_,_,_,_,_,_,_,_,_,_,_,_,_,_,_,_,_,_,_,_,_,O,A,kk,l⟩
end Go.Proofs.YtolmnenlnpbcfaaGreatDoor
