import Derived.Test.YtgkpaibbdkggiaaGreatDoorDrg
import Derived.Test.YtgkpaibbdkggiaaGreatDoorWy
set_option maxRecDepth 100000
set_option maxHeartbeats 4000000
namespace Go.Proofs.YtgkpaibbdkggiaaGreatDoor
open Go.RowKit Go.Proofs.Tryz
attribute [local go_sem ↓] Go.wp_at_zero Go.wp_at_succ
attribute [local go_sem] He.v He.v1 He.v2
variable{w W V w0:World}{Y:Yt}{u:Value}{p lo hi n L c t:Nat}{A:Ak}{d:He}{x:Hp}
structure Rs(r:Nat)(W:World):Prop where
 h:cK W r Hp0 (.slice none 0 0) (.slice none 0 0) (.slice none 0 0)
 nf:Nf1 r W
 a:ABx W (r+1) ⟨0,0,0,0,0⟩
theorem Rs.only{r:Nat}(h:Rs r w)(o:uZ (λq=>q=c) w W)(n:r+2<=c):Rs r W:=
 ⟨h.h.only o (λe=>by omega),⟨kF h.nf.1 o.size,a5m h.nf (o.block r h.nf.1 (λe=>by omega))|>.2⟩,h.a.blk (o.block _ (uQ h.a.1.1) (λe=>by omega))⟩
def b8f(w:World)(p:Nat)(A:Ak):World:=((((w.setCell (aA p 0) (iv A.op)).setCell (aA p 1) (iv A.a)).setCell (aA p 2) (iv A.b)).setCell (aA p 3) (iv A.c)).setCell (aA p 4) (iv A.n)
theorem c5o(w:World)(p:Nat)(A:Ak):uZ (λq=>q=p) w (b8f w p A):=by unfold b8f;repeat (first|(with_reducible refine uZ.setCell ?_ (by simp) _)|(with_reducible exact uZ.refl _ _))
theorem ABx.put(h:ABx w p A)(C:Ak):ABx (b8f w p C) p C:=by
 obtain⟨⟨a0,a1,a2,a3,a4⟩,f⟩:=h;have l:=uQ a0;unfold b8f;exact⟨⟨by simp[go_sem,a0],by simp[go_sem,a1],by simp[go_sem,a2],by simp[go_sem,a3],by simp[go_sem,a4]⟩,λj=>by simp[go_sem,f]⟩
def YAt(Y:Yt)(w:World)(u:Value):Prop:=∃ad k,u=.slice ad Y.n k/\∀i,i<Y.n->∃b o,ad=some ⟨b,o,none⟩/\w.cell? ⟨b,o+i,none⟩=some (.int .u8 (Y.f i))
theorem YAt.ext(h:YAt Y w u)(e:Ext w W):YAt Y W u:=have⟨ad,k,a,b⟩:=h;⟨ad,k,a,λi l=>have⟨p,o,c,d⟩:=b i l;⟨p,o,c,e.keep d⟩⟩
theorem ByAt.y(h:ByAt w u):∃Y,YAt Y w u:=by
 obtain⟨ad,n,k,rfl,hn,hx⟩:=h;have t:∀i,∃z:Int,(0<=z/\z<256)/\(i<n->∃b o,ad=some ⟨b,o,none⟩/\w.cell? ⟨b,o+i,none⟩=some (.int .u8 z)):=λi=>by
  by_cases l:i<n
  ·obtain⟨b,o,z,e,c,d⟩:=hx i l;exact⟨z,d,λ_=>⟨b,o,e,c⟩⟩
  ·exact⟨0,by omega,λe=>absurd e l⟩
 exact⟨⟨n,λi=>(t i).choose,hn,λi=>(t i).choose_spec.1⟩,ad,k,rfl,λi l=>(t i).choose_spec.2 l⟩
structure Td(Y:Yt)(x:Hp)(A:Ak):Prop where
 h:∀w u,YAt Y w u->Calls prog 4 #[u] w λe w'=>∃(ar:Option Addr)(kr:Nat)(ac:Option Addr)(kc:Nat)(ag:Option Addr)(kg:Nat),Hid (e=.returned (.tuple #[x.v (.slice ar x.B.length kr) (.slice ac x.A.length kc) (.slice ag x.D.length kg),A.v]))/\Hid (HV w' x ar kr ac kc ag kg)/\Ext w w'
def v0(w:World)(u:Value):World:=((w.alloc (.cells #[iv 0,iv 0,iv 0,.slice none 0 0,.slice none 0 0,iv 0,iv 0,iv 0,.slice none 0 0,iv 0,iv 0,iv 0,iv 0] 27)).alloc (.cells #[iv 0,iv 0,iv 0,iv 0,iv 0] 29)).alloc (.cells #[u,iv 0,.int .u64 0] 58)
theorem d4n(w:World)(u:Value):Ext w (v0 w u):=(((hO w).alloc _).alloc _).alloc _
theorem v0_cu(h:YAt Y w u):Cu Y (v0 w u) (v0 w u) (w.heap.size+1+1) 0 0:=by
 have x:=d4n w u;obtain⟨ad,k,rfl,hx⟩:=h;refine⟨uZ.refl _ _,⟨by unfold v0;simp,λj=>by unfold v0;simp[go_sem]⟩,ad,k,by unfold v0;simp[go_sem],by unfold v0;simp[go_sem],by unfold v0;simp[go_sem],λi l=>have⟨b,o,e,d⟩:=hx i l;⟨b,o,e,λq=>?_,x.keep d⟩,by unfold v0;simp[go_sem]⟩
 have:b<w.heap.size:=uQ d;omega
theorem v0_rs(w:World)(u:Value):Rs w.heap.size (v0 w u):=by
 have a:=cK.new w Hp0 (.slice none 0 0) (.slice none 0 0) (.slice none 0 0) 27
 have b:=ABx.new (w.alloc (.cells #[iv 0,iv 0,iv 0,.slice none 0 0,.slice none 0 0,iv 0,iv 0,iv 0,.slice none 0 0,iv 0,iv 0,iv 0,iv 0] 27)) ⟨0,0,0,0,0⟩ 29
 unfold v0;exact⟨(a.ext ((hO _).alloc _)).ext ((hO _).alloc _),⟨by simp;omega,λj=>by simp[go_sem]⟩,by simpa using b.blk (((hO _).alloc (.cells #[u,iv 0,.int .u64 0] 58)).block _ (by simp))⟩
theorem d4o{B k g:Nat}{z:Int}{v u:World}(C:Cu Y v u c k z)(G:GG (λq=>q=c) B u g x)(s:Snd x):∃ar kr ac kc ag kg,Bx u g x ar kr ac kc ag kg/\Hid (∀W,uZ (λq=>q<B) u W->HV W x ar kr ac kc ag kg)/\Calls prog 15 #[x.v (.slice ar x.B.length kr) (.slice ac x.A.length kc) (.slice ag x.D.length kg)] u λe w=>∃g2,e=.returned (pP g2)/\Hid (Bd Y u.heap.size u (w.alloc (.cells #[pP c,pP g2,.slice none 0 0,iv 1] 66)) w.heap.size c g2 ⟨k,z,x,[],1⟩):=by
 obtain⟨ar,kr,ac,kc,ag,kg,b,H,_⟩:=G.out s.bns.bd;have h:=(H u (uZ.refl _ _)).1;have t:=s.bns
 exact⟨ar,kr,ac,kc,ag,kg,b,H,(letI:Inhabited uL:=⟨⟨λ_=>none⟩⟩;b3z (λ_=>rfl) x u h.1 h.2.1 h.2.2 (by rw[t.1];omega) (by rw[t.1];omega) t.2.1 t.2.2.1 t.2.2.2).mono λ_ w ⟨g2,a,⟨_,_,_,_,_,_,_,_,_,_,_,d⟩,e⟩=>⟨g2,a,Bd.copy C.here s (GAt.gg d (λq i=>by have l:=C.2.1.1;have:=e.size;rw[i];omega)) e⟩⟩
def DaP(Y:Yt)(T:Tx)(q:Int)(k:Nat)(z:Int)(L:List Ak):Prop:=∃U:Tx,(q=0/\Tb Y T 16 [] (.tuple #[]) U/\k=U.k/\z=U.z/\L=U.L)\/(q≠0/\Tb Y T 17 [] (.tuple #[]) U/\((q=1/\∃(l:0<U.L.length)(C:Ak),a3a C/\Tc Y U.k U.z 18 [U.L[0].v] C.v k z/\L=U.L.set 0 C)\/((q=1->U.L=[])/\k=U.k/\z=U.z/\L=U.L)))
theorem da_d{T:Tx}(q:Int)(i:Ne Y T)(hk:T.k<=9999):∃(k:Nat)(z:Int)(L:List Ak),k<=T.k+30/\DaP Y T q k z L:=by
 by_cases q0:q=0
 ·obtain⟨U,a,_,t⟩:=a4q i;exact⟨U.k,U.z,U.L,by omega,U,.inl ⟨q0,t,rfl,rfl,rfl⟩⟩
 ·obtain⟨U,a,j,t⟩:=act_d i;by_cases h:q=1/\0<U.L.length
  ·have f:a3a U.L[0]:=by obtain⟨B,v,w,b,c,g,_,h⟩:=j;exact h.hL _ (k7 _)
   obtain⟨C,k,z,d,e,t2⟩:=d3q Y U.k U.z _ f (by omega);exact⟨k,z,_,by omega,U,.inr ⟨q0,t,.inl ⟨h.1,h.2,C,d,t2,rfl⟩⟩⟩
  ·exact⟨U.k,U.z,U.L,by omega,U,.inr ⟨q0,t,.inr ⟨λe=>mU (by omega),rfl,rfl,rfl⟩⟩⟩
theorem draw_d(n:∃w u,YAt Y w u):∃(x:Hp)(A:Ak),Td Y x A:=by
 have n0:Nc Y 0 0:=by obtain⟨w,u,h⟩:=n;exact⟨_,_,_,v0_cu h⟩
 obtain⟨y0,k1,s1,_,_,_,P1⟩:=cV Y 0 0 5;have n1:=P1.ne n0;clear n n0
 rcases (by omega:y0=0\/y0≠0) with rfl|h0
 obtain⟨x,k2,s2,_,M⟩:=midst_d Y k1 s1 n1 (by omega);obtain⟨z,k3,s3,_,_,_,P2⟩:=cV Y k2 s2 4;obtain⟨q,k4,s4,_,_,_,P3⟩:=cV Y k3 s3 3
 obtain⟨A,HA⟩:∃A:Ak,Hid (((q == 0)=true/\A=⟨18,0,0,0,0⟩)\/((q == 0)=false/\A=⟨10,0,0,z,0⟩)):=by
  cases t:(q == 0)
  ·exact⟨_,.inr ⟨rfl,rfl⟩⟩
  ·exact⟨_,.inl ⟨rfl,rfl⟩⟩
 refine⟨x,A,⟨λw u h=>?_⟩⟩;rotate_left
 have h0:(y0 == 0)=false:=beq_false_of_ne h0
 obtain⟨T,_,nT,HT⟩:=d3n Y k1 s1 n1 (by omega);have S0:=uU (show Snd T.x by obtain⟨B,v,w,b,c,g,h⟩:=nT;exact h.at.1);obtain⟨T0,e0⟩:=obE (⟨T.k,T.z,T.x,[],1⟩:Tx)
 have i0:Ne Y T0:=by obtain⟨B,v,w,b,c,g,h⟩:=nT;obtain⟨_,_,_,_,_,_,_,_,q⟩:=d4o h.at.2.2.2 h.at.2.1 h.at.1;obtain⟨_,w',_,⟨g2,_,d⟩,_⟩:=q [];rw[e0];exact⟨_,_,_,_,_,_,d⟩
 have t0:T0.k=T.k:=by rw[e0]
 obtain⟨y3,U,_,_,_,_,i1,P2⟩:=eY 8 i0;obtain⟨k3,s3,L,_,DA⟩:=da_d y3 i1 (by omega);obtain⟨y4,k4,s4,_,_,_,P3⟩:=cV Y k3 s3 12
 obtain⟨x,k5,s5,SO⟩:∃x k5 s5,Hid (((y4 == 0)=true/\Ts Y k4 s4 T.x 19 x k5 s5)\/((y4 == 0)=false/\T.x=x/\k4=k5/\s4=s5)):=by
  cases t:(y4 == 0)
  ·exact⟨_,_,_,.inr ⟨rfl,rfl,rfl,rfl⟩⟩
  ·obtain⟨x,k5,s5,_,t⟩:=spoil_d Y k4 s4 T.x S0.bns (by omega);exact⟨x,k5,s5,.inl ⟨rfl,t⟩⟩
 obtain⟨A,HA⟩:∃A:Ak,Hid ((∃l:0<L.length,L[0]=A)\/(L.length=0/\A=⟨21,0,0,0,0⟩)):=by
  by_cases l:0<L.length
  ·exact⟨_,.inl ⟨l,rfl⟩⟩
  ·exact⟨_,.inr ⟨by omega,rfl⟩⟩
 have E0:=uU e0;have DA:=uU DA;clear e0 nT i0 i1 t0;refine⟨x,A,⟨λw u h=>?_⟩⟩;rotate_left
 all_goals
  have CU:=uU (v0_cu h);have RS:=uU (v0_rs w u);have XV:=uU (d4n w u);obtain⟨ad,kd,rfl,_⟩:=h;obtain⟨v,hv⟩:=obE (v0 w (.slice ad Y.n kd));obtain⟨r,hr⟩:=obE w.heap.size;obtain⟨c,hc⟩:=obE (w.heap.size+1+1);rw[<-hv]at CU RS XV;rw[<-hc]at CU;rw[<-hr]at RS;have sv:v.heap.size=c+1:=by rw[hv,hc];unfold v0;simp
  have cr:r+2<=c:=by omega
  unfold v0 at hv;go_in;go_wp21;rw[<-hv,<-hc,<-hr];refine(P1.h v v c CU).mono ?_;rintro e w1 ⟨rfl,cu⟩;have HR:=uU hr;clear hv hr hc CU;have CU:=uU cu.1;clear cu
 focus
  go_wp21;refine(M.h v w1 c CU).mono ?_;rintro e w2 ⟨g,B,he,SE⟩;obtain⟨e2,vB⟩:=uH he;subst e2;clear he CU;have CU:=uU SE.1;have SE:=uU SE.2
  go_wp21;refine(P2.h v w2 c CU).mono ?_;rintro e w3 ⟨rfl,cu⟩
  have SE:=uU (show GG (λq=>q=c) B w3 g x/\Bnd x from⟨SE.1.poke cu.2 (λ_ e=>e),SE.2⟩);clear CU;have CU:=uU cu.1;clear cu
  go_wp21
  obtain⟨W4,hW⟩:=obE (w3.alloc (.cells #[iv 10,iv 0,iv 0,iv z,iv 0] 29));rw[<-hW];obtain⟨p,hp⟩:=obE w3.heap.size;rw[<-hp]
  have x4:Ext w3 W4:=by rw[hW];exact(hO _).alloc _
  have s4:W4.heap.size=p+1:=by rw[hW,hp];simp
  have pc:c<p:=by have:=CU.2.1.1;omega
  have AB:=uU (show ABx W4 p ⟨10,0,0,z,0⟩ by rw[hW,hp];exact ABx.new w3 ⟨10,0,0,z,0⟩ _)
  have SE:=uU (show GG (λq=>q=c\/q=p) B W4 g x/\Bnd x from⟨SE.1.more x4 (λq e=>e.imp id (λe=>⟨by omega,by omega⟩)),SE.2⟩)
  have CU:=uU (CU.ext x4);clear hW hp x4
  refine(P3.h v W4 c CU).mono ?_;rintro e w5 ⟨rfl,cu⟩
  have AB:=uU (AB.blk (cu.2.block p (by omega) (by omega)))
  have SE:=uU (show GG (λq=>q=c\/q=p) B w5 g x/\Bnd x from⟨SE.1.poke cu.2 (λ_ e=>.inl e),SE.2⟩);have s5:p<w5.heap.size:=by have:=cu.2.size;omega
  clear CU s4;have CU:=uU cu.1;clear cu
  go_upto_if 22 with(fail)
  go_cut [] (λwx=>Hid (ABx wx p A)/\Hid (GG (λq=>q=c\/q=p) B wx g x/\Bnd x)/\Hid (Cu Y v wx c k4 s4))
  case first=>
   obtain⟨⟨a0,a1,a2,a3,a4⟩,af⟩:=uH AB;rcases uH HA with⟨t,e⟩|⟨t,e⟩
   ·have o:=c5o w5 p A;have K1:=uU (AB.put A);have K2:=uU (show GG (λq=>q=c\/q=p) B (b8f w5 p A) g x/\Bnd x from⟨SE.1.poke o (λ_ e=>.inr e),SE.2⟩);have K3:=uU (CU.blk (CU.1.pst o (λq e=>by omega)) (o.block c (by omega) (by omega)));clear o AB SE CU;unfold b8f at K1 K2 K3;subst e
    go_wp21;go_meet;exact⟨K1,K2,K3⟩
   ·have E:=uU e;clear e;go_wp21;go_meet;rw[uH E];exact⟨AB,SE,CU⟩
  clear AB SE CU;obtain⟨AB,SE,CU⟩:=hcut;have o:=CU.1;obtain⟨⟨r0,r1,r2,r3,r4,r5,r6,r7,r8,r9,r10,r11,r12⟩,⟨rl,rf⟩,⟨q0,q1,q2,q3,q4⟩,qf⟩:=RS.only o cr;obtain⟨ar,kr,ac,kc,ag,kg,⟨d0,d1,d2,d3,d4,d5,d6,d7,d8,d9,d10,d11,d12⟩,HH,Bg⟩:=SE.1.out SE.2;obtain⟨⟨a0,a1,a2,a3,a4⟩,_⟩:=uH AB
  have n1:¬g=r:=by omega
  have n2:¬g=r+1:=by omega
  have n3:¬p=r:=by omega
  have n4:¬p=r+1:=by omega
  have XW:=uU (o.ext XV (λq l e=>by have:=uH HR;omega));clear o CU SE AB s5 pc
  go_wp21
  go_region
  go_wp21
 rotate_left
 focus
  go_wp21;refine(HT.h v w1 c CU).mono ?_;rintro e u ⟨b0,g,B,he,BD⟩;have e2:=uH he;subst e2;clear he CU;obtain⟨_,G,vB,cu⟩:=BD.at
  have G:=uU G;have CV:=uU cu;clear BD cu;obtain⟨ar,kr,ac,kc,ag,kg,⟨d0,d1,d2,d3,d4,d5,d6,d7,d8,d9,d10,d11,d12⟩,_,Q⟩:=d4o CV G S0;have Q:=uU Q;have hg:=uQ d0
  go_wp21;refine Q.mono ?_;rintro e w2 ⟨g2,rfl,BD⟩;rw[<-uH E0]at BD;clear Q d0 d1 d2 d3 d4 d5 d6 d7 d8 d9 d10 d11 d12
  go_wp21;refine(Tk.go (F:=12) BD P2).mono ?_;rintro e w3 ⟨rfl,bd,_⟩;clear BD;obtain⟨b,hb⟩:=obE w2.heap.size;rw[<-hb]at bd ⊢;clear hb
  go_upto_block 0 with(fail)
  go_cut [] (λwx=>∃va,Hid (Ds Y u wx b c k3 s3 va L))
  case first=>
   obtain⟨V,⟨q0,t,e⟩|⟨q0,t,⟨q1,l,C,fC,t2,e⟩|⟨q1,e⟩⟩⟩:=DA
   ·have E:=uU e;clear e;subst q0;go_wp2_with (go_at_call 16;refine(Tb.go (F:=16) bd t).mono ?_;rintro e w4 ⟨rfl,bd,_⟩)
    go_meet;obtain⟨va,d⟩:=bd.ds;exact⟨va,by rw[E.1,E.2.1,E.2.2];exact d⟩
   ·have E:=uU e;have FC:=uU fC;clear e fC;subst q1;go_upto_region 16 with(go_at_call 17;refine(Tb.go (F:=17) bd t).mono ?_;rintro e w4 ⟨rfl,bd,_⟩;obtain⟨va,d⟩:=bd.ds;obtain⟨ad2,cap,rfl,ff⟩:=d.form;have b2:=d.b2;have DS:=uU d;clear bd d)
    have bl:b<w4.heap.size:=uQ b2
    obtain⟨p,rfl⟩:∃p,ad2=some ⟨p,0,none⟩:=ff l;obtain⟨⟨a0,a1,a2,a3,a4⟩,_⟩:=b9t DS.ow l;have pl:p<w4.heap.size:=uQ a0
    have l1:(V.L.length:Int)>0:=by omega
    go_wp21
    go_region_with (go_at_call 18;refine(t2.h u _ c (DS.cu.ext (by first|exact hO _|exact eDr _))).mono ?_;rintro e w6 ⟨rfl,cu⟩;have D6:=uU ((DS.ext (by first|exact hO _|exact eDr _)).read cu.2 cu.1);obtain⟨⟨g0,g1,g2,g3,g4⟩,gf⟩:=b9t D6.ow l;have pl6:p<w6.heap.size:=uQ g0;have b6:=D6.b2;have bl6:b<w6.heap.size:=uQ b6)
    all_goals
     have PT:=uU (D6.put l C FC);rw[<-uH E]at PT;clear g0 g1 g2 g3 g4 gf b6
     go_wp21;go_meet;exact⟨_,PT⟩
   ·have E:=uU e;have Q1:=uU q1;have t0:(y3 == 0)=false:=beq_false_of_ne q0
    clear e q1 q0;cases t1:(y3 == 1)
    ·go_wp2_with (go_at_call 17;refine(Tb.go (F:=17) bd t).mono ?_;rintro e w4 ⟨rfl,bd,_⟩)
     go_meet;obtain⟨va,d⟩:=bd.ds;exact⟨va,by rw[E.1,E.2.1,E.2.2];exact d⟩
    ·have l0:V.L.length=0:=by rw[uH Q1 (by simpa using t1)];rfl
     go_upto_region 16 with(go_at_call 17;refine(Tb.go (F:=17) bd t).mono ?_;rintro e w4 ⟨rfl,bd,_⟩;obtain⟨va,d⟩:=bd.ds;obtain⟨ad2,cap,rfl,ff⟩:=d.form;have b2:=d.b2;have DS:=uU d;clear bd d)
     have bl:b<w4.heap.size:=uQ b2
     have l1:¬(V.L.length:Int)>0:=by omega
     clear l0;go_wp21;go_meet;exact⟨_,by rw[E.1,E.2.1,E.2.2];exact uH DS⟩
  clear bd;obtain⟨va,DS⟩:=hcut;go_wp21;refine(P3.h u wc c DS.cu).mono ?_;rintro e w4 ⟨rfl,cu⟩;have DS:=uU (DS.read cu.2 cu.1);clear cu
  have SP:=uU (DS.sp CV G S0.bns vB)
  go_upto_if 70 with(fail)
  go_cut [] (λwx=>Hid (SpE Y (dsS c b va) B v w4 c g k5 s5 x wx))
  case first=>
   rcases uH SO with⟨t,sp⟩|⟨t,e⟩
   ·go_wp2_with (go_at_call 19;refine(sp.h _ _ _ _ _ _ _ SP).mono ?_;rintro e w5 ⟨rfl,E⟩)
    go_meet;exact E
   ·have E:=uU e;clear e;go_wp21;go_meet;rw[<-E.1,<-E.2.1,<-E.2.2];exact SP.end_
  have CU:=uU hcut.1;have o:=CU.1;have eb:=hcut.2.1;have G:=uU hcut.2.2;clear hcut SP;have b2:=(dE (eb b (.inr (.inl rfl)) DS.bc)).trans DS.b2;obtain⟨ad2,cap,rfl,ff⟩:=DS.form
  have OW:=uU (uN DS.ow (λq i=>eb q (.inr (.inr i)) (λe=>DS.n2 (by rw[i,e]))));have bl:b<wc.heap.size:=uQ b2
  obtain⟨⟨r0,r1,r2,r3,r4,r5,r6,r7,r8,r9,r10,r11,r12⟩,⟨rl,rf⟩,⟨q0,q1,q2,q3,q4⟩,qf⟩:=RS.only o cr;obtain⟨ar,kr,ac,kc,ag,kg,⟨d0,d1,d2,d3,d4,d5,d6,d7,d8,d9,d10,d11,d12⟩,HH,Bg⟩:=G.1.out G.2
  have ub:=DS.ub;have uv:=CV.1.size
  have n1:¬g=r:=by omega
  have n2:¬g=r+1:=by omega
  have n3:¬b=r:=by omega
  have n4:¬b=r+1:=by omega
  have XW:=uU (o.ext XV (λq l e=>by have:=uH HR;omega));clear G o CU
  rcases uH HA with⟨l,ea⟩|⟨l,ea⟩
  rotate_left
  ·have l1:((L.length:Int) == 0)=true:=by rw[beq_iff_eq];omega
   clear OW DS ff ub uv eb l;subst ea
   go_wp21
   refine bodyPost_ret (v:=.tuple #[x.v (.slice ar x.B.length kr) (.slice ac x.A.length kc) (.slice ag x.D.length kg),(⟨21,0,0,0,0⟩:Ak).v]) (by simp[results,results4,go_sem,r0,r1,r2,r3,r4,r5,r6,r7,r8,r9,r10,r11,r12,q0,q1,q2,q3,q4]) rfl ⟨ar,kr,ac,kc,ag,kg,rfl,?_⟩
   refine(λ(F:uZ (λq=>q=r\/q=r+1) wc _)=>⟨uH HH _ (F.mono λq e=>by omega),F.ext XW (λq l e=>by have:=uH HR;omega)⟩) ?_
   repeat (first|(with_reducible refine uZ.setCell ?_ (by simp) _)|(with_reducible refine uZ.drew ?_)|(with_reducible exact uZ.refl _ _))
  obtain⟨p,rfl⟩:∃p,ad2=some ⟨p,0,none⟩:=ff l;obtain⟨⟨a0,a1,a2,a3,a4⟩,_⟩:=b9t OW l;have pu:=(OW.lt p rfl).1;rw[ea]at a0 a1 a2 a3 a4;clear ea
  have n5:¬p=r:=by omega
  have n6:¬p=r+1:=by omega
  clear OW DS ff ub uv
  have l1:((L.length:Int) == 0)=false:=beq_false_of_ne (by omega)
  go_wp21
  go_region
  go_wp21
  refine bodyPost_ret (v:=.tuple #[x.v (.slice ar x.B.length kr) (.slice ac x.A.length kc) (.slice ag x.D.length kg),A.v]) (by simp[results,results4,go_sem,r0,r1,r2,r3,r4,r5,r6,r7,r8,r9,r10,r11,r12,q0,q1,q2,q3,q4]) rfl ⟨ar,kr,ac,kc,ag,kg,rfl,?_⟩
 rotate_right
 refine bodyPost_ret (v:=.tuple #[x.v (.slice ar x.B.length kr) (.slice ac x.A.length kc) (.slice ag x.D.length kg),A.v]) (by simp[results,results4,go_sem,r0,r1,r2,r3,r4,r5,r6,r7,r8,r9,r10,r11,r12,q0,q1,q2,q3,q4]) rfl ⟨ar,kr,ac,kc,ag,kg,rfl,?_⟩
 all_goals
  refine(λ(F:uZ (λq=>q=r\/q=r+1) wc _)=>⟨uH HH _ (F.mono λq e=>by omega),F.ext XW (λq l e=>by have:=uH HR;omega)⟩) ?_
  repeat (first|(with_reducible refine uZ.setCell ?_ (by simp) _)|(with_reducible refine uZ.drew ?_)|(with_reducible exact uZ.refl _ _))
theorem d5a(h:ByAt w u):∃r:Nat,r<256/\∀W,Ext w W->Calls prog 10 #[u,iv 0] W λe w'=>e=.returned (iv r)/\w'=W:=by
 obtain⟨ad,n,k,rfl,hn,hx⟩:=h;by_cases l:n=0;subst l;refine⟨0,by omega,λW _=>?_⟩;go_in;go_wp21;go_ret;exact⟨rfl,rfl⟩;obtain⟨b,o,z,rfl,c,z0,z1⟩:=hx 0 (by omega);obtain⟨z,rfl⟩:=km z0;refine⟨z,by omega,λW e=>?_⟩;rw[kw]at c;have c:=e.keep c;have q:b<W.heap.size:=uQ c;have e0:((n:Int) == 0)=false:=beq_false_of_ne (by omega);have j:(0:Int)<n:=by omega
 go_in;go_wp21;go_ret;exact⟨rfl,rfl⟩
abbrev He.bx(e:He)(p:Nat)(W:World):Prop:=W.cell? ⟨p,0,none⟩=some (iv e.z.M)/\W.cell? ⟨p,1,none⟩=some (iv e.z.K)/\W.cell? ⟨p,2,none⟩=some (iv e.z.born)/\W.cell? ⟨p,3,none⟩=some (.slice e.ar e.z.B.length e.kr)/\W.cell? ⟨p,4,none⟩=some (.slice e.ac e.z.A.length e.kc)/\W.cell? ⟨p,5,none⟩=some (iv e.z.E)/\W.cell? ⟨p,6,none⟩=some (iv e.z.I)/\W.cell? ⟨p,7,none⟩=some (iv e.z.sub)/\W.cell? ⟨p,8,none⟩=some (.slice e.ag e.z.D.length e.kg)/\W.cell? ⟨p,9,none⟩=some (iv e.z.per)/\W.cell? ⟨p,10,none⟩=some (iv e.z.V)/\W.cell? ⟨p,11,none⟩=some (iv e.z.Q)/\W.cell? ⟨p,12,none⟩=some (iv e.z.S)
theorem He.bxe{e:He}(h:e.bx p w)(x:Ext w W):e.bx p W:=cK.ext (x:=e.z) h x
theorem He.new(e:He)(w:World)(t:TypeId):e.bx w.heap.size (w.alloc (.cells e.c t)):=cK.new w e.z _ _ _ t
def He.b2(e:He)(a b:Int)(p:Nat)(W:World):Prop:=e.bx p W/\W.cell? ⟨p,13,none⟩=some (iv a)/\W.cell? ⟨p,14,none⟩=some (iv b)
theorem He.new2(e:He)(a b:Int)(w:World)(t:TypeId):e.b2 a b w.heap.size (w.alloc (.cells (e.c2 a b) t)):=by and_intros<;>simp[go_sem]
theorem wSame{e:He}(h:e.at w)(k:d.rd w)(q:d.z=e.z):Calls prog 6 #[e.v,d.v] w λr W=>r=.returned (.bool true)/\Ext w W:=by
 obtain⟨z,p,n,f,a,b,c⟩:=d;cases q;exact c5x e.z w h.1 k
theorem ABx.e(h:ABx w p A)(x:Ext w W):ABx W p A:=have⟨⟨a,b,c,d,e⟩,f⟩:=h;⟨⟨x.keep a,x.keep b,x.keep c,x.keep d,x.keep e⟩,λj=>((cE x).2 _ j (uQ a)).trans (f j)⟩
theorem fieldD(a b c d e f g h i j k l m n o:Value)(w:World):Sem.run prog (Instr.field 35 (.agg #[a,b,c,d,e,f,g,h,i,j,k,l,m,n,o]) 0) w=.ok (.agg #[a,b,c,d,e,f,g,h,i,j,k,l,m]) w:=by kernel_rfl
theorem fieldS(a b c d e f g h i j k l m n o:Value)(w:World):Sem.run prog (Instr.field 39 (.agg #[a,b,c,d,e,f,g,h,i,j,k,l,m,n,o]) 0) w=.ok (.agg #[a,b,c,d,e,f,g,h,i,j,k,l,m]) w:=by kernel_rfl
theorem fieldT(a b c d e f g h i j k l m n:Value)(w:World):Sem.run prog (Instr.field 42 (.agg #[a,b,c,d,e,f,g,h,i,j,k,l,m,n]) 0) w=.ok (.agg #[a,b,c,d,e,f,g,h,i,j,k,l,m]) w:=by kernel_rfl
theorem Td.go(t:Td Y x A)(y:YAt Y w u)(e:Ext w W):Calls prog 4 #[u] W λr V=>∃e:He,r=.returned (.tuple #[e.v,A.v])/\Hid (e.at V/\e.z=x)/\Ext W V:=
 (t.h W u (y.ext e)).mono λ_ _ ⟨p,q,r,s,t,u,a,b,c⟩=>⟨⟨x,p,q,r,s,t,u⟩,a,⟨b,rfl⟩,c⟩
def He.bo(e:He)(L o:Nat)(W:World):Prop:=W.cell? (aA L o)=some (iv e.z.M)/\W.cell? (aA L (o+1))=some (iv e.z.K)/\W.cell? (aA L (o+2))=some (iv e.z.born)/\W.cell? (aA L (o+3))=some (.slice e.ar e.z.B.length e.kr)/\W.cell? (aA L (o+4))=some (.slice e.ac e.z.A.length e.kc)/\W.cell? (aA L (o+5))=some (iv e.z.E)/\W.cell? (aA L (o+6))=some (iv e.z.I)/\W.cell? (aA L (o+7))=some (iv e.z.sub)/\W.cell? (aA L (o+8))=some (.slice e.ag e.z.D.length e.kg)/\W.cell? (aA L (o+9))=some (iv e.z.per)/\W.cell? (aA L (o+10))=some (iv e.z.V)/\W.cell? (aA L (o+11))=some (iv e.z.Q)/\W.cell? (aA L (o+12))=some (iv e.z.S)
structure Ks(lo hi:Nat->Nat)(e:Nat->He)(L:Nat)(w0 W:World)(t:Nat):Prop where
 x:Ext w0 W
 l:∀s,s<4->w0.heap.size<=lo s/\hi s<=L/\∀t,s<t->t<4->hi s<=lo t
 o:∀s,t<=s->s<4->Ovh (lo s) (hi s) W (e s)
 b:∀s,s<4->(e s).bo L (s*13) W
def Pw(lo hi:Nat)(d:He)(n b o:Nat):Prop:=lo<=b/\b<hi/\(d.ac=some (aA b 0)->o<n*8)
theorem Sw.blk{q:Nat}(s:Sw (Pw lo hi d n) W V)(l:q<W.heap.size)(h:q<lo\/hi<=q):V.heap[q]?=W.heap[q]?:=s.x.block q l λ⟨_,b⟩=>by have:=b.1;have:=b.2.1;omega
theorem He.bob{e:He}{o:Nat}(h:e.bo L o W)(k:V.heap[L]?=W.heap[L]?):e.bo L o V:=by
 unfold He.bo at *;simp only[dE k];exact h
theorem Ks.next{lo hi:Nat->Nat}{e:Nat->He}(h:Ks lo hi e L w0 W t)(l:t<4)(s:Sw (Pw (lo t) (hi t) (e t) n) W V):Ks lo hi e L w0 V (t+1):=
 have m:=h.l t l;⟨s.x.ext h.x (λq a ⟨_,b⟩=>by have:=b.1;omega),h.l,λi a b=>(h.o i (by omega) b).blk λq c d=>s.blk (by have:=(h.l i b).2.1;have:=uQ (h.b i b).1;simp only at this;omega) (.inr (by have:=m.2.2 i (by omega) b;omega)),λi a=>He.bob (h.b i a) (s.blk (uQ (h.b i a).1) (.inr m.2.1))⟩
theorem Ks.ext{lo hi:Nat->Nat}{e:Nat->He}(h:Ks lo hi e L w0 W t)(x:Ext W V):Ks lo hi e L w0 V t:=
 ⟨h.x.trans x,h.l,λi a b=>(h.o i a b).blk λq c d=>x.block q (by have:=(h.l i b).2.1;have:=uQ (h.b i b).1;simp only at this;omega),λi a=>He.bob (h.b i a) (x.block L (uQ (h.b i a).1))⟩
theorem Sw.bx{X:Nat}(s:Sw (Pw lo hi d n) W V)(h:d.bx X W)(l:hi<=X):d.bx X V:=by
 have k:=s.blk (uQ h.1) (.inr l);unfold He.bx at *;simp only[dE k];exact h
theorem Ovh.ext{e:He}(h:Ovh lo hi w e)(l:hi<=w.heap.size)(x:Ext w W):Ovh lo hi W e:=h.blk λq _ b=>x.block q (by omega)
theorem ks4{w3 wb wd we wf:World}{D G I J:He}{A:Array Value}{T:TypeId}(d:Ovh w0.heap.size w3.heap.size w3 D)(x0:Ext w0 w3)(x3:Ext w3 wb)(g:Ovh wb.heap.size wd.heap.size wd G)(xd:Ext wb wd)(i:Ovh wd.heap.size we.heap.size we I)(xe:Ext wd we)(j:Ovh we.heap.size wf.heap.size wf J)(xf:Ext we wf)(h:A.toList=D.c.toList++(G.c.toList++(I.c.toList++J.c.toList))):∃e lo hi,Hid (Ks lo hi e wf.heap.size w0 (wf.alloc (.cells A T)) 0):=by
 have k:∀o v,A.toList[o]?=some v->(wf.alloc (.cells A T)).cell? (aA wf.heap.size o)=some v:=λo v q=>by simpa[go_sem]using q
 have x:=(hO wf).alloc (.cells A T);have s0:=x0.size;have s1:=x3.size;have s2:=xd.size;have s3:=xe.size;have s4:=xf.size;refine⟨λs=>if s=0 then D else if s=1 then G else if s=2 then I else J,λs=>if s=0 then w0.heap.size else if s=1 then wb.heap.size else if s=2 then wd.heap.size else we.heap.size,λs=>if s=0 then w3.heap.size else if s=1 then wd.heap.size else if s=2 then we.heap.size else wf.heap.size,((((x0.trans x3).trans xd).trans xe).trans xf).trans x,λs l=>?_,λs _ l=>?_,λs l=>?_⟩<;>obtain rfl|rfl|rfl|rfl:=(by omega:s=0\/s=1\/s=2\/s=3)
 iterate 4 exact⟨by simp<;>omega,by simp<;>omega,λt a b=>by obtain rfl|rfl|rfl:=(by omega:t=1\/t=2\/t=3)<;>simp<;>omega⟩
 exact d.ext (hT _) ((((x3.trans xd).trans xe).trans xf).trans x);exact g.ext (hT _) ((xe.trans xf).trans x);exact i.ext (hT _) (xf.trans x);exact j.ext (hT _) x;all_goals
  unfold He.bo;and_intros<;>exact k _ _ (by rw[h];rfl)
theorem c5y(w:World)(u v:Value)(hu:ByAt w u)(hv:ByAt w v)(hg:w.cell? ⟨0,0,none⟩=some (rty 112)):
  Calls prog 3 #[u,v] w λe w'=>e=.returned (.bool true)/\Ext w w':=by
 obtain⟨Y,yu⟩:=hu.y;obtain⟨x,A,TD⟩:=draw_d ⟨w,u,yu⟩;have Q:=uU (λW (e:Ext w W)=>TD.go yu e);obtain⟨rb,b1,QB⟩:=d5a hv;have QB:=uU QB;have HG:=uU (λW (e:Ext w W)=>e.keep hg);clear TD yu;obtain⟨au,nu,ku,rfl,l1,_⟩:=hu;obtain⟨av,nv,kv,rfl,l2,_⟩:=hv;have n1:¬((nu:Int)>1048576):=by omega
 have n2:¬((nv:Int)>1048576):=by omega
 clear hg l1 l2;go_in;go_wp21;refine(Q w (hO _)).mono ?_;rintro e w1 ⟨E,rfl,V1,x1⟩;go_wp21;obtain⟨W1,hW⟩:=obE ((w1.alloc (.cells E.c 27)).alloc (.cells #[iv A.op,iv A.a,iv A.b,iv A.c,iv A.n] 29));rw[<-hW];obtain⟨p,hp⟩:=obE w1.heap.size;rw[<-hp];have xa:Ext w1 W1:=by rw[hW];exact((hO _).alloc _).alloc _
 have BX:=uU (show E.bx p W1 by rw[hW,hp];exact He.bxe (He.new E w1 _) ((hO _).alloc _));have AX:=uU (show ABx W1 (p+1) A by rw[hW,hp];have:=ABx.new (w1.alloc (.cells E.c 27)) A 29;simpa using this);have V:=uU (He.ate V1.1 xa);have EX:=uU V1.2;have X:=uU (x1.trans xa);clear hW hp xa x1 V1;refine(Q W1 X).mono ?_;rintro e w2 ⟨F,rfl,V2,x2⟩;clear Q;have BX:=uU (He.bxe BX x2);have AX:=uU (ABx.e AX x2);have V:=uU (He.ate V x2);have X:=uU (X.trans x2);clear x2;obtain⟨t0,t1,t2,t3,t4,t5,t6,t7,t8,t9,t10,t11,t12⟩:=uH BX;obtain⟨⟨a0,a1,a2,a3,a4⟩,_⟩:=uH AX;have hp:=uQ t0;have ha:=uQ a0;go_wp21;obtain⟨W2,hW⟩:=obE ((w2.alloc (.cells F.c 27)).alloc (.cells #[iv A.op,iv A.a,iv A.b,iv A.c,iv A.n] 29));rw[<-hW];obtain⟨q,hq⟩:=obE w2.heap.size;rw[<-hq];have xa:Ext w2 W2:=by rw[hW];exact((hO _).alloc _).alloc _
 have FX:=uU (show F.bx q W2 by rw[hW,hq];exact He.bxe (He.new F w2 _) ((hO _).alloc _));have FV:=uU (He.ate V2.1 xa);have EF:=uU (show F.z=E.z from V2.2.trans EX.symm);have BX:=uU (He.bxe BX xa);have AX:=uU (ABx.e AX xa);have V:=uU (He.ate V xa);have X:=uU (X.trans xa);clear hW hq xa V2 EX t0 t1 t2 t3 t4 t5 t6 t7 t8 t9 t10 t11 t12 a0 a1 a2 a3 a4 hp ha;refine(doK V _ _ _ _ _ (HG _ X)).mono ?_;rintro e w3 ⟨D,ca,cb,rfl,DK,DV,OD,x3⟩;go_upto_region 6 with(fail);obtain⟨W3,hW⟩:=obE (w3.alloc (.cells (D.c2 ca cb) 35));rw[<-hW];obtain⟨r,hr⟩:=obE w3.heap.size;rw[<-hr];have xa:Ext w3 W3:=by rw[hW];exact(hO _).alloc _
 have DX:=uU (show D.bx r W3 by rw[hW,hr];exact(He.new2 D ca cb w3 _).1);have X3:=uU x3;have XD:=uU (x3.trans xa);have DV:=uU (He.ate (uH DV) xa);have OX:=uU xa;clear hW hr xa x3;have KP:=uU (λ(W:World)(e:Ext W3 W)=>have a:=(ABx.e (uH AX) ((uH XD).trans e)).1;show D.bx r W/\F.bx q W/\W.cell? ⟨p+1,0,none⟩=some (iv A.op)/\W.cell? ⟨p+1,1,none⟩=some (iv A.a)/\W.cell? ⟨p+1,2,none⟩=some (iv A.b)/\W.cell? ⟨p+1,3,none⟩=some (iv A.c)/\W.cell? ⟨p+1,4,none⟩=some (iv A.n) from⟨He.bxe (uH DX) e,He.bxe (uH FX) ((uH XD).trans e),a.1,a.2.1,a.2.2.1,a.2.2.2.1,a.2.2.2.2⟩);have QD:=uU (λ(W:World)(e:Ext W3 W)=>(doSK (He.rde (uH FV).1 ((uH XD).trans e)) A.op A.a A.b A.c A.n).mono λ_ W' ⟨d,a,b,h,i,j,x⟩=>show∃(d:He)(a b:Int),_=Ending.returned (d.v2 a b)/\Hid (d.rd W'/\d.z=D.z)/\Ext W3 W' from⟨d,a,b,h,⟨uH j,(uH DK).uniq ((uH EF)▸uH i)⟩,e.trans x⟩);have fd:=fieldD;go_region_held3 (λW=>D.bx r W/\F.bx q W/\W.cell? ⟨p+1,0,none⟩=some (iv A.op)/\W.cell? ⟨p+1,1,none⟩=some (iv A.a)/\W.cell? ⟨p+1,2,none⟩=some (iv A.b)/\W.cell? ⟨p+1,3,none⟩=some (iv A.c)/\W.cell? ⟨p+1,4,none⟩=some (iv A.n)) ((with_reducible refine uH KP _ ?_;with_reducible (first|exact hO _|assumption|(refine mf ?_;first|exact hO _|assumption))))
  (first
   | (go_at_call 7;refine(QD _ (by first|exact hO _|exact eDr _|assumption)).mono ?_;rintro e wa ⟨O,oa,ob,rfl,GV,xa⟩)
   | (go_at_call 6;refine(wSame (He.ate DV xa) GV.1 GV.2).mono ?_;rintro e wb ⟨rfl,xe⟩;have xb:Ext W3 wb:=xa.trans xe))
 clear KP QD AX DK GV fd xa xe;go_upto_region 8 with(fail);have XB:=uU ((uH XD).trans xb);have V3:=uU (He.ate (uH V) (uH XB));have KP:=uU (λ(W:World)(e:Ext wb W)=>show D.bx r W/\E.bx p W from⟨He.bxe (uH DX) (xb.trans e),He.bxe (uH BX) ((uH XB).trans e)⟩);have QS:=uU (λ(W:World)(e:Ext wb W)=>(seK (He.ate (uH V3) e)).mono λ_ W' ⟨d,a,b,h,i,x⟩=>show∃(d:He)(a b:Int),_=Ending.returned (d.v2 a b)/\Hid (Ovh W.heap.size W'.heap.size W' d/\W.heap.size<=W'.heap.size)/\Ext wb W' from⟨d,a,b,h,⟨uH i,x.size⟩,e.trans x⟩);have QT:=uU (λ(W:World)(e:Ext wb W)=>(stK (He.ate (uH V3) e) rb (by omega)).mono λ_ W' ⟨d,a,h,i,x⟩=>show∃(d:He)(a:Int),_=Ending.returned (d.v1 a)/\Hid (Ovh W.heap.size W'.heap.size W' d/\Ext W W')/\Ext wb W' from⟨d,a,h,⟨uH i,x⟩,e.trans x⟩);have QR:=uU (λ(W:World)(e:Ext wb W)=>(roK (He.ate (uH V3) e)).mono λ_ W' ⟨d,h,i,x⟩=>show∃d:He,_=Ending.returned d.v/\Hid (Ovh W.heap.size W'.heap.size W' d/\Ext W W')/\Ext wb W' from⟨d,h,⟨uH i,x⟩,e.trans x⟩);have QW:=uU (λ(W:World)(e:Ext wb W)=>uH QB W (((uH X).trans (uH XB)).trans e));have fs:=fieldS;have ft:=fieldT;go_region_held3 (λW=>D.bx r W/\E.bx p W) ((with_reducible refine uH KP _ ?_;with_reducible (repeat (first|exact hO _|assumption|refine mf ?_|refine mJ ?_ _))))
  (first
   | (go_at_call 8;refine(QS _ (by first|exact hO _|exact eDr _|assumption)).mono ?_;rintro e wc ⟨G,ga,gb,rfl,GO,xc⟩)
   | (go_at_call 10;refine(QW _ (by first|exact hO _|exact eDr _|assumption)).mono ?_;rintro e wd ⟨rfl,rfl⟩)
   | (go_at_call 9;refine(QT _ (by first|exact hO _|exact eDr _|assumption)).mono ?_;rintro e we ⟨I,ia,rfl,IK,xe⟩)
   | (go_at_call 11;refine(QR _ (by first|exact hO _|exact eDr _|assumption)).mono ?_;rintro e wf ⟨J,rfl,JO,xf⟩))
 obtain⟨e,lo,hi,KS⟩:=ks4 (T:=27) OD X3 (OX.trans xb) GO.1 xc IK.1 IK.2 JO.1 JO.2 (A:=_) rfl;have BX:=uU (show E.bx p W2/\F.bx q W2/\E.at W2/\F.rd W2/\F.z=E.z from⟨BX,FX,V,FV.1,EF⟩);obtain⟨L,hL⟩:=obE wf.heap.size;rw[<-hL]at KS ⊢;have H:=KS;clear hL KS FX V FV EF OD DX XD DV OX xb X3 XB V3 KP QS QT QR QW fs ft GO IK JO xc xe xf HG QB;go_wp21;go_loopw [61] (λi wr=>∃t:Nat,t<=4/\i=.int .i64 t/\Hid (Ks lo hi e L W2 wr t)) (λi _=>4-(intOf i).toNat)
 case atStart=>exact⟨0,by omega,rfl,H⟩
 case round=>
  clear H;obtain⟨t,ht,rfl,H⟩:=hrel;by_cases hl:(t:Int)<4
  ·have t4:t<4:=by omega
   obtain⟨d,hd⟩:=obE (e t);obtain⟨a,ha⟩:=obE (lo t);obtain⟨c,hc⟩:=obE (hi t);have h0:=H.b t t4;rw[<-hd]at h0;obtain⟨c0,c1,c2,c3,c4,c5,c6,c7,c8,c9,c10,c11,c12⟩:=h0;have lL:=uQ c0;have HD:=uU hd;have HA:=uU ha;have HC:=uU hc;clear hd ha hc;go_upto_region 12 with(fail);obtain⟨W1,hW⟩:=obE (wr.alloc (.cells d.c 27));rw[<-hW];obtain⟨Z,hZ⟩:=obE wr.heap.size;rw[<-hZ];have DX:=uU (show d.bx Z W1 by rw[hW,hZ];exact He.new d wr _);have H:=uU (H.ext (show Ext wr W1 by rw[hW];exact(hO _).alloc _));have OV:=uU (H.o t (hT _) t4);have NX:=uU (λn V=>H.next (n:=n) (V:=V) t4);rw[<-uH HD,<-uH HA,<-uH HC]at OV NX;have cZ:c<=Z:=by have:=(H.l t t4).2.1;have h:L<wr.heap.size:=lL;rw[uH HC];omega
   clear hW hZ HD HA HC c0 c1 c2 c3 c4 c5 c6 c7 c8 c9 c10 c11 c12 lL;obtain⟨_,_,_,y3,y4,_,_,_,y8,_⟩:=uH DX;have hX:=uQ y3;obtain⟨r1,r2,r3⟩:=OV.l;go_wp21;go_loopw [68] (λi wx=>∃j:Nat,j<=d.z.B.length/\i=.int .i64 j/\Hid (Sw (Pw a c d 0) W1 wx)) (λi _=>d.z.B.length-(intOf i).toNat)
   case atStart=>exact⟨0,by omega,rfl,Sw.refl _ _⟩
   case round=>
    clear y3 y4 y8 hX;obtain⟨j,hj,rfl,S⟩:=hrel;obtain⟨_,_,_,y3,y4,_,_,_,y8,_⟩:=S.bx DX cZ;have hX:=uQ y3;by_cases hl:(j:Int)<d.z.B.length
    ·obtain⟨b,e1,b1,b2,o,nc⟩:=OV.r (by omega);have o:=S.opw o;have oq:=o.2 j (by omega);obtain⟨v0,k0⟩:=oq 0 (by omega);obtain⟨v1,k1⟩:=oq 1 (by omega);obtain⟨v2,k2⟩:=oq 2 (by omega);have fz:=o.1.2;have hb:=o.1.1;rw[kw]at k0;rw[e1]at y3;have PB:=uU (λi=>show Pw a c d 0 b i from⟨b1,b2,λe=>absurd rfl (nc b e)⟩);have j0:=i0N j;clear e1 nc o oq;go_wp21;go_roundw
     ·exact⟨j+1,by omega,by go_num,((S.set b _ (PB _) _).set b _ (PB _) _).set b _ (PB _) _⟩
     simp[intOf];omega
    go_wp21;go_loopw [80] (λi wx=>∃j:Nat,j<=d.z.D.length/\i=.int .i64 j/\Hid (Sw (Pw a c d 0) W1 wx)) (λi _=>d.z.D.length-(intOf i).toNat)
    case atStart=>exact⟨0,by omega,rfl,S⟩
    case round=>
     clear S hl;clear y3 y4 y8 hX;obtain⟨j,hj,rfl,S⟩:=hrel;obtain⟨_,_,_,y3,y4,_,_,_,y8,_⟩:=S.bx DX cZ;have hX:=uQ y3;by_cases hl:(j:Int)<d.z.D.length
     ·obtain⟨b,e1,b1,b2,o,nc⟩:=OV.g (by omega);have o:=S.opw o;obtain⟨v0,k0⟩:=o.2 j (by omega) 0 (by omega);have fz:=o.1.2;have hb:=o.1.1;rw[kw,mq]at k0;rw[e1]at y8;have PB:=uU (λi=>show Pw a c d 0 b i from⟨b1,b2,λe=>absurd rfl (nc b e)⟩);have j0:=i0N j;clear e1 nc o;go_wp21;go_roundw
      ·exact⟨j+1,by omega,by go_num,S.set b _ (PB _) _⟩
      simp[intOf];omega
     go_wp21;go_loopw [91] (λi wx=>∃j:Nat,j<=d.z.A.length/\i=.int .i64 j/\Hid (Sw (Pw a c d j) W1 wx)) (λi _=>d.z.A.length-(intOf i).toNat)
     case atStart=>exact⟨0,by omega,rfl,S⟩
     case round=>
      clear S hl;clear y3 y4 y8 hX;obtain⟨j,hj,rfl,S⟩:=hrel;obtain⟨_,_,_,y3,y4,_,_,_,y8,_⟩:=S.bx DX cZ;have hX:=uQ y3;by_cases hl:(j:Int)<d.z.A.length
      ·obtain⟨b,e1,b1,b2,o,pp⟩:=OV.c (by omega);obtain⟨pa,m,k,p7,m2,pr⟩:=pp j (by omega);have E1:=uU e1;have PR:=uU pr;have PO:=uU o;have P7:=uU p7;have p7:=(S.k b (j*8+7) (uQ p7) (λh=>by have:=h.2.2 e1;omega)).trans p7;have hb:=uQ p7;have j0:=i0N j;rw[e1]at y4;clear e1 pr o pp;go_wp21;go_loopw [101] (λi wx=>∃n:Nat,n<=m/\i=.int .i64 n/\Hid (Sw (Pw a c d j) W1 wx)) (λi _=>m-(intOf i).toNat)
       case atStart=>exact⟨0,by omega,rfl,S⟩
       case round=>
        clear S y3 y4 y8 hX p7 hb;obtain⟨n,hn,rfl,S⟩:=hrel;obtain⟨_,_,_,y3,y4,_,_,_,y8,_⟩:=S.bx DX cZ;have hX:=uQ y3;rw[uH E1]at y4;have p7:=(S.k b (j*8+7) (uQ P7) (λh=>by have:=h.2.2 E1;omega)).trans P7;have hb:=uQ p7;by_cases hm:(n:Int)<m
        ·obtain⟨g,rfl,gb,g1,g2,o⟩:=uH PR (by omega);have o:=S.opw o;have oq:=o.2 n (by omega);obtain⟨v0,k0⟩:=oq 0 (by omega);obtain⟨v1,k1⟩:=oq 1 (by omega);obtain⟨v2,k2⟩:=oq 2 (by omega);obtain⟨v3,k3⟩:=oq 3 (by omega);obtain⟨v4,k4⟩:=oq 4 (by omega);obtain⟨v5,k5⟩:=oq 5 (by omega);have fz:=o.1.2;have hg:=o.1.1;rw[kw]at k0;have PB:=uU (λi=>show Pw a c d j g i from⟨g1,g2,λe=>by rw[uH E1]at e;cases e;exact absurd rfl gb⟩);have n0:=i0N n;clear o oq;go_wp21;go_roundw
         ·exact⟨n+1,by omega,by go_num,(((((S.set g _ (PB _) _).set g _ (PB _) _).set g _ (PB _) _).set g _ (PB _) _).set g _ (PB _) _).set g _ (PB _) _⟩
         simp[intOf];omega
        have o:=S.opw PO;have oq:=o.2 j (by omega);obtain⟨v0,k0⟩:=oq 0 (by omega);obtain⟨v1,k1⟩:=oq 1 (by omega);obtain⟨v2,k2⟩:=oq 2 (by omega);obtain⟨v3,k3⟩:=oq 3 (by omega);obtain⟨v4,k4⟩:=oq 4 (by omega);obtain⟨v5,k5⟩:=oq 5 (by omega);obtain⟨v6,k6⟩:=oq 6 (by omega);have fz:=o.1.2;rw[kw]at k0;have PB:=uU (λi (l:i<(j+1)*8)=>show Pw a c d (j+1) b i from⟨b1,b2,λ_=>l⟩);have SS:=uU (S.mono (Q:=Pw a c d (j+1)) λb o h=>⟨h.1,h.2.1,λe=>by have:=h.2.2 e;omega⟩);clear o oq S;go_wp21;go_roundw
        ·exact⟨j+1,by omega,by go_num,(((((((SS.set b _ (PB _ (by omega)) _).set b _ (PB _ (by omega)) _).set b _ (PB _ (by omega)) _).set b _ (PB _ (by omega)) _).set b _ (PB _ (by omega)) _).set b _ (PB _ (by omega)) _).set b _ (PB _ (by omega)) _).set b _ (PB _ (by omega)) _⟩
        simp[intOf];omega
      go_wp21;go_roundw
      ·exact⟨t+1,by omega,by go_num,uH NX _ _ S⟩
      simp[intOf];omega
  obtain⟨b1,b2,b3,b4,b5⟩:=BX;have x:=H.x;have b1:=He.bxe b1 x;have b2:=He.bxe b2 x;have EV:=uU (He.ate b3 x);have FV:=uU (show F.rd wr from He.rde b4 x);have EF:=uU b5;have XX:=uU (X.trans x);obtain⟨t0,t1,t2,t3,t4,t5,t6,t7,t8,t9,t10,t11,t12⟩:=b1;obtain⟨s0,s1,s2,s3,s4,s5,s6,s7,s8,s9,s10,s11,s12⟩:=b2;have hp:=uQ t0;have hq:=uQ s0;clear b3 b4 b5 x;go_wp21;refine(wSame EV FV EF).mono ?_;rintro e wz ⟨rfl,xz⟩;go_wp21;go_ret;exact⟨rfl,XX.trans xz⟩
