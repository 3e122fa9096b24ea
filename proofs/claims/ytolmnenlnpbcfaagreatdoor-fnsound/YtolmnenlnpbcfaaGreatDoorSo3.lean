import Derived.Test.YtolmnenlnpbcfaaGreatDoorJr
import Derived.Test.YtolmnenlnpbcfaaGreatDoorWy
import Derived.Test.YtolmnenlnpbcfaaGreatDoorSd3
import Derived.Deep.CutBlock
set_option maxRecDepth 100000
set_option maxHeartbeats 4000000
namespace Go.Proofs.YtolmnenlnpbcfaaGreatDoor
open Go.RowKit Go.Proofs.Tryz
attribute [local go_sem ↓] Go.wp_at_zero Go.wp_at_succ
attribute [local go_sem] He.v He.v1 He.v2
variable{w W:World}{p:Nat}{A:Ak}{u:Value}{b n:Int}
structure Rs(r:Nat)(W:World):Prop where
 h:cY W r Hp0 (.slice none 0 0) (.slice none 0 0) (.slice none 0 0)
 nf:Nf1 r W
 a:ABx W (r+1) ⟨0,0,0,0,0⟩
theorem Rs.only{r c:Nat}(h:Rs r w)(o:uQ (λq=>q=c) w W)(n:r+2<=c):Rs r W:=
 ⟨h.h.only o (λe=>by omega),⟨kF h.nf.1 o.size,a8b h.nf (o.block r h.nf.1 (λe=>by omega))|>.2⟩,h.a.blk (o.block _ (uZ h.a.1.1) (λe=>by omega))⟩
def b8u(w:World)(p:Nat)(A:Ak):World:=((((w.setCell (aA p 0) (iv A.op)).setCell (aA p 1) (iv A.a)).setCell (aA p 2) (iv A.b)).setCell (aA p 3) (iv A.c)).setCell (aA p 4) (iv A.n)
theorem c6k(w:World)(p:Nat)(A:Ak):uQ (λq=>q=p) w (b8u w p A):=by unfold b8u;repeat (first|(with_reducible refine uQ.setCell ?_ (by simp) _)|(with_reducible exact uQ.refl _ _))
theorem ABx.put(h:ABx w p A)(C:Ak):ABx (b8u w p C) p C:=by
 obtain⟨⟨a0,a1,a2,a3,a4⟩,f⟩:=h;have l:=uZ a0;unfold b8u;exact⟨⟨by simp[go_sem,a0],by simp[go_sem,a1],by simp[go_sem,a2],by simp[go_sem,a3],by simp[go_sem,a4]⟩,λj=>by simp[go_sem,f]⟩
def DrPost(w:World)(e:Ending)(w':World):Prop:=∃(x:Hp)(ar:Option Addr)(kr:Nat)(ac:Option Addr)(kc:Nat)(ag:Option Addr)(kg:Nat)(A:Ak),Hid (e=.returned (.tuple #[x.v (.slice ar x.B.length kr) (.slice ac x.A.length kc) (.slice ag x.D.length kg),A.v]))/\Hid (Bnd x)/\Hid (a3v A)/\Hid (HV w' x ar kr ac kc ag kg)/\Ext w w'
theorem d5d(w:World)(u:Value)(h:ByAt w u):
  Calls prog 4 #[u] w λe w'=>DrPost w e w':=by
 obtain⟨ad,n,k,rfl,hn,hx⟩:=h
 obtain⟨v,hv⟩:=obE (((w.alloc (.cells #[iv 0,iv 0,iv 0,.slice none 0 0,.slice none 0 0,iv 0,iv 0,iv 0,.slice none 0 0,iv 0,iv 0,iv 0,iv 0] 27)).alloc (.cells #[iv 0,iv 0,iv 0,iv 0,iv 0] 29)).alloc (.cells #[.slice ad n k,iv 0,.int .u64 0] 51))
 obtain⟨r,hr⟩:=obE w.heap.size;obtain⟨c,hc⟩:=obE (w.heap.size+1+1)
 have XV:=uU (show Ext w v by rw[hv];exact(((hO w).alloc _).alloc _).alloc _)
 have RS:=uU (show Rs r v by
  have a:=cY.new w Hp0 (.slice none 0 0) (.slice none 0 0) (.slice none 0 0) 27
  have b:=ABx.new (w.alloc (.cells #[iv 0,iv 0,iv 0,.slice none 0 0,.slice none 0 0,iv 0,iv 0,iv 0,.slice none 0 0,iv 0,iv 0,iv 0,iv 0] 27)) ⟨0,0,0,0,0⟩ 29
  rw[hv,hr];exact⟨(a.ext ((hO _).alloc _)).ext ((hO _).alloc _),⟨by simp;omega,λj=>by simp[go_sem]⟩,by simpa using b.blk (((hO _).alloc (.cells #[.slice ad n k,iv 0,.int .u64 0] 51)).block _ (by simp))⟩)
 have CU:=uU (show Cu v v c 0 by
  rw[hc];refine⟨uQ.refl _ _,?_,ad,n,k,0,0,?_,?_,?_,by omega,by omega,hn,λi l=>have⟨b,o,z,e,d,t⟩:=hx i l;⟨b,o,z,e,λq=>?_,XV.keep d,t⟩,?_⟩
  ·exact⟨by rw[hv];simp,λj=>by rw[hv];simp[go_sem]⟩
  ·rw[hv];simp[go_sem]
  ·rw[hv];simp[go_sem]
  ·rw[hv];simp[go_sem]
  ·have:b<w.heap.size:=uZ d;omega
  ·rw[hv];simp[go_sem])
 have sv:v.heap.size=c+1:=by rw[hv,hc];simp
 have cr:r+2<=c:=by omega
 go_in;go_wp21
 rw[<-hv,<-hc,<-hr]
 refine(a1u v v c 0 5 CU (by omega) (by omega) (by omega)).mono ?_;rintro e w1 ⟨y,he,y0,y1,cu,o⟩;have e2:=uH he;subst e2;clear he o
 have HR:=uU hr;clear hv hx hn hr hc CU;have CU:=cu;clear cu
 cases t:(y == 0)
 ·go_wp21;refine(b8t v w1 c _ CU (by omega)).mono ?_;rintro e u ⟨b0,g,B,k,he,BD,hk⟩;have e2:=uH he;subst e2;clear he CU;obtain⟨x,S,G,vB,cu⟩:=BD.at
  have S:=uU S;have G:=uU G;have CV:=uU cu;clear BD cu;obtain⟨ar,kr,ac,kc,ag,kg,⟨d0,d1,d2,d3,d4,d5,d6,d7,d8,d9,d10,d11,d12⟩,HH,Bg⟩:=(uH G).out S.bns.bd;have hg:=uZ d0
  have BC:=uU (show∀w g2,(∃ar kr ac kc vg br bc pb pa pk role,@GAt ⟨⟨λ_=>none⟩⟩ u.heap.size w g2 x ar kr ac kc vg br bc pb pa pk role)->Ext u w->Bd u.heap.size u (w.alloc (.cells #[pP c,pP g2,.slice none 0 0,iv 1] 59)) w.heap.size c g2 k from λw g2 ⟨_,_,_,_,_,_,_,_,_,_,_,a⟩ e=>Bd.copy CV.here S (GAt.gg a (λq i=>by have l:=CV.2.1.1;have:=e.size;rw[i];omega)) e)
  have Q:=uU (show Calls prog 20 #[x.v (.slice ar x.B.length kr) (.slice ac x.A.length kc) (.slice ag x.D.length kg)] u _ from have h:=(HH u (uQ.refl _ _)).1;have s:=S.bns;letI:qd:=⟨⟨λ_=>none⟩⟩;b4g (λ_=>rfl) x u h.1 h.2.1 h.2.2 (by rw[s.1];omega) (by rw[s.1];omega) s.2.1 s.2.2.1 s.2.2.2)
  go_wp21;refine Q.mono ?_;rintro e w2 ⟨g2,rfl,GA,x2⟩;clear Q d0 d1 d2 d3 d4 d5 d6 d7 d8 d9 d10 d11 d12 HH
  have BD:=uU (BC w2 g2 GA x2);clear BC GA x2
  go_wp21;refine(tL u.heap.size u _ _ c g2 k 8 BD (by omega) (by omega) (by omega)).mono ?_;rintro e w3 ⟨y3,he,_,_,bd⟩;have e2:=uH he;subst e2;clear he BD;have BD:=bd;clear bd;obtain⟨b,hb⟩:=obE w2.heap.size;rw[<-hb]at BD ⊢;clear hb
  go_upto_block 0 with(fail)
  go_cut [] (λwx=>∃va L,Hid (Ds u wx b c (k+60) va L))
  case first=>
   cases t0:(y3 == 0)
   ·cases t1:(y3 == 1)
    ·go_wp2_with (go_at_call 22;refine(bact u.heap.size u _ b c g2 _ BD (by omega)).mono ?_;rintro e w4 ⟨rfl,bd⟩)
     go_meet;obtain⟨va,L,d⟩:=bd.ds;exact⟨va,L,d.more (by omega)⟩
    ·go_upto_region 16 with(go_at_call 22;refine(bact u.heap.size u _ b c g2 _ BD (by omega)).mono ?_;rintro e w4 ⟨rfl,bd⟩;obtain⟨va,L,d⟩:=bd.ds;obtain⟨ad2,cap,rfl,ff⟩:=d.form;have b2:=d.b2;have DS:=uU d;clear bd BD d)
     have bl:b<w4.heap.size:=uZ b2
     by_cases l:0<L.length
     ·obtain⟨p,rfl⟩:∃p,ad2=some ⟨p,0,none⟩:=ff l;obtain⟨⟨a0,a1,a2,a3,a4⟩,_⟩:=c0h DS.ow l;have pl:p<w4.heap.size:=uZ a0
      have l1:(L.length:Int)>0:=by omega
      go_wp21
      go_region_with (go_at_call 23;refine(c5a u _ c _ L[0] (DS.hL _ (ki l)) (DS.cu.ext (by first|exact hO _|exact eDr _)) (by omega)).mono ?_;rintro e w6 ⟨A,he,fa,cu,o⟩;have e2:=uH he;subst e2;have D6:=uU ((DS.ext (by first|exact hO _|exact eDr _)).read o cu);obtain⟨⟨g0,g1,g2,g3,g4⟩,gf⟩:=c0h D6.ow l;have pl6:p<w6.heap.size:=uZ g0;have b6:=D6.b2;have bl6:b<w6.heap.size:=uZ b6)
      all_goals
       have PT:=uU ((D6.put l A fa).more (k:=k+60) (by omega));clear g0 g1 g2 g3 g4 gf b6
       go_wp21;go_meet;exact⟨_,_,PT⟩
     ·have l1:¬(L.length:Int)>0:=by omega
      go_wp21;go_meet;exact⟨_,L,DS.more (by omega)⟩
   ·go_wp2_with (go_at_call 21;refine(a7w u.heap.size u _ b c g2 _ BD (by omega)).mono ?_;rintro e w4 ⟨rfl,bd⟩)
    go_meet;obtain⟨va,L,d⟩:=bd.ds;exact⟨va,L,d.more (by omega)⟩
  case rest=>
   clear BD;obtain⟨va,L,DS⟩:=hcut;go_wp21;refine(a1u u wc c _ 12 DS.cu (by omega) (by omega) (by omega)).mono ?_;rintro e w4 ⟨y4,he,_,_,cu,o⟩;have e2:=uH he;subst e2;clear he;have DS:=uU (DS.read o cu);clear o cu
   have SP:=uU (DS.sp CV G S.bns vB)
   go_upto_if 70 with(fail)
   go_cut [] (λwx=>Hid (SpE (dsS c b va) B v w4 c g (k+122) wx))
   case first=>
    cases t:(y4 == 0)
    ·go_wp21;go_meet;exact SP.end_ (by omega)
    ·go_wp2_with (go_at_call 24;refine(d0w SP (by omega)).mono ?_;rintro e w5 ⟨rfl,E⟩)
     go_meet;exact E
   case rest=>
    have CU:=uU hcut.1;have o:=CU.1;have eb:=hcut.2.1;obtain⟨x,G,N⟩:=hcut.2.2;clear hcut SP;have b2:=(eQ (eb b (.inr (.inl rfl)) DS.bc)).trans DS.b2;obtain⟨ad2,cap,rfl,ff⟩:=DS.form
    have OW:=uU (uN DS.ow (λq i=>eb q (.inr (.inr i)) (λe=>DS.n2 (by rw[i,e]))));have bl:b<wc.heap.size:=uZ b2
    obtain⟨⟨r0,r1,r2,r3,r4,r5,r6,r7,r8,r9,r10,r11,r12⟩,⟨rl,rf⟩,⟨q0,q1,q2,q3,q4⟩,qf⟩:=RS.only o cr;obtain⟨ar,kr,ac,kc,ag,kg,⟨d0,d1,d2,d3,d4,d5,d6,d7,d8,d9,d10,d11,d12⟩,HH,Bg⟩:=G.out N
    have ub:=DS.ub;have uv:=CV.1.size
    have n1:¬g=r:=by omega
    have n2:¬g=r+1:=by omega
    have n3:¬b=r:=by omega
    have n4:¬b=r+1:=by omega
    have XW:=uU (o.ext XV (λq l e=>by have:=uH HR;omega));have BN:=uU N;clear G N o CU y0 y1 hk
    by_cases l:0<L.length
    ·obtain⟨p,rfl⟩:∃p,ad2=some ⟨p,0,none⟩:=ff l;obtain⟨⟨a0,a1,a2,a3,a4⟩,_⟩:=c0h OW l;have pu:=(OW.lt p rfl).1
     have n5:¬p=r:=by omega
     have n6:¬p=r+1:=by omega
     have AF:=uU (DS.hL _ (ki l));clear OW DS ff ub uv
     have l1:((L.length:Int) == 0)=false:=beq_false_of_ne (by omega)
     go_wp21
     go_region
     go_wp21
     refine bodyPost_ret (v:=.tuple #[x.v (.slice ar x.B.length kr) (.slice ac x.A.length kc) (.slice ag x.D.length kg),L[0].v]) (by simp[results,results4,go_sem,r0,r1,r2,r3,r4,r5,r6,r7,r8,r9,r10,r11,r12,q0,q1,q2,q3,q4]) rfl ⟨x,ar,kr,ac,kc,ag,kg,_,rfl,BN,AF,?_⟩
     refine(λ(F:uQ (λq=>q=r\/q=r+1) wc _)=>⟨uH HH _ (F.mono λq e=>by omega),F.ext XW (λq l e=>by have:=uH HR;omega)⟩) ?_
     repeat (first|(with_reducible refine uQ.setCell ?_ (by simp) _)|(with_reducible refine uQ.drew ?_)|(with_reducible exact uQ.refl _ _))
    ·have l1:((L.length:Int) == 0)=true:=by rw[beq_iff_eq];omega
     clear OW DS ff ub uv eb
     go_wp21
     refine bodyPost_ret (v:=.tuple #[x.v (.slice ar x.B.length kr) (.slice ac x.A.length kc) (.slice ag x.D.length kg),(⟨21,0,0,0,0⟩:Ak).v]) (by simp[results,results4,go_sem,r0,r1,r2,r3,r4,r5,r6,r7,r8,r9,r10,r11,r12,q0,q1,q2,q3,q4]) rfl ⟨x,ar,kr,ac,kc,ag,kg,_,rfl,BN,show a3v _ by simp only[a3v];omega,?_⟩
     refine(λ(F:uQ (λq=>q=r\/q=r+1) wc _)=>⟨uH HH _ (F.mono λq e=>by omega),F.ext XW (λq l e=>by have:=uH HR;omega)⟩) ?_
     repeat (first|(with_reducible refine uQ.setCell ?_ (by simp) _)|(with_reducible refine uQ.drew ?_)|(with_reducible exact uQ.refl _ _))
 ·go_wp21;refine(d0x v w1 c _ CU (by omega)).mono ?_;rintro e w2 ⟨g,B,k,rfl,hk,vB,SE⟩;have CU:=uU SE.1;have SE:=uU SE.2.2
  go_wp21;refine(a1u v w2 c k 4 CU (by omega) (by omega) (by omega)).mono ?_;rintro e w3 ⟨z,he,z0,z1,cu,o⟩;have e2:=uH he;subst e2;clear he
  have SE:=uU (show∃x,GG (λq=>q=c) B w3 g x/\Bnd x from have⟨x,a,b⟩:=uH SE;⟨x,a.poke o (λ_ e=>e),b⟩);clear CU o;have CU:=cu;clear cu
  go_wp21
  obtain⟨W4,hW⟩:=obE (w3.alloc (.cells #[iv 10,iv 0,iv 0,iv z,iv 0] 29));rw[<-hW];obtain⟨p,hp⟩:=obE w3.heap.size;rw[<-hp]
  have x4:Ext w3 W4:=by rw[hW];exact(hO _).alloc _
  have s4:W4.heap.size=p+1:=by rw[hW,hp];simp
  have pc:c<p:=by have:=CU.2.1.1;omega
  have AB:=uU (show ABx W4 p ⟨10,0,0,z,0⟩ by rw[hW,hp];exact ABx.new w3 ⟨10,0,0,z,0⟩ _)
  have SE:=uU (show∃x,GG (λq=>q=c\/q=p) B W4 g x/\Bnd x from have⟨x,a,b⟩:=uH SE;⟨x,a.more x4 (λq e=>e.imp id (λe=>⟨by omega,by omega⟩)),b⟩)
  have CU:=uU (CU.ext x4);clear hW hp x4
  refine(a1u v W4 c _ 3 CU (by omega) (by omega) (by omega)).mono ?_;rintro e w5 ⟨y2,he,_,_,cu,o⟩;have e2:=uH he;subst e2;clear he
  have AB:=uU (AB.blk (o.block p (by omega) (by omega)))
  have SE:=uU (show∃x,GG (λq=>q=c\/q=p) B w5 g x/\Bnd x from have⟨x,a,b⟩:=uH SE;⟨x,a.poke o (λ_ e=>.inl e),b⟩);have s5:p<w5.heap.size:=by have:=o.size;omega
  clear CU o s4;have CU:=cu;clear cu
  go_upto_if 22 with(fail)
  go_cut [] (λwx=>∃A:Ak,Hid (a3v A)/\Hid (ABx wx p A)/\Hid (∃x,GG (λq=>q=c\/q=p) B wx g x/\Bnd x)/\Hid (Cu v wx c (k+4)))
  case first=>
   obtain⟨⟨a0,a1,a2,a3,a4⟩,af⟩:=uH AB
   cases t:(y2 == 0)
   ·go_wp21;go_meet;exact⟨⟨10,0,0,z,0⟩,show a3v _ by simp only[a3v];omega,AB,SE,CU⟩
   ·have o:=c6k w5 p ⟨18,0,0,0,0⟩;have K1:=uU (AB.put ⟨18,0,0,0,0⟩);have K2:=uU (show∃x,GG (λq=>q=c\/q=p) B (b8u w5 p ⟨18,0,0,0,0⟩) g x/\Bnd x from have⟨x,a,b⟩:=uH SE;⟨x,a.poke o (λ_ e=>.inr e),b⟩);have K3:=uU (CU.blk (CU.1.pst o (λq e=>by omega)) (o.block c (by omega) (by omega)));clear o AB SE CU;unfold b8u at K1 K2 K3
    go_wp21;go_meet;exact⟨⟨18,0,0,0,0⟩,show a3v _ by simp only[a3v];omega,K1,K2,K3⟩
  case rest=>
   clear AB SE CU;obtain⟨A,AF,AB,SE,CU⟩:=hcut;have o:=CU.1;obtain⟨⟨r0,r1,r2,r3,r4,r5,r6,r7,r8,r9,r10,r11,r12⟩,⟨rl,rf⟩,⟨q0,q1,q2,q3,q4⟩,qf⟩:=RS.only o cr;obtain⟨x,G,N⟩:=uH SE;obtain⟨ar,kr,ac,kc,ag,kg,⟨d0,d1,d2,d3,d4,d5,d6,d7,d8,d9,d10,d11,d12⟩,HH,Bg⟩:=G.out N;obtain⟨⟨a0,a1,a2,a3,a4⟩,_⟩:=uH AB
   have n1:¬g=r:=by omega
   have n2:¬g=r+1:=by omega
   have n3:¬p=r:=by omega
   have n4:¬p=r+1:=by omega
   have XW:=uU (o.ext XV (λq l e=>by have:=uH HR;omega));have BN:=uU N;clear G N o CU SE AB s5 pc hk y0 y1 z0 z1
   go_wp21
   go_region
   go_wp21
   refine bodyPost_ret (v:=.tuple #[x.v (.slice ar x.B.length kr) (.slice ac x.A.length kc) (.slice ag x.D.length kg),A.v]) (by simp[results,results4,go_sem,r0,r1,r2,r3,r4,r5,r6,r7,r8,r9,r10,r11,r12,q0,q1,q2,q3,q4]) rfl ⟨x,ar,kr,ac,kc,ag,kg,A,rfl,BN,AF,?_⟩
   refine(λ(F:uQ (λq=>q=r\/q=r+1) wc _)=>⟨uH HH _ (F.mono λq e=>by omega),F.ext XW (λq l e=>by have:=uH HR;omega)⟩) ?_
   repeat (first|(with_reducible refine uQ.setCell ?_ (by simp) _)|(with_reducible refine uQ.drew ?_)|(with_reducible exact uQ.refl _ _))
theorem d5q(h:ByAt w u):∃r:Nat,r<256/\∀W,Ext w W->Calls prog 13 #[u,iv 0] W λe w'=>e=.returned (iv r)/\w'=W:=by
 obtain⟨ad,n,k,rfl,hn,hx⟩:=h;by_cases l:n=0
 ·subst l;refine⟨0,by omega,λW _=>?_⟩;go_in;go_wp21;go_ret;exact⟨rfl,rfl⟩
 ·obtain⟨b,o,z,rfl,c,z0,z1⟩:=hx 0 (by omega);obtain⟨z,rfl⟩:=k9 z0;refine⟨z,by omega,λW e=>?_⟩
  rw[kt]at c;have c:=e.keep c;have q:b<W.heap.size:=uZ c
  have e0:((n:Int) == 0)=false:=beq_false_of_ne (by omega)
  have j:(0:Int)<n:=by omega
  clear hx e;go_in;go_wp21;go_ret;exact⟨rfl,rfl⟩
abbrev He.bx(e:He)(p:Nat)(W:World):Prop:=W.cell? ⟨p,0,none⟩=some (iv e.z.M)/\W.cell? ⟨p,1,none⟩=some (iv e.z.K)/\W.cell? ⟨p,2,none⟩=some (iv e.z.born)/\W.cell? ⟨p,3,none⟩=some (.slice e.ar e.z.B.length e.kr)/\W.cell? ⟨p,4,none⟩=some (.slice e.ac e.z.A.length e.kc)/\W.cell? ⟨p,5,none⟩=some (iv e.z.E)/\W.cell? ⟨p,6,none⟩=some (iv e.z.I)/\W.cell? ⟨p,7,none⟩=some (iv e.z.sub)/\W.cell? ⟨p,8,none⟩=some (.slice e.ag e.z.D.length e.kg)/\W.cell? ⟨p,9,none⟩=some (iv e.z.per)/\W.cell? ⟨p,10,none⟩=some (iv e.z.V)/\W.cell? ⟨p,11,none⟩=some (iv e.z.Q)/\W.cell? ⟨p,12,none⟩=some (iv e.z.S)
theorem He.bxe{e:He}(h:e.bx p w)(x:Ext w W):e.bx p W:=cY.ext (x:=e.z) h x
theorem He.new(e:He)(w:World)(t:TypeId):e.bx w.heap.size (w.alloc (.cells e.c t)):=cY.new w e.z _ _ _ t
theorem He.new1(e:He)(a:Int)(w:World)(t:TypeId):e.bx w.heap.size (w.alloc (.cells (e.c1 a) t)):=by and_intros<;>simp[go_sem]
def He.b2(e:He)(a b:Int)(p:Nat)(W:World):Prop:=e.bx p W/\W.cell? ⟨p,13,none⟩=some (iv a)/\W.cell? ⟨p,14,none⟩=some (iv b)
theorem He.new2(e:He)(a b:Int)(w:World)(t:TypeId):e.b2 a b w.heap.size (w.alloc (.cells (e.c2 a b) t)):=by and_intros<;>simp[go_sem]
theorem He.b2e{e:He}{a:Int}(h:e.b2 a b p w)(x:Ext w W):e.b2 a b p W:=⟨He.bxe h.1 x,x.keep h.2.1,x.keep h.2.2⟩
def He.st(e:He)(a:Int)(t:Nat)(w:World):World:=(((((((((((((w.setCell ⟨t,0,none⟩ (iv e.z.M)).setCell ⟨t,1,none⟩ (iv e.z.K)).setCell ⟨t,2,none⟩ (iv e.z.born)).setCell ⟨t,3,none⟩ (.slice e.ar e.z.B.length e.kr)).setCell ⟨t,4,none⟩ (.slice e.ac e.z.A.length e.kc)).setCell ⟨t,5,none⟩ (iv e.z.E)).setCell ⟨t,6,none⟩ (iv e.z.I)).setCell ⟨t,7,none⟩ (iv e.z.sub)).setCell ⟨t,8,none⟩ (.slice e.ag e.z.D.length e.kg)).setCell ⟨t,9,none⟩ (iv e.z.per)).setCell ⟨t,10,none⟩ (iv e.z.V)).setCell ⟨t,11,none⟩ (iv e.z.Q)).setCell ⟨t,12,none⟩ (iv e.z.S)).setCell ⟨t,13,none⟩ (iv a)
theorem He.st_only(e:He)(a:Int)(t:Nat)(w:World):uQ (λq=>q=t) w (e.st a t w):=by
 unfold He.st;iterate 14 (refine uQ.setCell (S:=λq=>q=t) ?_ rfl _)
 exact uQ.refl _ _
theorem He.st_bx{d:He}{t:Nat}(h:d.bx t w)(k:w.cell? ⟨t,13,none⟩=some (iv b))(f:∀j,w.frozen? ⟨t,j,none⟩=false)(e:He)(a:Int):e.bx t (e.st a t w):=by
 have k:=k;have f:=f;obtain⟨e0,e1,e2,e3,e4,e5,e6,e7,e8,e9,e10,e11,e12⟩:=h;unfold He.st;refine⟨?_,?_,?_,?_,?_,?_,?_,?_,?_,?_,?_,?_,?_⟩ <;> simp[go_sem, *]
theorem okI{e:He}(h:e.at w)(k:qQ e.z n):Calls prog 6 #[e.v] w λr W=>r=.returned (iv n)/\Ext w W:=
 (b6t e.z w h.1.1 h.1.2.1 h.1.2.2 h.2).mono λ_ _ ⟨m,a,b,c⟩=>⟨by rw[k.uniq b];exact a,c⟩
theorem okS{e:He}(h:e.at w)(k:qQ e.z n):Calls prog 5 #[e.v] w λr W=>r=.returned (iv n)/\Ext w W:=
 (a0q e.z w h.1.1 h.1.2.1 h.1.2.2).mono λ_ _ ⟨m,a,b,c⟩=>⟨by rw[k.uniq b];exact a,c⟩
theorem c4k{e d:He}(h:e.at w)(k:d.rd w)(q:d.z=e.z):Calls prog 7 #[e.v,d.v] w λr W=>r=.returned (.bool true)/\Ext w W:=by
 obtain⟨z,p,n,f,a,b,c⟩:=d;cases q;exact c6u e.z w h.1 k
theorem ABx.e(h:ABx w p A)(x:Ext w W):ABx W p A:=have⟨⟨a,b,c,d,e⟩,f⟩:=h;⟨⟨x.keep a,x.keep b,x.keep c,x.keep d,x.keep e⟩,λj=>((cX x).2 _ j (uZ a)).trans (f j)⟩
theorem drawH(h:ByAt w u):Calls prog 4 #[u] w λr W=>∃(e:He)(A:Ak),r=.returned (.tuple #[e.v,A.v])/\Hid (e.at W)/\Ext w W:=
 (d5d w u h).mono λ_ _ ⟨x,p,q,r,s,t,u,A,f,_,_,v,e⟩=>⟨⟨x,p,q,r,s,t,u⟩,A,f,v,e⟩
theorem fieldD(a b c d e f g h i j k l m n o:Value)(w:World):Sem.run prog (Instr.field 37 (.agg #[a,b,c,d,e,f,g,h,i,j,k,l,m,n,o]) 0) w=.ok (.agg #[a,b,c,d,e,f,g,h,i,j,k,l,m]) w:=by kernel_rfl
theorem fieldS(a b c d e f g h i j k l m n o:Value)(w:World):Sem.run prog (Instr.field 40 (.agg #[a,b,c,d,e,f,g,h,i,j,k,l,m,n,o]) 0) w=.ok (.agg #[a,b,c,d,e,f,g,h,i,j,k,l,m]) w:=by kernel_rfl
theorem fieldT(a b c d e f g h i j k l m n:Value)(w:World):Sem.run prog (Instr.field 43 (.agg #[a,b,c,d,e,f,g,h,i,j,k,l,m,n]) 0) w=.ok (.agg #[a,b,c,d,e,f,g,h,i,j,k,l,m]) w:=by kernel_rfl
def tls:Nat->Code->Code
 | 0,c=>c
 | n+1,.seq _ b=>tls n b
 | _,c=>c
theorem seg4{u0 u1 u2 u3 u4 u5 u6 u7 u8 u9 u11 u12 u13 u14 u15 u16 u17 u18 u19 u20 u21 u22 u23 u24 u25 u26 u27 u28 u29 u30 u31 u32 u33 u34 u35 u36 u37 u38 u39 u40 u41 u42 u43 u44 u45 u46 u47 u48 u49 u50 u51 u52 u53 u54 u55 u56 u57 u58 u59 u60 u61 u62 u63 u64 u65 u66 u67 u68 u69 u70 u71 u72 u73 u74 u75 u76 u77 u78 u79 u80 u81 u82 u83 u84 u85 u86 u87 u88 u89 u90 u91 u92 u93 u94 u95 u96 u97 u98 u99 u100 u101 u102 u103 u104 u105 u106 u107 u108 u109 u110 u111 u112 u113 u114 u115 u116:Value}(w wx:World)(t:Nat)(T:He)(S:Hid (Snd T.z))(TX:Hid (T.bx t wx))(TV:Hid (T.at wx))(X:Hid (Ext w wx)):Code.wp prog (tls 11 (Tryz.f3.body.getD .skip)) (bodyPost prog Tryz.f3 λe w'=>e=.returned (.bool true)/\Ext w w') ⟨#[u0,u1,u2,u3,u4,u5,u6,u7,u8,u9,.pointer (some ⟨t,0,none⟩),u11,u12,u13,u14,u15,u16,u17,u18,u19,u20,u21,u22,u23,u24,u25,u26,u27,u28,u29,u30,u31,u32,u33,u34,u35,u36,u37,u38,u39,u40,u41,u42,u43,u44,u45,u46,u47,u48,u49,u50,u51,u52,u53,u54,u55,u56,u57,u58,u59,u60,u61,u62,u63,u64,u65,u66,u67,u68,u69,u70,u71,u72,u73,u74,u75,u76,u77,u78,u79,u80,u81,u82,u83,u84,u85,u86,u87,u88,u89,u90,u91,u92,u93,u94,u95,u96,u97,u98,u99,u100,u101,u102,u103,u104,u105,u106,u107,u108,u109,u110,u111,u112,u113,u114,u115,u116],[]⟩ wx:=by
 conv=>arg 2;dsimp only[Tryz.f3,tls,Option.getD]
 conv=>arg 4;dsimp only
 obtain⟨t0,t1,t2,t3,t4,t5,t6,t7,t8,t9,t10,t11,t12⟩:=uH TX;have hp:=uZ t0
 go_wp21;refine(roI TV S).mono ?_;rintro e w1 ⟨G,rfl,gn,GV,x1⟩;have SG:=uU (gn.snd S);have TX:=uU (He.bxe TX x1);have TV:=uU (He.ate TV x1);have X:=uU (X.trans x1);clear x1 t0 t1 t2 t3 t4 t5 t6 t7 t8 t9 t10 t11 t12 hp
 go_upto_region 17 with(fail)
 obtain⟨W7,hW⟩:=obE (w1.alloc (.cells G.c 27));rw[<-hW];obtain⟨s,hs⟩:=obE w1.heap.size;rw[<-hs]
 have xa:Ext w1 W7:=by rw[hW];exact(hO _).alloc _
 have GX:=uU (show G.bx s W7 by rw[hW,hs];exact He.new G w1 _)
 have TX:=uU (He.bxe TX xa);have GV:=uU (He.ate GV xa);have TV:=uU (He.ate TV xa);have X:=uU (X.trans xa);clear xa hW hs
 have KP:=uU (λ(W:World)(e:Ext W7 W)=>show G.bx s W/\T.bx t W from⟨He.bxe GX e,He.bxe TX e⟩)
 have QI:=uU (λ(W:World)(e:Ext W7 W)=>(okI (He.ate GV e) SG.ok).mono λ_ _ h=>kG h.1 (e.trans h.2))
 have QS:=uU (λ(W:World)(e:Ext W7 W)=>(roS (He.ate TV e).1 S).mono λ_ W' ⟨d,h,i,j,x⟩=>show∃d:He,_=Ending.returned d.v/\Hid (d.rd W'/\d.z=G.z)/\Ext W7 W' from⟨d,h,⟨j,(gn.uniq i).symm⟩,e.trans x⟩)
 clear SG gn TV
 go_region_held3 (λW=>G.bx s W/\T.bx t W) ((with_reducible refine uH KP _ ?_;with_reducible (first|exact hO _|assumption|(refine mP ?_;first|exact hO _|assumption))))
  (first
   | (go_at_call 6;refine(QI _ (by first|exact hO _|exact eDr _|assumption)).mono ?_;rintro e wa ⟨rfl,xa⟩)
   | (go_at_call 16;refine(QS _ (by assumption)).mono ?_;rintro e wb ⟨H,rfl,HV,xb⟩)
   | (go_at_call 7;refine(c4k (He.ate GV xb) HV.1 HV.2).mono ?_;rintro e wd ⟨rfl,xe⟩;have xd:Ext W7 wd:=xb.trans xe))
 go_wp21;go_ret;exact⟨rfl,X.trans xd⟩
def Sg3(G:He)(rb:Nat)(wd:World)(a:Value)(wx:World):Prop:=∃(t:Nat)(T:He),a=.pointer (some ⟨t,0,none⟩)/\Hid (T.bx t wx/\T.at wx)/\Hid (b3v G.z rb T.z)/\Hid (Ext wd wx)
theorem seg3{u0 u2 u3 u4 u5 u6 u7 u8 u10 u11 u12 u13 u14 u15 u16 u17 u18 u19 u20 u21 u22 u23 u24 u25 u26 u27 u28 u29 u30 u31 u32 u33 u34 u35 u36 u37 u38 u39 u40 u41 u42 u43 u44 u45 u46 u47 u48 u49 u50 u51 u52 u53 u54 u55 u56 u57 u58 u59 u60 u61 u62 u63 u64 u65 u66 u67 u68 u69 u70 u71 u72 u73 u74 u75 u76 u77 u78 u79 u80 u81 u82 u83 u84 u85 u86 u87 u88 u89 u90 u91 u92 u93 u94 u95 u96 u97 u98 u99 u100 u101 u102 u103 u104 u105 u106 u107 u108 u109 u110 u111 u112 u113 u114 u115 u116:Value}(w wd:World)(av:Option Addr)(nv kv:Nat)(rb:Nat)(b1:rb<256)(QB:Hid (∀W,Ext w W->Calls prog 13 #[.slice av nv kv,iv 0] W λe w'=>e=.returned (iv rb)/\w'=W))(s:Nat)(G:He)(SG:Hid (Snd G.z))(GX:Hid (G.bx s wd))(GV:Hid (G.at wd))(X:Hid (Ext w wd)):Code.wp prog (tls 9 (Tryz.f3.body.getD .skip)) (bodyPost prog Tryz.f3 λe w'=>e=.returned (.bool true)/\Ext w w') ⟨#[u0,.slice av nv kv,u2,u3,u4,u5,u6,u7,u8,.pointer (some ⟨s,0,none⟩),u10,u11,u12,u13,u14,u15,u16,u17,u18,u19,u20,u21,u22,u23,u24,u25,u26,u27,u28,u29,u30,u31,u32,u33,u34,u35,u36,u37,u38,u39,u40,u41,u42,u43,u44,u45,u46,u47,u48,u49,u50,u51,u52,u53,u54,u55,u56,u57,u58,u59,u60,u61,u62,u63,u64,u65,u66,u67,u68,u69,u70,u71,u72,u73,u74,u75,u76,u77,u78,u79,u80,u81,u82,u83,u84,u85,u86,u87,u88,u89,u90,u91,u92,u93,u94,u95,u96,u97,u98,u99,u100,u101,u102,u103,u104,u105,u106,u107,u108,u109,u110,u111,u112,u113,u114,u115,u116],[]⟩ wd:=by
 conv=>arg 2;dsimp only[Tryz.f3,tls,Option.getD]
 conv=>arg 4;dsimp only
 obtain⟨t0,t1,t2,t3,t4,t5,t6,t7,t8,t9,t10,t11,t12⟩:=uH GX;have hp:=uZ t0
 go_upto_region 13 with(fail)
 go_cut [10] (λa wx=>Hid (Sg3 G rb wd a wx))
 case first=>
  have BQ:=uU (λ(W:World)(e:Ext wd W)=>uH QB W (X.trans e))
  have xA:Ext wd (wd.drew.alloc (.cells (He.c1 ⟨Hp0,none,0,none,0,none,0⟩ 0) 43)):=(eDr wd).alloc _
  have TA:=uU ((stI (He.ate GV xA) SG rb (by omega)).mono λ_ W ⟨d,a,h,i,j,x⟩=>show∃(d:He)(a:Nat),_=Ending.returned (d.v1 a)/\Hid (b3v G.z rb d.z)/\Hid (∀W',uQ (λq=>q=wd.heap.size) W W'->d.at W')/\Hid (Ext wd W)/\(He.bx ⟨Hp0,none,0,none,0,none,0⟩ wd.heap.size W/\W.cell? ⟨wd.heap.size,13,none⟩=some (iv 0)/\(∀j,W.frozen? ⟨wd.heap.size,j,none⟩=false)/\wd.heap.size<W.heap.size) from⟨d,a,h,i,λW' o=>uH j W' (o.mono λq e=>by simp;omega),xA.trans x,He.bxe (He.new1 _ 0 wd.drew _) x,x.keep (by simp[go_sem]),λj=>((cX x).2 _ j (by simp)).trans (by simp[go_sem]),by have:=x.size;simp at this;omega⟩)
  have TB:=uU ((stI (He.ate GV (eDr wd)) SG rb (by omega)).mono λ_ W ⟨d,a,h,i,j,x⟩=>show∃(d:He)(a:Nat),_=Ending.returned (d.v1 a)/\Hid (b3v G.z rb d.z)/\Hid (d.at W)/\Hid (Ext wd W) from⟨d,a,h,i,uH j _ (uQ.refl _ _),(eDr wd).trans x⟩)
  clear xA
  go_region_with (first
   | (go_at_call 13;refine(BQ _ (by first|exact hO _|exact eDr _|exact(eDr _).alloc _|exact (hO _).alloc _)).mono ?_;rintro e wa ⟨rfl,rfl⟩)
   | (go_at_call 12;refine TA.mono ?_;rintro e we ⟨T,ta,rfl,tn,TV,xe,⟨z0,z1,z2,z3,z4,z5,z6,z7,z8,z9,z10,z11,z12⟩,z13,zf,zl⟩;have o:=T.st_only ta wd.heap.size we;have K:=uU (show Sg3 G rb wd (.pointer (some ⟨wd.heap.size,0,none⟩)) (T.st ta wd.heap.size we) from⟨_,T,rfl,⟨He.st_bx ⟨z0,z1,z2,z3,z4,z5,z6,z7,z8,z9,z10,z11,z12⟩ z13 zf T ta,uH TV _ o⟩,tn,o.ext xe (λq l e=>by omega)⟩);unfold He.st at K;clear o TV xe tn)
   | (go_at_call 12;refine TB.mono ?_;rintro e we ⟨T,ta,rfl,tn,TV,xe⟩;have K:=uU (show Sg3 G rb wd (.pointer (some ⟨we.heap.size,0,none⟩)) (we.alloc (.cells (T.c1 ta) 43)) from⟨_,T,rfl,⟨He.new1 T ta we _,He.ate TV ((hO _).alloc _)⟩,tn,xe.alloc _⟩);clear TV xe tn))
  all_goals
   go_wp21;go_meet;exact K
 case rest=>
  clear t0 t1 t2 t3 t4 t5 t6 t7 t8 t9 t10 t11 t12 hp;obtain⟨t,T,rfl,TX,tn,xt⟩:=uH hcut;have ST:=uU (tn.snd SG);have TV:=uU TX.2;have TX:=uU TX.1;have GX:=uU (He.bxe GX xt);have GV:=uU (He.ate GV xt);have X:=uU (X.trans xt);clear hcut xt
  go_upto_region 14 with(fail)
  have KP:=uU (λ(W:World)(e:Ext wc W)=>show T.bx t W/\G.bx s W from⟨He.bxe TX e,He.bxe GX e⟩)
  have QI:=uU (λ(W:World)(e:Ext wc W)=>(okI (He.ate TV e) ST.ok).mono λ_ _ h=>kG h.1 (e.trans h.2))
  have BQ:=uU (λ(W:World)(e:Ext wc W)=>(QB W (X.trans e)).mono λ_ W' h=>show _/\Ext wc W' from⟨h.1,h.2▸e⟩)
  have QS:=uU (λ(W:World)(e:Ext wc W)=>(stS (He.ate GV e).1 SG rb (by omega)).mono λ_ W' ⟨d,a,h,i,j,x⟩=>show∃(d:He)(a:Int),_=Ending.returned (d.v1 a)/\Hid (d.rd W'/\d.z=T.z)/\Ext wc W' from⟨d,a,h,⟨j,(tn.uniq i).symm⟩,e.trans x⟩)
  have fd:=fieldT;clear GV tn QB
  go_region_held3 (λW=>T.bx t W/\G.bx s W) ((with_reducible refine uH KP _ ?_;with_reducible (first|exact hO _|assumption|(refine mP ?_;first|exact hO _|assumption))))
   (first
    | (go_at_call 6;refine(QI _ (by first|exact hO _|exact eDr _|assumption)).mono ?_;rintro e wa ⟨rfl,xa⟩)
    | (go_at_call 13;refine(BQ _ (by assumption)).mono ?_;rintro e wb ⟨rfl,xb⟩)
    | (go_at_call 14;refine(QS _ (by assumption)).mono ?_;rintro e wf ⟨H,ha,rfl,HV,xf⟩)
    | (go_at_call 7;refine(c4k (He.ate TV xf) HV.1 HV.2).mono ?_;rintro e wg ⟨rfl,xe⟩;have xg:=xf.trans xe))
  go_upto_if 103 with(fail)
  go_cut [] (λwx=>wx=wg)
  case first=>go_wp21;go_meet;exact rfl
  case rest=>
   subst hcut;refine ‹∀ (a:Act)(w:World),Code.wp prog _ _ a w->_› _ _ ?_;exact seg4 w _ t T ST (He.bxe TX xg) (He.ate TV xg) (X.trans xg)
end Go.Proofs.YtolmnenlnpbcfaaGreatDoor
