import Derived.Test.YtgkpaibbdkggiaaGreatDoorDri
import Derived.Deep.CutBlock
set_option maxRecDepth 100000
set_option maxHeartbeats 4000000
namespace Go.Proofs.YtgkpaibbdkggiaaGreatDoor
open Go.RowKit Go.Proofs.Tryz
attribute [local go_sem ↓] Go.wp_at_zero Go.wp_at_succ
structure Ts(Y:Yt)(k:Nat)(s:Int)(x:Hp)(F:Nat)(y:Hp)(k':Nat)(s':Int):Prop where
 h:∀S B v w0 w c g,Sp Y S B v w0 w c g k s x->Calls prog F #[pP c,pP g] w λe w'=>e=.returned (.tuple #[])/\Hid (SpE Y S B v w0 c g k' s' y w')
theorem nm(a:Nat)(b:Int)(c:Hp)(d:Cl):∃p q r s,Hid ((p,q,r,s)=(a,b,c,d)):=⟨_,_,_,_,rfl⟩
theorem b3f(Y:Yt)(k:Nat)(s:Int)(x:Hp)(hs:Bns x)(hk:k<=9000000):∃(y:Hp)(k':Nat)(s':Int),k'<=k+40/\Ts Y k s x 47 y k' s':=by
 by_cases l:x.A.length=0
 ·refine⟨x,k,s,by omega,⟨λS B v w0 w c g h=>?_⟩⟩;have H:=uU h;clear h;obtain⟨ar,kr,ac,kc,ag,kg,X,gl,fz⟩:=H.bx;have d4:=X.2.2.2.2.1;rw[l]at d4;go_in;go_wp21;refine bodyPost_ret (results_none rfl _ _ _) rfl ⟨rfl,H.end_⟩
 have n8:=hs.2.1;obtain⟨r,k1,s1,r0,r1,_,_⟩:=cV Y k s x.A.length;obtain⟨i,rfl⟩:=km r0;have il:i<x.A.length:=by omega
 obtain⟨u,k2,s2,_,_,_,_⟩:=odd_d Y k1 s1;obtain⟨q,k3,s3,_,_,_,_⟩:=cV Y k2 s2 10;obtain⟨q1,hq⟩:∃q1,Hid (q1=q):=⟨_,rfl⟩;obtain rfl|rfl|rfl|rfl|rfl|rfl|rfl|rfl|rfl|rfl:=(show q=1\/q=9\/q=0\/q=2\/q=3\/q=4\/q=5\/q=6\/q=7\/q=8 by omega);obtain⟨K,O,X2,D,E⟩:=nm k3 s3 x ((x.c i).fld 1 u);rotate_left;by_cases z:(x.c i).F.length=0;have Z:=uU z;clear z;obtain⟨K,O,X2,D,E⟩:=nm k3 s3 x (x.c i);rotate_left;have p2:=hs.2.2.1 i il;obtain⟨r,k4,s4,j0,j1,_,_⟩:=cV Y k3 s3 (x.c i).F.length;obtain⟨j,rfl⟩:=km j0;have jl:j<(x.c i).F.length:=by omega
 obtain⟨t,k5,s5,_,_,_,_⟩:=cV Y k4 s4 2;obtain⟨y,k6,s6,_,_⟩:=d3r Y k5 s5 x.A.length (by omega) (by omega) (by omega);obtain rfl|ht:=(by omega:t=0\/t≠0);obtain⟨V,hV⟩:=obE {x.c i with F:=(x.c i).F.set j (prT true ((x.c i).p j) y)};obtain⟨K,O,X2,D,E⟩:=nm k6 s6 {x with A:=x.A.set i V} V;rotate_left;have ht:(t == 0)=false:=beq_false_of_ne ht;obtain⟨V,hV⟩:=obE {x.c i with F:=(x.c i).F.set j (prT false ((x.c i).p j) y)};obtain⟨K,O,X2,D,E⟩:=nm k6 s6 {x with A:=x.A.set i V} V;rotate_left;obtain⟨p,k4,s4,_,_,_,_⟩:=cV Y k3 s3 5;obtain⟨K,O,X2,D,E⟩:=nm k4 s4 x ((x.c i).fld 0 (p-1));rotate_left;obtain⟨p,k4,s4,_,_,_,_⟩:=cV Y k3 s3 6;obtain⟨K,O,X2,D,E⟩:=nm k4 s4 x ((x.c i).fld 2 (p-1));rotate_left;obtain⟨p,k4,s4,_,_,_,_⟩:=cV Y k3 s3 6;obtain⟨K,O,X2,D,E⟩:=nm k4 s4 x ((x.c i).fld 3 (p-1));rotate_left;obtain⟨p,k4,s4,_,_,_,_⟩:=cV Y k3 s3 6;obtain⟨K,O,X2,D,E⟩:=nm k4 s4 x ((x.c i).fld 3 (p-1));rotate_left;obtain⟨p,k4,s4,_,_,_,_⟩:=cV Y k3 s3 8;obtain⟨K,O,X2,D,E⟩:=nm k4 s4 x ((x.c i).fld 4 p);rotate_left;obtain⟨p,k4,s4,_,_,_,_⟩:=cV Y k3 s3 4;obtain⟨K,O,X2,D,E⟩:=nm k4 s4 x ((x.c i).fld 5 p);rotate_left;obtain⟨p,k4,s4,_,_,_,_⟩:=cV Y k3 s3 4;obtain⟨K,O,X2,D,E⟩:=nm k4 s4 x ((x.c i).fld 5 p);rotate_left;obtain⟨p,k4,s4,_,_,_,_⟩:=cV Y k3 s3 4;obtain⟨K,O,X2,D,E⟩:=nm k4 s4 x ((x.c i).fld 6 (p-1));rotate_left;all_goals
  refine⟨{X2 with A:=X2.A.set i D},K,O,by have e:=uH E;cases e;omega,⟨λS B v w0 w c g h=>?_⟩⟩;have H:=uU h;clear h;obtain⟨ar,kr,ac,kc,ag,kg,X,gl,fz⟩:=(uH H).bx;have d4:=X.2.2.2.2.1;have X:=uU X;go_in;go_wp2_with ((with_reducible refine(Sp.tc H X (hO _)).mono ?_);rintro e w2 ⟨rfl,H,X,gl,fz⟩;clear d4;have d4:=(uH X).2.2.2.2.1;obtain⟨bc,pa,kp,rfl,⟨s0,s1,s2,s3,s4,s5,s6⟩,q7,⟨bl,bf⟩,C⟩:=(uH H).sc_ (uH X) i il);refine(Sc.tc (F:=45) C (hO _)).mono ?_;rintro e w3 ⟨rfl,C⟩;clear s0 s1 s2 s3 s4 s5 s6 q7 bl bf d4 gl fz;obtain⟨b,hb⟩:=obE w2.heap.size;rw[<-hb]at C ⊢;clear hb X H;go_upto_region 4 with(fail);go_cut [31] (λs wx=>s=iv q1/\Hid (Sc Y S B v w0 wx c g k3 s3 x i b bc kc (x.c i) pa kp))
  case first=>
   go_wp21;refine(Sc.tc (F:=12) C (hO _)).mono ?_;rintro e w4 ⟨rfl,C⟩;go_wp21;go_meet;exact⟨by rw[uH hq],C⟩
  clear C;obtain⟨rfl,C⟩:=hcut;have e:=uH hq;subst e;rename_i J hK;refine hK _ _ ?_;go_cut [] (λwx=>Hid (Sc Y S B v w0 wx c g K O X2 i b bc kc D pa kp))
  case rest=>
   clear C;have C:=hcut;obtain⟨⟨t0,t1,t2,t3,t4,t5,t6,t7⟩,f1,f2⟩:=C.bx;have c4:=C.c4;obtain⟨s0,s1,s2,s3,s4,s5,s6⟩:=C.sc;have q7:=C.q7;obtain⟨bl,bf⟩:=C.nc;have il:=C.hi;have gl:=cLt c4;go_wp21;go_region;all_goals
    go_wp21;go_end0;exact⟨rfl,C.fin⟩
  obtain⟨⟨t0,t1,t2,t3,t4,t5,t6,t7⟩,f1,f2⟩:=C.bx
 ·go_wp21;go_meet;have e:=uH E;cases e;exact C.put 1 (by omega) u
 ·have z:=uH Z;go_wp21;go_meet;have e:=uH E;cases e;exact C
 iterate 2
  focus
   have HV:=uU hV;clear hV;go_wp2_with ((with_reducible refine(Sc.tc C (hO _)).mono ?_);rintro e w5 ⟨rfl,C⟩;obtain⟨⟨t0,t1,t2,t3,t4,t5,t6,t7⟩,f1,f2⟩:=(uH C).bx);have c4:=(uH C).c4;have gl:=cLt c4;obtain⟨bp,rfl,⟨k0,k1,k2,k3,k4,k5⟩,⟨g1,g2⟩,F⟩:=(uH C).prw (k:=j) jl;clear F;go_region_with ((with_reducible refine(Sc.tc C (eDr _)).mono ?_);rintro e w7 ⟨rfl,C⟩;obtain⟨⟨t0,t1,t2,t3,t4,t5,t6,t7⟩,f1,f2⟩:=(uH C).bx;have c4:=(uH C).c4;have gl:=cLt c4;obtain⟨b2,e2,⟨k0,k1,k2,k3,k4,k5⟩,⟨g1,g2⟩,F⟩:=(uH C).prw (k:=j) jl;have F:=uU F;cases e2);all_goals
    go_wp21;go_meet;have e:=uH E;cases e;rw[uH HV];first|exact F _ y _ true (hO _) (.inl ⟨rfl,rfl⟩)|exact F _ y _ false (hO _) (.inr ⟨rfl,rfl⟩)
 all_goals
  go_wp2_with ((with_reducible refine(Sc.tc C (hO _)).mono ?_);rintro e w5 ⟨rfl,C⟩;obtain⟨⟨t0,t1,t2,t3,t4,t5,t6,t7⟩,f1,f2⟩:=(uH C).bx);go_meet;have e:=uH E;cases e;exact(uH C).put _ (by omega) _
theorem spoil_d(Y:Yt)(k:Nat)(s:Int)(x:Hp)(hs:Bns x)(hk:k<=8000000):∃(y:Hp)(k':Nat)(s':Int),k'<=k+60/\Ts Y k s x 19 y k' s':=by
 obtain⟨u,k1,s1,_,_,_,_⟩:=odd_d Y k s;obtain⟨r,k2,s2,_,_,_,_⟩:=cV Y k1 s1 12;obtain rfl|rfl|rfl|rfl|rfl|rfl|rfl|rfl|rfl|rfl|rfl|rfl:=(show r=0\/r=2\/r=1\/r=3\/r=4\/r=5\/r=7\/r=10\/r=11\/r=6\/r=8\/r=9 by omega);refine⟨{x with M:=u},k2,s2,by omega,⟨λS B v w0 w c g h=>?_⟩⟩;rotate_left;refine⟨{x with born:=u},k2,s2,by omega,⟨λS B v w0 w c g h=>?_⟩⟩;rotate_left;obtain⟨p,k3,s3,_,_,_,_⟩:=cV Y k2 s2 3;refine⟨{x with K:=IntKind.i64.wrap (x.K+IntKind.i64.wrap (p-1))},k3,s3,by omega,⟨λS B v w0 w c g h=>?_⟩⟩;rotate_left;obtain⟨p,k3,s3,_,_,_,_⟩:=cV Y k2 s2 8;refine⟨{x with E:=p-1},k3,s3,by omega,⟨λS B v w0 w c g h=>?_⟩⟩;rotate_left;obtain⟨p,k3,s3,_,_,_,_⟩:=cV Y k2 s2 5;refine⟨{x with I:=IntKind.i64.wrap (x.I+IntKind.i64.wrap (p-2))},k3,s3,by omega,⟨λS B v w0 w c g h=>?_⟩⟩;rotate_left;obtain⟨p,k3,s3,_,_,_,_⟩:=cV Y k2 s2 3;refine⟨{x with sub:=IntKind.i64.wrap (x.sub+IntKind.i64.wrap (p-1))},k3,s3,by omega,⟨λS B v w0 w c g h=>?_⟩⟩;rotate_left;obtain⟨p,k3,s3,_,_,_,_⟩:=cV Y k2 s2 4;obtain rfl|rfl|rfl|rfl:=(show p=0\/p=1\/p=2\/p=3 by omega);refine⟨{x with per:=u},k3,s3,by omega,⟨λS B v w0 w c g h=>?_⟩⟩;rotate_left;refine⟨{x with V:=u},k3,s3,by omega,⟨λS B v w0 w c g h=>?_⟩⟩;rotate_left;refine⟨{x with Q:=u},k3,s3,by omega,⟨λS B v w0 w c g h=>?_⟩⟩;rotate_left;refine⟨{x with S:=u},k3,s3,by omega,⟨λS B v w0 w c g h=>?_⟩⟩;rotate_left;obtain⟨y,k3,s3,_,t⟩:=b3f Y k2 s2 x hs (by omega);refine⟨y,k3,s3,by omega,⟨λS B v w0 w c g h=>?_⟩⟩;rotate_left;obtain⟨y,k3,s3,_,t⟩:=b3f Y k2 s2 x hs (by omega);refine⟨y,k3,s3,by omega,⟨λS B v w0 w c g h=>?_⟩⟩;rotate_left;by_cases l:0<x.D.length;obtain⟨q,k3,s3,_,_,_,_⟩:=cV Y k2 s2 2;obtain rfl|hq:=(by omega:q=0\/q≠0);refine⟨{x with D:=x.D.tail},k3,s3,by omega,⟨λS B v w0 w c g h=>?_⟩⟩;rotate_left;obtain⟨p,k4,s4,_,_,_,_⟩:=cV Y k3 s3 6;have hq:(q == 0)=false:=beq_false_of_ne hq;refine⟨{x with D:=x.D++[IntKind.i64.wrap (p-1)]},k4,s4,by omega,⟨λS B v w0 w c g h=>?_⟩⟩;rotate_left;obtain⟨p,k3,s3,_,_,_,_⟩:=cV Y k2 s2 6;refine⟨{x with D:=x.D++[IntKind.i64.wrap (p-1)]},k3,s3,by omega,⟨λS B v w0 w c g h=>?_⟩⟩;rotate_left;obtain⟨p,k3,s3,_,_,_,_⟩:=cV Y k2 s2 4;obtain rfl|hq:=(by omega:p=0\/p≠0);refine⟨{x with B:=x.B++[Wd0]},k3,s3,by omega,⟨λS B v w0 w c g h=>?_⟩⟩;rotate_left;have hq:(p == 0)=false:=beq_false_of_ne hq;have hn:=hs.bnd;have hr:1<=x.B.length/\x.B.length<=16:=by omega
 have hc:=hn.2.1;obtain⟨j,k4,s4,_,_,_,_⟩:=cV Y k3 s3 x.B.length;obtain⟨i,rfl⟩:=km ‹0<=j›;obtain⟨y,k5,s5,_,_⟩:=d3r Y k4 s4 x.A.length (by omega) (by omega) (by omega);have i16:i<16:=by omega
 clear hn;refine⟨regTo x i y,k5,s5,by omega,⟨λS B v w0 w c g h=>?_⟩⟩;rotate_left;obtain⟨p,k3,s3,_,_,_,_⟩:=cV Y k2 s2 4;obtain⟨q,k4,s4,_,_,_,_⟩:=cV Y k3 s3 3;refine⟨(a9d x x.A.length ⟨p,0,0,0,0,0,q,[]⟩),k4,s4,by omega,⟨λS B v w0 w c g h=>?_⟩⟩;rotate_left;all_goals
  have H:=uU h;clear h;go_in;go_wp21;obtain⟨ar,kr,ac,kc,ag,kg,X,_⟩:=(uH H).bx;have X:=uU X;have gn:=hs.2.2.2;clear hs;go_wp2_with (first|((with_reducible refine(Sp.tc H X (hO _)).mono ?_);rintro e w3 ⟨rfl,H,X,gl,fz⟩;obtain⟨d0,d1,d2,d3,d4,d5,d6,d7,d8,d9,d10,d11,d12⟩:=uH X)|(at_builtin;refine(uH H).lapp (uH X) (eAl _ _) rfl _ _ rfl _ rfl rfl (World.news_of_block (cs:=#[iv 0,iv 0,iv 0]) (heap_alloc_new _ _)) ?_;rintro b' k' w5 Z ⟨u,e3⟩ ⟨nl,nf⟩))
 go_end0
 exact⟨rfl,H.fld 0 (λu=>{x with M:=u}) (λ_ _ _=>⟨rfl,rfl,rfl,rfl⟩)⟩;go_end0;exact⟨rfl,H.fld 2 (λu=>{x with born:=u}) (λ_ _ _=>⟨rfl,rfl,rfl,rfl⟩)⟩
 ·go_region_with ((with_reducible refine(Sp.tc H X (eDr _)).mono ?_);rintro e w3 ⟨rfl,H,X,gl,fz⟩;obtain⟨d0,d1,d2,d3,d4,d5,d6,d7,d8,d9,d10,d11,d12⟩:=uH X)
  all_goals
   go_wp21;go_end0;exact⟨rfl,H.fld 1 (λu=>{x with K:=u}) (λ_ _ _=>⟨rfl,rfl,rfl,rfl⟩)⟩
 go_end0
 exact⟨rfl,H.fld 5 (λu=>{x with E:=u}) (λ_ _ _=>⟨rfl,rfl,rfl,rfl⟩)⟩
 ·go_region_with ((with_reducible refine(Sp.tc H X (eDr _)).mono ?_);rintro e w3 ⟨rfl,H,X,gl,fz⟩;obtain⟨d0,d1,d2,d3,d4,d5,d6,d7,d8,d9,d10,d11,d12⟩:=uH X)
  all_goals
   go_wp21;go_end0;exact⟨rfl,H.fld 6 (λu=>{x with I:=u}) (λ_ _ _=>⟨rfl,rfl,rfl,rfl⟩)⟩
 ·go_region_with ((with_reducible refine(Sp.tc H X (eDr _)).mono ?_);rintro e w3 ⟨rfl,H,X,gl,fz⟩;obtain⟨d0,d1,d2,d3,d4,d5,d6,d7,d8,d9,d10,d11,d12⟩:=uH X)
  all_goals
   go_wp21;go_end0;exact⟨rfl,H.fld 7 (λu=>{x with sub:=u}) (λ_ _ _=>⟨rfl,rfl,rfl,rfl⟩)⟩
 go_end0
 exact⟨rfl,H.fld 9 (λu=>{x with per:=u}) (λ_ _ _=>⟨rfl,rfl,rfl,rfl⟩)⟩;go_end0;exact⟨rfl,H.fld 10 (λu=>{x with V:=u}) (λ_ _ _=>⟨rfl,rfl,rfl,rfl⟩)⟩;go_end0;exact⟨rfl,H.fld 11 (λu=>{x with Q:=u}) (λ_ _ _=>⟨rfl,rfl,rfl,rfl⟩)⟩;go_end0;exact⟨rfl,H.fld 12 (λu=>{x with S:=u}) (λ_ _ _=>⟨rfl,rfl,rfl,rfl⟩)⟩;refine(t.h _ _ _ _ _ _ _ H).mono ?_;rintro e w3 ⟨rfl,Z⟩;go_wp21;go_end0;exact⟨rfl,Z⟩;refine(t.h _ _ _ _ _ _ _ H).mono ?_;rintro e w3 ⟨rfl,Z⟩;go_wp21;go_end0;exact⟨rfl,Z⟩;subst h;go_end0;exact⟨rfl,(H.tail X l).1 rfl⟩;go_end0;exact⟨rfl,(H.tail X l).2 h⟩
 ·obtain⟨ii,hii,hi0,hi1,hi2⟩:=info_parts a6h;go_region_law (first|(refine b1e _ rfl _ _ 25 rfl ii (iv 0) B (.slice ag x.D.length kg) x.D underlying25 hii hi0 hi1 hi2 rfl (by first|rfl|simp[Act.eval,Act.put]) ((uH H).gr (uH X) _ (by first|exact eAl _ _|exact(eAl _ _).trans (eDr _)|exact(eDr _).trans (eAl _ _))).1 _ 1 (IntKind.i64.wrap (p-1)) (by first|rfl|simp[Act.eval,Act.put];rfl) (by simp[go_sem]) (by omega) ((uH H).gr (uH X) _ (by first|exact eAl _ _|exact(eAl _ _).trans (eDr _)|exact(eDr _).trans (eAl _ _))).2 ?_;intro gb go cap w5 C D O _;obtain⟨Z,e8,nl,nf⟩:=(uH H).push (uH X) (by first|exact eAl _ _|exact(eAl _ _).trans (eDr _)|exact(eDr _).trans (eAl _ _)) C D O)|(go_simp;((with_reducible refine(Sp.tc H X (by first|exact hO _|exact eDr _)).mono ?_);rintro e w3 ⟨rfl,H,X,gl,fz⟩;obtain⟨d0,d1,d2,d3,d4,d5,d6,d7,d8,d9,d10,d11,d12⟩:=uH X)));all_goals
   go_wp21;go_end0;exact⟨rfl,Z⟩
 ·obtain⟨ii,hii,hi0,hi1,hi2⟩:=info_parts a6h;go_region_law (first|(refine b1e _ rfl _ _ 25 rfl ii (iv 0) B (.slice ag x.D.length kg) x.D underlying25 hii hi0 hi1 hi2 rfl (by first|rfl|simp[Act.eval,Act.put]) ((uH H).gr (uH X) _ (by first|exact eAl _ _|exact(eAl _ _).trans (eDr _)|exact(eDr _).trans (eAl _ _))).1 _ 1 (IntKind.i64.wrap (p-1)) (by first|rfl|simp[Act.eval,Act.put];rfl) (by simp[go_sem]) (by omega) ((uH H).gr (uH X) _ (by first|exact eAl _ _|exact(eAl _ _).trans (eDr _)|exact(eDr _).trans (eAl _ _))).2 ?_;intro gb go cap w5 C D O _;obtain⟨Z,e8,nl,nf⟩:=(uH H).push (uH X) (by first|exact eAl _ _|exact(eAl _ _).trans (eDr _)|exact(eDr _).trans (eAl _ _)) C D O)|(go_simp;((with_reducible refine(Sp.tc H X (by first|exact hO _|exact eDr _)).mono ?_);rintro e w3 ⟨rfl,H,X,gl,fz⟩;obtain⟨d0,d1,d2,d3,d4,d5,d6,d7,d8,d9,d10,d11,d12⟩:=uH X)));all_goals
   go_wp21;go_end0;exact⟨rfl,Z⟩
 go_end0
 exact⟨rfl,Z⟩
 ·go_region_with (first|((with_reducible refine(Sp.tc H X (eDr _)).mono ?_);rintro e w3 ⟨rfl,H,X,gl,fz⟩;obtain⟨d0,d1,d2,d3,d4,d5,d6,d7,d8,d9,d10,d11,d12⟩:=uH X)|((with_reducible refine(Sp.tc H X (hO _)).mono ?_);rintro e w3 ⟨rfl,H,X,gl,fz⟩;obtain⟨d0,d1,d2,d3,d4,d5,d6,d7,d8,d9,d10,d11,d12⟩:=uH X;obtain⟨br,rfl,h16,hw,hf,hb,F⟩:=(uH H).reg (uH X);have F:=uU F;obtain⟨k0,k1,k2⟩:=hw i (by omega);clear hw))
  all_goals
   go_wp21;go_end0;exact⟨rfl,uH F _ i y (hO _) (by omega)⟩
 go_region_law (first|(refine(uH H).stepN (uH X) rfl rfl _ _ rfl (by first|rfl|simp[Act.eval]) (by first|rfl|(simp[Act.eval];rfl)) ?_;rintro b' k' w5 Z ⟨u5,e3⟩ ⟨nl,nf⟩)|(go_simp;((with_reducible refine(Sp.tc H X (by first|exact hO _|exact eDr _)).mono ?_);rintro e w3 ⟨rfl,H,X,gl,fz⟩;obtain⟨d0,d1,d2,d3,d4,d5,d6,d7,d8,d9,d10,d11,d12⟩:=uH X)))
 all_goals
  go_wp21;go_end0;exact⟨rfl,Z⟩
