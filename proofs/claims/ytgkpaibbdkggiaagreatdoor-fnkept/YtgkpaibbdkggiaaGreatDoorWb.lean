import Derived.Test.YtgkpaibbdkggiaaGreatDoorWh3
set_option maxRecDepth 100000
set_option maxHeartbeats 4000000
namespace Go.Proofs.YtgkpaibbdkggiaaGreatDoor
open Go.RowKit Tryz
attribute [local go_sem ↓] Go.wp_at_zero Go.wp_at_succ
variable{w w':World}{x:Hp}{i b bn kn j g B kr br hd k r bs bh:Nat}{M xs:List Pr}{c:Cl}{ar:Option Addr}{v4 v8 vf vk:Value}{cB cO pb pk role:Nat->Nat}{pa ac:Nat->Option Addr}{F:List Int}{K Mt:List Nat}
theorem word_fn[qr](h:SAt B w b x ar kr v4 v8 br cB cO bn pb pa pk kn hd vf F vk K role)(j:Nat)(l:j<x.B.length)(y:Wd)(t:0<x.B.length)(a:World)(s:Ext a w)(z:a.heap.size<=br):
  ∀W,Ext w W->SAt B (cX W br (j*3) y) b { x with B:=x.B.set j y } ar kr v4 v8 br cB cO bn pb pa pk kn hd vf F vk K role/\Ext a (cX W br (j*3) y)/\(∀d o v,d≠br->w.cell? (aA d o)=some v->(cX W br (j*3) y).cell? (aA d o)=some v)/\∀q,q<w.heap.size->q≠br->(cX W br (j*3) y).heap[q]?=w.heap[q]?:=λW c=>by
 have g:=h.ext c;have f:=cD W br (j*3) y;refine⟨g.setr j l y f (a2g (g.rw.nr t).1 _ _) (a1m W br (j*3) y _ (g.rw.r j l)) (λm n=>dL W br (j*3) y m n),f.ext (s.trans c) (λq u e=>by omega),λd o v hd i=>?_,λq k p=>?_⟩;exact(cOb d o (f.block d (kF (uQ i) c.size) hd)).trans (c.keep i);exact(f.block q (kF k c.size) p).trans (c.block q k)
theorem c8r[qr](h:SAt B w b x ar kr v4 v8 br cB cO bn pb pa pk kn hd vf F vk K role)(s:Snd x)(t f:Nat)(af:t≠f)(C:t<x.A.length)(I:f<x.A.length)(a:World)(ha:a.heap.size<=B)(hx:Ext a w):
  Calls prog 278 #[.agg #[pP b],ndp bn f,ndp bn t] w λe w'=>e=.returned (.tuple #[])/\Hid (∃pb' pa' pk' role',SAt B w' b (qK x t f) ar kr v4 v8 br cB cO bn pb' pa' pk' kn hd vf F vk K role'/\∀q,q<w.heap.size->q≠br->(∀j,j<x.A.length->q≠cB j)->w'.heap[q]?=w.heap[q]?)/\Ext a w':=by
 have H:=uU h;have S:=uU s;have XA:=(hO w).alloc (.cells #[pP b] 213);have r0:0<x.B.length:=by have:=s.r1.B;omega
 have bc:x.B.length<=16:=by have:=s.r1.B;omega
 have n8:=s.ok.n8;have c3:=h.sb.bx.2.2.2.1;rw[h.sb.ha r0]at c3;have ay:b<w.heap.size:=h.sb.nb.1;have lo:=h.sb.lo.1;have HS:=uU (h.ext XA);have XS:=uU (hx.trans XA);have d3:=XA.keep c3;have M0:=uU (show(w.alloc (.cells #[pP b] 213)).cell? (aA w.heap.size 0)=some (pP b) by simp[go_sem]);have ab:=uU (show br<w.heap.size/\B<=br from⟨(h.rw.nr r0).1.1,(h.rw.nr r0).2⟩);clear h s c3 XA;go_in;go_wp21;go_loopw [16] (λi wr=>∃j:Nat,j<=x.B.length/\i=iv j/\Hid (SAt B wr b (rgR x t f j) ar kr v4 v8 br cB cO bn pb pa pk kn hd vf F vk K role)/\Hid (Ext a wr/\wr.cell? (aA w.heap.size 0)=some (pP b)/\∀q,q<w.heap.size->q≠br->wr.heap[q]?=w.heap[q]?)) (λi _=>x.B.length-(intOf i).toNat)
 case atStart=>exact⟨0,kB _,rfl,by rw[d2n];exact uH HS,XS,M0,λq hq _=>mF w _ q hq⟩
 case round=>
  clear HS XS d3 M0;obtain⟨j,hj,rfl,M,g⟩:=hrel;by_cases D:j<x.B.length
  ·obtain⟨hl,er⟩:=d2k x t f j D;obtain⟨V,e1,e2⟩:=M.rw.r j hl;rw[er]at V e1 e2;have aq:=cLt V;have FM:=uU (S.r4.1 j D).1;have be:=i0N j;have av:(j:Int)<(x.B.length:Int):=by omega
   have m0:=g.2.1;have aw:=cLt m0;have SU:=uU (c1y x t f j D);have SS:=uU (d2m x t f j D);obtain⟨⟨yk,yn,X⟩,hr⟩:∃r,r=x.B[j]:=⟨_,rfl⟩;rw[<-hr]at V e1 e2 FM SU SS;clear hr er;simp only at V e1 e2;have XB:=(hO wr).alloc (.cells #[iv yk,iv yn,iv X] 48);have d0:=XB.keep m0;have U:=XB.keep M.sb.n13;have N:=uU XB;clear XB;cases q:(yk == 2)
   ·have qn:¬yk=2:=by simpa using q
    have en:∀W,(binOp .eql 97 (.pointer none) (ndp bn f)).run prog W=.ok (.bool false) W:=λW=>ptr_nil bn (f*2) W
    have NX:=uU (show rgR x t f (j+1)=rgR x t f j from uH SS (by unfold mvW;rw[if_neg (λh=>qn h.1)]));go_wp21;go_region_with (go_at_call 202;refine(a3j ⟨yk,yn,X⟩ b _ q).mono ?_;rintro e p ⟨rfl,J⟩;have o:=uU (kI N (kI (eDr _) J));clear J);all_goals
     have R:=uU (show SAt B p b (rgR x t f (j+1)) ar kr v4 v8 br cB cO bn pb pa pk kn hd vf F vk K role by rw[uH NX];exact M.ext o);have RX:=uU (show Ext a p/\p.cell? (aA w.heap.size 0)=some (pP b)/\∀q,q<w.heap.size->q≠br->p.heap[q]?=w.heap[q]? from⟨g.1.trans o,o.keep g.2.1,λq y z=>(o.block q (by omega)).trans (g.2.2 q y z)⟩);go_wp21;go_roundw
     case rel=>exact⟨j+1,by omega,by go_num,R,RX⟩
     simp[intOf];omega
   obtain rfl:yk=2:=by simpa using q
   have fm:yn=0/\0<=X/\X<x.A.length:=by have:=uH FM;unfold uJ at this;simp only at this;omega
   obtain⟨i,rfl⟩:∃i:Nat,X=(i:Int):=⟨X.toNat,by omega⟩;obtain rfl:yn=0:=fm.1;have hi:i<x.A.length:=by omega
   by_cases am:i=f
   ·subst am;have en:∀W,(binOp .eql 97 (pQ bn (i*2)) (ndp bn i)).run prog W=.ok (.bool true) W:=λW=>c6t bn (i*2) W
    have NX:=uU (show({ rgR x t i j with B:=(rgR x t i j).B.set j ⟨2,0,t⟩ }:Hp)=rgR x t i (j+1) by have:=uH SU;unfold mvW at this;rw[if_pos ⟨rfl,rfl⟩]at this;exact this);go_wp21;go_region_with (go_at_call 202;refine(a1f ⟨2,0,(i:Int)⟩ b x.A.length bn 0 kn i _ rfl ((eDr _).keep U) hi).mono ?_;rintro e p ⟨rfl,J⟩;rw[kO];have o:=uU (kI N (kI (eDr _) J));clear J);all_goals
     have R3:=uU (M.ext o);have k0:=o.keep m0;have k3:p.cell? (aA b 3)=some (sS br x.B.length kr):=by
      have Z:=R3.sb.bx.2.2.2.1;have A:(rgR x t i j).B.length=x.B.length:=by simp[rgR];omega
      rw[R3.sb.ha (by omega),A]at Z;exact Z
     have g0:=o.keep V;have g1:=o.keep e1;have g2:=o.keep e2;have A:0<(rgR x t i j).B.length:=by simp[rgR];omega
     have gf:=(R3.rw.nr A).1.2;have ac:=cLt g0;have au:=cLt k3;have ax:=cLt k0;have T0:=uU (R3.sb.nd t C).1;have T:=uU (word_fn R3 j hl ⟨2,0,t⟩ A a (g.1.trans o) (by have:=ab.2;omega));rw[uH NX]at T;unfold cX at T;dsimp only at T;have FQ:=uU (show ∀q,q<p.heap.size->q≠br->q<w.heap.size->p.heap[q]?=w.heap[q]? from λq h0 z y=>(o.block q (by omega)).trans (g.2.2 q y z));clear V e1 e2 m0 d0 U A;go_wp21;go_region_with (go_at_call 216;refine(a8b bn (t*2) t _ ((eDr _).keep T0)).mono ?_;rintro e w4 ⟨rfl,x4⟩;have u:=kI (eDr p) x4;have l0:=u.keep k0;have l3:=u.keep k3;have o0:=u.keep g0;have o1:=u.keep g1;have o2:=u.keep g2;have of:=λm=>((cE u).2 br m ac).trans (gf m);have bb:=cLt o0;have X4:=uU u;clear x4 u);all_goals
      go_wp21;go_roundw
      case rel=>exact⟨j+1,by omega,by go_num,(T w4 X4).1,(T w4 X4).2.1,(T w4 X4).2.2.1 w.heap.size 0 _ (by have:=ab.1;omega) k0,λq y z=>((T w4 X4).2.2.2 q (by omega) z).trans (FQ q (by omega) z y)⟩
      simp[intOf];omega
   have ah:¬i*2=f*2:=by omega
   have en:∀W,(binOp .eql 97 (pQ bn (i*2)) (ndp bn f)).run prog W=.ok (.bool false) W:=λW=>d2q bn (i*2) (f*2) W ah
   have NX:=uU (show rgR x t f (j+1)=rgR x t f j from uH SS (by unfold mvW;rw[if_neg (λh=>by have:=h.2;simp only at this;omega)]));go_wp21;go_region_with (go_at_call 202;refine(a1f ⟨2,0,(i:Int)⟩ b x.A.length bn 0 kn i _ rfl ((eDr _).keep U) hi).mono ?_;rintro e p ⟨rfl,J⟩;rw[kO];have o:=uU (kI N (kI (eDr _) J));clear J);all_goals
    have R:=uU (show SAt B p b (rgR x t f (j+1)) ar kr v4 v8 br cB cO bn pb pa pk kn hd vf F vk K role by rw[uH NX];exact M.ext o);have RX:=uU (show Ext a p/\p.cell? (aA w.heap.size 0)=some (pP b)/\∀q,q<w.heap.size->q≠br->p.heap[q]?=w.heap[q]? from⟨g.1.trans o,o.keep g.2.1,λq y z=>(o.block q (by omega)).trans (g.2.2 q y z)⟩);go_wp21;go_roundw
    case rel=>exact⟨j+1,by omega,by go_num,R,RX⟩
    simp[intOf];omega
  have je:j=x.B.length:=by omega
  subst je;have v:=uU M;obtain⟨a0,a1,a2,a3,a4,a5,a6⟩:S7 wr (cB f) (cO f) (x.c f):=v.rw.s f I;have a7:wr.cell? (aA (cB f) (cO f+7))=some (.slice (pa f) (x.c f).F.length (pk f)):=v.rw.p7 f I;obtain⟨b0,b1,b2,b3,b4,b5,b6⟩:S7 wr (cB t) (cO t) (x.c t):=v.rw.s t C;have b7:wr.cell? (aA (cB t) (cO t+7))=some (.slice (pa t) (x.c t).F.length (pk t)):=v.rw.p7 t C;have ai:=(v.rw.nc t C).1.2;have ao:=(v.rw.nc f I).1.2;obtain⟨P,ak⟩:=v.sb.nd t C;obtain⟨aj,ae⟩:=v.sb.nd f I;have ap:cB f<wr.heap.size:=uQ a0;have al:cB t<wr.heap.size:=uQ b0;have Y:=cLt P;have aa:=uU (show ¬bn=cB t from λe=>by have y:=v.sp.n;have z:=v.sp.c t C;rw[e]at y;omega);have ad:=uU (show ¬bn=cB f from λe=>by have y:=v.sp.n;have z:=v.sp.c f I;rw[e]at y;omega);have an:¬bn=cB t:=uH aa;have bd:¬cB t=bn:=λe=>uH aa e.symm
  have bf:¬bn=cB f:=uH ad;have bg:¬cB f=bn:=λe=>uH ad e.symm
  have XR:=uU g.1;have QR:=uU g.2.2;have G:=uU (kG (v.rw.nc t C) (v.rw.nc f I));have L:=uU (λk hk=>(v.ext (eDr wr)).rw.far8 C I (λe=>af e.symm) (hT _) (a0a wr.drew (cB t) (cO t) (x.c f) (.slice (pa f) (x.c f).F.length (pk f))) (a1k wr.drew (cB t) (cO t) (x.c f) (.slice (pa f) (x.c f).F.length (pk f))) k hk);have O:=uU (show t<x.A.length/\f<x.A.length/\t≠f from⟨C,I,af⟩);have az:=cLt g.2.1;clear M g hj;go_wp21;go_region;all_goals
   obtain⟨l,E⟩:∃W,W=(eK wr (cB t) (cO t) (x.c f) (.slice (pa f) (x.c f).F.length (pk f))).drew:=⟨_,rfl⟩;have d:=uU (show l=eK wr.drew (cB t) (cO t) (x.c f) (.slice (pa f) (x.c f).F.length (pk f)) by rw[E,b4v]);have N5:=(a0a wr.drew (cB t) (cO t) (x.c f) (.slice (pa f) (x.c f).F.length (pk f))).block bn (by simpa using Y) an;have ag:l.cell? (aA bn (t*2))=some (iv t):=by rw[uH d,cOb bn (t*2) N5];exact P
   have ba:l.cell? (aA bn (f*2+1))=some (pQ (cB f) (cO f)):=by rw[uH d,cOb bn (f*2+1) N5];exact ae
   have d0:l.cell? (aA (cB f) (cO f))=some (iv (x.c f).st):=by rw[uH d];exact(L 0 (by omega)).trans a0
   have d1:l.cell? (aA (cB f) (cO f+1))=some (iv (x.c f).kind):=by rw[uH d];exact(L 1 (by omega)).trans a1
   have d2:l.cell? (aA (cB f) (cO f+2))=some (iv (x.c f).T):=by rw[uH d];exact(L 2 (by omega)).trans a2
   have d3:l.cell? (aA (cB f) (cO f+3))=some (iv (x.c f).U):=by rw[uH d];exact(L 3 (by omega)).trans a3
   have d4:l.cell? (aA (cB f) (cO f+4))=some (iv (x.c f).born):=by rw[uH d];exact(L 4 (by omega)).trans a4
   have d5:l.cell? (aA (cB f) (cO f+5))=some (iv (x.c f).J):=by rw[uH d];exact(L 5 (by omega)).trans a5
   have d6:l.cell? (aA (cB f) (cO f+6))=some (iv (x.c f).to):=by rw[uH d];exact(L 6 (by omega)).trans a6
   have d7:l.cell? (aA (cB f) (cO f+7))=some (.slice (pa f) (x.c f).F.length (pk f)):=by rw[uH d];exact(L 7 (by omega)).trans a7
   have bh:∀j,l.frozen? (aA (cB f) j)=false:=by rw[uH d];exact(a7i (w1:=wr.drew) (uY G.2.1 rfl (by simp)) (a3b (w:=wr.drew) (uY G.1.1 rfl (by simp)) _ _ _) (a0a wr.drew (cB t) (cO t) (x.c f) (.slice (pa f) (x.c f).F.length (pk f)))).2
   have bi:cB f<l.heap.size:=uQ d0;have bj:=cLt ag;have G6:=uU (show ∃pb' pa' pk' role',SAt B (zD l (cB f) (cO f) 2 t) b (qK x t f) ar kr v4 v8 br cB cO bn pb' pa' pk' kn hd vf F vk K role' by
    rw[<-rgR_all,uH d];exact c1x (v.ext (eDr wr)) t f O.2.2 O.1 O.2.1)
   have X6:=uU (show Ext a (zD l (cB f) (cO f) 2 t) by
    refine(a0c l (cB f) (cO f) 2 t).ext ?_ (λq hq e=>by have:=G.2.2;omega);rw[uH d];exact(a0a wr.drew (cB t) (cO t) (x.c f) _).ext XR.drew (λq hq e=>by have:=G.1.2;omega))
   have Q6:=uU (show ∀q,q<w.heap.size->q≠br->(∀j,j<x.A.length->q≠cB j)->(zD l (cB f) (cO f) 2 t).heap[q]?=w.heap[q]? from λq y z Z=>by
    have hw:q<wr.drew.heap.size:=by simpa using (show q<wr.heap.size by omega)
    rw[(a0c l (cB f) (cO f) 2 t).block q (by rw[uH d];exact kF hw (a0a wr.drew (cB t) (cO t) (x.c f) _).size) (Z f I),d,(a0a wr.drew (cB t) (cO t) (x.c f) _).block q hw (Z t C)];exact QR q y z)
   unfold eK at E;rw[<-E];clear E N5 a0 a1 a2 a3 a4 a5 a6 a7 b0 b1 b2 b3 b4 b5 b6 b7 ai ao ap al Y P ak aj ae;obtain⟨W6,Q⟩:∃W,W=zD l (cB f) (cO f) 2 t:=⟨_,rfl⟩;rw[<-Q]at G6 X6 Q6;unfold zD at Q;go_wp21;go_region;all_goals
    rw[<-Q];go_wp21;go_end0;obtain⟨pb',pa',pk',role',g6⟩:=uH G6;exact⟨rfl,⟨pb',pa',pk',role',g6.ext (eDr _),Q6⟩,X6.drew⟩
theorem c8x[qr](h:SAt B w b x ar kr v4 v8 br cB cO bn pb pa pk kn hd vf F vk K role)(s:Snd x)(hp:x.E=2)(i:Nat)(G:List Int)(hg:x.D=(i:Int)::G)(l:i<x.A.length)(k:Nat)(hk:x.sub=(k:Int))(I:k<(x.c i).F.length)(a:World)(ha:a.heap.size<=B)(hx:Ext a w):
  Calls prog 273 #[.agg #[pP b]] w λe w'=>e=.returned (yY (dW x).E b)/\Hid (SAt B w' b (dW x) ar kr v4 v8 br cB cO bn pb pa pk kn hd vf F vk K role)/\Ext a w':=by
 have ei:((i:Int)).toNat=i:=by omega
 have E:=uU (show dW x={ uX (uX x ((x.c i).p k).key) ((x.c i).p k).val with sub:=(k:Int)+1 } by
  have ek:x.sub.toNat=k:=by omega
  unfold dW;rw[hg];simp only[ei,if_pos (show x.sub<((x.c i).F.length:Int) by omega),ek];rw[hk])
 have EP:=uU (show(dW x).E=2 by rw[uH E];exact((a0b _ _).2.2.1.trans (a0b _ _).2.2.1).trans hp);have H:=uU h;have an:=s.ok.p200 i l;have n8:=s.ok.n8;have HG:=uU (s.good_pair (.inr hp) i k l I);have FM:=uU (show uJ ((x.c i).p k).key x.A.length/\uJ ((x.c i).p k).val x.A.length from by
  have N:=((s.r4.2 i l).2 k I).2 (λd=>by have:=d.1;omega);exact⟨N.1.1,N.2.1⟩)
 have S:=uU s;have XA:=(hO w).alloc (.cells #[pP b] 211);have RG:=uU (show RAt w b bn hd ((i:Int)::G) by have:=h.sb.rg;rw[hg]at this;exact this);have QA:=uU (a4k b bn hd i G _ (RG.block (XA.block b h.sb.nb.1)));have Y:=uU XA;have ap:b<w.heap.size:=h.sb.nb.1;have lo:=h.sb.lo.1;have hn:0<x.A.length:=by omega
 have HK:=uU hk;have kk:(k:Int)<((x.c i).F.length:Int):=by omega
 have k0:=i0N k;clear h hp XA hg hk s;go_in;go_wp21;refine QA.mono ?_;rintro e g ⟨rfl,x1⟩;rw[ei];have r0:g.cell? (aA w.heap.size 0)=some (pP b):=x1.keep (by simp[go_sem]);have X1:=uU (Y.trans x1);have V:=uU (H.ext X1);have m1:=(V.sb.nd i l).2;have p7:=V.rw.p7 i l;rw[(H.rw.pl i l (H.rw.pw l (by omega))).1]at p7;have c7:g.cell? (aA b 7)=some (iv k):=by have:=V.sb.bx.2.2.2.2.2.2.2.1;rw[uH HK]at this;exact this
 obtain⟨y0,y1,y2,y3,y4,ai⟩:=V.rw.p i l k I;have au:=cLt c7;have ao:=cLt r0;have af:=cLt m1;have aw:cB i<g.heap.size:=uQ p7;have ah:pb i<g.heap.size:=uQ y0;have zn:=λn j=>a0k g n #[iv 0,iv 0,iv 0,iv 0,iv 0,iv 0] 53 j
 have zf:=λn j=>a3m g n #[iv 0,iv 0,iv 0,iv 0,iv 0,iv 0] 53 j
 have zo:=λn o b j (h:b<g.heap.size)=>a3w g n o b j h
 clear x1 Y QA ei;go_wp21;go_quiet (fail);obtain⟨m2,rfl⟩:∃m,m=nq:=⟨_,rfl⟩;go_wp21;go_region;all_goals
  obtain⟨W2,v⟩:∃W,W=a4i ((g.drewN (m2+1)).alloc (.cells #[iv 0,iv 0,iv 0,iv 0,iv 0,iv 0] 53)) g.heap.size ((x.c i).p k):=⟨_,rfl⟩;have PB:=b4s g (m2+1) ((x.c i).p k) 53;rw[<-v]at PB;unfold a4i at v;rw[<-v];clear v zn zf zo y0 y1 y2 y3 y4 ai m1 p7 c7 af ah;obtain⟨x2,P,ac,O,ab,ad,X⟩:=PB;have H2:=uU (V.ext x2);have X2:=uU (X1.trans x2);have s0:=x2.keep r0;have hs:=cLt P;clear r0;obtain⟨z,hz⟩:=obE (uX x ((x.c i).p k).key);have M:=uU (show Snd z/\eD z ((x.c i).p k).val/\uJ ((x.c i).p k).val z.A.length/\z.sub=(k:Int) by
   rw[hz];have e:=a0b x ((x.c i).p k).key;exact⟨S.shdW _ HG.1,HG.2.keep e.2.1 (a4u x _ HG.1),by rw[e.2.1];exact FM.2,e.2.2.2.2.trans HK⟩)
  have HZ:=uU hz;have ag:=cLt s0;have A:∀j,j<x.A.length->cB j<w.heap.size:=λj u=>(H.rw.nc j u).1.1
  have al:=uU (show z.A.length=x.A.length by rw[hz];exact(a0b x _).2.1);clear hz;go_wp21;go_cut [] (λt=>Hid (SAt B t b z ar kr v4 v8 br cB cO bn pb pa pk kn hd vf F vk K role)/\Hid (Ext a t)/\Hid (t.cell? (aA w.heap.size 0)=some (pP b)/\t.cell? (aA g.heap.size 3)=some (iv ((x.c i).p k).val.k)/\t.cell? (aA g.heap.size 4)=some (iv ((x.c i).p k).val.n)/\t.cell? (aA g.heap.size 5)=some (iv ((x.c i).p k).val.a)))
  case first=>
   go_region_with (first|(have _:=LA;go_at_call 222;refine(a9g H3 ((x.c i).p k).key HG.1 (λj u=>(a2d S.ok).2 j u) a ha X3).mono ?_;rintro e w4 ⟨rfl,J,R,U⟩;rw[<-uH HZ]at J;have H4:=uU J;have X4:=uU R;have L:=uU (show ∀q,q<y.heap.size->q≠b->w.heap.size<=q->w4.heap[q]?=y.heap[q]? from λq N h2 h3=>uH U q N h2 (λj u=>by have:=A j u;omega));clear J R U)|(go_at_call 144;refine(a7o (H2.ext (eDr W2)) S.r2 ((x.c i).p k).key HG.1 FM.1).mono ?_;rintro e y ⟨rfl,Q⟩;have LA:=True.intro;have f:=kI (eDr W2) Q;have H3:=uU (H2.ext f);have X3:=uU (hx.trans (X2.trans f));have Z:=f.keep s0;have t1:=f.keep ac;have t2:=f.keep O;have t3:=f.keep ab;have t4:=f.keep ad;have t5:=f.keep X;have C:=cLt Z;have D:=cLt t3;clear Q f))
   all_goals
    go_wp21;go_meet;exact⟨H4,X4,⟨(cOb w.heap.size 0 (L w.heap.size C (by omega) (by omega))).trans Z,(cOb g.heap.size 3 (L g.heap.size D (by omega) (by omega))).trans t3,(cOb g.heap.size 4 (L g.heap.size D (by omega) (by omega))).trans t4,(cOb g.heap.size 5 (L g.heap.size D (by omega) (by omega))).trans t5⟩⟩
  case rest=>
   obtain⟨g4,aj,r⟩:=hcut;obtain⟨W4,am⟩:∃W,W=wc:=⟨_,rfl⟩;subst am;have q0:=r.1;have q3:=r.2.1;have q4:=r.2.2.1;have q5:=r.2.2.2;have ae:=cLt q0;have ak:=cLt q3;clear r P ac O ab ad X s0 hs ag;go_wp21;go_cut [] (λt=>Hid (SAt B t b (uX z ((x.c i).p k).val) ar kr v4 v8 br cB cO bn pb pa pk kn hd vf F vk K role)/\Hid (Ext a t)/\Hid (t.cell? (aA w.heap.size 0)=some (pP b)))
   case first=>
    go_region_with (first|(have _:=LA;go_at_call 222;refine(a9g H3 ((x.c i).p k).val M.2.1 (λj u=>(a2d M.1.ok).2 j u) a ha X3).mono ?_;rintro e w4 ⟨rfl,J,R,U⟩;have H4:=uU J;have X4:=uU R;have L:=uU (show ∀q,q<y.heap.size->q≠b->w.heap.size<=q->w4.heap[q]?=y.heap[q]? from λq N h2 h3=>uH U q N h2 (λj u=>by have:=A j (by rw[<-uH al];exact u);omega));clear J R U)|(go_at_call 144;refine(a7o (g4.ext (eDr W4)) M.1.r2 ((x.c i).p k).val M.2.1 M.2.2.1).mono ?_;rintro e y ⟨rfl,Q⟩;have LA:=True.intro;have f:=kI (eDr W4) Q;have H3:=uU (g4.ext f);have X3:=uU (aj.trans f);have Z:=f.keep q0;have t3:=f.keep q3;have t4:=f.keep q4;have t5:=f.keep q5;have C:=cLt Z;clear Q f))
    all_goals
     go_wp21;go_meet;exact⟨H4,X4,(cOb w.heap.size 0 (L w.heap.size C (by omega) (by omega))).trans Z⟩
   case rest=>
    obtain⟨g6,T,aa⟩:=hcut;have g0:=uH aa;have d7:wc.cell? (aA b 7)=some (iv k):=by have:=g6.sb.bx.2.2.2.2.2.2.2.1;rw[(a0b _ _).2.2.2.2,M.2.2.2]at this;exact this
    have g7:=g6.sb.nb.2 7;have av:=cLt d7;have aq:=cLt g0;have FN:=uU (g6.subs ((k:Int)+1));have XN:=uU (T.sc b 7 (show a.heap.size<=b by omega) (iv ((k:Int)+1)));clear q0 q3 q4 q5 ae ak aa g6 T;go_wp21;go_ret;exact⟨by rw[uH EP];rfl,by rw[uH E,<-uH HZ];exact uH FN,XN⟩
def zZ(x:Hp)(k:Nat):List Nat:=(List.range k).filter (λi=>(x.c i).st == 1 && a1n x i)
theorem b7y(h:((x.c k).st == 1 && a1n x k)=false):zZ x (k+1)=zZ x k:=by
 unfold zZ;rw[mn,mH,qP (by simp[h]),List.filter_nil,qA]
theorem c5g(h:((x.c k).st == 1 && a1n x k)=true):zZ x (k+1)=zZ x k++[k]:=by
 unfold zZ;rw[mn,mH,qR (by simpa using h),List.filter_nil]
theorem c5h(x:Hp)(k:Nat):(zZ x k).length<=k:=by grind[zZ,Hp.c,a1n]
theorem slI_nth{xs:List Int}{ad:Option Addr}{n cap:Nat}(h:SlI w (.slice ad n cap) xs)(k:Nat)(f:k<xs.length):∃b o,ad=some (aA b o)/\a8e w b (o+k*1) xs[k]:=by
 obtain⟨c,a,e,_,d⟩:=h;simp only[Value.slice.injEq]at e;rw[e.1];exact d k f
theorem c9m:(prog.info? 97).map (λi=>(i.zero,i.size,i.bytes))=some (some (.pointer none),1,8):=by kernel_rfl
def b3n[qr](B:Nat)(w:World)(s:Nat)(x:Hp):Prop:=∃ar kr a4 n4 k4 a8 n8 k8 br cB cO bn pb pa pk kn hd vf F vk role,SAt B w s x ar kr (.slice a4 n4 k4) (.slice a8 n8 k8) br cB cO bn pb pa pk kn hd vf F vk (zZ x x.A.length) role/\Ho F/\F.Perm (a6u x x.A.length)/\2*x.M<=(kn:Int)
theorem c9n[qr](hz:∀q,(default:uL).z q=none)(x:Hp)(b:Nat)(w:World){ar:Option Addr}{kr:Nat}{ac:Option Addr}{kc:Nat}{ag:Option Addr}{kg:Nat}{an:Option Addr}{kn:Nat}(h:VAt w b x ar kr ac kc ag kg an kn)(r1:R1 x)(r2:R2 x)(r5:R5 x)(hg4:x.D.length<=4000):
  Calls prog 21 #[.pointer (some ⟨b,0,none⟩)] w λe w'=>∃s,e=.returned (.pointer (some ⟨s,0,none⟩))/\Hid (b3n w.heap.size w' s x)/\Ext w w':=by
 have Z:x.A.length<=8000:=by have:=r1.M;have:=r1.A;omega
 have n1:x.B.length<=1048576:=by rw[r1.B];omega
 have t:=c3z r2;have SR:=uU (show SlW w (.slice ar x.B.length kr) x.B from⟨ar,kr,rfl,h.H.lr,h.H.R⟩);have SC:=uU (show SlC w (.slice ac x.A.length kc) x.A from⟨ac,kc,rfl,h.H.lc,λi hi=>by obtain⟨b',o,e,q⟩:=h.H.C i hi;rw[<-Hp.c_eq x i hi]at q;exact⟨b',o,e,q⟩⟩);have SG:=uU (show SlI w (.slice ag x.D.length kg) x.D from⟨ag,kg,rfl,h.H.lg,h.H.G⟩);have HH:=uU h;have c0:=h.H.c0;have c1:=h.H.c1;have c2:=h.H.c2;have c3:=h.H.c3;have X:=h.H.c4;have S:=h.H.c5;have c6:=h.H.c6;have c7:=h.H.c7;have c8:=h.H.c8;have c9:=h.H.c9;have af:=h.H.c10;have ae:=h.H.c11;have Y:=h.H.c12;have O:=uU r1;have G5:=uU r5.2.2;have J:=uU c8;have C0:=uU c0;have aj:0<x.B.length:=by rw[r1.B];omega
 obtain⟨i0,hi0,hy0,hy1,hy2⟩:=info_parts c9m;clear h r1 r2 r5;go_in;go_wp21;refine(c4w x ag x.D.length kg w SR SC n1 Z t).mono ?_;rintro e w1 ⟨vr,vc,rfl,hown,x1⟩;obtain⟨br,bc,pb,pa,pk,ar1,kr1,ac1,kc1,rfl,har,rfl,hac,hrw,_⟩:=uH hown;have RW:=uU hrw;have L:=uU har;have I:=uU hac;clear hown hrw har hac c0 c1 c2 c3 X S c6 c7 c8 c9 af ae Y;go_wp21;refine(c1r x _ (RW.slW kr1 L n1) (RW.slC kc1 I (by omega) t) (SlI.ext x1 SG)).mono ?_;rintro e w2 ⟨b2,rfl,x2,hor⟩;obtain⟨bx,bn,vf,F,hop⟩:∃bx bn vf F,Opn w1 w2 x bx b2 bn x.A.length x.A.length ar1 kr1 ac1 kc1 ag kg vf F:=by
  obtain⟨hn,_⟩|⟨_,q⟩:=hor;exact absurd O hn;exact q
 have P:=uU hop;have d0:=hop.c 0 _ rfl;have d1:=hop.c 1 _ rfl;have d2:=hop.c 2 _ rfl;have d3:=hop.c 3 _ rfl;have d4:=hop.c 4 _ rfl;have d5:=hop.c 5 _ rfl;have d6:=hop.c 6 _ rfl;have d7:=hop.c 7 _ rfl;have d8:=hop.c 8 _ rfl;have d9:=hop.c 9 _ rfl;have ap:=hop.c 10 _ rfl;have ao:=hop.c 11 _ rfl;have V:=hop.c 12 _ rfl;have al:=hop.n13;obtain⟨avf,kvf,hvf⟩:∃a k,vf=.slice a F.length k:=⟨_,_,(a0d hop.f.own).1⟩;subst hvf;have ad:=hop.f.hd;obtain⟨role0,hst⟩:=SAt.V (T:=103) hz P RW x1.size L I aj (stZ_at Tryz.zeroCells103 (iv x.M) (iv x.K) (iv x.born) (.slice ar1 x.B.length kr1) (.slice ac1 x.A.length kc1) (iv x.E) (iv x.I) (iv x.sub) (.slice ag x.D.length kg) (iv x.per) (iv x.V) (iv x.Q) (iv x.S) (.slice (some ⟨bn,0,none⟩) x.A.length x.A.length) (.slice avf F.length kvf) a7z.1 a7z.2.1 a7z.2.2.1 a7z.2.2.2);generalize (λ_:Nat=>bc)=cB at hst;generalize (λq:Nat=>q*8)=cO at hst;have ST:=uU hst;have B:w2.cell? ⟨b,8,none⟩=some (.slice ag x.D.length kg):=x2.keep (x1.keep J);have am:=cLt B;clear hor hop hst;go_wp21;obtain⟨W3,hW3⟩:∃W,W=w2.alloc (.cells (((((((((((((((Tryz.zeroCells103.setIfInBounds 0 (iv x.M)).setIfInBounds 1 (iv x.K)).setIfInBounds 2 (iv x.born)).setIfInBounds 3 (.slice ar1 x.B.length kr1)).setIfInBounds 4 (.slice ac1 x.A.length kc1)).setIfInBounds 5 (iv x.E)).setIfInBounds 6 (iv x.I)).setIfInBounds 7 (iv x.sub)).setIfInBounds 8 (.slice ag x.D.length kg)).setIfInBounds 9 (iv x.per)).setIfInBounds 10 (iv x.V)).setIfInBounds 11 (iv x.Q)).setIfInBounds 12 (iv x.S)).setIfInBounds 13 (.slice (some ⟨bn,0,none⟩) x.A.length x.A.length)).setIfInBounds 14 (.slice avf F.length kvf)) 103):=⟨_,rfl⟩;have d:=uU (show SAt w.heap.size W3 w2.heap.size { x with D:=[] } ar1 kr1 (.slice ac1 x.A.length kc1) (.slice ag x.D.length kg) br cB cO bn pb pa pk x.A.length 0 (.slice avf F.length kvf) F (.slice none 0 0) [] role0 by rw[hW3];exact ST);have r:Ext w W3:=by rw[hW3];exact(x1.trans x2).alloc _
 rw[<-hW3];have FF:=uU (kG P.fo P.fp);clear hW3 ST P d0 d1 d2 d3 d4 d5 d6 d7 d8 d9 ap ao V al ad B am;have l:=d.sb.n13;have e0:W3.cell? ⟨b,0,none⟩=some (iv x.M):=r.keep C0;have B:W3.cell? ⟨b,8,none⟩=some (.slice ag x.D.length kg):=r.keep J;obtain⟨m,hm⟩:∃m:Nat,2*x.M-(x.A.length:Int)=(m:Int):=⟨(2*x.M-(x.A.length:Int)).toNat,by have:=O.A;omega⟩;have HM:=uU (show x.A.length+m<=8000 by have:=O.M;omega);have ai:=uU (show 2*x.M=((x.A.length+m:Nat):Int) by omega);have p:w2.heap.size<W3.heap.size:=d.sb.nb.1;have A:=uU (show ¬b=w2.heap.size from λe=>by have h1:=d.sb.lo.1;have h8:=cLt J;omega);have K:=cLt e0;have E:=uU (show IntKind.i64.wrap (IntKind.i64.wrap (2*x.M)-(x.A.length:Int))=(m:Int) by
  have hr:=O.M;have e1:IntKind.i64.wrap (2*x.M)=2*x.M:=by rw[nF];omega
  rw[e1,nF];omega)
 clear hm;go_wp21;go_cut [] (λwx=>∃bn2 kn2,Hid (∃role',SAt w.heap.size wx w2.heap.size { x with D:=[] } ar1 kr1 (.slice ac1 x.A.length kc1) (.slice ag x.D.length kg) br cB cO bn2 pb pa pk kn2 0 (.slice avf F.length kvf) F (.slice none 0 0) [] role')/\Hid (Ext w wx)/\Hid (2*x.M<=(kn2:Int)))
 case first=>
  go_region_with (go_at_call 51;rw[uH E];refine(d3w (d.ext (eDr W3)) rfl (by have:=r.size;simpa using this) m HM).mono ?_;rintro e w4 ⟨bn2,kn2,rfl,hs4,hc4⟩;have ab:=hc4.1;have qf:=hc4.2.1;have aa:=uU hs4;have ah:=uU (show 2*x.M<=(kn2:Int) by have h1:=uH ai;have h2:x.A.length+m<=kn2:=hc4.2.2.2;omega);have X4:=uU (show Ext w (w4.setCell ⟨w2.heap.size,13,none⟩ (.slice (some ⟨bn2,0,none⟩) x.A.length kn2)) from(r.drew.trans hc4.2.2.1).setCell d.sb.lo.1 _);have f8:=(r.drew.trans hc4.2.2.1).keep J;have N:=cLt ab;have au:=cLt f8;have aw:¬b=w2.heap.size:=uH A;have av:¬w2.heap.size=b:=λe=>uH A e.symm;clear hs4 hc4)
  all_goals
   go_wp21;go_meet;exact⟨bn2,kn2,aa,X4,ah⟩
 case rest=>
  obtain⟨bn2,kn2,hst,hex,hkn⟩:=hcut;obtain⟨role0,hst⟩:=uH hst;clear l e0 B p K A r d E HM;have d:=uU hst;have r:=uU hex;have B:=r.keep J;have K:=cLt B;clear hst hex;go_wp21;go_loopw [47] (λi wr=>∃(k:Nat),k<=x.D.length/\i=.int .i64 k/\Hid (SAt w.heap.size wr w2.heap.size { x with D:=x.D.take k } ar1 kr1 (.slice ac1 x.A.length kc1) (.slice ag x.D.length kg) br cB cO bn2 pb pa pk kn2 0 (.slice avf F.length kvf) F (.slice none 0 0) [] role0)/\Hid (Ext w wr)) (λi _=>x.D.length-(intOf i).toNat)
  case atStart=>exact⟨0,kB _,rfl,d,r⟩
  case round=>
   clear d;obtain⟨k,hk,rfl,hst,hex⟩:=hrel;by_cases hlt:k<x.D.length
   ·obtain⟨bg,og,hag3,hg1⟩:=slI_nth SG k hlt;subst hag3;have U:=hex.keep hg1;obtain⟨j,hj⟩:∃j:Nat,x.D[k]=(j:Int):=⟨x.D[k].toNat,by have:=(G5 x.D[k] (k7 hlt)).1;omega⟩;have ay:j<x.A.length:=by have:=(G5 x.D[k] (k7 hlt)).2;omega
    rw[hj,mq]at U;have l:=hst.sb.n13;have j0:=i0N j;have j1:(j:Int)<(x.A.length:Int):=by omega
    have k0:=i0N k;have k1:(k:Int)<(x.D.length:Int):=by omega
    have HJ:=uU (show x.D.take (k+1)=x.D.take k++[(j:Int)] by rw[kx hlt,hj]);have ak:(x.D.take k).length<4000:=by rw[mw];omega
    clear hg1 hj;go_wp21;go_region_with (go_at_call 52;refine(c1s w2.heap.size bn2 0 j (x.D.take k) _ (hst.ext (eDr wr)).sb.rg (hst.ext (eDr wr)).sb.nb ak).mono ?_;rintro e w5 ⟨rfl,hr5,ho5,hn5,hc5⟩;have R:=uU ((hst.ext (eDr wr)).ring hr5 ho5 hn5 (λo ho=>hc5 o (by omega)));have XX:=uU (ho5.ext hex.drew (λq hq e=>by have:=hst.sb.lo.1;omega));clear hr5 ho5 hn5 hc5);all_goals
     go_wp21;go_roundw
     case rel=>exact⟨k+1,by omega,by go_num,by rw[uH HJ];exact uH R,XX⟩
     simp[intOf];omega
   have v:k=x.D.length:=by omega
   subst v;have S4:=uU (show SAt w.heap.size wr w2.heap.size x ar1 kr1 (.slice ac1 x.A.length kc1) (.slice ag x.D.length kg) br cB cO bn2 pb pa pk kn2 0 (.slice avf F.length kvf) F (.slice none 0 0) (zZ x 0) role0 by have:=uH hst;rw[mG]at this;exact this);have l:=S4.sb.n13;obtain⟨w4,N⟩:∃W,W=wr:=⟨_,rfl⟩;subst N;have X4:=uU hex;clear hst hex hlt hk;go_wp21;clear l;go_loopw [69] (λi wr=>∃(k:Nat)(avk:Option Addr)(kvk:Nat)(role:Nat->Nat),k<=x.A.length/\i=.int .i64 k/\Hid (SAt w.heap.size wr w2.heap.size x ar1 kr1 (.slice ac1 x.A.length kc1) (.slice ag x.D.length kg) br cB cO bn2 pb pa pk kn2 0 (.slice avf F.length kvf) F (.slice avk (zZ x k).length kvk) (zZ x k) role)/\Hid (Ext w wr)) (λi _=>x.A.length-(intOf i).toNat)
   case atStart=>exact⟨0,none,0,role0,kB _,rfl,S4,X4⟩
   case round=>
    clear S4;obtain⟨k,avk,kvk,role,hk,rfl,hst,hex⟩:=hrel;by_cases hlt:k<x.A.length
    ·have l:=hst.sb.n13;obtain⟨m0,m1⟩:=hst.sb.nd k hlt;have s0:=(hst.rw.s k hlt).1;have k0:=i0N k;have k1:(k:Int)<(x.A.length:Int):=by omega
     have aq:=c5h x k;cases q1:((x.c k).st == 1)
     ·have R:=uU (show SAt w.heap.size wr w2.heap.size x ar1 kr1 (.slice ac1 x.A.length kc1) (.slice ag x.D.length kg) br cB cO bn2 pb pa pk kn2 0 (.slice avf F.length kvf) F (.slice avk (zZ x (k+1)).length kvk) (zZ x (k+1)) role by rw[b7y (by simp[q1])];exact hst);go_wp21;go_roundw
      case rel=>exact⟨k+1,avk,kvk,role,by omega,by go_num,R,hex⟩
      simp[intOf];omega
     go_wp21;refine(c8m x w2.heap.size bn2 k _ hst.sb.bx.2.2.2.2.2.1 hst.sb.bx.2.2.2.2.2.2.1 m0).mono ?_;rintro e w5 ⟨rfl,q5⟩;have n:=uU (hst.ext q5);have X5:=uU (hex.trans q5);cases q2:a1n x k
     ·have R:=uU (show SAt w.heap.size w5 w2.heap.size x ar1 kr1 (.slice ac1 x.A.length kc1) (.slice ag x.D.length kg) br cB cO bn2 pb pa pk kn2 0 (.slice avf F.length kvf) F (.slice avk (zZ x (k+1)).length kvk) (zZ x (k+1)) role by rw[b7y (by simp[q2])];exact n);clear l m0 m1 s0 hst hex;go_wp21;go_roundw
      case rel=>exact⟨k+1,avk,kvk,role,by omega,by go_num,R,X5⟩
      simp[intOf];omega
     have KY:=uU (c5g (x:=x) (k:=k) (by simp[q1,q2]));have D:=n.sb.k0;have M:=n.sb.nb.2 4017;have p:w2.heap.size<w5.heap.size:=n.sb.nb.1;have hB:w.heap.size<=w5.heap.size:=X5.size;clear l m0 m1 s0 hst hex;go_wp2_with (at_builtin;refine wpList_append_lies _ rfl _ _ 101 rfl w.heap.size 97 i0 (.pointer none) 1 8 underlying101 hi0 hy0 hy1 hy2 rfl (by decide) _ (zZ x k).length ((zZ x k).map (ndp bn2)) rfl (n.sb.kp.alloc _) _ 1 1 [ndp bn2 k] rfl rfl ?c1 ?c2 (by decide) ?c3 ?X ?S _ rfl ?_)
     case c1=>
      intro j u hj;match j,hj with
      | 0,hj=>simp at hj;subst hj;simp[Addr.add,go_sem]
     case c2=>intro u hu;simp at hu;subst hu;rfl
     case c3=>unfold maxLen;omega
     case X=>omega
     case S=>simp;omega
     intro g cap w6 hown hgrow hat hglt;have y:=(hO w5).alloc (.cells #[ndp bn2 k] 97);have R:=uU ((n.ext y).push (i:=k) hgrow hown (by simpa using hat));have az:=(kT (a:=⟨w2.heap.size,4017,none⟩) (hgrow.block w2.heap.size (kF p y.size) (λe=>by have h1:=n.sp.k _ e.symm;have h2:=n.sp.b;omega))).trans (y.keep D);have ax:=(mR (a:=⟨w2.heap.size,4017,none⟩) (hgrow.block w2.heap.size (kF p y.size) (λe=>by have h1:=n.sp.k _ e.symm;have h2:=n.sp.b;omega))).trans (((cE y).2 _ 4017 p).trans M);have X6:=uU (show Ext w (w6.setCell ⟨w2.heap.size,4017,none⟩ (.slice (some ⟨g,0,none⟩) ((zZ x k).length+1) cap)) from(a4r (X5.trans y) (n.sb.kp.alloc _) (hT _) hgrow).setCell n.sb.lo.1 _);clear hown hgrow hat y D M;go_wp21;go_roundw
     case rel=>exact⟨k+1,some ⟨g,0,none⟩,cap,_,by omega,by go_num,by rw[uH KY,ko];exact uH R,X6⟩
     simp[intOf];omega
    have v:k=x.A.length:=by omega
    subst v;have Q:=uU (show b3n w.heap.size wr w2.heap.size x from⟨_,_,_,_,_,_,_,_,_,_,_,_,_,_,_,_,_,_,_,_,_,hst,FF.1,FF.2,hkn⟩);clear hst;go_wp21;go_ret;exact⟨_,rfl,Q,hex⟩
theorem b0p(b d bc c:Nat)(a:Int)(w:World)(h:w.cell? (aA b (d+1))=some (pQ bc c))(i:w.cell? (aA bc (c+2))=some (iv a)):
  Calls prog 146 #[pQ b d] w λe w'=>e=.returned (.bool (a == 1 || a == 3))/\Ext w w':=by
 cases f:(a == 1) <;> cases g:(a == 3) <;> (go_in;go_wp21;go_ret;exact⟨rfl,hO _⟩)
theorem b0q(b d bc c:Nat)(a:Int)(w:World)(h:w.cell? (aA b (d+1))=some (pQ bc c))(i:w.cell? (aA bc (c+2))=some (iv a)):
  Calls prog 147 #[pQ b d] w λe w'=>e=.returned (.bool (a == 2 || a == 3))/\Ext w w':=by
 cases f:(a == 2) <;> cases g:(a == 3) <;> (go_in;go_wp21;go_ret;exact⟨rfl,hO _⟩)
def zp(p:Pr):Bool:=p.key.k == 0 && p.key.n == 0 && p.key.a == 0 && p.val.k == 0 && p.val.n == 0 && p.val.a == 0
theorem c6w(p:Pr)(w:World):(Op.equalIn 10000 53 (.agg #[iv p.key.k,iv p.key.n,iv p.key.a,iv p.val.k,iv p.val.n,iv p.val.a]) (.agg #[iv 0,iv 0,iv 0,iv 0,iv 0,iv 0])).run prog w=.ok (zp p) w:=by
 rw[run_equalIn_struct w 9999 _ _ _ (by kernel_rfl) (by kernel_rfl)];simp[go_sem,zp];repeat' split
 all_goals simp_all
theorem d3y(p:Pr)(w:World):(binOp .eql 53 (.agg #[iv p.key.k,iv p.key.n,iv p.key.a,iv p.val.k,iv p.val.n,iv p.val.a]) (.agg #[iv 0,iv 0,iv 0,iv 0,iv 0,iv 0])).run prog w=.ok (.bool (zp p)) w:=by
 rw[run_eql_struct,c6w];rfl
theorem sk_of(h:(c.T == 1 || c.T == 3)=false):SK c:=by simp at h;exact h
theorem sk_not(h:(c.T == 1 || c.T == 3)=true):¬SK c:=λk=>by simp at h;unfold SK at k;omega
theorem sv_of(h:(c.T == 2 || c.T == 3)=false):SV c:=by simp at h;exact h
theorem sv_not(h:(c.T == 2 || c.T == 3)=true):¬SV c:=λk=>by simp at h;unfold SV at k;omega
theorem zp_cls{M S:List Nat}{g:Nat->List (Option Nat)}{l:Nat}(h:zp ((x.c j).p l)=true)(C:a2k x M S g none j l):a2k x M S g none j (l+1):=by grind[zp,Hp.c,Cl.p,a2k,a2a.at,a7s.at]
theorem d3z(x:Hp)(a:World)(b bw r1 r2 r t j:Nat)(v:Value)(f:Nat->Value)(g:Nat->List (Option Nat))(O St:List Nat)(w:World){ar:Option Addr}{kr:Nat}{ac:Nat->Option Addr}{kn:Nat}(hv:VNt a b x ar kr ac (some (aA r t)) kn)(q2:R2 x)(q4:R4 x)(ak:(x.c j).F.length<=200)(h:eV w a.heap.size bw b r1 r t x.A.length v O St)(ht:yN w a.heap.size bw r1 r2 r t v f g)(hI:kC x O St g none (some j))(hj:j∈O)(hx:Ext a w)(af:x.A.length<=8000)(hg:∀k,(g k).length<=9000000):
  Calls prog 142 #[pP bw,ptr r (t+j*2)] w λe w'=>e=.returned (.tuple #[])/\∃v' Mt' St' f' g',eV w' a.heap.size bw b r1 r t x.A.length v' Mt' St'/\yN w' a.heap.size bw r1 r2 r t v' f' g'/\Hid (kC x Mt' St' g' none none/\yZ (λ_=>True) O Mt' St St'/\∀k,(g' k).length<=(g k).length+200)/\Hid (Ext a w'):=by
 have ag:j<x.A.length:=h.rg j hj;have HJ:=uU (hI.only j hj);have GD:=uU ((hI.only j hj).good q2 q4);obtain⟨bc,oc,ap,kp,e1,C⟩:=hv.H.cell j ag;obtain⟨av,al,aq,an,e2,e3,m0,ae⟩:=hv.N j ag;rw[e1]at e3;cases e2;cases e3;have p7:=hx.keep C.p7;have m1:=hx.keep ae;have M1:=uU ae;have P2:=uU C.p2;have lp:=C.lp;have HP:=uU C.P;have HV:=uU hv;have U:=uU h;have HT:=uU ht;have HI:=uU hI;have Q2:=uU q2;have Q4:=uU q4;clear C m0 ae h ht hI e1 hv q2 q4;go_in;go_wp21;go_loopw [15] (λi wr=>∃(l:Nat)(u:Value)(M S:List Nat)(f':Nat->Value)(g':Nat->List (Option Nat)),l<=(x.c j).F.length/\i=iv l/\eV wr a.heap.size bw b r1 r t x.A.length u M S/\yN wr a.heap.size bw r1 r2 r t u f' g'/\Hid (kC x M S g' none (some j)/\a2k x M S g' none j l/\yZ (λ_=>True) O M St S/\∀k,(g' k).length<=(g k).length+l)/\Ext a wr) (λi _=>(x.c j).F.length-(intOf i).toNat)
 case atStart=>exact⟨0,v,O,St,f,g,kB _,rfl,U,HT,⟨HI,(λp _ h=>by omega),yZ.refl,λk=>by omega⟩,hx⟩
 case round=>
  clear U HT HI p7 m1 hx;clear f v;obtain⟨l,u,M,S,f,g',hl,rfl,hw,ab,d,y⟩:=hrel;have U:=uU hw;have HT:=uU ab;have c0:=hw.c0;have ao:bw<wr.heap.size:=hw.rlt.1;by_cases J:l<(x.c j).F.length
  ·obtain⟨b2,o2,rfl,q0,q1,q2,q3,q4,q5⟩:=uH HP l J;have e0:=y.keep q0;have e1:=y.keep q1;have e2:=y.keep q2;have e3:=y.keep q3;have e4:=y.keep q4;have e5:=y.keep q5;have am:=cLt e0;clear q0 q1 q2 q3 q4 q5 hw ab;have au:=i0N l;have aw:(l:Int)<((x.c j).F.length:Int):=by omega
   have xa:=(hO wr).alloc (oPr ((x.c j).p l));have Z:=uU (a4a Q2 Q4 j l GD J);have PE:=λw=>c6w ((x.c j).p l) w
   have ad:=λw=>d3y ((x.c j).p l) w
   cases tz:zp ((x.c j).p l);rotate_left
   ·simp only[tz]at PE ad;have R:=uU (kG (U.ext xa) (kG (HT.ext xa) (kG (zp_cls tz d.2.1) (y.trans xa))));clear tz;go_wp21;go_roundw
    case rel=>exact⟨l+1,u,M,S,f,g',by omega,by go_num,R.1,R.2.1,⟨d.1,R.2.2.1,d.2.2.1,λk=>by have:=d.2.2.2 k;omega⟩,R.2.2.2⟩
    simp[intOf];omega
   simp only[tz]at PE ad;clear tz;go_wp21;go_cut [6] (λs6 wx=>∃o1,s6=pv r t o1/\Hid (o1=wo x ((x.c j).p l).key)/\Ext (wr.alloc (oPr ((x.c j).p l))) wx)
   case first=>
    go_region_with (go_at_call 144;refine(c2m x ((x.c j).p l).key b _ r t (HV.ext (y.trans xa).drew) Q2 Z.1).mono ?_;rintro e w2 ⟨rfl,z⟩)
    all_goals
     go_wp21;go_meet;exact⟨_,rfl,rfl,kI (eDr _) z⟩
   case rest=>
   obtain⟨o1,rfl,O1,z⟩:=hcut;obtain⟨w2,aj⟩:∃W,W=wc:=⟨_,rfl⟩;subst aj;have x2:=xa.trans z;have X2:=y.trans x2;have v3:w2.cell? (aA wr.heap.size 3)=some (iv ((x.c j).p l).val.k):=z.keep (by simp[go_sem]);have v4:w2.cell? (aA wr.heap.size 4)=some (iv ((x.c j).p l).val.n):=z.keep (by simp[go_sem]);have v5:w2.cell? (aA wr.heap.size 5)=some (iv ((x.c j).p l).val.a):=z.keep (by simp[go_sem]);have W2:=uU (U.ext x2);have T2:=uU (HT.ext x2);have c0:=W2.c0;clear PE ad e0 e1 e2 e3 e4 e5 z;go_wp21;refine(b0p r (t+j*2) bc oc (x.c j).T _ (X2.keep M1) (X2.keep P2)).mono ?_;rintro e w3 ⟨rfl,q⟩;cases tk:((x.c j).T == 1 || (x.c j).T == 3);focus
    have aa:wr.heap.size<w3.heap.size:=kF (uQ v3) q.size;have X3:=X2.trans q;go_wp21;refine(b0o a.heap.size bw b r1 r t x.A.length o1 u M S _ (W2.ext q) (λi e=>(c2n Z.1 i (by rw[<-uH O1];exact e)).1) X3.size af).mono ?_;rintro e w4 ⟨rfl,u4,M4,S4,ai,T,Y⟩;have kb:=Y.block wr.heap.size aa (by have:=U.rlt;omega) (by have:=U.rlt;omega) (λe=>by have:=(U.s.lt _ e).2;omega);have y3:=(cOb wr.heap.size 3 kb).trans (q.keep v3);have y4:=(cOb wr.heap.size 4 kb).trans (q.keep v4);have y5:=(cOb wr.heap.size 5 kb).trans (q.keep v5);have X4:=(W2.ext q).kext Y X3;have W4:=uU ai;have T4:=uU ((T2.ext q).step Y);have V:=uU T.1;have I4:=uU (d.1.grow T.1 (λi e=>by
     obtain⟨_,k,rfl⟩:=c2n Z.1 i (by rw[<-uH O1];exact e);exact qX.key j l HJ J (sk_of tk) k))
    have K4:=uU (show SK (x.c j)->((x.c j).p l).key.k=2->tgt x ((x.c j).p l).key∈M4 from λ_ k=>T.2 _ (by rw[uH O1];unfold wo;rw[if_pos k]));clear ai T Y kb v3 v4 v5 aa
   rotate_left
   focus
    have X4:=X2.trans q;have y3:=q.keep v3;have y4:=q.keep v4;have y5:=q.keep v5;have W4:=uU (W2.ext q);have T4:=uU (T2.ext q);have V:=uU (show yZ (λi=>o1=some i) M M S S from yZ.refl);have I4:=uU d.1;have K4:=uU (show SK (x.c j)->((x.c j).p l).key.k=2->tgt x ((x.c j).p l).key∈M from λs _=>(sk_not tk s).elim);clear v3 v4 v5;obtain⟨u4,M4,S4,rfl,rfl,rfl⟩:∃a b c,a=u/\b=M/\c=S:=⟨_,_,_,rfl,rfl,rfl⟩
   all_goals
    go_wp21;refine(b0q r (t+j*2) bc oc (x.c j).T _ (X4.keep M1) (X4.keep P2)).mono ?_;rintro e X ⟨rfl,m⟩;have X5:=X4.trans m;cases tv:((x.c j).T == 2 || (x.c j).T == 3)
    ·have z3:=m.keep y3;have z4:=m.keep y4;have z5:=m.keep y5;have d0:=m.keep W4.c0;clear y3 y4 y5;go_wp21;go_region_with (first
      | (go_at_call 144;refine(c2m x ((x.c j).p l).val b _ r t (HV.ext X5.drew) Q2 Z.2).mono ?_;rintro e w6 ⟨rfl,A⟩;have X6:=X5.drew.trans A;have Y6:=kI (eDr X) A;obtain⟨o2,B⟩:∃o,o=wo x ((x.c j).p l).val:=⟨_,rfl⟩;rw[<-B];have O2:=uU B;clear B A)
      | (go_at_call 201;refine(c5j a bw b r1 r2 r t x.A.length o1 o2 u4 f g' M4 S4 _ ((W4.ext m).ext Y6) ((T4.ext m).ext Y6) (λi e=>(c2n Z.2 i (by rw[<-uH O2];exact e)).1) X6 af (λk=>by have:=d.2.2.2 k;have:=hg k;omega)).mono ?_;rintro e w7 ⟨rfl,u7,E,S7,f7,D,G,K,L,I⟩;have F:=uU (show Bes (wo x ((x.c j).p l).key) (wo x ((x.c j).p l).val) M4 E S4 S7 g' D by rw[<-uH O1,<-uH O2];exact L);have R:=uU (show eV w7 a.heap.size bw b r1 r t x.A.length u7 E S7/\yN w7 a.heap.size bw r1 r2 r t u7 f7 D/\(kC x E S7 D none (some j)/\a2k x E S7 D none j (l+1)/\yZ (λ_=>True) O E St S7/\∀k,(D k).length<=(g k).length+(l+1))/\Ext a w7 from⟨G,K,⟨I4.beside HJ J (sv_of tv) Z.2 F,b8a d.2.1 V K4 (.inr F) F.grow,(d.2.2.1.trans (V.mono (λ_ _=>trivial))).trans (F.grow.mono (λ_ _=>trivial)),λk=>by have:=F.len k;have:=d.2.2.2 k;omega⟩,I⟩);clear G K L I F))
     all_goals
      go_wp21;go_roundw
      case rel=>exact⟨l+1,u7,E,S7,f7,D,by omega,by go_num,R.1,R.2.1,R.2.2.1,R.2.2.2⟩
      simp[intOf];omega
    have R:=uU (show eV X a.heap.size bw b r1 r t x.A.length u4 M4 S4/\yN X a.heap.size bw r1 r2 r t u4 f g'/\(kC x M4 S4 g' none (some j)/\a2k x M4 S4 g' none j (l+1)/\yZ (λ_=>True) O M4 St S4/\∀k,(g' k).length<=(g k).length+(l+1))/\Ext a X from
     ⟨W4.ext m,T4.ext m,⟨I4,b8a d.2.1 V K4 (.inl ⟨sv_not tv,rfl,rfl,rfl⟩) (yZ.refl (Q:=λ_=>True)),d.2.2.1.trans (V.mono (λ_ _=>trivial)),λk=>by have:=d.2.2.2 k;omega⟩,X5⟩)
    clear y3 y4 y5;go_wp21;go_roundw
    case rel=>exact⟨l+1,u4,M4,S4,f,g',by omega,by go_num,R.1,R.2.1,R.2.2.1,R.2.2.2⟩
    simp[intOf];omega
  have ah:l=(x.c j).F.length:=by omega
  have R:=uU (kG (d.1.shut (by have:=d.2.1;rw[ah]at this;exact this)) (kG d.2.2.1 (show ∀k,(g' k).length<=(g k).length+200 from λk=>by have:=d.2.2.2 k;omega)));clear hw ab ah d;go_wp21;go_end0;exact⟨rfl,u,M,S,f,g',U,HT,R,y⟩
theorem d4a(x:Hp)(H:Nat->Bool)(y:Wd):tX x H y=(y.k == 2 && !H (tgt x y)):=by
 unfold tX zL tgt a2h;by_cases b:y.k=2;by_cases d:(x.c y.a.toNat).st=2
 ·rw[if_pos ⟨b,d⟩];simp[b,d]
 rw[if_neg (λh=>d h.2)];simp[b,d];have e:(y.k == 2)=false:=by simpa using b
 rw[if_neg (λh=>b h.1),e];rfl
structure LoAt(w:World)(b r bs bh:Nat)(x:Hp)(ac:Nat->Option Addr)(bn kn:Nat)(Mt:List Nat):Prop where
 s:w.cell? ⟨bs,0,none⟩=some (.pointer (some ⟨b,0,none⟩))
 h:w.cell? ⟨bh,0,none⟩=some (.map (some r))
 f:c1v w b x ac (some ⟨bn,0,none⟩) kn
 m:tV w r bn (Mt.map (λi=>i*2))
 rl:r<w.heap.size
theorem LoAt.ext(h:LoAt w b r bs bh x ac bn kn Mt)(e:Ext w w'):LoAt w' b r bs bh x ac bn kn Mt:=
 ⟨e.keep h.s,e.keep h.h,h.f.ext e,h.m.block (e.block r h.rl),kF h.rl e.size⟩
theorem c6x:i*2∈Mt.map (λi=>i*2)↔i∈Mt:=by
 simp only[List.mem_map];constructor;rintro⟨j,hj,e⟩;have:j=i:=by omega
 rw[<-this];exact hj;intro h;exact⟨i,h,rfl⟩
theorem c2r(x:Hp)(y:Wd)(b r o z bn J:Nat)(I:Nat->Option Addr)(c:List Nat)(w:World)(h:LoAt w b r o z x I bn J c)(K:R2 x)(H:a0m x y):
  Calls prog 143 #[y.v,pP o,pP z] w λe w'=>Hid (e=.returned (.bool (tX x (λi=>decide (i∈c)) y)))/\Ext w w':=by
 have E:=uU (d4a x (λi=>decide (i∈c)) y);have L:=uU h;have u:=h.s;have q:=h.h;have D:=cLt u;have G:=uU (λW(e:Ext w W)=>a2s x y b W bn 0 (h.f.ext e) K H);clear h;have j:=(hO w).alloc (oWd y);go_in;go_wp21;go_region_with (go_at_call 144;refine(G _ (by first|exact j|exact j.drew|exact j.drewN _)).mono ?_;rintro e P ⟨t,rfl,B,p⟩;have l:=kI (show Ext w _ by first|exact j|exact j.drew|exact j.drewN _) p;clear p);all_goals
  obtain⟨hk,rfl⟩|⟨hk,rfl⟩:=B
  ·have R:=uU (show tX x (λi=>decide (i∈c)) y=false by rw[uH E];simp[hk]);clear hk;go_wp21;go_ret;exact⟨by show _=_;rw[uH R];rfl,l⟩
  have R:=uU (show tX x (λi=>decide (i∈c)) y = !decide (tgt x y∈c) by rw[uH E];simp[hk]);have C:=uU (L.ext l);have N:=l.keep q;simp only[Nat.zero_add];clear hk u q;go_wp21;refine(a8c r bn (tgt x y*2) _ _ C.m).mono ?_;rintro e O ⟨rfl,A⟩;have M:=uU (show decide (tgt x y*2∈c.map (λi=>i*2))=decide (tgt x y∈c) by rw[decide_eq_decide];exact c6x);rw[uH M];obtain⟨F,g⟩:∃d,d=decide (tgt x y∈c):=⟨_,rfl⟩;have R3:=uU (show tX x (λi=>decide (i∈c)) y = !F by rw[uH R,g]);rw[<-g];clear M R g;go_wp21;go_ret;exact⟨by show _=_;rw[uH R3];rfl,l.trans A⟩
structure b6y(w:World)(b r bs bh bx bl:Nat)(x:Hp)(ac:Nat->Option Addr)(bn kn:Nat)(Mt:List Nat)(i:Nat):Prop where
 lo:LoAt w b r bs bh x ac bn kn Mt
 n:w.cell? ⟨bx,0,none⟩=some (ndp bn i)
 l:w.cell? ⟨bl,0,none⟩=some (.func (.func 143) #[] #[.pointer (some ⟨bs,0,none⟩),.pointer (some ⟨bh,0,none⟩)])
 c:∃bc oc,ac i=some ⟨bc,oc,none⟩/\w.cell? ⟨bn,i*2+1,none⟩=some (.pointer (some ⟨bc,oc,none⟩))/\w.cell? ⟨bc,oc+2,none⟩=some (iv (x.c i).T)
theorem b6y.ext{bx bl:Nat}(h:b6y w b r bs bh bx bl x ac bn kn Mt i)(e:Ext w w'):b6y w' b r bs bh bx bl x ac bn kn Mt i:=
 ⟨h.lo.ext e,e.keep h.n,e.keep h.l,let ⟨bc,oc,a,p,q⟩:=h.c;⟨bc,oc,a,e.keep p,e.keep q⟩⟩
theorem c2s(x:Hp)(p:Pr)(b r P Q U bl bn T i:Nat)(S:Nat->Option Addr)(t:List Nat)(w:World)(h:b6y w b r P Q U bl x S bn T t i)(r2:R2 x)(hk:a0m x p.key)(hv:a0m x p.val):
  Calls prog 145 #[p.v,pP U,pP bl] w λe w'=>Hid (e=.returned (.bool (goB x (λi=>decide (i∈t)) (x.c i) p)))/\Ext w w':=by
 obtain⟨E,N⟩:=obE (goB x (λi=>decide (i∈t)) (x.c i) p);have EE:=uU N;rw[<-N];clear N;have V:=uU (λW(e:Ext w W)=>c2r x p.key b r P Q bn T S t W (h.lo.ext e) r2 hk);have F:=uU (λW(e:Ext w W)=>c2r x p.val b r P Q bn T S t W (h.lo.ext e) r2 hv);obtain⟨bc,oc,_,H,M⟩:=h.c;have WK:=uU (λW(e:Ext w W)=>b0p bn (i*2) bc oc (x.c i).T W (e.keep H) (e.keep M));have L:=uU (λW(e:Ext w W)=>b0q bn (i*2) bc oc (x.c i).T W (e.keep H) (e.keep M));have O:=h.n;have K:=h.l;have aa:=cLt O;clear h H M;obtain⟨Y,s⟩:∃k,k=((x.c i).T == 1 || (x.c i).T == 3):=⟨_,rfl⟩;obtain⟨X,m⟩:∃k,k=tX x (λi=>decide (i∈t)) p.key:=⟨_,rfl⟩;obtain⟨J,q⟩:∃k,k=((x.c i).T == 2 || (x.c i).T == 3):=⟨_,rfl⟩;obtain⟨G,j⟩:∃k,k=tX x (λi=>decide (i∈t)) p.val:=⟨_,rfl⟩;rw[<-s]at WK;rw[<-m]at V;rw[<-q]at L;rw[<-j]at F;have y:=uU (show E=((Y && X) || (J && G)) by rw[uH EE,s,m,q,j];rfl);clear s m q j EE;have xa:=(hO w).alloc (oPr p);go_in;go_wp21;refine(WK _ xa).mono ?_;rintro e w1 ⟨rfl,g⟩;have v0:=g.keep (b:=w.heap.size) (o:=0) (v:=iv p.key.k) (by simp[go_sem]);have v1:=g.keep (b:=w.heap.size) (o:=1) (v:=iv p.key.n) (by simp[go_sem]);have v2:=g.keep (b:=w.heap.size) (o:=2) (v:=iv p.key.a) (by simp[go_sem]);have D:=g.keep (b:=w.heap.size) (o:=3) (v:=iv p.val.k) (by simp[go_sem]);have A:=g.keep (b:=w.heap.size) (o:=4) (v:=iv p.val.n) (by simp[go_sem]);have B:=g.keep (b:=w.heap.size) (o:=5) (v:=iv p.val.a) (by simp[go_sem]);have u:=xa.trans g;have d0:=u.keep O;have Z:=u.keep K;clear g;cases Y
 ·go_wp21;refine(L _ u).mono ?_;rintro e w3 ⟨rfl,d⟩;have f:=kI u d;have D:=d.keep D;have A:=d.keep A;have B:=d.keep B;have Z:=f.keep K;cases J
  ·have R:=uU (show E=false by rw[uH y];simp);go_wp21;go_ret;exact⟨by show _=_;rw[uH R];rfl,f⟩
  have R:=uU (show E=G by rw[uH y];simp);go_wp21;refine(F _ f).mono ?_;rintro e w4 ⟨rfl,I⟩;go_wp21;go_ret;exact⟨by show _=_;rw[uH R];rfl,f.trans I⟩
 go_wp21;refine(V _ u).mono ?_;rintro e w2 ⟨rfl,z⟩;have C:=u.trans z;have g0:=C.keep O;have u3:=z.keep D;have u4:=z.keep A;have u5:=z.keep B;cases X
 ·go_wp21;refine(L _ C).mono ?_;rintro e w3 ⟨rfl,d⟩;have f:=kI C d;have D:=d.keep u3;have A:=d.keep u4;have B:=d.keep u5;have Z:=f.keep K;cases J
  ·have R:=uU (show E=false by rw[uH y];simp);go_wp21;go_ret;exact⟨by show _=_;rw[uH R];rfl,f⟩
  have R:=uU (show E=G by rw[uH y];simp);go_wp21;refine(F _ f).mono ?_;rintro e w4 ⟨rfl,I⟩;go_wp21;go_ret;exact⟨by show _=_;rw[uH R];rfl,f.trans I⟩
 have R:=uU (show E=true by rw[uH y];simp);go_wp21;go_ret;exact⟨by show _=_;rw[uH R];rfl,C⟩
def kN(w:World)(g:Nat)(M:List Pr):Prop:=∀k (hk:k<M.length),qY w g (k*6) M[k]
theorem qY.same{o:Nat}{p:Pr}(h:qY w g o p)(e:∀j,j<6->w'.cell? (aA g (o+j))=w.cell? (aA g (o+j))):qY w' g o p:=by
 have⟨f,a,c,b,i,d⟩:=h;exact⟨(e 0 (by omega)).trans f,(e 1 (by omega)).trans a,(e 2 (by omega)).trans c,(e 3 (by omega)).trans b,(e 4 (by omega)).trans i,(e 5 (by omega)).trans d⟩
theorem kN.block(h:kN w g M)(e:w'.heap[g]?=w.heap[g]?):kN w' g M:=λk b=>(h k b).same λ_ _=>cOb g _ e
theorem qY.some{w:World}{g o:Nat}{p:Pr}(h:qY w g o p)(m:Nat)(i:m<6):∃u,w.cell? (aA g (o+m))=some u:=by
 have⟨e,a,c,b,f,d⟩:=h;match m,i with
 | 0,_=>exact⟨_,e⟩
 | 1,_=>exact⟨_,a⟩
 | 2,_=>exact⟨_,c⟩
 | 3,_=>exact⟨_,b⟩
 | 4,_=>exact⟨_,f⟩
 | 5,_=>exact⟨_,d⟩
theorem kN.put(h:kN w g M)(i:Nat)(f:i<M.length)(y:Pr):kN (w.setCells g (i*6) [iv y.key.k,iv y.key.n,iv y.key.a,iv y.val.k,iv y.val.n,iv y.val.a]) g (M.set i y):=λk d=>by
 have b:k<M.length:=by simpa using d
 by_cases e:i=k;subst e;have key:∀m,m<6->(w.setCells g (i*6) [iv y.key.k,iv y.key.n,iv y.key.a,iv y.val.k,iv y.val.n,iv y.val.a]).cell? (aA g (i*6+m))=([iv y.key.k,iv y.key.n,iv y.key.a,iv y.val.k,iv y.val.n,iv y.val.a]:List Value)[m]?:=λm c=>a4p g _ _ m w (λm c=>(h i f).some m (by simpa using c)) (by simpa using c)
 simp only[List.getElem_set_self];exact⟨key 0 (by omega),key 1 (by omega),key 2 (by omega),key 3 (by omega),key 4 (by omega),key 5 (by omega)⟩;rw[qO e];exact(h k b).same λj l=>a1v g _ _ _ w (by simp only[List.length_cons,List.length_nil];omega)
theorem kN.cut(h:kN w g M)(i:Nat)(vs:List Value):kN (w.setCells g (i*6) vs) g (M.take i):=λk b=>by
 have a:k<i/\k<M.length:=by simp at b;omega
 rw[List.getElem_take];exact(h k a.2).same λj c=>a1v g _ _ _ w (by omega)
def yX(f:Pr->Bool)(xs:List Pr):List Pr:=xs.filter (λp=>!f p)
theorem c6y(f:Pr->Bool)(xs:List Pr)(j:Nat)(a:j<xs.length)(q:f xs[j]=true):yX f (xs.take (j+1))=yX f (xs.take j):=by
 rw[kx a,yX,mH];simp[q,yX]
theorem d4c(f:Pr->Bool)(xs:List Pr)(j:Nat)(a:j<xs.length)(q:f xs[j]=false):yX f (xs.take (j+1))=yX f (xs.take j)++[xs[j]]:=by
 rw[kx a,yX,mH];simp[q,yX]
theorem b8b(f:Pr->Bool)(xs:List Pr)(h:∀j (b:j<xs.length),f xs[j]=false):yX f xs=xs:=by
 unfold yX;refine List.filter_eq_self.2 λa c=>?_
 have⟨j,b,e⟩:=mQ c;rw[<-e,h j b];rfl
structure b0r(f:Pr->Bool)(xs M:List Pr)(i j:Nat):Prop where
 len:M.length=xs.length
 lt:i<j
 le:j<=xs.length
 tk:M.take i=yX f (xs.take j)
 dr:M.drop j=xs.drop j
theorem b0r.V{f:Pr->Bool}(h:i<xs.length)(q:f xs[i]=true)(b:∀j (a:j<i),f (xs[j]'(by omega))=false):b0r f xs xs i (i+1):=by
 refine⟨rfl,by omega,by omega,?_,rfl⟩;rw[c6y f xs i h q,b8b f (xs.take i) (λj a=>by simp at a;rw[List.getElem_take];exact b j (by omega))]
theorem b0r.at{f:Pr->Bool}(h:b0r f xs M i j)(a:j<xs.length):∃hm:j<M.length,M[j]=xs[j]:=by
 have hm:j<M.length:=h.len▸a;refine⟨hm,?_⟩;have e:=congrArg (λl=>l[0]?) h.dr;simp only[List.getElem?_drop,Nat.add_zero]at e;rw[ma hm,ma a]at e;injection e
theorem b0r.no{f:Pr->Bool}(h:b0r f xs M i j)(a:j<xs.length)(q:f xs[j]=true):b0r f xs M i (j+1):=by
 refine⟨h.len,by have:=h.lt;omega,by omega,c6y f xs j a q▸h.tk,?_⟩;have:=congrArg (List.drop 1) h.dr;simpa[List.drop_drop]using this
theorem b0r.yes{f:Pr->Bool}(h:b0r f xs M i j)(c:j<xs.length)(q:f xs[j]=false):b0r f xs (M.set i xs[j]) (i+1) (j+1):=by
 have b:=h.len;have a:=h.lt;refine⟨by simp[b],by omega,by omega,?_,?_⟩;rw[d4c f xs j c q,<-h.tk,List.take_set,kx (by omega)];rw[List.set_append_right _ _ (by simp;omega)];simp[Nat.min_eq_left (by omega:i<=M.length)];rw[List.drop_set_of_lt (by omega)];have:=congrArg (List.drop 1) h.dr;simpa[List.drop_drop]using this
theorem b0r.done{f:Pr->Bool}(h:b0r f xs M i xs.length):M.take i=yX f xs/\i=(yX f xs).length:=by
 have e:=h.tk;rw[mG]at e;refine⟨e,?_⟩;rw[<-e,mw,h.len];have:=h.lt;omega
theorem keep_le(f:Pr->Bool)(xs:List Pr):(yX f xs).length<=xs.length:=List.length_filter_le _ _
def FstP(f:Pr->Bool)(xs:List Pr)(r:Int):Prop:=(r = -1/\∀j (h:j<xs.length),f xs[j]=false)\/∃i:Nat,∃h:i<xs.length,r=(i:Int)/\f xs[i]=true/\∀j (hj:j<i),f (xs[j]'(by omega))=false
structure Ans2(f:Pr->Bool)(xs:List Pr)(bx bl g:Nat)(P:World->Prop):Prop where
 call:∀W,P W->∀k (hk:k<xs.length),Calls prog 145 #[xs[k].v,.pointer (some ⟨bx,0,none⟩),.pointer (some ⟨bl,0,none⟩)] W λe W'=>Hid (e=.returned (.bool (f xs[k])))/\Ext W W'
 ext:∀W W',P W->Ext W W'->P W'
 put:0<xs.length->∀W W',P W->uZ (λq=>q=g) W W'->P W'
abbrev go2(bx bl:Nat):Value:=.func (.func 145) #[] #[.pointer (some ⟨bx,0,none⟩),.pointer (some ⟨bl,0,none⟩)]
theorem c5k(f:Pr->Bool)(xs:List Pr)(q o g:Nat)(P:World->Prop)(A:Ans2 f xs q o g P)(u:Option Addr)(cap:Nat)(w:World)(p:P w)(s:kN w g xs)(R:g<w.heap.size\/xs.length=0)(M:0<xs.length->u=some (aA g 0))(S:xs.length<=200):
  Calls prog 205 #[.slice u xs.length cap,go2 q o] w λe w'=>∃r:Int,Hid (e=.returned (iv r))/\Hid (FstP f xs r)/\Ext w w':=by
 have D:=uU p;have I:=uU s;clear p s;go_in;go_wp21;go_loopw [8] (λi wr=>∃k:Nat,k<=xs.length/\i=iv k/\Hid (∀j (d:j<xs.length),j<k->f xs[j]=false)/\Ext w wr) (λi _=>xs.length-(intOf i).toNat)
 case atStart=>exact⟨0,kB _,rfl,λj _ h=>by omega,hO _⟩
 case round=>
  obtain⟨k,O,rfl,c,a⟩:=hrel;by_cases b:k<xs.length
  ·have v:=M (by omega);subst v;have⟨z,E,x,L,J,K⟩:=(I.block (a.block g (by omega))) k b;have C:=uU (A.call wr (A.ext _ _ D a) k b);obtain⟨y,l⟩:=obE (xs[k]);have m:=uU l;rw[<-l]at z E x L J K C;clear l;have H:=i0N k;have G:(k:Int)<(xs.length:Int):=by omega
   go_wp21;refine C.mono ?_;rintro e Q ⟨rfl,n⟩;cases t:f y
   ·have N:∀j (d:j<xs.length),j<k+1->f xs[j]=false:=λj d B=>by
     by_cases e:j=k;subst e;rw[<-uH m];exact t;exact c j d (by omega)
    go_wp21;go_roundw
    case rel=>exact⟨k+1,by omega,by go_num,N,a.trans n⟩
    simp[intOf];omega
   have F:FstP f xs (k:Int):=.inr ⟨k,b,rfl,by rw[<-uH m];exact t,λj d=>uH c j (by omega) d⟩;go_wp21;go_ret;exact⟨_,rfl,F,a.trans n⟩
  go_wp21;go_ret;exact⟨_,rfl,(show FstP f xs (-1) from .inl ⟨rfl,λj d=>uH c j d (by omega)⟩),a⟩
theorem b6a(n:Nat):(Builtin.zeroCells #[iv 0,iv 0,iv 0,iv 0,iv 0,iv 0] n).toList.length=n*6:=by simp[Builtin.zeroCells]
theorem b6b(n:Nat):∀u,u∈(Builtin.zeroCells #[iv 0,iv 0,iv 0,iv 0,iv 0,iv 0] n).toList->u.oneCell'=true:=λu b=>by
 simp[Builtin.zeroCells]at b;have⟨a,_,e⟩:=b;have:a % 6<6:=mT _ (by omega);have h:a % 6=0\/a % 6=1\/a % 6=2\/a % 6=3\/a % 6=4\/a % 6=5:=by omega
 obtain h|h|h|h|h|h:=h <;> simp[h]at e <;> subst e <;> rfl
theorem c2t(w:World)(g:TypeId)(b o n c:Nat)(i:0<n)(f:∀j,j<n*6->(w.cell? (aA b (o+j))).isSome=true)(h:∀j,j<n*6->w.frozen? (aA b (o+j))=false):
  (Builtin.clear_ #[49] g #[sO b o n c]).run prog w=.ok (.tuple #[]) (w.setCells b o (Builtin.zeroCells #[iv 0,iv 0,iv 0,iv 0,iv 0,iv 0] n).toList):=by
 have d:=b6a n;have a:=run_storeCells_cells (P:=prog) b o (Builtin.zeroCells #[iv 0,iv 0,iv 0,iv 0,iv 0,iv 0] n).toList 0 w (by rw[d];simpa using f) (by rw[d];simpa using h) (b6b n);simp only[Nat.add_zero]at a;have e:(Value.agg #[iv 0,iv 0,iv 0,iv 0,iv 0,iv 0]).cells=#[iv 0,iv 0,iv 0,iv 0,iv 0,iv 0]:=by kernel_rfl
 obtain⟨m,rfl⟩:∃m,n=m+1:=⟨n-1,by omega⟩;simp[Builtin.clear_,run_underlying underlying49,e,a]
