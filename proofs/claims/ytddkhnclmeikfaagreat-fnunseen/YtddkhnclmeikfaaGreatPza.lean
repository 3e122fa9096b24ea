import Derived.Test.YtddkhnclmeikfaaGreatSp1
import Derived.Test.YtddkhnclmeikfaaGreatRc6
set_option maxRecDepth 100000
set_option maxHeartbeats 1000000
namespace Go.Proofs.YtddkhnclmeikfaaGreat
open Go.RowKit Go.Proofs.Tryz
attribute [local go_sem ↓] Go.wp_at_zero Go.wp_at_succ
variable{B b kr br bn kn hd:Nat}{w:World}{x:Hp}{ar:Option Addr}{v4 v8 vf vk:Value}{cB cO pb pk role:Nat->Nat}{pa:Nat->Option Addr}{F:List Int}{K:List Nat}
theorem word_fn[Inhabited uQ](h:SAt B w b x ar kr v4 v8 br cB cO bn pb pa pk kn hd vf F vk K role)(j:Nat)(l:j<x.B.length)(y:Wd)(t:0<x.B.length)(a:World)(s:Ext a w)(z:a.heap.size<=br):
  ∀W,Ext w W->SAt B (dZ W br (j*3) y) b { x with B:=x.B.set j y } ar kr v4 v8 br cB cO bn pb pa pk kn hd vf F vk K role/\Ext a (dZ W br (j*3) y)/\(∀d o v,d≠br->w.cell? (aA d o)=some v->(dZ W br (j*3) y).cell? (aA d o)=some v)/\∀q,q<w.heap.size->q≠br->(dZ W br (j*3) y).heap[q]?=w.heap[q]?:=λW c=>by
 have g:=h.ext c;have f:=a0d W br (j*3) y;refine⟨g.setr j l y f (b5v (g.rw.nr t).1 _ _) (a7q W br (j*3) y _ (g.rw.r j l)) (λm n=>a0z W br (j*3) y m n),f.ext (s.trans c) (λq u e=>by omega),λd o v hd i=>?_,λq k p=>?_⟩
 ·exact(World.cell?_of_block (a:=(aA d o)) (f.block d (Nat.lt_of_lt_of_le (uL i) c.size) hd)).trans (c.keep i)
 ·exact(f.block q (Nat.lt_of_lt_of_le k c.size) p).trans (c.block q k)
theorem c8k[Inhabited uQ](h:SAt B w b x ar kr v4 v8 br cB cO bn pb pa pk kn hd vf F vk K role)(s:Snd x)(t f:Nat)(af:t≠f)(C:t<x.A.length)(I:f<x.A.length)(a:World)(ha:a.heap.size<=B)(hx:Ext a w):
  Calls prog 334 #[.agg #[pP b],ndp bn f,ndp bn t] w λe w'=>e=.returned (.tuple #[])/\Hid (∃pb' pa' pk' role',SAt B w' b (dL x t f) ar kr v4 v8 br cB cO bn pb' pa' pk' kn hd vf F vk K role'/\∀q,q<w.heap.size->q≠br->(∀j,j<x.A.length->q≠cB j)->w'.heap[q]?=w.heap[q]?)/\Ext a w':=by
 have H:=uU h;have S:=uU s;have XA:=(Ext.refl w).alloc (.cells #[pP b] 236);have r0:0<x.B.length:=by have:=s.r1.B;omega
 have bc:x.B.length<=16:=by have:=s.r1.B;omega
 have n8:=s.ok.n8;have c3:=h.sb.bx.2.2.2.1;rw[h.sb.ha r0] at c3;have ay:b<w.heap.size:=h.sb.nb.1;have lo:=h.sb.lo.1;have HS:=uU (h.ext XA);have XS:=uU (hx.trans XA);have d3:=XA.keep c3;have M0:=uU (show(w.alloc (.cells #[pP b] 236)).cell? (aA w.heap.size 0)=some (pP b) by simp [go_sem]);have ab:=uU (show br<w.heap.size/\B<=br from⟨(h.rw.nr r0).1.1,(h.rw.nr r0).2⟩);clear h s c3 XA;go_enter func334,ntmps334;go_wp2_with fail;go_loopw [16] (λi wr=>∃j:Nat,j<=x.B.length/\i=iv j/\Hid (SAt B wr b (rgR x t f j) ar kr v4 v8 br cB cO bn pb pa pk kn hd vf F vk K role)/\Hid (Ext a wr/\wr.cell? (aA w.heap.size 0)=some (pP b)/\∀q,q<w.heap.size->q≠br->wr.heap[q]?=w.heap[q]?)) (λi _=>x.B.length-(intOf i).toNat)
 case atStart=>exact⟨0,Nat.zero_le _,rfl,by rw[d2e];exact uH HS,XS,M0,λq hq _=>Below.heap_alloc w _ q hq⟩
 case round=>
  clear HS XS d3 M0;obtain⟨j,hj,rfl,M,g⟩:=hrel;by_cases D:j<x.B.length
  ·obtain⟨hl,er⟩:=d2c x t f j D;obtain⟨V,e1,e2⟩:=M.rw.r j hl;rw[er] at V e1 e2;have aq:br<wr.heap.size:=uL V;have FM:=uU (S.r4.1 j D).1;have be:(0:Int)<=(j:Int):=by omega
   have av:(j:Int)<(x.B.length:Int):=by omega
   have m0:=g.2.1;have aw:w.heap.size<wr.heap.size:=uL m0;have SU:=uU (c2p x t f j D);have SS:=uU (d2d x t f j D);obtain⟨⟨yk,yn,X⟩,hr⟩:∃r,r=x.B[j]:=⟨_,rfl⟩;rw[<-hr] at V e1 e2 FM SU SS;clear hr er;simp only at V e1 e2;have XB:=(Ext.refl wr).alloc (.cells #[iv yk,iv yn,iv X] 152);have d0:=XB.keep m0;have U:=XB.keep M.sb.n13;have N:=uU XB;clear XB;cases q:(yk == 2)
   ·have qn:¬yk=2:=by simpa using q
    have en:∀W,(binOp .eql 126 (.pointer none) (ndp bn f)).run prog W=.ok (.bool false) W:=λW=>ptr_nil bn (f*2) W
    have NX:=uU (show rgR x t f (j+1)=rgR x t f j from uH SS (by unfold mvW;rw[if_neg (λh=>qn h.1)]));go_wp2_with fail;go_region_with (go_at_call 199;refine(a8i ⟨yk,yn,X⟩ b _ q).mono ?_;rintro e p ⟨rfl,J⟩;have o:=uU (Ext.trans N (Ext.trans (Ext.refl _).drew J));clear J)
    all_goals
     have R:=uU (show SAt B p b (rgR x t f (j+1)) ar kr v4 v8 br cB cO bn pb pa pk kn hd vf F vk K role by rw[uH NX];exact M.ext o);have RX:=uU (show Ext a p/\p.cell? (aA w.heap.size 0)=some (pP b)/\∀q,q<w.heap.size->q≠br->p.heap[q]?=w.heap[q]? from⟨g.1.trans o,o.keep g.2.1,λq y z=>(o.block q (by omega)).trans (g.2.2 q y z)⟩);go_wp2_with fail;go_roundw
     case rel=>exact⟨j+1,by omega,by go_num,R,RX⟩
     case measure=>simp [intOf];omega
   ·obtain rfl:yk=2:=by simpa using q
    have fm:yn=0/\0<=X/\X<x.A.length:=by have:=uH FM;unfold uW at this;simp only at this;omega
    obtain⟨i,rfl⟩:∃i:Nat,X=(i:Int):=⟨X.toNat,by omega⟩;obtain rfl:yn=0:=fm.1;have hi:i<x.A.length:=by omega
    by_cases am:i=f
    ·subst am;have en:∀W,(binOp .eql 126 (pQ bn (i*2)) (ndp bn i)).run prog W=.ok (.bool true) W:=λW=>ptr_yes bn (i*2) W
     have NX:=uU (show({ rgR x t i j with B:=(rgR x t i j).B.set j ⟨2,0,t⟩ }:Hp)=rgR x t i (j+1) by have:=uH SU;unfold mvW at this;rw[if_pos ⟨rfl,rfl⟩] at this;exact this);go_wp2_with fail;go_region_with (go_at_call 199;refine(a3b ⟨2,0,(i:Int)⟩ b x.A.length bn 0 kn i _ rfl ((Ext.refl _).drew.keep U) hi).mono ?_;rintro e p ⟨rfl,J⟩;rw[Nat.zero_add];have o:=uU (Ext.trans N (Ext.trans (Ext.refl _).drew J));clear J)
     all_goals
      have R3:=uU (M.ext o);have k0:=o.keep m0
      have k3:p.cell? (aA b 3)=some (sS br x.B.length kr):=by
       have Z:=R3.sb.bx.2.2.2.1;have A:(rgR x t i j).B.length=x.B.length:=by simp [rgR];omega
       rw[R3.sb.ha (by omega),A] at Z;exact Z
      have g0:=o.keep V;have g1:=o.keep e1;have g2:=o.keep e2;have A:0<(rgR x t i j).B.length:=by simp [rgR];omega
      have gf:=(R3.rw.nr A).1.2;have ac:br<p.heap.size:=uL g0;have au:b<p.heap.size:=uL k3;have ax:w.heap.size<p.heap.size:=uL k0;have T0:=uU (R3.sb.nd t C).1;have T:=uU (word_fn R3 j hl ⟨2,0,t⟩ A a (g.1.trans o) (by have:=ab.2;omega));rw[uH NX] at T;unfold dZ at T;dsimp only at T;have FQ:=uU (show ∀q,q<p.heap.size->q≠br->q<w.heap.size->p.heap[q]?=w.heap[q]? from λq h0 z y=>(o.block q (by omega)).trans (g.2.2 q y z));clear V e1 e2 m0 d0 U A;go_wp2_with fail;go_region_with (go_at_call 319;refine(b8b bn (t*2) t _ ((Ext.refl _).drew.keep T0)).mono ?_;rintro e w4 ⟨rfl,x4⟩;have u:=Ext.trans (Ext.refl p).drew x4;have l0:=u.keep k0;have l3:=u.keep k3;have o0:=u.keep g0;have o1:=u.keep g1;have o2:=u.keep g2;have of:=λm=>((uK u).2 br m ac).trans (gf m);have bb:br<w4.heap.size:=uL o0;have X4:=uU u;clear x4 u)
      all_goals
       go_wp2_with fail;go_roundw
       case rel=>exact⟨j+1,by omega,by go_num,(T w4 X4).1,(T w4 X4).2.1,(T w4 X4).2.2.1 w.heap.size 0 _ (by have:=ab.1;omega) k0,λq y z=>((T w4 X4).2.2.2 q (by omega) z).trans (FQ q (by omega) z y)⟩
       case measure=>simp [intOf];omega
    ·have ah:¬i*2=f*2:=by omega
     have en:∀W,(binOp .eql 126 (pQ bn (i*2)) (ndp bn f)).run prog W=.ok (.bool false) W:=λW=>ptr_no bn (i*2) (f*2) W ah
     have NX:=uU (show rgR x t f (j+1)=rgR x t f j from uH SS (by unfold mvW;rw[if_neg (λh=>by have:=h.2;simp only at this;omega)]));go_wp2_with fail;go_region_with (go_at_call 199;refine(a3b ⟨2,0,(i:Int)⟩ b x.A.length bn 0 kn i _ rfl ((Ext.refl _).drew.keep U) hi).mono ?_;rintro e p ⟨rfl,J⟩;rw[Nat.zero_add];have o:=uU (Ext.trans N (Ext.trans (Ext.refl _).drew J));clear J)
     all_goals
      have R:=uU (show SAt B p b (rgR x t f (j+1)) ar kr v4 v8 br cB cO bn pb pa pk kn hd vf F vk K role by rw[uH NX];exact M.ext o);have RX:=uU (show Ext a p/\p.cell? (aA w.heap.size 0)=some (pP b)/\∀q,q<w.heap.size->q≠br->p.heap[q]?=w.heap[q]? from⟨g.1.trans o,o.keep g.2.1,λq y z=>(o.block q (by omega)).trans (g.2.2 q y z)⟩);go_wp2_with fail;go_roundw
      case rel=>exact⟨j+1,by omega,by go_num,R,RX⟩
      case measure=>simp [intOf];omega
  ·have je:j=x.B.length:=by omega
   subst je;have v:=uU M;obtain⟨a0,a1,a2,a3,a4,a5,a6⟩:S7 wr (cB f) (cO f) (x.c f):=v.rw.s f I;have a7:wr.cell? (aA (cB f) (cO f+7))=some (.slice (pa f) (x.c f).F.length (pk f)):=v.rw.p7 f I;obtain⟨b0,b1,b2,b3,b4,b5,b6⟩:S7 wr (cB t) (cO t) (x.c t):=v.rw.s t C;have b7:wr.cell? (aA (cB t) (cO t+7))=some (.slice (pa t) (x.c t).F.length (pk t)):=v.rw.p7 t C;have ai:=(v.rw.nc t C).1.2;have ao:=(v.rw.nc f I).1.2;obtain⟨P,ak⟩:=v.sb.nd t C;obtain⟨aj,ae⟩:=v.sb.nd f I;have ap:cB f<wr.heap.size:=uL a0;have al:cB t<wr.heap.size:=uL b0;have Y:bn<wr.heap.size:=uL P;have aa:=uU (show ¬bn=cB t from λe=>by have y:=v.sp.n;have z:=v.sp.c t C;rw[e] at y;omega);have ad:=uU (show ¬bn=cB f from λe=>by have y:=v.sp.n;have z:=v.sp.c f I;rw[e] at y;omega);have an:¬bn=cB t:=uH aa;have bd:¬cB t=bn:=λe=>uH aa e.symm
   have bf:¬bn=cB f:=uH ad;have bg:¬cB f=bn:=λe=>uH ad e.symm
   have XR:=uU g.1;have QR:=uU g.2.2;have G:=uU (And.intro (v.rw.nc t C) (v.rw.nc f I));have L:=uU (λk hk=>(v.ext (Ext.refl wr).drew).rw.far8 C I (λe=>af e.symm) (Nat.le_refl _) (a0k wr.drew (cB t) (cO t) (x.c f) (.slice (pa f) (x.c f).F.length (pk f))) (a3o wr.drew (cB t) (cO t) (x.c f) (.slice (pa f) (x.c f).F.length (pk f))) k hk);have O:=uU (show t<x.A.length/\f<x.A.length/\t≠f from⟨C,I,af⟩);have az:w.heap.size<wr.heap.size:=uL g.2.1;clear M g hj;go_wp2_with fail
   go_region
   all_goals
    obtain⟨l,E⟩:∃W,W=(qQ wr (cB t) (cO t) (x.c f) (.slice (pa f) (x.c f).F.length (pk f))).drew:=⟨_,rfl⟩;have d:=uU (show l=qQ wr.drew (cB t) (cO t) (x.c f) (.slice (pa f) (x.c f).F.length (pk f)) by rw[E,b5u]);have N5:=(a0k wr.drew (cB t) (cO t) (x.c f) (.slice (pa f) (x.c f).F.length (pk f))).block bn (by simpa using Y) an;have ag:l.cell? (aA bn (t*2))=some (iv t):=by rw[uH d,World.cell?_of_block (a:=(aA bn (t*2))) N5];exact P
    have ba:l.cell? (aA bn (f*2+1))=some (pQ (cB f) (cO f)):=by rw[uH d,World.cell?_of_block (a:=(aA bn (f*2+1))) N5];exact ae
    have d0:l.cell? (aA (cB f) (cO f))=some (iv (x.c f).st):=by rw[uH d];exact(L 0 (by omega)).trans a0
    have d1:l.cell? (aA (cB f) (cO f+1))=some (iv (x.c f).kind):=by rw[uH d];exact(L 1 (by omega)).trans a1
    have d2:l.cell? (aA (cB f) (cO f+2))=some (iv (x.c f).T):=by rw[uH d];exact(L 2 (by omega)).trans a2
    have d3:l.cell? (aA (cB f) (cO f+3))=some (iv (x.c f).U):=by rw[uH d];exact(L 3 (by omega)).trans a3
    have d4:l.cell? (aA (cB f) (cO f+4))=some (iv (x.c f).born):=by rw[uH d];exact(L 4 (by omega)).trans a4
    have d5:l.cell? (aA (cB f) (cO f+5))=some (iv (x.c f).J):=by rw[uH d];exact(L 5 (by omega)).trans a5
    have d6:l.cell? (aA (cB f) (cO f+6))=some (iv (x.c f).to):=by rw[uH d];exact(L 6 (by omega)).trans a6
    have d7:l.cell? (aA (cB f) (cO f+7))=some (.slice (pa f) (x.c f).F.length (pk f)):=by rw[uH d];exact(L 7 (by omega)).trans a7
    have bh:∀j,l.frozen? (aA (cB f) j)=false:=by rw[uH d];exact(a7w (w1:=wr.drew) (uJ G.2.1 rfl (by simp)) (a5n (w:=wr.drew) (uJ G.1.1 rfl (by simp)) _ _ _) (a0k wr.drew (cB t) (cO t) (x.c f) (.slice (pa f) (x.c f).F.length (pk f)))).2
    have bi:cB f<l.heap.size:=uL d0;have bj:bn<l.heap.size:=uL ag
    have G6:=uU (show ∃pb' pa' pk' role',SAt B (qW l (cB f) (cO f) 2 t) b (dL x t f) ar kr v4 v8 br cB cO bn pb' pa' pk' kn hd vf F vk K role' by
     rw[<-rgR_all,uH d];exact c2o (v.ext (Ext.refl wr).drew) t f O.2.2 O.1 O.2.1)
    have X6:=uU (show Ext a (qW l (cB f) (cO f) 2 t) by
     refine(a0i l (cB f) (cO f) 2 t).ext ?_ (λq hq e=>by have:=G.2.2;omega);rw[uH d];exact(a0k wr.drew (cB t) (cO t) (x.c f) _).ext XR.drew (λq hq e=>by have:=G.1.2;omega))
    have Q6:=uU (show ∀q,q<w.heap.size->q≠br->(∀j,j<x.A.length->q≠cB j)->(qW l (cB f) (cO f) 2 t).heap[q]?=w.heap[q]? from λq y z Z=>by
     have hw:q<wr.drew.heap.size:=by simpa using (show q<wr.heap.size by omega)
     rw[(a0i l (cB f) (cO f) 2 t).block q (by rw[uH d];exact Nat.lt_of_lt_of_le hw (a0k wr.drew (cB t) (cO t) (x.c f) _).size) (Z f I),d,(a0k wr.drew (cB t) (cO t) (x.c f) _).block q hw (Z t C)];exact QR q y z)
    unfold qQ at E;rw[<-E];clear E N5 a0 a1 a2 a3 a4 a5 a6 a7 b0 b1 b2 b3 b4 b5 b6 b7 ai ao ap al Y P ak aj ae;obtain⟨W6,Q⟩:∃W,W=qW l (cB f) (cO f) 2 t:=⟨_,rfl⟩;rw[<-Q] at G6 X6 Q6;unfold qW at Q;go_wp2_with fail
    go_region
    all_goals
     rw[<-Q];go_wp2_with fail
     go_end0
     obtain⟨pb',pa',pk',role',g6⟩:=G6;exact⟨rfl,⟨pb',pa',pk',role',g6.ext (Ext.refl _).drew,Q6⟩,X6.drew⟩
theorem d2k[Inhabited uQ](h:SAt B w b x ar kr v4 v8 br cB cO bn pb pa pk kn hd vf F vk K role)(g:x.E=4)(a:World)(c:a.heap.size<=B)(i:Ext a w):
  Calls prog 143 #[pP b] (w.setCell (aA b 4017) (.slice none 0 0)) λe w'=>e=.returned (zV 5 b)/\Hid (SAt B w' b (cZ x 5 0) ar kr v4 v8 br cB cO bn pb pa pk kn hd vf F (.slice none 0 0) [] role)/\Ext a w':=by
 have d:=h.keptAs (vk':=.slice none 0 0) (K':=[]) (World.ownsRow_nil _ _ _ _) (λq f=>by simp [Value.ownBlock] at f);exact a7z d 4 g rfl rfl (by omega) a c (i.setCell (p:=(aA b 4017)) (Nat.le_trans c h.sb.lo.1) _)
theorem d2m[Inhabited uQ]{C:Nat}(h:SAt B w b x ar kr v4 v8 br cB cO bn pb pa pk kn hd vf F vk K role)(i:zW C x F K)(hC:C<=1000000000)(s:Snd x)(hp:x.E=4)(a:World)(ha:a.heap.size<=B)(hx:Ext a w):
  Calls prog 333 #[.agg #[pP b]] w λe w'=>e=.returned (zV (unit4 x).E b)/\Hid (∃pb' pa' pk' vf' F' vk' K' role',SAt B w' b (unit4 x) ar kr v4 v8 br cB cO bn pb' pa' pk' kn hd vf' F' vk' K' role'/\zW C (unit4 x) F' K')/\Ext a w':=by
 have XA:=(Ext.refl w).alloc (.cells #[pP b] 236);have GP:=uU (gap_any (h.ext XA) i.ho (by have:=i.le;omega) i.nn);have H:=uU (h.ext XA);have S:=uU s;have I:=uU i;have D:=uU hp;have XS:=uU (hx.trans XA);have m0:(w.alloc (.cells #[pP b] 236)).cell? (aA w.heap.size 0)=some (pP b):=by simp [go_sem]
 have ao:b<w.heap.size:=h.sb.nb.1;have lo:=h.sb.lo.1
 have hK:K.length<=8000:=by
  have k4:=i.k4 hp;have:=b5j x.A.length K (k4.1.imp (λh=>Nat.ne_of_lt h)) (λi hi=>(k4.2.1 i hi).1);have:=s.ok.n8;omega
 have R:=uU (show ∀q,vf.ownBlock=some q->q<w.heap.size from λq hq=>(h.sb.fr.own.lt q hq).2);have ag:¬w.heap.size=b:=by omega
 have U:=uU (show br<w.heap.size/\(∀j,j<x.A.length->cB j<w.heap.size) from⟨(h.rw.nr (by have:=s.r1.B;omega)).1.1,λj hn=>(h.rw.nc j hn).1.1⟩);clear h s i hp XA;go_enter func333,ntmps333;go_wp2_with fail;refine GP.mono ?_;rintro e L ⟨t,vf',F',rfl,lq,r⟩;have M:=lq.2;have NF:Nf1 b L:=⟨Nat.lt_of_lt_of_le H.sb.nb.1 M.size,λj=>(M.hfr j).trans (H.sb.nb.2 j)⟩;obtain⟨af,O⟩:=H.freed lq.1 M NF;have T:=uU O;have X1:=uU (M.ext XS (show a.heap.size<=b by omega) (λk hk=>by have:=(H.sb.fr.own.lt k hk).1;omega));have m1:L.cell? (aA w.heap.size 0)=some (pP b):=M.A m0 ag (λe=>by have:=uH R _ e;omega);have J:=O.sb.k0;have ab:=O.sb.nb.2 4017;obtain⟨aq,n,ac⟩:∃a k,vk=.slice a K.length k:=⟨_,_,(a1d O.sb.kp).1⟩;subst ac;have aa:w.heap.size<L.heap.size:=uL m1
 have ME:=uU (show ∀W,Ext L W->unit4 x=cZ x 5 0->Calls prog 143 #[pP b] (W.setCell (aA b 4017) (.slice none 0 0)) λe w'=>e=.returned (zV (unit4 x).E b)/\Hid (∃pb' pa' pk' vf' F' vk' K' role',SAt B w' b (unit4 x) ar kr v4 v8 br cB cO bn pb' pa' pk' kn hd vf' F' vk' K' role'/\zW C (unit4 x) F' K')/\Ext a w' from λW Y e4=>by
  refine(d2k (O.ext Y) D a ha (X1.trans Y)).mono ?_;rintro e w2 ⟨rfl,A,u⟩;rw[e4];exact⟨rfl,⟨_,_,_,_,_,_,_,_,A,d2i I D r.1⟩,u⟩)
 clear O M lq NF m0 H XS
 rcases t with _ | j
 ·have V:=uU (c8m I r.1 r.2);simp only [gapV];go_wp2_with fail;go_quiet (fail);obtain⟨d1,G⟩:∃m,m=nq:=⟨_,rfl⟩;go_wp2_with fail;refine(ME _ ((Ext.refl _).drewN _) V).mono ?_;rintro e w2 ⟨rfl,A,u⟩;go_wp2_with fail;go_ret;exact⟨rfl,A,u⟩
 ·simp only [gapV];have GT:=uU (show j<x.A.length/\(x.c j).st=0/\∀v,v∈F'->(j:Int)<=v from r.2);have P:j<x.A.length:=GT.1;rcases List.eq_nil_or_concat K with o | ⟨E,l,o⟩
  ·subst o;have V:=uU (d2j I D);simp only [List.length_nil] at J;go_wp2_with fail;go_quiet (fail);obtain⟨d1,G⟩:∃m,m=nq:=⟨_,rfl⟩;go_wp2_with fail;refine(ME _ ((Ext.refl _).drewN _) V).mono ?_;rintro e w2 ⟨rfl,A,u⟩;go_wp2_with fail;go_ret;exact⟨rfl,A,u⟩
  ·rw[List.concat_eq_append] at o;subst o;obtain⟨m,hm⟩:∃m,m=E.length:=⟨_,rfl⟩;have d:(E++[l]).length=m+1:=by simp [hm]
   obtain⟨g,al,hv,_,_⟩:=T.sb.kp.form (by rw[d];omega)
   injection hv with ah ai ak
   subst ah ak;have N:=T.sb.kp
   have kc:L.cell? (aA g m)=some (ndp bn l):=by
    rw[N.cellAt m (by rw[d];omega)];simp [hm]
   have LL:=uU ((I.k4 D).2.1 l (by simp));have Q:l<x.A.length:=LL.1;have ad:=(T.sb.nd j P).1;have ae:=(T.sb.nd l Q).1;rw[d] at J hK;have HL:=uU d;have HM:=uU hm;have an:(0:Int)<=(m:Int):=by omega
   have ap:(m:Int)<(m:Int)+1:=by omega
   have mc:(m:Int)<=(n:Int):=by
    rcases N.2 with⟨e,_⟩ | ⟨g',cap',cur,e1,_,_,e4,_⟩
    ·simp at e
    ·injection e1 with _ _ e1
     rw[d] at e4;omega
   clear hm d ai N;by_cases X:l<j
   ·have V:=uU (c8n I D r.1 r.2 X);have gt:(j:Int) > (l:Int):=by omega
    go_wp2_with fail;go_quiet (fail);obtain⟨d1,G⟩:∃m,m=nq:=⟨_,rfl⟩;go_wp2_with fail;refine(ME _ ((Ext.refl _).drewN _) V).mono ?_;rintro e w2 ⟨rfl,A,u⟩;go_wp2_with fail;go_ret;exact⟨rfl,A,u⟩
   ·have Z:=uU (go_move I D r.1 r.2 X);have EP:=uU (show(unit4 x).E=4 by rw[Z.2.2.1];exact D)
    have aj:=uU (show ∀f,(∃pb' pa' pk' role',SAt B f b (dL x j l) ar kr v4 v8 br cB cO bn pb' pa' pk' kn hd vf' F' (sS g (E++[l]).length n) (E++[l]) role')->Ext a f->∀W',Ext f W'->Hid (∃pb' pa' pk' vf' F' vk' K' role',SAt B (W'.setCell (aA b 4017) (sS g m n)) b (unit4 x) ar kr v4 v8 br cB cO bn pb' pa' pk' kn hd vf' F' vk' K' role'/\zW C (unit4 x) F' K')/\Ext a (W'.setCell (aA b 4017) (sS g m n)) from λf y x3 W' Y=>by
     obtain⟨pb',pa',pk',role',y⟩:=y;have h4:=y.ext Y;have N:=c5d h4.sb.kp;rw[<-uH HM] at N;rw[Z.2.2.1];refine⟨⟨pb',pa',pk',vf',F',_,E,role',h4.keptAs (by rw[<-uH HM];exact N) (λq hq=>hq),Z.2.2.2⟩,(x3.trans Y).setCell (p:=(aA b 4017)) (show a.heap.size<=b by omega) _⟩)
    go_wp2_with fail;go_quiet (fail);obtain⟨d1,G⟩:∃m,m=nq:=⟨_,rfl⟩;go_wp2_with fail;go_region_with (go_at_call 334;refine(c8k (T.ext (((Ext.refl L).drewN _).drew)) S j l Z.2.1 P Q a ha (X1.trans (((Ext.refl L).drewN _).drew))).mono ?_;rintro e f ⟨rfl,y,x3⟩)
    all_goals
     have Y3:=uU (show ∃pb' pa' pk' role',SAt B f b (dL x j l) ar kr v4 v8 br cB cO bn pb' pa' pk' kn hd vf' F' (sS g (E++[l]).length n) (E++[l]) role' by obtain⟨pb',pa',pk',role',z,_⟩:=uH y;exact⟨_,_,_,_,z⟩)
     have am:f.cell? (aA b 4017)=some (sS g (m+1) n):=by
      obtain⟨pb',pa',pk',role',z⟩:=Y3;have:=z.sb.k0;rw[uH HL] at this;exact this
     have u17:f.frozen? (aA b 4017)=false:=by
      obtain⟨pb',pa',pk',role',z⟩:=Y3;exact z.sb.nb.2 4017
     have t0:f.cell? (aA w.heap.size 0)=some (pP b):=by
      obtain⟨pb',pa',pk',role',_,z⟩:=y;exact(World.cell?_of_block (a:=(aA w.heap.size 0)) (z w.heap.size (by simpa using aa) (λe=>by have:=U.1;omega) (λj hj e=>by have:=U.2 j hj;omega))).trans m1
     have FN:=uU (aj f Y3 x3);clear y J ab kc ad ae;go_wp2_with fail
     go_region
     all_goals
      go_wp2_with fail;go_ret;exact⟨by rw[uH EP];rfl,(FN f.drew (Ext.refl f).drew).1,(FN f.drew (Ext.refl f).drew).2⟩
end Go.Proofs.YtddkhnclmeikfaaGreat
