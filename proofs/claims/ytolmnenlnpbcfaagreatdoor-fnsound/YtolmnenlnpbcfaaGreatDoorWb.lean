import Derived.Test.YtolmnenlnpbcfaaGreatDoorPn
import Derived.Laws.StructEq
set_option maxRecDepth 100000
set_option maxHeartbeats 4000000
namespace Go.Proofs.YtolmnenlnpbcfaaGreatDoor
open Go.RowKit Tryz
attribute [local go_sem ↓] Go.wp_at_zero Go.wp_at_succ
variable{w w':World}{i b bn kn j g B kr br hd r bs bh:Nat}{M xs:List Pr}{x:Hp}{c:Cl}{Mt K:List Nat}{ar:Option Addr}{v4 v8 vf vk:Value}{cB cO pb pk role:Nat->Nat}{pa ac:Nat->Option Addr}{F:List Int}
theorem word_fn[qd](h:SAt B w b x ar kr v4 v8 br cB cO bn pb pa pk kn hd vf F vk K role)(j:Nat)(l:j<x.B.length)(y:Wd)(t:0<x.B.length)(a:World)(s:Ext a w)(z:a.heap.size<=br):
  ∀W,Ext w W->SAt B (cQ W br (j*3) y) b { x with B:=x.B.set j y } ar kr v4 v8 br cB cO bn pb pa pk kn hd vf F vk K role/\Ext a (cQ W br (j*3) y)/\(∀d o v,d≠br->w.cell? (aA d o)=some v->(cQ W br (j*3) y).cell? (aA d o)=some v)/\∀q,q<w.heap.size->q≠br->(cQ W br (j*3) y).heap[q]?=w.heap[q]?:=λW c=>by
 have g:=h.ext c;have f:=cE W br (j*3) y;refine⟨g.setr j l y f (a2k (g.rw.nr t).1 _ _) (a1o W br (j*3) y _ (g.rw.r j l)) (λm n=>cV W br (j*3) y m n),f.ext (s.trans c) (λq u e=>by omega),λd o v hd i=>?_,λq k p=>?_⟩;exact(cOb d o (f.block d (kF (uZ i) c.size) hd)).trans (c.keep i);exact(f.block q (kF k c.size) p).trans (c.block q k)
theorem c9e[qd](h:SAt B w b x ar kr v4 v8 br cB cO bn pb pa pk kn hd vf F vk K role)(s:Snd x)(t f:Nat)(af:t≠f)(C:t<x.A.length)(I:f<x.A.length)(a:World)(ha:a.heap.size<=B)(hx:Ext a w):
  Calls prog 282 #[.agg #[pP b],ndp bn f,ndp bn t] w λe w'=>e=.returned (.tuple #[])/\Hid (∃pb' pa' pk' role',SAt B w' b (qY x t f) ar kr v4 v8 br cB cO bn pb' pa' pk' kn hd vf F vk K role'/\∀q,q<w.heap.size->q≠br->(∀j,j<x.A.length->q≠cB j)->w'.heap[q]?=w.heap[q]?)/\Ext a w':=by
 have H:=uU h;have S:=uU s;have XA:=(hO w).alloc (.cells #[pP b] 215);have r0:0<x.B.length:=by have:=s.r1.B;omega
 have bc:x.B.length<=16:=by have:=s.r1.B;omega
 have n8:=s.ok.n8;have c3:=h.sb.bx.2.2.2.1;rw[h.sb.ha r0]at c3;have ay:b<w.heap.size:=h.sb.nb.1;have lo:=h.sb.lo.1;have HS:=uU (h.ext XA);have XS:=uU (hx.trans XA);have d3:=XA.keep c3;have M0:=uU (show(w.alloc (.cells #[pP b] 215)).cell? (aA w.heap.size 0)=some (pP b) by simp[go_sem]);have ab:=uU (show br<w.heap.size/\B<=br from⟨(h.rw.nr r0).1.1,(h.rw.nr r0).2⟩);clear h s c3 XA;go_in;go_wp21;go_loopw [16] (λi wr=>∃j:Nat,j<=x.B.length/\i=iv j/\Hid (SAt B wr b (rgR x t f j) ar kr v4 v8 br cB cO bn pb pa pk kn hd vf F vk K role)/\Hid (Ext a wr/\wr.cell? (aA w.heap.size 0)=some (pP b)/\∀q,q<w.heap.size->q≠br->wr.heap[q]?=w.heap[q]?)) (λi _=>x.B.length-(intOf i).toNat)
 case atStart=>exact⟨0,kB _,rfl,by rw[d3e];exact uH HS,XS,M0,λq hq _=>ky w _ q hq⟩
 case round=>
  clear HS XS d3 M0;obtain⟨j,hj,rfl,M,g⟩:=hrel;by_cases D:j<x.B.length
  ·obtain⟨hl,er⟩:=d3c x t f j D;obtain⟨V,e1,e2⟩:=M.rw.r j hl;rw[er]at V e1 e2;have aq:=cLt V;have FM:=uU (S.r4.1 j D).1;have be:=i0N j;have av:(j:Int)<(x.B.length:Int):=by omega
   have m0:=g.2.1;have aw:=cLt m0;have SU:=uU (c2k x t f j D);have SS:=uU (d3d x t f j D);obtain⟨⟨yk,yn,X⟩,hr⟩:∃r,r=x.B[j]:=⟨_,rfl⟩;rw[<-hr]at V e1 e2 FM SU SS;clear hr er;simp only at V e1 e2;have XB:=(hO wr).alloc (.cells #[iv yk,iv yn,iv X] 86);have d0:=XB.keep m0;have U:=XB.keep M.sb.n13;have N:=uU XB;clear XB;cases q:(yk == 2)
   ·have qn:¬yk=2:=by simpa using q
    have en:∀W,(binOp .eql 111 (.pointer none) (ndp bn f)).run prog W=.ok (.bool false) W:=λW=>ptr_nil bn (f*2) W
    have NX:=uU (show rgR x t f (j+1)=rgR x t f j from uH SS (by unfold mvW;rw[if_neg (λh=>qn h.1)]));go_wp21;go_region_with (go_at_call 178;refine(a3n ⟨yk,yn,X⟩ b _ q).mono ?_;rintro e p ⟨rfl,J⟩;have o:=uU (kI N (kI (eDr _) J));clear J);all_goals
     have R:=uU (show SAt B p b (rgR x t f (j+1)) ar kr v4 v8 br cB cO bn pb pa pk kn hd vf F vk K role by rw[uH NX];exact M.ext o);have RX:=uU (show Ext a p/\p.cell? (aA w.heap.size 0)=some (pP b)/\∀q,q<w.heap.size->q≠br->p.heap[q]?=w.heap[q]? from⟨g.1.trans o,o.keep g.2.1,λq y z=>(o.block q (by omega)).trans (g.2.2 q y z)⟩);go_wp21;go_roundw
     case rel=>exact⟨j+1,by omega,by go_num,R,RX⟩
     simp[intOf];omega
   obtain rfl:yk=2:=by simpa using q
   have fm:yn=0/\0<=X/\X<x.A.length:=by have:=uH FM;unfold uJ at this;simp only at this;omega
   obtain⟨i,rfl⟩:∃i:Nat,X=(i:Int):=⟨X.toNat,by omega⟩;obtain rfl:yn=0:=fm.1;have hi:i<x.A.length:=by omega
   by_cases am:i=f
   ·subst am;have en:∀W,(binOp .eql 111 (pQ bn (i*2)) (ndp bn i)).run prog W=.ok (.bool true) W:=λW=>c7k bn (i*2) W
    have NX:=uU (show({ rgR x t i j with B:=(rgR x t i j).B.set j ⟨2,0,t⟩ }:Hp)=rgR x t i (j+1) by have:=uH SU;unfold mvW at this;rw[if_pos ⟨rfl,rfl⟩]at this;exact this);go_wp21;go_region_with (go_at_call 178;refine(a1h ⟨2,0,(i:Int)⟩ b x.A.length bn 0 kn i _ rfl ((eDr _).keep U) hi).mono ?_;rintro e p ⟨rfl,J⟩;rw[kO];have o:=uU (kI N (kI (eDr _) J));clear J);all_goals
     have R3:=uU (M.ext o);have k0:=o.keep m0;have k3:p.cell? (aA b 3)=some (sS br x.B.length kr):=by
      have Z:=R3.sb.bx.2.2.2.1;have A:(rgR x t i j).B.length=x.B.length:=by simp[rgR];omega
      rw[R3.sb.ha (by omega),A]at Z;exact Z
     have g0:=o.keep V;have g1:=o.keep e1;have g2:=o.keep e2;have A:0<(rgR x t i j).B.length:=by simp[rgR];omega
     have gf:=(R3.rw.nr A).1.2;have ac:=cLt g0;have au:=cLt k3;have ax:=cLt k0;have T0:=uU (R3.sb.nd t C).1;have T:=uU (word_fn R3 j hl ⟨2,0,t⟩ A a (g.1.trans o) (by have:=ab.2;omega));rw[uH NX]at T;unfold cQ at T;dsimp only at T;have FQ:=uU (show ∀q,q<p.heap.size->q≠br->q<w.heap.size->p.heap[q]?=w.heap[q]? from λq h0 z y=>(o.block q (by omega)).trans (g.2.2 q y z));clear V e1 e2 m0 d0 U A;go_wp21;go_region_with (go_at_call 221;refine(a8h bn (t*2) t _ ((eDr _).keep T0)).mono ?_;rintro e w4 ⟨rfl,x4⟩;have u:=kI (eDr p) x4;have l0:=u.keep k0;have l3:=u.keep k3;have o0:=u.keep g0;have o1:=u.keep g1;have o2:=u.keep g2;have of:=λm=>((cX u).2 br m ac).trans (gf m);have bb:=cLt o0;have X4:=uU u;clear x4 u);all_goals
      go_wp21;go_roundw
      case rel=>exact⟨j+1,by omega,by go_num,(T w4 X4).1,(T w4 X4).2.1,(T w4 X4).2.2.1 w.heap.size 0 _ (by have:=ab.1;omega) k0,λq y z=>((T w4 X4).2.2.2 q (by omega) z).trans (FQ q (by omega) z y)⟩
      simp[intOf];omega
   have ah:¬i*2=f*2:=by omega
   have en:∀W,(binOp .eql 111 (pQ bn (i*2)) (ndp bn f)).run prog W=.ok (.bool false) W:=λW=>d3h bn (i*2) (f*2) W ah
   have NX:=uU (show rgR x t f (j+1)=rgR x t f j from uH SS (by unfold mvW;rw[if_neg (λh=>by have:=h.2;simp only at this;omega)]));go_wp21;go_region_with (go_at_call 178;refine(a1h ⟨2,0,(i:Int)⟩ b x.A.length bn 0 kn i _ rfl ((eDr _).keep U) hi).mono ?_;rintro e p ⟨rfl,J⟩;rw[kO];have o:=uU (kI N (kI (eDr _) J));clear J);all_goals
    have R:=uU (show SAt B p b (rgR x t f (j+1)) ar kr v4 v8 br cB cO bn pb pa pk kn hd vf F vk K role by rw[uH NX];exact M.ext o);have RX:=uU (show Ext a p/\p.cell? (aA w.heap.size 0)=some (pP b)/\∀q,q<w.heap.size->q≠br->p.heap[q]?=w.heap[q]? from⟨g.1.trans o,o.keep g.2.1,λq y z=>(o.block q (by omega)).trans (g.2.2 q y z)⟩);go_wp21;go_roundw
    case rel=>exact⟨j+1,by omega,by go_num,R,RX⟩
    simp[intOf];omega
  have je:j=x.B.length:=by omega
  subst je;have v:=uU M;obtain⟨a0,a1,a2,a3,a4,a5,a6⟩:S7 wr (cB f) (cO f) (x.c f):=v.rw.s f I;have a7:wr.cell? (aA (cB f) (cO f+7))=some (.slice (pa f) (x.c f).F.length (pk f)):=v.rw.p7 f I;obtain⟨b0,b1,b2,b3,b4,b5,b6⟩:S7 wr (cB t) (cO t) (x.c t):=v.rw.s t C;have b7:wr.cell? (aA (cB t) (cO t+7))=some (.slice (pa t) (x.c t).F.length (pk t)):=v.rw.p7 t C;have ai:=(v.rw.nc t C).1.2;have ao:=(v.rw.nc f I).1.2;obtain⟨P,ak⟩:=v.sb.nd t C;obtain⟨aj,ae⟩:=v.sb.nd f I;have ap:cB f<wr.heap.size:=uZ a0;have al:cB t<wr.heap.size:=uZ b0;have Y:=cLt P;have aa:=uU (show ¬bn=cB t from λe=>by have y:=v.sp.n;have z:=v.sp.c t C;rw[e]at y;omega);have ad:=uU (show ¬bn=cB f from λe=>by have y:=v.sp.n;have z:=v.sp.c f I;rw[e]at y;omega);have an:¬bn=cB t:=uH aa;have bd:¬cB t=bn:=λe=>uH aa e.symm
  have bf:¬bn=cB f:=uH ad;have bg:¬cB f=bn:=λe=>uH ad e.symm
  have XR:=uU g.1;have QR:=uU g.2.2;have G:=uU (kG (v.rw.nc t C) (v.rw.nc f I));have L:=uU (λk hk=>(v.ext (eDr wr)).rw.far8 C I (λe=>af e.symm) (hT _) (a0a wr.drew (cB t) (cO t) (x.c f) (.slice (pa f) (x.c f).F.length (pk f))) (a1n wr.drew (cB t) (cO t) (x.c f) (.slice (pa f) (x.c f).F.length (pk f))) k hk);have O:=uU (show t<x.A.length/\f<x.A.length/\t≠f from⟨C,I,af⟩);have az:=cLt g.2.1;clear M g hj;go_wp21;go_region;all_goals
   obtain⟨l,E⟩:∃W,W=(eZ wr (cB t) (cO t) (x.c f) (.slice (pa f) (x.c f).F.length (pk f))).drew:=⟨_,rfl⟩;have d:=uU (show l=eZ wr.drew (cB t) (cO t) (x.c f) (.slice (pa f) (x.c f).F.length (pk f)) by rw[E,b5c]);have N5:=(a0a wr.drew (cB t) (cO t) (x.c f) (.slice (pa f) (x.c f).F.length (pk f))).block bn (by simpa using Y) an;have ag:l.cell? (aA bn (t*2))=some (iv t):=by rw[uH d,cOb bn (t*2) N5];exact P
   have ba:l.cell? (aA bn (f*2+1))=some (pQ (cB f) (cO f)):=by rw[uH d,cOb bn (f*2+1) N5];exact ae
   have d0:l.cell? (aA (cB f) (cO f))=some (iv (x.c f).st):=by rw[uH d];exact(L 0 (by omega)).trans a0
   have d1:l.cell? (aA (cB f) (cO f+1))=some (iv (x.c f).kind):=by rw[uH d];exact(L 1 (by omega)).trans a1
   have d2:l.cell? (aA (cB f) (cO f+2))=some (iv (x.c f).T):=by rw[uH d];exact(L 2 (by omega)).trans a2
   have d3:l.cell? (aA (cB f) (cO f+3))=some (iv (x.c f).U):=by rw[uH d];exact(L 3 (by omega)).trans a3
   have d4:l.cell? (aA (cB f) (cO f+4))=some (iv (x.c f).born):=by rw[uH d];exact(L 4 (by omega)).trans a4
   have d5:l.cell? (aA (cB f) (cO f+5))=some (iv (x.c f).J):=by rw[uH d];exact(L 5 (by omega)).trans a5
   have d6:l.cell? (aA (cB f) (cO f+6))=some (iv (x.c f).to):=by rw[uH d];exact(L 6 (by omega)).trans a6
   have d7:l.cell? (aA (cB f) (cO f+7))=some (.slice (pa f) (x.c f).F.length (pk f)):=by rw[uH d];exact(L 7 (by omega)).trans a7
   have bh:∀j,l.frozen? (aA (cB f) j)=false:=by rw[uH d];exact(a7m (w1:=wr.drew) (uY G.2.1 rfl (by simp)) (a3e (w:=wr.drew) (uY G.1.1 rfl (by simp)) _ _ _) (a0a wr.drew (cB t) (cO t) (x.c f) (.slice (pa f) (x.c f).F.length (pk f)))).2
   have bi:cB f<l.heap.size:=uZ d0;have bj:=cLt ag;have G6:=uU (show ∃pb' pa' pk' role',SAt B (zN l (cB f) (cO f) 2 t) b (qY x t f) ar kr v4 v8 br cB cO bn pb' pa' pk' kn hd vf F vk K role' by
    rw[<-rgR_all,uH d];exact c2j (v.ext (eDr wr)) t f O.2.2 O.1 O.2.1)
   have X6:=uU (show Ext a (zN l (cB f) (cO f) 2 t) by
    refine(a0c l (cB f) (cO f) 2 t).ext ?_ (λq hq e=>by have:=G.2.2;omega);rw[uH d];exact(a0a wr.drew (cB t) (cO t) (x.c f) _).ext XR.drew (λq hq e=>by have:=G.1.2;omega))
   have Q6:=uU (show ∀q,q<w.heap.size->q≠br->(∀j,j<x.A.length->q≠cB j)->(zN l (cB f) (cO f) 2 t).heap[q]?=w.heap[q]? from λq y z Z=>by
    have hw:q<wr.drew.heap.size:=by simpa using (show q<wr.heap.size by omega)
    rw[(a0c l (cB f) (cO f) 2 t).block q (by rw[uH d];exact kF hw (a0a wr.drew (cB t) (cO t) (x.c f) _).size) (Z f I),d,(a0a wr.drew (cB t) (cO t) (x.c f) _).block q hw (Z t C)];exact QR q y z)
   unfold eZ at E;rw[<-E];clear E N5 a0 a1 a2 a3 a4 a5 a6 a7 b0 b1 b2 b3 b4 b5 b6 b7 ai ao ap al Y P ak aj ae;obtain⟨W6,Q⟩:∃W,W=zN l (cB f) (cO f) 2 t:=⟨_,rfl⟩;rw[<-Q]at G6 X6 Q6;unfold zN at Q;go_wp21;go_region;all_goals
    rw[<-Q];go_wp21;go_end0;obtain⟨pb',pa',pk',role',g6⟩:=uH G6;exact⟨rfl,⟨pb',pa',pk',role',g6.ext (eDr _),Q6⟩,X6.drew⟩
theorem b0t(b d bc c:Nat)(a:Int)(w:World)(h:w.cell? (aA b (d+1))=some (pQ bc c))(i:w.cell? (aA bc (c+2))=some (iv a)):
  Calls prog 169 #[pQ b d] w λe w'=>e=.returned (.bool (a == 1 || a == 3))/\Ext w w':=by
 cases f:(a == 1) <;> cases g:(a == 3) <;> (go_in;go_wp21;go_ret;exact⟨rfl,hO _⟩)
theorem b0u(b d bc c:Nat)(a:Int)(w:World)(h:w.cell? (aA b (d+1))=some (pQ bc c))(i:w.cell? (aA bc (c+2))=some (iv a)):
  Calls prog 170 #[pQ b d] w λe w'=>e=.returned (.bool (a == 2 || a == 3))/\Ext w w':=by
 cases f:(a == 2) <;> cases g:(a == 3) <;> (go_in;go_wp21;go_ret;exact⟨rfl,hO _⟩)
def zp(p:Pr):Bool:=p.key.k == 0 && p.key.n == 0 && p.key.a == 0 && p.val.k == 0 && p.val.n == 0 && p.val.a == 0
theorem c7n(p:Pr)(w:World):(Op.equalIn 10000 90 (.agg #[iv p.key.k,iv p.key.n,iv p.key.a,iv p.val.k,iv p.val.n,iv p.val.a]) (.agg #[iv 0,iv 0,iv 0,iv 0,iv 0,iv 0])).run prog w=.ok (zp p) w:=by
 rw[run_equalIn_struct w 9999 _ _ _ (by kernel_rfl) (by kernel_rfl)];simp[go_sem,zp];repeat' split
 all_goals simp_all
theorem d4b(p:Pr)(w:World):(binOp .eql 90 (.agg #[iv p.key.k,iv p.key.n,iv p.key.a,iv p.val.k,iv p.val.n,iv p.val.a]) (.agg #[iv 0,iv 0,iv 0,iv 0,iv 0,iv 0])).run prog w=.ok (.bool (zp p)) w:=by
 rw[run_eql_struct,c7n];rfl
theorem sk_of(h:(c.T == 1 || c.T == 3)=false):SK c:=by simp at h;exact h
theorem sk_not(h:(c.T == 1 || c.T == 3)=true):¬SK c:=λk=>by simp at h;unfold SK at k;omega
theorem sv_of(h:(c.T == 2 || c.T == 3)=false):SV c:=by simp at h;exact h
theorem sv_not(h:(c.T == 2 || c.T == 3)=true):¬SV c:=λk=>by simp at h;unfold SV at k;omega
theorem zp_cls{M S:List Nat}{g:Nat->List (Option Nat)}{l:Nat}(h:zp ((x.c j).p l)=true)(C:a2p x M S g none j l):a2p x M S g none j (l+1):=by grind[zp,Hp.c,Cl.p,a2p,a2e.at,a7t.at]
theorem d4c(x:Hp)(a:World)(b bw r1 r2 r t j:Nat)(v:Value)(f:Nat->Value)(g:Nat->List (Option Nat))(O St:List Nat)(w:World){ar:Option Addr}{kr:Nat}{ac:Nat->Option Addr}{kn:Nat}(hv:VNt a b x ar kr ac (some (aA r t)) kn)(q2:R2 x)(q4:R4 x)(ak:(x.c j).F.length<=200)(h:eX w a.heap.size bw b r1 r t x.A.length v O St)(ht:tV w a.heap.size bw r1 r2 r t v f g)(hI:yV x O St g none (some j))(hj:j∈O)(hx:Ext a w)(af:x.A.length<=8000)(hg:∀k,(g k).length<=9000000):
  Calls prog 165 #[pP bw,ptr r (t+j*2)] w λe w'=>e=.returned (.tuple #[])/\∃v' Mt' St' f' g',eX w' a.heap.size bw b r1 r t x.A.length v' Mt' St'/\tV w' a.heap.size bw r1 r2 r t v' f' g'/\Hid (yV x Mt' St' g' none none/\yH (λ_=>True) O Mt' St St'/\∀k,(g' k).length<=(g k).length+200)/\Hid (Ext a w'):=by
 have ag:j<x.A.length:=h.rg j hj;have HJ:=uU (hI.only j hj);have GD:=uU ((hI.only j hj).good q2 q4);obtain⟨bc,oc,ap,kp,e1,C⟩:=hv.H.cell j ag;obtain⟨av,al,aq,an,e2,e3,m0,ae⟩:=hv.N j ag;rw[e1]at e3;cases e2;cases e3;have p7:=hx.keep C.p7;have m1:=hx.keep ae;have M1:=uU ae;have P2:=uU C.p2;have lp:=C.lp;have HP:=uU C.P;have HV:=uU hv;have U:=uU h;have HT:=uU ht;have HI:=uU hI;have Q2:=uU q2;have Q4:=uU q4;clear C m0 ae h ht hI e1 hv q2 q4;go_in;go_wp21;go_loopw [15] (λi wr=>∃(l:Nat)(u:Value)(M S:List Nat)(f':Nat->Value)(g':Nat->List (Option Nat)),l<=(x.c j).F.length/\i=iv l/\eX wr a.heap.size bw b r1 r t x.A.length u M S/\tV wr a.heap.size bw r1 r2 r t u f' g'/\Hid (yV x M S g' none (some j)/\a2p x M S g' none j l/\yH (λ_=>True) O M St S/\∀k,(g' k).length<=(g k).length+l)/\Ext a wr) (λi _=>(x.c j).F.length-(intOf i).toNat)
 case atStart=>exact⟨0,v,O,St,f,g,kB _,rfl,U,HT,⟨HI,(λp _ h=>by omega),yH.refl,λk=>by omega⟩,hx⟩
 case round=>
  clear U HT HI p7 m1 hx;clear f v;obtain⟨l,u,M,S,f,g',hl,rfl,hw,ab,d,y⟩:=hrel;have U:=uU hw;have HT:=uU ab;have c0:=hw.c0;have ao:bw<wr.heap.size:=hw.rlt.1;by_cases J:l<(x.c j).F.length
  ·obtain⟨b2,o2,rfl,q0,q1,q2,q3,q4,q5⟩:=uH HP l J;have e0:=y.keep q0;have e1:=y.keep q1;have e2:=y.keep q2;have e3:=y.keep q3;have e4:=y.keep q4;have e5:=y.keep q5;have am:=cLt e0;clear q0 q1 q2 q3 q4 q5 hw ab;have au:=i0N l;have aw:(l:Int)<((x.c j).F.length:Int):=by omega
   have xa:=(hO wr).alloc (oPr ((x.c j).p l));have Z:=uU (a4c Q2 Q4 j l GD J);have PE:=λw=>c7n ((x.c j).p l) w
   have ad:=λw=>d4b ((x.c j).p l) w
   cases tz:zp ((x.c j).p l);rotate_left
   ·simp only[tz]at PE ad;have R:=uU (kG (U.ext xa) (kG (HT.ext xa) (kG (zp_cls tz d.2.1) (y.trans xa))));clear tz;go_wp21;go_roundw
    case rel=>exact⟨l+1,u,M,S,f,g',by omega,by go_num,R.1,R.2.1,⟨d.1,R.2.2.1,d.2.2.1,λk=>by have:=d.2.2.2 k;omega⟩,R.2.2.2⟩
    simp[intOf];omega
   simp only[tz]at PE ad;clear tz;go_wp21;go_cut [6] (λs6 wx=>∃o1,s6=pv r t o1/\Hid (o1=wo x ((x.c j).p l).key)/\Ext (wr.alloc (oPr ((x.c j).p l))) wx)
   case first=>
    go_region_with (go_at_call 167;refine(c2v x ((x.c j).p l).key b _ r t (HV.ext (y.trans xa).drew) Q2 Z.1).mono ?_;rintro e w2 ⟨rfl,z⟩)
    all_goals
     go_wp21;go_meet;exact⟨_,rfl,rfl,kI (eDr _) z⟩
   case rest=>
   obtain⟨o1,rfl,O1,z⟩:=hcut;obtain⟨w2,aj⟩:∃W,W=wc:=⟨_,rfl⟩;subst aj;have x2:=xa.trans z;have X2:=y.trans x2;have v3:w2.cell? (aA wr.heap.size 3)=some (iv ((x.c j).p l).val.k):=z.keep (by simp[go_sem]);have v4:w2.cell? (aA wr.heap.size 4)=some (iv ((x.c j).p l).val.n):=z.keep (by simp[go_sem]);have v5:w2.cell? (aA wr.heap.size 5)=some (iv ((x.c j).p l).val.a):=z.keep (by simp[go_sem]);have W2:=uU (U.ext x2);have T2:=uU (HT.ext x2);have c0:=W2.c0;clear PE ad e0 e1 e2 e3 e4 e5 z;go_wp21;refine(b0t r (t+j*2) bc oc (x.c j).T _ (X2.keep M1) (X2.keep P2)).mono ?_;rintro e w3 ⟨rfl,q⟩;cases tk:((x.c j).T == 1 || (x.c j).T == 3);focus
    have aa:wr.heap.size<w3.heap.size:=kF (uZ v3) q.size;have X3:=X2.trans q;go_wp21;refine(b0s a.heap.size bw b r1 r t x.A.length o1 u M S _ (W2.ext q) (λi e=>(c2w Z.1 i (by rw[<-uH O1];exact e)).1) X3.size af).mono ?_;rintro e w4 ⟨rfl,u4,M4,S4,ai,T,Y⟩;have kb:=Y.block wr.heap.size aa (by have:=U.rlt;omega) (by have:=U.rlt;omega) (λe=>by have:=(U.s.lt _ e).2;omega);have y3:=(cOb wr.heap.size 3 kb).trans (q.keep v3);have y4:=(cOb wr.heap.size 4 kb).trans (q.keep v4);have y5:=(cOb wr.heap.size 5 kb).trans (q.keep v5);have X4:=(W2.ext q).kext Y X3;have W4:=uU ai;have T4:=uU ((T2.ext q).step Y);have V:=uU T.1;have I4:=uU (d.1.grow T.1 (λi e=>by
     obtain⟨_,k,rfl⟩:=c2w Z.1 i (by rw[<-uH O1];exact e);exact eJ.key j l HJ J (sk_of tk) k))
    have K4:=uU (show SK (x.c j)->((x.c j).p l).key.k=2->tgt x ((x.c j).p l).key∈M4 from λ_ k=>T.2 _ (by rw[uH O1];unfold wo;rw[if_pos k]));clear ai T Y kb v3 v4 v5 aa
   rotate_left
   focus
    have X4:=X2.trans q;have y3:=q.keep v3;have y4:=q.keep v4;have y5:=q.keep v5;have W4:=uU (W2.ext q);have T4:=uU (T2.ext q);have V:=uU (show yH (λi=>o1=some i) M M S S from yH.refl);have I4:=uU d.1;have K4:=uU (show SK (x.c j)->((x.c j).p l).key.k=2->tgt x ((x.c j).p l).key∈M from λs _=>(sk_not tk s).elim);clear v3 v4 v5;obtain⟨u4,M4,S4,rfl,rfl,rfl⟩:∃a b c,a=u/\b=M/\c=S:=⟨_,_,_,rfl,rfl,rfl⟩
   all_goals
    go_wp21;refine(b0u r (t+j*2) bc oc (x.c j).T _ (X4.keep M1) (X4.keep P2)).mono ?_;rintro e X ⟨rfl,m⟩;have X5:=X4.trans m;cases tv:((x.c j).T == 2 || (x.c j).T == 3)
    ·have z3:=m.keep y3;have z4:=m.keep y4;have z5:=m.keep y5;have d0:=m.keep W4.c0;clear y3 y4 y5;go_wp21;go_region_with (first
      | (go_at_call 167;refine(c2v x ((x.c j).p l).val b _ r t (HV.ext X5.drew) Q2 Z.2).mono ?_;rintro e w6 ⟨rfl,A⟩;have X6:=X5.drew.trans A;have Y6:=kI (eDr X) A;obtain⟨o2,B⟩:∃o,o=wo x ((x.c j).p l).val:=⟨_,rfl⟩;rw[<-B];have O2:=uU B;clear B A)
      | (go_at_call 211;refine(c6a a bw b r1 r2 r t x.A.length o1 o2 u4 f g' M4 S4 _ ((W4.ext m).ext Y6) ((T4.ext m).ext Y6) (λi e=>(c2w Z.2 i (by rw[<-uH O2];exact e)).1) X6 af (λk=>by have:=d.2.2.2 k;have:=hg k;omega)).mono ?_;rintro e w7 ⟨rfl,u7,E,S7,f7,D,G,K,L,I⟩;have F:=uU (show Bes (wo x ((x.c j).p l).key) (wo x ((x.c j).p l).val) M4 E S4 S7 g' D by rw[<-uH O1,<-uH O2];exact L);have R:=uU (show eX w7 a.heap.size bw b r1 r t x.A.length u7 E S7/\tV w7 a.heap.size bw r1 r2 r t u7 f7 D/\(yV x E S7 D none (some j)/\a2p x E S7 D none j (l+1)/\yH (λ_=>True) O E St S7/\∀k,(D k).length<=(g k).length+(l+1))/\Ext a w7 from⟨G,K,⟨I4.beside HJ J (sv_of tv) Z.2 F,b8g d.2.1 V K4 (.inr F) F.grow,(d.2.2.1.trans (V.mono (λ_ _=>trivial))).trans (F.grow.mono (λ_ _=>trivial)),λk=>by have:=F.len k;have:=d.2.2.2 k;omega⟩,I⟩);clear G K L I F))
     all_goals
      go_wp21;go_roundw
      case rel=>exact⟨l+1,u7,E,S7,f7,D,by omega,by go_num,R.1,R.2.1,R.2.2.1,R.2.2.2⟩
      simp[intOf];omega
    have R:=uU (show eX X a.heap.size bw b r1 r t x.A.length u4 M4 S4/\tV X a.heap.size bw r1 r2 r t u4 f g'/\(yV x M4 S4 g' none (some j)/\a2p x M4 S4 g' none j (l+1)/\yH (λ_=>True) O M4 St S4/\∀k,(g' k).length<=(g k).length+(l+1))/\Ext a X from
     ⟨W4.ext m,T4.ext m,⟨I4,b8g d.2.1 V K4 (.inl ⟨sv_not tv,rfl,rfl,rfl⟩) (yH.refl (Q:=λ_=>True)),d.2.2.1.trans (V.mono (λ_ _=>trivial)),λk=>by have:=d.2.2.2 k;omega⟩,X5⟩)
    clear y3 y4 y5;go_wp21;go_roundw
    case rel=>exact⟨l+1,u4,M4,S4,f,g',by omega,by go_num,R.1,R.2.1,R.2.2.1,R.2.2.2⟩
    simp[intOf];omega
  have ah:l=(x.c j).F.length:=by omega
  have R:=uU (kG (d.1.shut (by have:=d.2.1;rw[ah]at this;exact this)) (kG d.2.2.1 (show ∀k,(g' k).length<=(g k).length+200 from λk=>by have:=d.2.2.2 k;omega)));clear hw ab ah d;go_wp21;go_end0;exact⟨rfl,u,M,S,f,g',U,HT,R,y⟩
theorem d4d(x:Hp)(H:Nat->Bool)(y:Wd):tC x H y=(y.k == 2 && !H (tgt x y)):=by
 unfold tC qK tgt a2m;by_cases b:y.k=2;by_cases d:(x.c y.a.toNat).st=2
 ·rw[if_pos ⟨b,d⟩];simp[b,d]
 rw[if_neg (λh=>d h.2)];simp[b,d];have e:(y.k == 2)=false:=by simpa using b
 rw[if_neg (λh=>b h.1),e];rfl
structure LoAt(w:World)(b r bs bh:Nat)(x:Hp)(ac:Nat->Option Addr)(bn kn:Nat)(Mt:List Nat):Prop where
 s:w.cell? ⟨bs,0,none⟩=some (.pointer (some ⟨b,0,none⟩))
 h:w.cell? ⟨bh,0,none⟩=some (.map (some r))
 f:c2h w b x ac (some ⟨bn,0,none⟩) kn
 m:tD w r bn (Mt.map (λi=>i*2))
 rl:r<w.heap.size
theorem LoAt.ext(h:LoAt w b r bs bh x ac bn kn Mt)(e:Ext w w'):LoAt w' b r bs bh x ac bn kn Mt:=
 ⟨e.keep h.s,e.keep h.h,h.f.ext e,h.m.block (e.block r h.rl),kF h.rl e.size⟩
theorem c7o:i*2∈Mt.map (λi=>i*2)↔i∈Mt:=by
 simp only[List.mem_map];constructor;rintro⟨j,hj,e⟩;have:j=i:=by omega
 rw[<-this];exact hj;intro h;exact⟨i,h,rfl⟩
theorem c3a(x:Hp)(y:Wd)(b r o z bn J:Nat)(I:Nat->Option Addr)(c:List Nat)(w:World)(h:LoAt w b r o z x I bn J c)(K:R2 x)(H:a0m x y):
  Calls prog 166 #[y.v,pP o,pP z] w λe w'=>Hid (e=.returned (.bool (tC x (λi=>decide (i∈c)) y)))/\Ext w w':=by
 have E:=uU (d4d x (λi=>decide (i∈c)) y);have L:=uU h;have u:=h.s;have q:=h.h;have D:=cLt u;have G:=uU (λW(e:Ext w W)=>a2v x y b W bn 0 (h.f.ext e) K H);clear h;have j:=(hO w).alloc (oWd y);go_in;go_wp21;go_region_with (go_at_call 167;refine(G _ (by first|exact j|exact j.drew|exact j.drewN _)).mono ?_;rintro e P ⟨t,rfl,B,p⟩;have l:=kI (show Ext w _ by first|exact j|exact j.drew|exact j.drewN _) p;clear p);all_goals
  obtain⟨hk,rfl⟩|⟨hk,rfl⟩:=B
  ·have R:=uU (show tC x (λi=>decide (i∈c)) y=false by rw[uH E];simp[hk]);clear hk;go_wp21;go_ret;exact⟨by show _=_;rw[uH R];rfl,l⟩
  have R:=uU (show tC x (λi=>decide (i∈c)) y = !decide (tgt x y∈c) by rw[uH E];simp[hk]);have C:=uU (L.ext l);have N:=l.keep q;simp only[Nat.zero_add];clear hk u q;go_wp21;refine(a8i r bn (tgt x y*2) _ _ C.m).mono ?_;rintro e O ⟨rfl,A⟩;have M:=uU (show decide (tgt x y*2∈c.map (λi=>i*2))=decide (tgt x y∈c) by rw[decide_eq_decide];exact c7o);rw[uH M];obtain⟨F,g⟩:∃d,d=decide (tgt x y∈c):=⟨_,rfl⟩;have R3:=uU (show tC x (λi=>decide (i∈c)) y = !F by rw[uH R,g]);rw[<-g];clear M R g;go_wp21;go_ret;exact⟨by show _=_;rw[uH R3];rfl,l.trans A⟩
structure b7d(w:World)(b r bs bh bx bl:Nat)(x:Hp)(ac:Nat->Option Addr)(bn kn:Nat)(Mt:List Nat)(i:Nat):Prop where
 lo:LoAt w b r bs bh x ac bn kn Mt
 n:w.cell? ⟨bx,0,none⟩=some (ndp bn i)
 l:w.cell? ⟨bl,0,none⟩=some (.func (.func 166) #[] #[.pointer (some ⟨bs,0,none⟩),.pointer (some ⟨bh,0,none⟩)])
 c:∃bc oc,ac i=some ⟨bc,oc,none⟩/\w.cell? ⟨bn,i*2+1,none⟩=some (.pointer (some ⟨bc,oc,none⟩))/\w.cell? ⟨bc,oc+2,none⟩=some (iv (x.c i).T)
theorem b7d.ext{bx bl:Nat}(h:b7d w b r bs bh bx bl x ac bn kn Mt i)(e:Ext w w'):b7d w' b r bs bh bx bl x ac bn kn Mt i:=
 ⟨h.lo.ext e,e.keep h.n,e.keep h.l,let ⟨bc,oc,a,p,q⟩:=h.c;⟨bc,oc,a,e.keep p,e.keep q⟩⟩
theorem c3b(x:Hp)(p:Pr)(b r P Q U bl bn T i:Nat)(S:Nat->Option Addr)(t:List Nat)(w:World)(h:b7d w b r P Q U bl x S bn T t i)(r2:R2 x)(hk:a0m x p.key)(hv:a0m x p.val):
  Calls prog 168 #[p.v,pP U,pP bl] w λe w'=>Hid (e=.returned (.bool (goB x (λi=>decide (i∈t)) (x.c i) p)))/\Ext w w':=by
 obtain⟨E,N⟩:=obE (goB x (λi=>decide (i∈t)) (x.c i) p);have EE:=uU N;rw[<-N];clear N;have V:=uU (λW(e:Ext w W)=>c3a x p.key b r P Q bn T S t W (h.lo.ext e) r2 hk);have F:=uU (λW(e:Ext w W)=>c3a x p.val b r P Q bn T S t W (h.lo.ext e) r2 hv);obtain⟨bc,oc,_,H,M⟩:=h.c;have WK:=uU (λW(e:Ext w W)=>b0t bn (i*2) bc oc (x.c i).T W (e.keep H) (e.keep M));have L:=uU (λW(e:Ext w W)=>b0u bn (i*2) bc oc (x.c i).T W (e.keep H) (e.keep M));have O:=h.n;have K:=h.l;have aa:=cLt O;clear h H M;obtain⟨Y,s⟩:∃k,k=((x.c i).T == 1 || (x.c i).T == 3):=⟨_,rfl⟩;obtain⟨X,m⟩:∃k,k=tC x (λi=>decide (i∈t)) p.key:=⟨_,rfl⟩;obtain⟨J,q⟩:∃k,k=((x.c i).T == 2 || (x.c i).T == 3):=⟨_,rfl⟩;obtain⟨G,j⟩:∃k,k=tC x (λi=>decide (i∈t)) p.val:=⟨_,rfl⟩;rw[<-s]at WK;rw[<-m]at V;rw[<-q]at L;rw[<-j]at F;have y:=uU (show E=((Y && X) || (J && G)) by rw[uH EE,s,m,q,j];rfl);clear s m q j EE;have xa:=(hO w).alloc (oPr p);go_in;go_wp21;refine(WK _ xa).mono ?_;rintro e w1 ⟨rfl,g⟩;have v0:=g.keep (b:=w.heap.size) (o:=0) (v:=iv p.key.k) (by simp[go_sem]);have v1:=g.keep (b:=w.heap.size) (o:=1) (v:=iv p.key.n) (by simp[go_sem]);have v2:=g.keep (b:=w.heap.size) (o:=2) (v:=iv p.key.a) (by simp[go_sem]);have D:=g.keep (b:=w.heap.size) (o:=3) (v:=iv p.val.k) (by simp[go_sem]);have A:=g.keep (b:=w.heap.size) (o:=4) (v:=iv p.val.n) (by simp[go_sem]);have B:=g.keep (b:=w.heap.size) (o:=5) (v:=iv p.val.a) (by simp[go_sem]);have u:=xa.trans g;have d0:=u.keep O;have Z:=u.keep K;clear g;cases Y
 ·go_wp21;refine(L _ u).mono ?_;rintro e w3 ⟨rfl,d⟩;have f:=kI u d;have D:=d.keep D;have A:=d.keep A;have B:=d.keep B;have Z:=f.keep K;cases J
  ·have R:=uU (show E=false by rw[uH y];simp);go_wp21;go_ret;exact⟨by show _=_;rw[uH R];rfl,f⟩
  have R:=uU (show E=G by rw[uH y];simp);go_wp21;refine(F _ f).mono ?_;rintro e w4 ⟨rfl,I⟩;go_wp21;go_ret;exact⟨by show _=_;rw[uH R];rfl,f.trans I⟩
 go_wp21;refine(V _ u).mono ?_;rintro e w2 ⟨rfl,z⟩;have C:=u.trans z;have g0:=C.keep O;have u3:=z.keep D;have u4:=z.keep A;have u5:=z.keep B;cases X
 ·go_wp21;refine(L _ C).mono ?_;rintro e w3 ⟨rfl,d⟩;have f:=kI C d;have D:=d.keep u3;have A:=d.keep u4;have B:=d.keep u5;have Z:=f.keep K;cases J
  ·have R:=uU (show E=false by rw[uH y];simp);go_wp21;go_ret;exact⟨by show _=_;rw[uH R];rfl,f⟩
  have R:=uU (show E=G by rw[uH y];simp);go_wp21;refine(F _ f).mono ?_;rintro e w4 ⟨rfl,I⟩;go_wp21;go_ret;exact⟨by show _=_;rw[uH R];rfl,f.trans I⟩
 have R:=uU (show E=true by rw[uH y];simp);go_wp21;go_ret;exact⟨by show _=_;rw[uH R];rfl,C⟩
def yJ(w:World)(g:Nat)(M:List Pr):Prop:=∀k (hk:k<M.length),qC w g (k*6) M[k]
theorem qC.same{o:Nat}{p:Pr}(h:qC w g o p)(e:∀j,j<6->w'.cell? (aA g (o+j))=w.cell? (aA g (o+j))):qC w' g o p:=by
 have⟨f,a,c,b,i,d⟩:=h;exact⟨(e 0 (by omega)).trans f,(e 1 (by omega)).trans a,(e 2 (by omega)).trans c,(e 3 (by omega)).trans b,(e 4 (by omega)).trans i,(e 5 (by omega)).trans d⟩
theorem yJ.block(h:yJ w g M)(e:w'.heap[g]?=w.heap[g]?):yJ w' g M:=λk b=>(h k b).same λ_ _=>cOb g _ e
theorem qC.some{w:World}{g o:Nat}{p:Pr}(h:qC w g o p)(m:Nat)(i:m<6):∃u,w.cell? (aA g (o+m))=some u:=by
 have⟨e,a,c,b,f,d⟩:=h;match m,i with
 | 0,_=>exact⟨_,e⟩
 | 1,_=>exact⟨_,a⟩
 | 2,_=>exact⟨_,c⟩
 | 3,_=>exact⟨_,b⟩
 | 4,_=>exact⟨_,f⟩
 | 5,_=>exact⟨_,d⟩
theorem yJ.put(h:yJ w g M)(i:Nat)(f:i<M.length)(y:Pr):yJ (w.setCells g (i*6) [iv y.key.k,iv y.key.n,iv y.key.a,iv y.val.k,iv y.val.n,iv y.val.a]) g (M.set i y):=λk d=>by
 have b:k<M.length:=by simpa using d
 by_cases e:i=k;subst e;have key:∀m,m<6->(w.setCells g (i*6) [iv y.key.k,iv y.key.n,iv y.key.a,iv y.val.k,iv y.val.n,iv y.val.a]).cell? (aA g (i*6+m))=([iv y.key.k,iv y.key.n,iv y.key.a,iv y.val.k,iv y.val.n,iv y.val.a]:List Value)[m]?:=λm c=>a4s g _ _ m w (λm c=>(h i f).some m (by simpa using c)) (by simpa using c)
 simp only[List.getElem_set_self];exact⟨key 0 (by omega),key 1 (by omega),key 2 (by omega),key 3 (by omega),key 4 (by omega),key 5 (by omega)⟩;rw[ny e];exact(h k b).same λj l=>a1z g _ _ _ w (by simp only[List.length_cons,List.length_nil];omega)
theorem yJ.cut(h:yJ w g M)(i:Nat)(vs:List Value):yJ (w.setCells g (i*6) vs) g (M.take i):=λk b=>by
 have a:k<i/\k<M.length:=by simp at b;omega
 rw[List.getElem_take];exact(h k a.2).same λj c=>a1z g _ _ _ w (by omega)
def yC(f:Pr->Bool)(xs:List Pr):List Pr:=xs.filter (λp=>!f p)
theorem c7p(f:Pr->Bool)(xs:List Pr)(j:Nat)(a:j<xs.length)(q:f xs[j]=true):yC f (xs.take (j+1))=yC f (xs.take j):=by
 rw[kj a,yC,k7];simp[q,yC]
theorem d4f(f:Pr->Bool)(xs:List Pr)(j:Nat)(a:j<xs.length)(q:f xs[j]=false):yC f (xs.take (j+1))=yC f (xs.take j)++[xs[j]]:=by
 rw[kj a,yC,k7];simp[q,yC]
theorem b8h(f:Pr->Bool)(xs:List Pr)(h:∀j (b:j<xs.length),f xs[j]=false):yC f xs=xs:=by
 unfold yC;refine List.filter_eq_self.2 λa c=>?_
 have⟨j,b,e⟩:=mJ c;rw[<-e,h j b];rfl
structure b0v(f:Pr->Bool)(xs M:List Pr)(i j:Nat):Prop where
 len:M.length=xs.length
 lt:i<j
 le:j<=xs.length
 tk:M.take i=yC f (xs.take j)
 dr:M.drop j=xs.drop j
theorem b0v.V{f:Pr->Bool}(h:i<xs.length)(q:f xs[i]=true)(b:∀j (a:j<i),f (xs[j]'(by omega))=false):b0v f xs xs i (i+1):=by
 refine⟨rfl,by omega,by omega,?_,rfl⟩;rw[c7p f xs i h q,b8h f (xs.take i) (λj a=>by simp at a;rw[List.getElem_take];exact b j (by omega))]
theorem b0v.at{f:Pr->Bool}(h:b0v f xs M i j)(a:j<xs.length):∃hm:j<M.length,M[j]=xs[j]:=by
 have hm:j<M.length:=h.len▸a;refine⟨hm,?_⟩;have e:=congrArg (λl=>l[0]?) h.dr;simp only[List.getElem?_drop,Nat.add_zero]at e;rw[mV hm,mV a]at e;injection e
theorem b0v.no{f:Pr->Bool}(h:b0v f xs M i j)(a:j<xs.length)(q:f xs[j]=true):b0v f xs M i (j+1):=by
 refine⟨h.len,by have:=h.lt;omega,by omega,c7p f xs j a q▸h.tk,?_⟩;have:=congrArg (List.drop 1) h.dr;simpa[List.drop_drop]using this
theorem b0v.yes{f:Pr->Bool}(h:b0v f xs M i j)(c:j<xs.length)(q:f xs[j]=false):b0v f xs (M.set i xs[j]) (i+1) (j+1):=by
 have b:=h.len;have a:=h.lt;refine⟨by simp[b],by omega,by omega,?_,?_⟩;rw[d4f f xs j c q,<-h.tk,List.take_set,kj (by omega)];rw[List.set_append_right _ _ (by simp;omega)];simp[Nat.min_eq_left (by omega:i<=M.length)];rw[List.drop_set_of_lt (by omega)];have:=congrArg (List.drop 1) h.dr;simpa[List.drop_drop]using this
theorem b0v.done{f:Pr->Bool}(h:b0v f xs M i xs.length):M.take i=yC f xs/\i=(yC f xs).length:=by
 have e:=h.tk;rw[kz]at e;refine⟨e,?_⟩;rw[<-e,mn,h.len];have:=h.lt;omega
theorem keep_le(f:Pr->Bool)(xs:List Pr):(yC f xs).length<=xs.length:=List.length_filter_le _ _
def FstP(f:Pr->Bool)(xs:List Pr)(r:Int):Prop:=(r = -1/\∀j (h:j<xs.length),f xs[j]=false)\/∃i:Nat,∃h:i<xs.length,r=(i:Int)/\f xs[i]=true/\∀j (hj:j<i),f (xs[j]'(by omega))=false
structure Ans2(f:Pr->Bool)(xs:List Pr)(bx bl g:Nat)(P:World->Prop):Prop where
 call:∀W,P W->∀k (hk:k<xs.length),Calls prog 168 #[xs[k].v,.pointer (some ⟨bx,0,none⟩),.pointer (some ⟨bl,0,none⟩)] W λe W'=>Hid (e=.returned (.bool (f xs[k])))/\Ext W W'
 ext:∀W W',P W->Ext W W'->P W'
 put:0<xs.length->∀W W',P W->uQ (λq=>q=g) W W'->P W'
abbrev go2(bx bl:Nat):Value:=.func (.func 168) #[] #[.pointer (some ⟨bx,0,none⟩),.pointer (some ⟨bl,0,none⟩)]
theorem c6b(f:Pr->Bool)(xs:List Pr)(q o g:Nat)(P:World->Prop)(A:Ans2 f xs q o g P)(u:Option Addr)(cap:Nat)(w:World)(p:P w)(s:yJ w g xs)(R:g<w.heap.size\/xs.length=0)(M:0<xs.length->u=some (aA g 0))(S:xs.length<=200):
  Calls prog 214 #[.slice u xs.length cap,go2 q o] w λe w'=>∃r:Int,Hid (e=.returned (iv r))/\Hid (FstP f xs r)/\Ext w w':=by
 have D:=uU p;have I:=uU s;clear p s;go_in;go_wp21;go_loopw [8] (λi wr=>∃k:Nat,k<=xs.length/\i=iv k/\Hid (∀j (d:j<xs.length),j<k->f xs[j]=false)/\Ext w wr) (λi _=>xs.length-(intOf i).toNat)
 case atStart=>exact⟨0,kB _,rfl,λj _ h=>by omega,hO _⟩
 case round=>
  obtain⟨k,O,rfl,c,a⟩:=hrel;by_cases b:k<xs.length
  ·have v:=M (by omega);subst v;have⟨z,E,x,L,J,K⟩:=(I.block (a.block g (by omega))) k b;have C:=uU (A.call wr (A.ext _ _ D a) k b);obtain⟨y,l⟩:=obE (xs[k]);have m:=uU l;rw[<-l]at z E x L J K C;clear l;have H:=i0N k;have G:(k:Int)<(xs.length:Int):=by omega
   go_wp21;refine C.mono ?_;rintro e Q ⟨rfl,n⟩;cases t:f y
   ·have N:∀j (d:j<xs.length),j<k+1->f xs[j]=false:=λj d B=>by
     by_cases e:j=k;subst e;rw[<-uH m];exact t;exact c j d (by omega)
    go_wp21;go_roundw
    case rel=>exact⟨k+1,by omega,by go_num,N,a.trans n⟩
    simp[intOf];omega
   have F:FstP f xs (k:Int):=.inr ⟨k,b,rfl,by rw[<-uH m];exact t,λj d=>uH c j (by omega) d⟩;go_wp21;go_ret;exact⟨_,rfl,F,a.trans n⟩
  go_wp21;go_ret;exact⟨_,rfl,(show FstP f xs (-1) from .inl ⟨rfl,λj d=>uH c j d (by omega)⟩),a⟩
theorem b5w(n:Nat):(Builtin.zeroCells #[iv 0,iv 0,iv 0,iv 0,iv 0,iv 0] n).toList.length=n*6:=by simp[Builtin.zeroCells]
theorem b5x(n:Nat):∀u,u∈(Builtin.zeroCells #[iv 0,iv 0,iv 0,iv 0,iv 0,iv 0] n).toList->u.oneCell'=true:=λu b=>by
 simp[Builtin.zeroCells]at b;have⟨a,_,e⟩:=b;have:a % 6<6:=mN _ (by omega);have h:a % 6=0\/a % 6=1\/a % 6=2\/a % 6=3\/a % 6=4\/a % 6=5:=by omega
 obtain h|h|h|h|h|h:=h <;> simp[h]at e <;> subst e <;> rfl
theorem c3c(w:World)(g:TypeId)(b o n c:Nat)(i:0<n)(f:∀j,j<n*6->(w.cell? (aA b (o+j))).isSome=true)(h:∀j,j<n*6->w.frozen? (aA b (o+j))=false):
  (Builtin.clear_ #[68] g #[sO b o n c]).run prog w=.ok (.tuple #[]) (w.setCells b o (Builtin.zeroCells #[iv 0,iv 0,iv 0,iv 0,iv 0,iv 0] n).toList):=by
 have d:=b5w n;have a:=run_storeCells_cells (P:=prog) b o (Builtin.zeroCells #[iv 0,iv 0,iv 0,iv 0,iv 0,iv 0] n).toList 0 w (by rw[d];simpa using f) (by rw[d];simpa using h) (b5x n);simp only[Nat.add_zero]at a;have e:(Value.agg #[iv 0,iv 0,iv 0,iv 0,iv 0,iv 0]).cells=#[iv 0,iv 0,iv 0,iv 0,iv 0,iv 0]:=by kernel_rfl
 obtain⟨m,rfl⟩:∃m,n=m+1:=⟨n-1,by omega⟩;simp[Builtin.clear_,run_underlying underlying68,e,a]
end Go.Proofs.YtolmnenlnpbcfaaGreatDoor
