import Derived.Test.YtolmnenlnpbcfaaGreatDoorPv
import Derived.Test.YtolmnenlnpbcfaaGreatDoorBk
import Derived.Test.YtolmnenlnpbcfaaGreatDoorPe
set_option maxRecDepth 100000
set_option maxHeartbeats 4000000
namespace Go.Proofs.YtolmnenlnpbcfaaGreatDoor
open Go.RowKit Tryz
attribute [local go_sem ↓] Go.wp_at_zero Go.wp_at_succ
variable{x:Hp}{k:Nat}
def zU(x:Hp)(k:Nat):List Nat:=(List.range k).filter (λi=>(x.c i).st == 1 && a1p x i)
theorem b8e(h:((x.c k).st == 1 && a1p x k)=false):zU x (k+1)=zU x k:=by
 unfold zU;rw[mb,k7,n9 (by simp[h]),List.filter_nil,ni]
theorem c5x(h:((x.c k).st == 1 && a1p x k)=true):zU x (k+1)=zU x k++[k]:=by
 unfold zU;rw[mb,k7,qA (by simpa using h),List.filter_nil]
theorem c5y(x:Hp)(k:Nat):(zU x k).length<=k:=by grind[zU,Hp.c,a1p]
theorem slI_nth{w:World}{xs:List Int}{ad:Option Addr}{n cap:Nat}(h:SlI w (.slice ad n cap) xs)(k:Nat)(f:k<xs.length):∃b o,ad=some (aA b o)/\a8k w b (o+k*1) xs[k]:=by
 obtain⟨c,a,e,_,d⟩:=h;simp only[Value.slice.injEq]at e;rw[e.1];exact d k f
theorem c9x:(prog.info? 111).map (λi=>(i.zero,i.size,i.bytes))=some (some (.pointer none),1,8):=by kernel_rfl
def b3q[qd](B:Nat)(w:World)(s:Nat)(x:Hp):Prop:=∃ar kr a4 n4 k4 a8 n8 k8 br cB cO bn pb pa pk kn hd vf F vk role,SAt B w s x ar kr (.slice a4 n4 k4) (.slice a8 n8 k8) br cB cO bn pb pa pk kn hd vf F vk (zU x x.A.length) role/\Ho F/\F.Perm (a6w x x.A.length)/\2*x.M<=(kn:Int)
theorem c9y[qd](hz:∀q,(default:uL).z q=none)(x:Hp)(b:Nat)(w:World){ar:Option Addr}{kr:Nat}{ac:Option Addr}{kc:Nat}{ag:Option Addr}{kg:Nat}{an:Option Addr}{kn:Nat}(h:VAt w b x ar kr ac kc ag kg an kn)(r1:R1 x)(r2:R2 x)(r5:R5 x)(hg4:x.D.length<=4000):
  Calls prog 39 #[.pointer (some ⟨b,0,none⟩)] w λe w'=>∃s,e=.returned (.pointer (some ⟨s,0,none⟩))/\Hid (b3q w.heap.size w' s x)/\Ext w w':=by
 have Z:x.A.length<=8000:=by have:=r1.M;have:=r1.A;omega
 have n1:x.B.length<=1048576:=by rw[r1.B];omega
 have t:=c4v r2;have SR:=uU (show SlW w (.slice ar x.B.length kr) x.B from⟨ar,kr,rfl,h.H.lr,h.H.R⟩);have SC:=uU (show SlC w (.slice ac x.A.length kc) x.A from⟨ac,kc,rfl,h.H.lc,λi hi=>by obtain⟨b',o,e,q⟩:=h.H.C i hi;rw[<-Hp.c_eq x i hi]at q;exact⟨b',o,e,q⟩⟩);have SG:=uU (show SlI w (.slice ag x.D.length kg) x.D from⟨ag,kg,rfl,h.H.lg,h.H.G⟩);have HH:=uU h;have c0:=h.H.c0;have c1:=h.H.c1;have c2:=h.H.c2;have c3:=h.H.c3;have X:=h.H.c4;have S:=h.H.c5;have c6:=h.H.c6;have c7:=h.H.c7;have c8:=h.H.c8;have c9:=h.H.c9;have af:=h.H.c10;have ae:=h.H.c11;have Y:=h.H.c12;have O:=uU r1;have G5:=uU r5.2.2;have J:=uU c8;have C0:=uU c0;have aj:0<x.B.length:=by rw[r1.B];omega
 obtain⟨i0,hi0,hy0,hy1,hy2⟩:=info_parts c9x;clear h r1 r2 r5;go_in;go_wp21;refine(c5p x ag x.D.length kg w SR SC n1 Z t).mono ?_;rintro e w1 ⟨vr,vc,rfl,hown,x1⟩;obtain⟨br,bc,pb,pa,pk,ar1,kr1,ac1,kc1,rfl,har,rfl,hac,hrw,_⟩:=uH hown;have RW:=uU hrw;have L:=uU har;have I:=uU hac;clear hown hrw har hac c0 c1 c2 c3 X S c6 c7 c8 c9 af ae Y;go_wp21;refine(c2c x _ (RW.slW kr1 L n1) (RW.slC kc1 I (by omega) t) (SlI.ext x1 SG)).mono ?_;rintro e w2 ⟨b2,rfl,x2,hor⟩;obtain⟨bx,bn,vf,F,hop⟩:∃bx bn vf F,Opn w1 w2 x bx b2 bn x.A.length x.A.length ar1 kr1 ac1 kc1 ag kg vf F:=by
  obtain⟨hn,_⟩|⟨_,q⟩:=hor;exact absurd O hn;exact q
 have P:=uU hop;have d0:=hop.c 0 _ rfl;have d1:=hop.c 1 _ rfl;have d2:=hop.c 2 _ rfl;have d3:=hop.c 3 _ rfl;have d4:=hop.c 4 _ rfl;have d5:=hop.c 5 _ rfl;have d6:=hop.c 6 _ rfl;have d7:=hop.c 7 _ rfl;have d8:=hop.c 8 _ rfl;have d9:=hop.c 9 _ rfl;have ap:=hop.c 10 _ rfl;have ao:=hop.c 11 _ rfl;have V:=hop.c 12 _ rfl;have al:=hop.n13;obtain⟨avf,kvf,hvf⟩:∃a k,vf=.slice a F.length k:=⟨_,_,(a0d hop.f.own).1⟩;subst hvf;have ad:=hop.f.hd;obtain⟨role0,hst⟩:=SAt.V (T:=117) hz P RW x1.size L I aj (stZ_at Tryz.zeroCells117 (iv x.M) (iv x.K) (iv x.born) (.slice ar1 x.B.length kr1) (.slice ac1 x.A.length kc1) (iv x.E) (iv x.I) (iv x.sub) (.slice ag x.D.length kg) (iv x.per) (iv x.V) (iv x.Q) (iv x.S) (.slice (some ⟨bn,0,none⟩) x.A.length x.A.length) (.slice avf F.length kvf) a8f.1 a8f.2.1 a8f.2.2.1 a8f.2.2.2);generalize (λ_:Nat=>bc)=cB at hst;generalize (λq:Nat=>q*8)=cO at hst;have ST:=uU hst;have B:w2.cell? ⟨b,8,none⟩=some (.slice ag x.D.length kg):=x2.keep (x1.keep J);have am:=cLt B;clear hor hop hst;go_wp21;obtain⟨W3,hW3⟩:∃W,W=w2.alloc (.cells (((((((((((((((Tryz.zeroCells117.setIfInBounds 0 (iv x.M)).setIfInBounds 1 (iv x.K)).setIfInBounds 2 (iv x.born)).setIfInBounds 3 (.slice ar1 x.B.length kr1)).setIfInBounds 4 (.slice ac1 x.A.length kc1)).setIfInBounds 5 (iv x.E)).setIfInBounds 6 (iv x.I)).setIfInBounds 7 (iv x.sub)).setIfInBounds 8 (.slice ag x.D.length kg)).setIfInBounds 9 (iv x.per)).setIfInBounds 10 (iv x.V)).setIfInBounds 11 (iv x.Q)).setIfInBounds 12 (iv x.S)).setIfInBounds 13 (.slice (some ⟨bn,0,none⟩) x.A.length x.A.length)).setIfInBounds 14 (.slice avf F.length kvf)) 117):=⟨_,rfl⟩;have d:=uU (show SAt w.heap.size W3 w2.heap.size { x with D:=[] } ar1 kr1 (.slice ac1 x.A.length kc1) (.slice ag x.D.length kg) br cB cO bn pb pa pk x.A.length 0 (.slice avf F.length kvf) F (.slice none 0 0) [] role0 by rw[hW3];exact ST);have r:Ext w W3:=by rw[hW3];exact(x1.trans x2).alloc _
 rw[<-hW3];have FF:=uU (kG P.fo P.fp);clear hW3 ST P d0 d1 d2 d3 d4 d5 d6 d7 d8 d9 ap ao V al ad B am;have l:=d.sb.n13;have e0:W3.cell? ⟨b,0,none⟩=some (iv x.M):=r.keep C0;have B:W3.cell? ⟨b,8,none⟩=some (.slice ag x.D.length kg):=r.keep J;obtain⟨m,hm⟩:∃m:Nat,2*x.M-(x.A.length:Int)=(m:Int):=⟨(2*x.M-(x.A.length:Int)).toNat,by have:=O.A;omega⟩;have HM:=uU (show x.A.length+m<=8000 by have:=O.M;omega);have ai:=uU (show 2*x.M=((x.A.length+m:Nat):Int) by omega);have p:w2.heap.size<W3.heap.size:=d.sb.nb.1;have A:=uU (show ¬b=w2.heap.size from λe=>by have h1:=d.sb.lo.1;have h8:=cLt J;omega);have K:=cLt e0;have E:=uU (show IntKind.i64.wrap (IntKind.i64.wrap (2*x.M)-(x.A.length:Int))=(m:Int) by
  have hr:=O.M;have e1:IntKind.i64.wrap (2*x.M)=2*x.M:=by rw[nH];omega
  rw[e1,nH];omega)
 clear hm;go_wp21;go_cut [] (λwx=>∃bn2 kn2,Hid (∃role',SAt w.heap.size wx w2.heap.size { x with D:=[] } ar1 kr1 (.slice ac1 x.A.length kc1) (.slice ag x.D.length kg) br cB cO bn2 pb pa pk kn2 0 (.slice avf F.length kvf) F (.slice none 0 0) [] role')/\Hid (Ext w wx)/\Hid (2*x.M<=(kn2:Int)))
 case first=>
  go_region_with (go_at_call 83;rw[uH E];refine(d3z (d.ext (eDr W3)) rfl (by have:=r.size;simpa using this) m HM).mono ?_;rintro e w4 ⟨bn2,kn2,rfl,hs4,hc4⟩;have ab:=hc4.1;have qf:=hc4.2.1;have aa:=uU hs4;have ah:=uU (show 2*x.M<=(kn2:Int) by have h1:=uH ai;have h2:x.A.length+m<=kn2:=hc4.2.2.2;omega);have X4:=uU (show Ext w (w4.setCell ⟨w2.heap.size,13,none⟩ (.slice (some ⟨bn2,0,none⟩) x.A.length kn2)) from(r.drew.trans hc4.2.2.1).setCell d.sb.lo.1 _);have f8:=(r.drew.trans hc4.2.2.1).keep J;have N:=cLt ab;have au:=cLt f8;have aw:¬b=w2.heap.size:=uH A;have av:¬w2.heap.size=b:=λe=>uH A e.symm;clear hs4 hc4)
  all_goals
   go_wp21;go_meet;exact⟨bn2,kn2,aa,X4,ah⟩
 case rest=>
  obtain⟨bn2,kn2,hst,hex,hkn⟩:=hcut;obtain⟨role0,hst⟩:=uH hst;clear l e0 B p K A r d E HM;have d:=uU hst;have r:=uU hex;have B:=r.keep J;have K:=cLt B;clear hst hex;go_wp21;go_loopw [47] (λi wr=>∃(k:Nat),k<=x.D.length/\i=.int .i64 k/\Hid (SAt w.heap.size wr w2.heap.size { x with D:=x.D.take k } ar1 kr1 (.slice ac1 x.A.length kc1) (.slice ag x.D.length kg) br cB cO bn2 pb pa pk kn2 0 (.slice avf F.length kvf) F (.slice none 0 0) [] role0)/\Hid (Ext w wr)) (λi _=>x.D.length-(intOf i).toNat)
  case atStart=>exact⟨0,kB _,rfl,d,r⟩
  case round=>
   clear d;obtain⟨k,hk,rfl,hst,hex⟩:=hrel;by_cases hlt:k<x.D.length
   ·obtain⟨bg,og,hag3,hg1⟩:=slI_nth SG k hlt;subst hag3;have U:=hex.keep hg1;obtain⟨j,hj⟩:∃j:Nat,x.D[k]=(j:Int):=⟨x.D[k].toNat,by have:=(G5 x.D[k] (ki hlt)).1;omega⟩;have ay:j<x.A.length:=by have:=(G5 x.D[k] (ki hlt)).2;omega
    rw[hj,mp]at U;have l:=hst.sb.n13;have j0:=i0N j;have j1:(j:Int)<(x.A.length:Int):=by omega
    have k0:=i0N k;have k1:(k:Int)<(x.D.length:Int):=by omega
    have HJ:=uU (show x.D.take (k+1)=x.D.take k++[(j:Int)] by rw[kj hlt,hj]);have ak:(x.D.take k).length<4000:=by rw[mn];omega
    clear hg1 hj;go_wp21;go_region_with (go_at_call 84;refine(c2e w2.heap.size bn2 0 j (x.D.take k) _ (hst.ext (eDr wr)).sb.rg (hst.ext (eDr wr)).sb.nb ak).mono ?_;rintro e w5 ⟨rfl,hr5,ho5,hn5,hc5⟩;have R:=uU ((hst.ext (eDr wr)).ring hr5 ho5 hn5 (λo ho=>hc5 o (by omega)));have XX:=uU (ho5.ext hex.drew (λq hq e=>by have:=hst.sb.lo.1;omega));clear hr5 ho5 hn5 hc5);all_goals
     go_wp21;go_roundw
     case rel=>exact⟨k+1,by omega,by go_num,by rw[uH HJ];exact uH R,XX⟩
     simp[intOf];omega
   have v:k=x.D.length:=by omega
   subst v;have S4:=uU (show SAt w.heap.size wr w2.heap.size x ar1 kr1 (.slice ac1 x.A.length kc1) (.slice ag x.D.length kg) br cB cO bn2 pb pa pk kn2 0 (.slice avf F.length kvf) F (.slice none 0 0) (zU x 0) role0 by have:=uH hst;rw[kz]at this;exact this);have l:=S4.sb.n13;obtain⟨w4,N⟩:∃W,W=wr:=⟨_,rfl⟩;subst N;have X4:=uU hex;clear hst hex hlt hk;go_wp21;clear l;go_loopw [69] (λi wr=>∃(k:Nat)(avk:Option Addr)(kvk:Nat)(role:Nat->Nat),k<=x.A.length/\i=.int .i64 k/\Hid (SAt w.heap.size wr w2.heap.size x ar1 kr1 (.slice ac1 x.A.length kc1) (.slice ag x.D.length kg) br cB cO bn2 pb pa pk kn2 0 (.slice avf F.length kvf) F (.slice avk (zU x k).length kvk) (zU x k) role)/\Hid (Ext w wr)) (λi _=>x.A.length-(intOf i).toNat)
   case atStart=>exact⟨0,none,0,role0,kB _,rfl,S4,X4⟩
   case round=>
    clear S4;obtain⟨k,avk,kvk,role,hk,rfl,hst,hex⟩:=hrel;by_cases hlt:k<x.A.length
    ·have l:=hst.sb.n13;obtain⟨m0,m1⟩:=hst.sb.nd k hlt;have s0:=(hst.rw.s k hlt).1;have k0:=i0N k;have k1:(k:Int)<(x.A.length:Int):=by omega
     have aq:=c5y x k;cases q1:((x.c k).st == 1)
     ·have R:=uU (show SAt w.heap.size wr w2.heap.size x ar1 kr1 (.slice ac1 x.A.length kc1) (.slice ag x.D.length kg) br cB cO bn2 pb pa pk kn2 0 (.slice avf F.length kvf) F (.slice avk (zU x (k+1)).length kvk) (zU x (k+1)) role by rw[b8e (by simp[q1])];exact hst);go_wp21;go_roundw
      case rel=>exact⟨k+1,avk,kvk,role,by omega,by go_num,R,hex⟩
      simp[intOf];omega
     go_wp21;refine(c9a x w2.heap.size bn2 k _ hst.sb.bx.2.2.2.2.2.1 hst.sb.bx.2.2.2.2.2.2.1 m0).mono ?_;rintro e w5 ⟨rfl,q5⟩;have n:=uU (hst.ext q5);have X5:=uU (hex.trans q5);cases q2:a1p x k
     ·have R:=uU (show SAt w.heap.size w5 w2.heap.size x ar1 kr1 (.slice ac1 x.A.length kc1) (.slice ag x.D.length kg) br cB cO bn2 pb pa pk kn2 0 (.slice avf F.length kvf) F (.slice avk (zU x (k+1)).length kvk) (zU x (k+1)) role by rw[b8e (by simp[q2])];exact n);clear l m0 m1 s0 hst hex;go_wp21;go_roundw
      case rel=>exact⟨k+1,avk,kvk,role,by omega,by go_num,R,X5⟩
      simp[intOf];omega
     have KY:=uU (c5x (x:=x) (k:=k) (by simp[q1,q2]));have D:=n.sb.k0;have M:=n.sb.nb.2 4017;have p:w2.heap.size<w5.heap.size:=n.sb.nb.1;have hB:w.heap.size<=w5.heap.size:=X5.size;clear l m0 m1 s0 hst hex;go_wp2_with (at_builtin;refine wpList_append_lies _ rfl _ _ 115 rfl w.heap.size 111 i0 (.pointer none) 1 8 underlying115 hi0 hy0 hy1 hy2 rfl (by decide) _ (zU x k).length ((zU x k).map (ndp bn2)) rfl (n.sb.kp.alloc _) _ 1 1 [ndp bn2 k] rfl rfl ?c1 ?c2 (by decide) ?c3 ?X ?S _ rfl ?_)
     case c1=>
      intro j u hj;match j,hj with
      | 0,hj=>simp at hj;subst hj;simp[Addr.add,go_sem]
     case c2=>intro u hu;simp at hu;subst hu;rfl
     case c3=>unfold maxLen;omega
     case X=>omega
     case S=>simp;omega
     intro g cap w6 hown hgrow hat hglt;have y:=(hO w5).alloc (.cells #[ndp bn2 k] 111);have R:=uU ((n.ext y).push (i:=k) hgrow hown (by simpa using hat));have az:=(kR (a:=⟨w2.heap.size,4017,none⟩) (hgrow.block w2.heap.size (kF p y.size) (λe=>by have h1:=n.sp.k _ e.symm;have h2:=n.sp.b;omega))).trans (y.keep D);have ax:=(mL (a:=⟨w2.heap.size,4017,none⟩) (hgrow.block w2.heap.size (kF p y.size) (λe=>by have h1:=n.sp.k _ e.symm;have h2:=n.sp.b;omega))).trans (((cX y).2 _ 4017 p).trans M);have X6:=uU (show Ext w (w6.setCell ⟨w2.heap.size,4017,none⟩ (.slice (some ⟨g,0,none⟩) ((zU x k).length+1) cap)) from(a4t (X5.trans y) (n.sb.kp.alloc _) (hT _) hgrow).setCell n.sb.lo.1 _);clear hown hgrow hat y D M;go_wp21;go_roundw
     case rel=>exact⟨k+1,some ⟨g,0,none⟩,cap,_,by omega,by go_num,by rw[uH KY,kV];exact uH R,X6⟩
     simp[intOf];omega
    have v:k=x.A.length:=by omega
    subst v;have Q:=uU (show b3q w.heap.size wr w2.heap.size x from⟨_,_,_,_,_,_,_,_,_,_,_,_,_,_,_,_,_,_,_,_,_,hst,FF.1,FF.2,hkn⟩);clear hst;go_wp21;go_ret;exact⟨_,rfl,Q,hex⟩
end Go.Proofs.YtolmnenlnpbcfaaGreatDoor
