import Derived.Test.YtolmnenlnpbcfaaGreatDoorLk
import Derived.Test.YtolmnenlnpbcfaaGreatDoorPo
import Derived.Test.YtolmnenlnpbcfaaGreatDoorImpB6
set_option maxRecDepth 100000
set_option maxHeartbeats 4000000
namespace Go.Proofs.YtolmnenlnpbcfaaGreatDoor
open Go.RowKit Tryz
attribute [local go_sem ↓] Go.wp_at_zero Go.wp_at_succ
variable{x z:Hp}{F F':List Int}{K Mt St:List Nat}{C bw r1 bn on n bv base i g cap j kr:Nat}{w w' w1 w2:World}{v:Value}{ar:Option Addr}
theorem b9n[qd](B g:Nat)(x:Hp)(w:World)(h:GOk B w g x)(s:Snd x)(a:World)(ha:a.heap.size<=B)(hx:Ext a w)(i:Nat)(hi:x.I=(i:Int)+1):
  Calls prog 115 #[pP g] w λe w'=>e=.returned (.tuple #[])/\GOk B w' g (dL x)/\Ext a w':=by
 obtain⟨Q,X,ac,C,T,br,l,V,R,Y,r,h⟩:=h;have H:=uU h;have t:=h.bx.2.2.2.2.1;have y:=h.bx.2.2.2.2.2.2.1;have aa:=cLt t;have lo:=h.lo;have n8:=s.ok.n8;have j:i<x.A.length:=by have:=s.r1.I;omega
 have z:0<x.A.length:=by omega
 rw[h.hc z]at t;rw[hi]at y;have v:=(h.rw.s i j).1;have o:=cLt v;have f6:=h.nf.2 6;have L:=uU (show dL x=tU (dD x i) i by
  have e:(x.I-1).toNat=i:=by omega
  unfold dL;rw[if_neg (by omega),e])
 have O:=uU (show ¬g=l from λe=>by have h1:=h.sp.g;have h2:=h.sp.c z;rw[e]at h1;omega);have ab:¬g=l:=uH O;have ae:¬l=g:=λe=>uH O e.symm
 have ad:(((i:Int)+1) == 0)=false:=by simp;omega
 have i0:=i0N i;have i1:(i:Int)<(x.A.length:Int):=by omega
 have d:=uU (show GAt B (w.setCell (aA g 6) (iv i)) g { x with I:=(i:Int) } Q X ac C T br l V R Y r from h.boxed (x':={ x with I:=(i:Int) }) (tE w g 6 _) (h.nf.set _ _) rfl rfl rfl (h.bx.set6 _));have U:=uU (hx.sc g 6 (show a.heap.size<=g by omega) (iv i));clear h s hi;go_in;go_wp21;obtain⟨D,N⟩:∃W,W=w.setCell (aA g 6) (iv i):=⟨_,rfl⟩;rw[<-N]at d U ⊢;clear N t y v f6 o;have t:=d.bx.2.2.2.2.1;rw[H.hc z]at t;have y:D.cell? (aA g 6)=some (iv i):=d.bx.2.2.2.2.2.2.1;have v:D.cell? (aA l (i*8))=some (iv (x.c i).st):=(d.rw.s i j).1;have F:=cLt y;have o:=cLt v;have P:=d.nf.2 4;cases q2:((x.c i).st == 2)
 ·have I:=uU (show({ x with I:=(i:Int) }:Hp)=dD x i by unfold dD;rw[if_neg (by intro e;simp[e]at q2)]);go_quiet (fail);obtain⟨b,f⟩:∃W,W=D.drewN nq:=⟨_,rfl⟩;have m:=uU (show GAt B b g (dD x i) Q X ac C T br l V R Y r by rw[f,<-uH I];exact d.ext ((hO D).drewN _));have J:=uU (show Ext a b by rw[f];exact U.drewN _);have u:=uU (show(dD x i).A.length=x.A.length by rw[<-uH I]);have SZ:=uU (show((dD x i).c i).st=(x.c i).st by rw[<-uH I];rfl);go_wp21;rw[<-f];clear f t y v F o P;have t:=m.bx.2.2.2.2.1;rw[H.hc z,uH u]at t;have y:b.cell? (aA g 6)=some (iv i):=m.bx.2.2.2.2.2.2.1;have v:b.cell? (aA l (i*8))=some (iv (x.c i).st):=by have:=(m.rw.s i (by rw[uH u];exact j)).1;rw[uH SZ]at this;exact this
  have P:=m.nf.2 4;have F:=cLt y;have o:=cLt v;cases G:((i:Int) == (x.A.length:Int)-1);have E:=uU (show dL x=dD x i by rw[uH L];unfold tU;rw[if_neg];intro e;have:=e.1;rw[uH u]at this;simp at G;omega);go_quiet (fail);go_wp21;go_end0;exact⟨rfl,by rw[uH E];exact⟨_,_,_,_,_,_,_,_,_,_,_,m.ext ((hO b).drewN _)⟩,J.drewN _⟩
  cases q0:((x.c i).st == 0)
  ·have E:=uU (show dL x=dD x i by rw[uH L];unfold tU;rw[if_neg];intro e;have:=e.2;rw[uH SZ]at this;simp[this]at q0);go_quiet (fail);go_wp21;go_end0;exact⟨rfl,by rw[uH E];exact⟨_,_,_,_,_,_,_,_,_,_,_,m.ext ((hO b).drewN _)⟩,J.drewN _⟩
  have Z:=uU (show((dD x i).c i).st=0 by rw[uH SZ];simpa using q0);have E:=uU (show dL x={ dD x i with A:=(dD x i).A.take i } by rw[uH L];unfold tU;rw[if_pos ⟨by rw[uH u];simp at G;omega,Z⟩]);have M:=uU (show ∀n,GOk B ((b.drewN n).setCell (aA g 4) (sS l i C)) g { dD x i with A:=(dD x i).A.take i }/\Ext a ((b.drewN n).setCell (aA g 4) (sS l i C)) from λn=>by
   have A:=(m.ext ((hO b).drewN n)).drop i (by rw[uH u];simp at G;omega);rw[H.hc z]at A;exact⟨A,(J.drewN n).sc g 4 (show a.heap.size<=g by omega) _⟩)
  have kl:(i:Int)<=(C:Int):=by have:=H.kl;omega
  go_quiet (fail);go_wp21;go_region;all_goals
   go_wp21;go_end0;exact⟨rfl,by rw[uH E];exact(M _).1,(M _).2⟩
 obtain⟨r0,r1,r2,r3,r4,r5,r6⟩:=d.rw.s i j;have r7:=d.rw.p7 i j;have fc:=(d.rw.nc z).1.2;go_quiet (fail);go_wp21;go_region;all_goals
  obtain⟨b,f⟩:∃W,W=zN (D.drewN (nq+1)) l (i*8) 0 0:=⟨_,rfl⟩;have I:=uU (show({ x with A:=x.A.set i ⟨0,0,0,0,0,0,0,[]⟩,I:=(i:Int) }:Hp)=dD x i by unfold dD;rw[if_pos (by simpa using q2)];rfl);have m:=uU (show GAt B b g (dD x i) Q X ac C T br l V (λq=>if q=i then none else R q) (λq=>if q=i then 0 else Y q) r by
   have A:=d.ext ((hO D).drewN (nq+1));obtain⟨k1,k2⟩:=a4y (D.drewN (nq+1)) l (i*8) 0 0 _ _ (A.rw.s i j) (A.rw.p7 i j);rw[f,<-uH I];exact A.clear i j _ rfl (a0c _ _ _ _ _) (b0d (A.rw.nc z).1 _ _ _) k1 k2 (λk hk=>a3z _ _ _ _ _ k hk))
  have J:=uU (show Ext a b by rw[f];exact(a0c _ _ _ _ _).ext (U.drewN _) (λq hq e=>by have:=(H.rw.nc z).2;omega));have u:=uU (show(dD x i).A.length=x.A.length by rw[<-uH I];simp);have K:=uU (show((dD x i).c i).st=0 by
   have:=Hp.c_set x i ⟨0,0,0,0,0,0,0,[]⟩ j i;rw[<-uH I];have e2:({ x with A:=x.A.set i ⟨0,0,0,0,0,0,0,[]⟩,I:=(i:Int) }:Hp).c i=({ x with A:=x.A.set i ⟨0,0,0,0,0,0,0,[]⟩ }:Hp).c i:=rfl;rw[e2,this,if_pos rfl])
  unfold zN at f;go_wp21;rw[<-f];clear f t y v F o P r0 r1 r2 r3 r4 r5 r6 r7 fc;have t:=m.bx.2.2.2.2.1;rw[H.hc z,uH u]at t;have y:b.cell? (aA g 6)=some (iv i):=m.bx.2.2.2.2.2.2.1;have v:b.cell? (aA l (i*8))=some (iv 0):=by have:=(m.rw.s i (by rw[uH u];exact j)).1;rw[uH K]at this;exact this
  have P:=m.nf.2 4;have F:=cLt y;have o:=cLt v;cases G:((i:Int) == (x.A.length:Int)-1);have E:=uU (show dL x=dD x i by rw[uH L];unfold tU;rw[if_neg];intro e;have:=e.1;rw[uH u]at this;simp at G;omega);go_quiet (fail);go_wp21;go_end0;exact⟨rfl,by rw[uH E];exact⟨_,_,_,_,_,_,_,_,_,_,_,m.ext ((hO b).drewN _)⟩,J.drewN _⟩;skip;have E:=uU (show dL x={ dD x i with A:=(dD x i).A.take i } by rw[uH L];unfold tU;rw[if_pos ⟨by rw[uH u];simp at G;omega,K⟩]);have M:=uU (show ∀n,GOk B ((b.drewN n).setCell (aA g 4) (sS l i C)) g { dD x i with A:=(dD x i).A.take i }/\Ext a ((b.drewN n).setCell (aA g 4) (sS l i C)) from λn=>by
   have A:=(m.ext ((hO b).drewN n)).drop i (by rw[uH u];simp at G;omega);rw[H.hc z]at A;exact⟨A,(J.drewN n).sc g 4 (show a.heap.size<=g by omega) _⟩)
  have kl:(i:Int)<=(C:Int):=by have:=H.kl;omega
  go_quiet (fail);go_wp21;go_region;all_goals
   go_wp21;go_end0;exact⟨rfl,by rw[uH E];exact(M _).1,(M _).2⟩
theorem c1h[qd](B g:Nat)(x:Hp)(w:World)(h:GOk B w g x)(s:Snd x)(a:World)(c:a.heap.size<=B)(b:Ext a w):
  Calls prog 115 #[pP g] w λe w'=>e=.returned (.tuple #[])/\GOk B w' g (dL x)/\Ext a w':=by
 by_cases d:x.I=0;exact c1g B g x w h s a c b d;exact b9n B g x w h s a c b (x.I-1).toNat (by have:=s.r1.I;omega)
theorem b3g:∃et,prog.underlying 136=some (.map 111 et)/\∀w,(zeroValue et).run prog w=.ok (.agg #[]) w:=⟨_,underlying136,λ_=>by kernel_rfl⟩
theorem a7s:prog.underlying 111=some (.pointer 108):=underlying111
theorem b2d:(prog.info? 111).map (λi=>(i.zero,i.size,i.bytes))=some (some (.pointer none),1,8):=by kernel_rfl
theorem a8i(r d p:Nat)(Q:List Nat)(w:World)(h:tD w r d Q):
  Calls prog 101 #[.map (some r),ptr d p] w λe w'=>e=.returned (.bool (decide (p∈Q)))/\Ext w w':=by
 have⟨l,j,g⟩:=b3g;have⟨m,f,_,b,_⟩:=info_parts a5b;have c:=h.lookup j a7s f (by rw[b];omega) g p;have⟨i,k⟩:∃a,decide (p∈Q)=a:=⟨_,rfl⟩;rw[k]at c ⊢;go_in;go_wp2;go_ret;exact⟨rfl,(hO w).alloc _⟩
structure eX(w:World)(base bw bv r1 bn on n:Nat)(v:Value)(Mt St:List Nat):Prop where
 c0:w.cell? ⟨bw,0,none⟩=some (.pointer (some ⟨bv,0,none⟩))
 c1:w.cell? ⟨bw,1,none⟩=some (.map (some r1))
 c2:w.cell? ⟨bw,2,none⟩=some v
 f2:w.frozen? ⟨bw,2,none⟩=false
 m:tD w r1 bn (Mt.map (λi=>on+i*2))
 s:w.ownsRow base 111 1 v St.length (St.map (λi=>ptr bn (on+i*2)))
 a1:v.ownBlock≠some bw
 a2:v.ownBlock≠some r1
 a3:bw≠r1
 b1:base<=bw
 b2:base<=r1
 sub:∀i,i∈St->i∈Mt
 nd:Mt.Nodup
 nds:St.Nodup
 rg:∀i,i∈Mt->i<n
structure KFr(bw r1:Nat)(v v':Value)(w w':World):Prop where
 os:w'.os=w.os
 tape:w'.tape=w.tape
 output:w'.output=w.output
 size:w.heap.size<=w'.heap.size
 block:∀k:Nat,k<w.heap.size->k≠bw->k≠r1->v.ownBlock≠some k->w'.heap[k]?=w.heap[k]?
 own:v'.ownBlock=v.ownBlock\/∃g,v'.ownBlock=some g/\w.heap.size<=g
 keep:∀o u,o≠2->w.cell? ⟨bw,o,none⟩=some u->w'.cell? ⟨bw,o,none⟩=some u
theorem KFr.of_ext(e:Ext w w'):KFr bw r1 v v w w':=⟨e.os,e.tape,e.output,e.size,λk a _ _ _=>e.block k a,.inl rfl,λ_ _ _ h=>e.keep h⟩
theorem KFr.trans{v1 v2:Value}(h:KFr bw r1 v v1 w w1)(k:KFr bw r1 v1 v2 w1 w2):KFr bw r1 v v2 w w2:=
 ⟨k.os.trans h.os,k.tape.trans h.tape,k.output.trans h.output,kA h.size k.size,
  λi b d c j=>(k.block i (kF b h.size) d c (λe=>by
   obtain q|⟨g,q,a⟩:=h.own;grind;rw[q]at e;cases e;omega)).trans (h.block i b d c j),by
   obtain q|⟨g,q,a⟩:=k.own;obtain l|⟨g,l,a⟩:=h.own
   ·grind
   grind;exact .inr ⟨g,q,kA h.size a⟩,λo u f m=>k.keep o u f (h.keep o u f m)⟩
theorem eX.rlt(h:eX w base bw bv r1 bn on n v Mt St):bw<w.heap.size/\r1<w.heap.size:=by
 refine⟨uZ h.c0,?_⟩;have⟨b,c,a,_⟩:=h.m.m;obtain q|q:=km r1 w.heap.size;exact q;grind
theorem eX.ext(h:eX w base bw bv r1 bn on n v Mt St)(e:Ext w w'):eX w' base bw bv r1 bn on n v Mt St:=
 ⟨e.keep h.c0,e.keep h.c1,e.keep h.c2,(e.frozen (p:=(aA bw 2)) h.rlt.1)▸h.f2,h.m.block (e.block r1 h.rlt.2),uN h.s (λk a=>e.block k (h.s.lt k a).2),h.a1,h.a2,h.a3,h.b1,h.b2,h.sub,h.nd,h.nds,h.rg⟩
theorem eX.kext{a:World}{v':Value}(h:eX w a.heap.size bw bv r1 bn on n v Mt St)(q:KFr bw r1 v v' w w')(e:Ext a w):Ext a w':=
 mO e ⟨q.os,q.tape,q.output,q.size,λk b=>q.block k (kF b e.size) (by have:=h.b1;omega) (by have:=h.b2;omega) (λf=>by have:=(h.s.lt k f).1;omega)⟩
theorem eX.len(h:eX w base bw bv r1 bn on n v Mt St):Mt.length<=n/\St.length<=n:=by
 have a:∀L:List Nat,L.Nodup->(∀i,i∈L->i<n)->L.length<=n:=λL d e=>by
  have:=qR d (λz c=>mX.2 (e z c));simpa using this
 exact⟨a _ h.nd h.rg,a _ h.nds (λi b=>h.rg i (h.sub i b))⟩
theorem a5v:on+i*2∈Mt.map (λi=>on+i*2)↔i∈Mt:=by
 simp only[List.mem_map];constructor;rintro⟨j,hj,e⟩;have:j=i:=by omega
 rw[<-this];exact hj;intro h;exact⟨i,h,rfl⟩
theorem eX.add{o:Obj}(h:eX w base bw bv r1 bn on n v Mt St)(S:i<n)(I:¬i∈Mt)
  (G:tD w1 r1 bn (Mt.map (λi=>on+i*2)++[on+i*2])) (H:w1.os=w.os) (P:w1.tape=w.tape) (F:w1.output=w.output) (Q:w1.heap.size=w.heap.size) (r:∀k:Nat,k≠r1->w1.heap[k]?=w.heap[k]?)
  (s:w2.ownsRow base 111 1 (sS g (St.length+1) cap) (St.length+1) (St.map (λi=>ptr bn (on+i*2))++[ptr bn (on+i*2)])) (t:(w1.alloc o).grownBy w2 v.ownBlock) (x:v.ownBlock=some g\/g=w1.heap.size+1) :
  eX (w2.setCell (aA bw 2) (sS g (St.length+1) cap)) base bw bv r1 bn on n (sS g (St.length+1) cap) (Mt++[i]) (St++[i])/\
  KFr bw r1 v (sS g (St.length+1) cap) w (w2.setCell (aA bw 2) (sS g (St.length+1) cap))/\w2.cell? (aA bw 2)=some v/\w2.frozen? (aA bw 2)=false:=by
 have R:=h.rlt;have L:w1.heap.size+1<=w2.heap.size:=by have:=t.size;simpa using this
 have c:∀k:Nat,k<w1.heap.size->v.ownBlock≠some k->w2.heap[k]?=w1.heap[k]?:=λk y K=>(t.block k (by simp;omega) (λe=>K e.symm)).trans (ky w1 o k y)
 have m:w2.heap[bw]?=w.heap[bw]?:=(c bw (by omega) h.a1).trans (r bw h.a3);have p:g≠bw/\g≠r1:=by
  obtain e|e:=x;exact⟨λq=>h.a1 (q ▸ e),λq=>h.a2 (q ▸ e)⟩;omega
 have A:∀z E,w.cell? (aA bw z)=some E->w2.cell? (aA bw z)=some E:=λz E B=>(cOb bw z m).trans B
 have l:=A 2 _ h.c2;have f:w2.frozen? (aA bw 2)=false:=(fOb bw 2 m).trans h.f2;refine⟨⟨?_,?_,kM _ _ _ l,by rw[kS];exact f,?_,?_,λe=>p.1 (by simpa[Value.ownBlock]using e),λe=>p.2 (by simpa[Value.ownBlock]using e),h.a3,h.b1,h.b2,?_,?_,?_,?_⟩,⟨?_,?_,?_,?_,λk y N M O=>?_,?_,λo u J B=>(uC _ (.inr (λe=>J e.symm))).trans (A o u B)⟩,l,f⟩;rw[uC _ (.inr (by omega))];exact A 0 _ h.c0;rw[uC _ (.inr (by omega))];exact A 1 _ h.c1;refine tD.block (w:=w1) (by simpa using G) ?_;rw[kP _ _ _ _ (λe=>h.a3 e.symm:r1≠bw)];exact c r1 (by omega) h.a2;refine uN (by simpa using s) (λk y=>kP _ _ _ _ ?_);simp[Value.ownBlock]at y;show k≠bw;omega;intro j D;obtain q|q:=kx.1 D
 ·exact nA _ (h.sub j q)
 exact List.mem_append_right _ q;rw[na];exact⟨h.nd,by simp,λa C b d=>by simp at d;rw[d];intro e;exact I (e ▸ C)⟩;rw[na];exact⟨h.nds,by simp,λa C b d=>by simp at d;rw[d];intro e;exact I (e ▸ h.sub a C)⟩;intro j D;obtain q|q:=kx.1 D
 ·exact h.rg j q
 simp at q;omega;exact(t.os.trans rfl).trans H;exact(t.tape.trans rfl).trans P;exact(t.output.trans rfl).trans F;have:(w2.setCell (aA bw 2) (sS g (St.length+1) cap)).heap.size=w2.heap.size:=by simp[World.setCell]
 omega;rw[kP _ _ _ _ (N:k≠bw),c k (by omega) O];exact r k M;obtain e|e:=x
 ·exact .inl e.symm
 exact .inr ⟨g,rfl,by omega⟩
theorem c2s(bw:Nat)(w:World):
  Calls prog 162 #[pP bw,.pointer none] w λe w'=>e=.returned (.tuple #[])/\w'=w:=by
 go_in;go_wp21;try simp only[Exit.inBlock,Exit.then]
 refine bodyPost_ret (results_none rfl _ _ _) rfl ?_;exact⟨rfl,rfl⟩
theorem b0q(base bw Y r1 r b n i:Nat)(v:Value)(d o:List Nat)(w:World)(h:eX w base bw Y r1 r b n v d o)(hi:i<n)(hb:base<=w.heap.size)(ac:n<=8000):
  Calls prog 162 #[pP bw,ptr r (b+i*2)] w λe w'=>e=.returned (.tuple #[])/\∃v' Mt' St',eX w' base bw Y r1 r b n v' Mt' St'/\Hid ((i∈d/\Mt'=d/\St'=o)\/(¬i∈d/\Mt'=d++[i]/\St'=o++[i]))/\KFr bw r1 v v' w w':=by
 have⟨et,D,hz⟩:=b3g;have⟨i1,A,_,B,_⟩:=info_parts a5b;have⟨i0,N,Q,P,M⟩:=info_parts b2d;have V:=h.len.2;have I:=h.c1;have J:=h.c2;have HU:=uU D;have HN:=uU A;have HZ:=uU B;clear D hz A B;go_in;go_wp21;refine(a8i r1 r (b+i*2) _ _ h.m).mono ?_;rintro e w1 ⟨rfl,p⟩;have x:=uU (h.ext p);have d1:=p.keep I;have d2:=p.keep J;clear I J;by_cases t:i∈d
 ·have E:decide (b+i*2∈d.map (λi=>b+i*2))=true:=decide_eq_true (a5v.2 t);rw[E];clear E;have K:=uU (KFr.of_ext (bw:=bw) (r1:=r1) (v:=v) p);clear p;go_wp21;try simp only[Exit.inBlock,Exit.then]
  refine bodyPost_ret (results_none rfl _ _ _) rfl ?_;exact⟨rfl,v,d,o,x,.inl ⟨t,rfl,rfl⟩,K⟩
 have E:decide (b+i*2∈d.map (λi=>b+i*2))=false:=decide_eq_false (λf=>t (a5v.1 f));rw[E];clear E;have⟨O,aa,S,z,U,G,H,l⟩:=tD.update x.m HU a7s HN (by rw[uH HZ];omega) (b+i*2) (λf=>t (a5v.1 f));have K:=uU (KFr.of_ext (bw:=bw) (r1:=r1) (v:=v) p);have dU:O.cell? (aA bw 2)=some v:=(kR (w:=w1) (a:=(aA bw 2)) (l bw x.a3)).trans d2;have OW:=uU (show O.ownsRow base 111 1 v o.length (o.map (λi=>ptr r (b+i*2))) from uN x.s (λk hk=>l k (λe=>x.a2 (e ▸ hk))));have y:=uU (kG S (kG z (kG U (kG G (kG H l)))));have ab:base<=O.heap.size:=by have:=p.size;omega
 clear S z U G H l p;go_wp2_with (at_builtin;refine wpList_append_lies _ rfl _ _ 115 rfl base 111 i0 (.pointer none) 1 8 underlying115 N Q P M rfl (by decide) v o.length (o.map (λi=>ptr r (b+i*2))) rfl (OW.alloc _) _ 1 1 [ptr r (b+i*2)] rfl rfl ?I ?J (by decide) ?c3 ?c4 ?c5 _ rfl ?_)
 case I=>
  intro j u L;match j,L with
  | 0,L=>simp at L;subst L;simp[Addr.add]
 case J=>intro u D;simp at D;subst D;rfl
 case c3=>unfold maxLen;omega
 case c4=>omega
 case c5=>simp;omega
 intro g Z w2 q c C R;obtain⟨W,T,q3,q4⟩:=eX.add x hi t y.1 y.2.1 y.2.2.1 y.2.2.2.1 y.2.2.2.2.1 y.2.2.2.2.2 q c (by simpa using C);have F:=uU (kG W (K.trans T));clear W T q c C dU;go_wp21;go_end0;exact⟨rfl,_,d++[i],o++[i],F.1,.inr ⟨t,rfl,rfl⟩,F.2⟩
theorem d0b(base bw f r1 b d n:Nat)(v:Value)(c:List Nat)(w:World)(h:eX w base bw f r1 b d n v c []):
  Calls prog 163 #[pP bw] w λe w'=>e=.returned (.pointer none)/\w'=w:=by
 obtain⟨ad,a,rfl⟩:∃ad a,v=.slice ad 0 a:=by
  obtain⟨h1,_⟩|⟨g,a,cur,h1,_⟩:=h.s.2;exact⟨none,0,h1⟩;exact⟨_,_,h1⟩
 have i:=h.c2;go_in;go_wp2;go_ret;exact⟨rfl,rfl⟩
theorem eX.pop{m:Nat}(h:eX w base bw bv r1 bn on n (sS g (m+1) cap) Mt (St++[j]))(b:St.length=m):
  eX (w.setCell (aA bw 2) (sS g m cap)) base bw bv r1 bn on n (sS g m cap) Mt St/\KFr bw r1 (sS g (m+1) cap) (sS g m cap) w (w.setCell (aA bw 2) (sS g m cap)):=by
 have l:g≠bw:=λe=>h.a1 (by rw[e];rfl)
 have c:=h.s;simp only[List.length_append,List.length_singleton,List.map_append,List.map_cons,List.map_nil,b]at c;refine⟨⟨?_,?_,kM _ _ _ h.c2,by rw[kS];exact h.f2,?_,?_,h.a1,h.a2,h.a3,h.b1,h.b2,λi d=>h.sub i (nA _ d),h.nd,?_,h.rg⟩,⟨rfl,rfl,rfl,by simp[World.setCell],λk _ q _ _=>kP _ _ _ _ (q:k≠bw),.inl rfl,λo u r p=>(uC _ (.inr (λe=>r e.symm))).trans p⟩⟩;rw[uC _ (.inr (by omega))];exact h.c0;rw[uC _ (.inr (by omega))];exact h.c1;exact h.m.block (kP _ _ _ _ (λe=>h.a3 e.symm:r1≠bw));rw[b];refine uN (ownsRow_pop (by simp[b]) c) (λk f=>kP _ _ _ _ ?_);simp[Value.ownBlock]at f;show k≠bw;omega;have:=h.nds;rw[na]at this;exact this.1
theorem d0c(base bw o r1 d f n j:Nat)(v:Value)(l i:List Nat)(w:World)(h:eX w base bw o r1 d f n v l (i++[j]))(r:n<=8000):
  Calls prog 163 #[pP bw] w λe w'=>e=.returned (ptr d (f+j*2))/\∃v',eX w' base bw o r1 d f n v' l i/\KFr bw r1 v v' w w':=by
 have q:=h.len.2;have⟨m,c⟩:∃m,i.length=m:=⟨_,rfl⟩;have⟨g,a,p,y⟩:∃g a,v=sS g (m+1) a/\m+1<=a:=by
  obtain⟨_,h1⟩|⟨g,a,cur,h1,_,_,hcap,_⟩:=h.s.2;simp at h1;simp only[List.length_append,List.length_singleton,c]at h1 hcap;exact⟨g,a,h1,hcap⟩
 subst p;have k:=h.s;simp only[List.length_append,List.length_singleton,List.map_append,List.map_cons,List.map_nil,c]at k q;have x:w.cell? (aA g m)=some (ptr d (f+j*2)):=by
  have:=nK k m (by omega);rw[this,nS (by simp[c])];simp[c]
 have z:=h.c2;have t:=h.f2;have b:=h.pop c;have A:=i0N m;have B:(m:Int)<(m:Int)+1:=by omega
 have u:(m:Int)<=(a:Int):=by omega
 go_in;go_wp2;go_ret;exact⟨rfl,_,b.1,b.2⟩
def gapV(t:Option Nat)(bn:Nat):Value:=match t with
 | none=>.pointer none
 | some j=>ndp bn j
def a9i(x:Hp)(F F':List Int):Prop:=Ho F'/\F'.length<=F.length/\(∀v,v∈F'->v∈F)/\∀i,i<x.A.length->(x.c i).st=0->(i:Int)∈F->(i:Int)∈F'
def c2f(x:Hp)(F':List Int)(t:Option Nat):Prop:=match t with
 | none=>F'=[]
 | some j=>j<x.A.length/\(x.c j).st=0/\∀v,v∈F'->(j:Int)<=v
theorem a9i.next{L:List Int}(h:a9i x F F')(m:Ho L)(b:((j:Int)::L).Perm F')(l:j<x.A.length->(x.c j).st≠0):a9i x F L/\L.length<F'.length:=by
 have a:=b.length_eq;simp at a;refine⟨⟨m,by have:=h.2.1;omega,λv g=>h.2.2.1 v (b.mem_iff.1 (ma _ g)),λi d f k=>?_⟩,by omega⟩;obtain e|e:=nx.1 (b.mem_iff.2 (h.2.2.2 i d f k));have:i=j:=by omega
 subst this;exact absurd f (l d);exact e
theorem c7j[qd]{B:Nat}{b:Nat}{v4 v8:Value}{br:Nat}{cB cO:Nat->Nat}{pb:Nat->Nat}{pa:Nat->Option Addr}{pk:Nat->Nat}{kn hd:Nat}{vf:Value}{vk:Value}{role:Nat->Nat}(h:SAt B w b x ar kr v4 v8 br cB cO bn pb pa pk kn hd vf F vk K role)(ho:Ho F)(hl:F.length<=1000000000)(nn:∀v,v∈F->0<=v):
  Calls prog 235 #[pP b] w λe w'=>∃t vf' F',e=.returned (gapV t bn)/\Hid (eU w' B b 14 vf' F'/\QFr b 14 vf vf' w w')/\Hid (a9i x F F'/\c2f x F' t):=by
 have H:=uU h;have o:=uU h.sb.fr;have r:∀wr vf',QFr b 14 vf vf' w wr->∀k,k<w.heap.size->role k≠4->role k≠0->wr.heap[k]?=w.heap[k]?:=λwr vf' q k W h1 h2=>q.block k W (λe=>h2 (e▸h.sp.b)) (λe=>h1 (h.sp.f k e));go_in;go_wp21;go_loopg [] (F.length+1) (λgk wr=>∃(vf':Value)(F':List Int),F'.length<gk/\Hid (eU wr B b 14 vf' F'/\QFr b 14 vf vf' w wr)/\Hid (a9i x F F'))
 case atStart=>exact⟨vf,F,by omega,⟨o,QFr.refl _ _ _ _⟩,(show a9i x F F from⟨ho,hT _,λ_ h=>h,λ_ _ _ h=>h⟩)⟩
 case round=>
  have⟨vf',F',y,A,i⟩:=hrel;have o:=uU A.1;have u:=uU A.2;have Z:wr.cell? (aA b 13)=some (sS bn x.A.length kn):=(u.hdr 13 (by omega)).trans h.sb.n13;by_cases Q:F'.length=0
  ·obtain⟨ad,p,rfl⟩:=o.empty Q;have m:=o.hd;go_wp21;refine(a5h _ b 14 ad p m).mono ?_;rintro e T ⟨rfl,rfl⟩;go_wp2;go_ret;exact⟨none,_,F',rfl,⟨o,u⟩,i,(show F'=[] from nY.1 Q)⟩
  have d:0<F'.length:=by omega
  obtain⟨g,p,rfl,aa⟩:=o.form d;have m:=o.hd;have M:=o.cell 0 d;have⟨j,S⟩:∃j:Nat,it F' 0=(j:Int):=⟨(it F' 0).toNat,by have:=nn _ (i.2.2.1 _ (a3u F' 0 d));omega⟩;rw[S]at M;have j0:=i0N j;have C:=uU S;by_cases l:j<x.A.length
  ·have⟨m0,Y⟩:=H.sb.nd j l;have n1:wr.cell? (aA bn (j*2+1))=some (pQ (cB j) (cO j)):=(cOb bn _ (r wr _ u bn H.sb.lo.2.2.1 (by rw[H.sp.n];omega) (by rw[H.sp.n];omega))).trans Y;have o0:wr.cell? (aA (cB j) (cO j))=some (iv (x.c j).st):=(cOb (cB j) _ (r wr _ u (cB j) (H.rw.nc j l).1.1 (by rw[H.sp.c j l];omega) (by rw[H.sp.c j l];omega))).trans ((H.rw.s j l).1);have j1:(j:Int)<(x.A.length:Int):=by omega
   go_wp21;refine(a2s _ b 14 g 0 F'.length p j d m M).mono ?_;rintro e T ⟨rfl,rfl⟩;cases P:((x.c j).st == 0)
   ·have I:¬(x.c j).st=0:=by simpa using P
    have D:j<x.A.length->(x.c j).st≠0:=λ_=>I;go_wp21;refine(b1s _ B b 14 _ F' o d i.1 (by have:=i.2.1;omega)).mono ?_;rintro e V ⟨rfl,J,L,O,E,z,G⟩;rw[uH C]at z;have R:=kG (kG O (u.trans G)) (i.next E z D);go_wp21;go_roundg F'.length
    case measure=>exact y
    case rel=>exact⟨J,L,R.2.2,R.1,R.2.1⟩
   go_wp2;go_ret;exact⟨some j,_,F',rfl,⟨o,u⟩,i,(show c2f x F' (some j) from⟨l,by simpa using P,λv hv=>by have:=i.1.least hv;rw[uH C]at this;exact this⟩)⟩
  go_wp21;refine(a2s _ b 14 g 0 F'.length p j d m M).mono ?_;rintro e T ⟨rfl,rfl⟩;go_wp21;refine(b1s _ B b 14 _ F' o d i.1 (by have:=i.2.1;omega)).mono ?_;rintro e V ⟨rfl,J,L,O,E,z,G⟩;rw[uH C]at z;have R:=kG (kG O (u.trans G)) (i.next E z (show j<x.A.length->(x.c j).st≠0 from λh=>absurd h l));go_wp21;go_roundg F'.length
  case measure=>exact y
  case rel=>exact⟨J,L,R.2.2,R.1,R.2.1⟩
def cJ(x z:Hp):Prop:=z.A.length=x.A.length/\∀q,(z.c q).st=(x.c q).st
theorem cJ.refl(x:Hp):cJ x x:=⟨rfl,λ_=>rfl⟩
theorem cJ.trans{y:Hp}(h:cJ x y)(k:cJ y z):cJ x z:=⟨k.1.trans h.1,λq=>(k.2 q).trans (h.2 q)⟩
theorem cJ.set(x:Hp)(i:Nat)(c:Cl)(d:c.st=(x.c i).st)(b:z.A=x.A.set i c):cJ x z:=by
 refine⟨by rw[b];simp,λq=>?_⟩;have e:z.c q=({ x with A:=x.A.set i c }:Hp).c q:=by simp only[Hp.c,b]
 rw[e];obtain a|a:=km i x.A.length;rw[Hp.c_set x i c a q];by_cases h:q=i
 ·rw[if_pos h,h];exact d
 rw[if_neg h];rw[List.set_eq_of_length_le a]
theorem cJ.A(a:z.A=x.A):cJ x z:=⟨by rw[a],λq=>by simp only[Hp.c,a]⟩
theorem a5u(x:Hp)(i:Nat):cJ x (uK x i):=by
 unfold uK;split;exact cJ.set x i (yD (x.c i)) rfl rfl;exact cJ.refl x
theorem a7n(x:Hp)(y:Wd):cJ x (uX x y):=by
 unfold uX;split;exact a5u x _;exact cJ.refl x
theorem b7y:∀(ys:List Wd)(z:Hp),cJ z (ys.foldl uX z)/\(ys.foldl uX z).E=z.E
 | [],z=>⟨cJ.refl z,rfl⟩
 | y::ys,z=>by
  have⟨a,b⟩:=b7y ys (uX z y);exact⟨(a7n z y).trans a,b.trans (a0b z y).2.2.1⟩
theorem a8g(h:x.E=1\/x.E=2):yK x=16000:=by unfold yK;rw[if_pos h]
theorem b9t(h:x.E=3):yK x=8000+(x.A.length-x.I.toNat):=by unfold yK;rw[if_neg (by omega),if_pos h]
theorem b9u(h:x.E=4\/x.E=5):yK x=8000:=by unfold yK;rw[if_neg (by omega),if_neg (by omega),if_pos h]
theorem c5q(h:x.E=6):yK x=x.I.toNat:=by unfold yK;rw[if_neg (by omega),if_neg (by omega),if_neg (by omega),if_pos h]
theorem remU_0(h:x.E=0):yK x=0:=by unfold yK;rw[if_neg (by omega),if_neg (by omega),if_neg (by omega),if_neg (by omega)]
theorem zH.same(h:zH C x F K)(c:cJ x z)(b:x.E≠3/\x.E≠4)(j:yK z<=yK x)(f:z.E≠4)(g:z.E=3->z.I=0):zH C z F K where
 ho:=h.ho
 al:=λi a d=>h.al i (c.1▸a) (by rw[<-c.2];exact d)
 nn:=h.nn
 le:=by have:=h.le;omega
 k3:=λe=>h.k0 b.1 b.2▸⟨List.Pairwise.nil,λi a=>by simp at a,λi a=>by rw[g e]at a;simp at a⟩
 k4:=λe=>absurd e f
 k0:=λ_ _=>h.k0 b.1 b.2
theorem inv1(h:zH C x F K)(b:x.E=1):zH C (dW x) F K:=by
 have d:=a8g (.inl b);have a:∀z:Hp,cJ x z->z.E=1->zH C z F K:=λz g f=>h.same g ⟨by omega,by omega⟩ (by rw[d,a8g (.inl f)];omega) (by omega) (λe=>by omega)
 unfold dW;split;refine h.same (z:=dC x 2 0) (cJ.A rfl) ⟨by omega,by omega⟩ ?_ (by simp[dC]) (by simp[dC]);rw[d,a8g (.inr rfl)];omega;by_cases e:kU (x.c x.I.toNat)=true
 ·simp only[if_pos e];exact a _ ((a5u x x.I.toNat).trans (cJ.A rfl)) ((cC x _).2.2.2.2.2.1.trans b)
 simp only[if_neg e];exact a _ (cJ.A rfl) b
theorem inv2(h:zH C x F K)(f:x.E=2)(n:x.A.length<=8000):zH C (dX x) F K:=by
 have i:=a8g (.inr f);have d:∀z:Hp,cJ x z->z.E=2->zH C z F K:=λz l j=>h.same l ⟨by omega,by omega⟩ (by rw[i,a8g (.inr j)];omega) (by omega) (λe=>by omega)
 unfold dX;split;rename_i g G m;split;refine d _ (((a7n x _).trans (a7n _ _)).trans (cJ.A rfl)) ?_;exact(a0b _ _).2.2.1.trans ((a0b _ _).2.2.1.trans f);exact d _ (cJ.set x g.toNat (a2a (x.c g.toNat)) rfl rfl) f;have⟨a,b⟩:=b7y x.B x;have k:(zC x).A.length<=8000:=by have:=a.1;unfold zC;omega
 split;refine h.same (a.trans (cJ.A rfl)) ⟨by omega,by omega⟩ ?_ (by simp[dC]) (by simp[dC]);rw[i,b9t rfl];simp only[dC];omega;exact d _ a (b.trans f)
theorem inv5(h:zH C x F K)(b:x.E=5)(i:x.A.length<=8000):zH C (dY x) F K:=by
 have d:=b9u (.inr b);have a:∀z:Hp,cJ x z->z.E=5->zH C z F K:=λz g f=>h.same g ⟨by omega,by omega⟩ (by rw[d,b9u (.inr f)];omega) (by omega) (λe=>by omega)
 unfold dY;split;refine h.same (z:=dC x 6 x.A.length) (cJ.A rfl) ⟨by omega,by omega⟩ ?_ (by simp[dC]) (by simp[dC]);rw[d,c5q rfl];simp[dC];exact i;split
 ·exact a _ (cJ.set x x.I.toNat (zX x (x.c x.I.toNat) x.sub.toNat) rfl rfl) b
 exact a _ (cJ.A rfl) b
theorem d2x(h:zH C x F K)(a:x.E=3)(b:x.I=x.A.length):zH C (dC x 4 0) F K where
 ho:=h.ho
 al:=h.al
 nn:=h.nn
 le:=by have:=h.le;rw[b9t a]at this;rw[b9u (.inl rfl)];omega
 k3:=λe=>by simp[dC]at e
 k4:=λ_=>by
  have k:=h.k3 a;rw[show x.I.toNat=x.A.length by omega]at k;exact k
 k0:=λ_ e=>by simp[dC]at e
theorem b1y(h:zH C x F K)(hp:x.E=3)(hz:z.E=3)(i:Nat)(hi:x.I=(i:Int))(hin:i<x.A.length)(hzi:z.I=(i:Int)+1)(hl:z.A.length=x.A.length)(hs:∀q,q≠i->(z.c q).st=(x.c q).st)(ho:Ho F')(hf:(F'=F/\((z.c i).st=0->(x.c i).st=0))\/F'.Perm ((i:Int)::F)):zH C z F' (K++if (z.c i).st=1 then [i] else []) where
 ho:=ho
 al:=λq hq h0=>by
  rw[hl]at hq;obtain⟨e,e2⟩|e:=hf;rw[e];refine h.al q hq ?_;by_cases c:q=i
  ·rw[c]at h0 ⊢;exact e2 h0
  rw[<-hs q c];exact h0;refine e.mem_iff.2 ?_;by_cases c:q=i
  ·rw[c];exact mH
  exact ma _ (h.al q hq (hs q c▸h0))
 nn:=λv hv=>by
  obtain⟨e,_⟩|e:=hf;rw[e]at hv;exact h.nn v hv;obtain e2|e2:=nx.1 (e.mem_iff.1 hv)
  ·omega
  exact h.nn v e2
 le:=by
  have h1:=h.le;rw[b9t hp]at h1;rw[b9t hz];have:F'.length<=F.length+1:=by
   obtain⟨e,_⟩|e:=hf;rw[e];omega;have:=e.length_eq;simp at this;omega
  omega
 k3:=λ_=>by
  have e:z.I.toNat=i+1:=by omega
  have e2:x.I.toNat=i:=by omega
  have⟨p1,p2,p3⟩:=h.k3 hp;rw[e2]at p2 p3;rw[e];have mem:∀q,q∈(K++if (z.c i).st=1 then [i] else [])↔q∈K\/((z.c i).st=1/\q=i):=λq=>by
   by_cases c:(z.c i).st=1;simp[c];simp[c]
  refine⟨?_,λq hq=>?_,λq hq h1 hn j hj h0=>?_⟩;by_cases c:(z.c i).st=1
  ·rw[if_pos c];refine nw.2 ⟨p1,List.pairwise_singleton _ _,λa ha b hb=>?_⟩;simp at hb;have:=(p2 a ha).1;omega
  rw[if_neg c,ni];exact p1;obtain c|⟨c,d⟩:=(mem q).1 hq
  ·have:=p2 q c;exact⟨by omega,hs q (by omega)▸this.2⟩
  rw[d];exact⟨by omega,c⟩;have hne:q≠i:=λc=>hn ((mem q).2 (.inr ⟨c▸h1,c⟩))
  by_cases c:j=i;omega;exact p3 q (by omega) (hs q hne▸h1) (λc2=>hn ((mem q).2 (.inl c2))) j (by omega) (hs j c▸h0)
 k4:=λe=>by omega
 k0:=λe=>absurd hz e
theorem d2y(h:zH C x F K)(c:x.E=6)(a:z.E=0)(b:z.A=x.A):zH C z F K:=
 h.same (cJ.A b) ⟨by omega,by omega⟩ (by rw[remU_0 a];omega) (by omega) (λe=>by omega)
theorem c9b(h:zH C x F K)(hp:x.E=6)(hz:z.E=6)(i:Nat)(hi:x.I=(i:Int)+1)(hzi:z.I=(i:Int))(hl:z.A.length<=x.A.length)(hs:∀q,q<z.A.length->q≠i->(z.c q).st=(x.c q).st)(ho:Ho F')(hf:(F'=F/\(i<z.A.length->(z.c i).st=0->(x.c i).st=0))\/F'.Perm ((i:Int)::F)):zH C z F' K where
 ho:=ho
 al:=λq hq h0=>by
  obtain⟨e,e2⟩|e:=hf;rw[e];refine h.al q (by omega) ?_;by_cases c:q=i
  ·rw[c]at h0 ⊢;exact e2 (by omega) h0
  rw[<-hs q hq c];exact h0;refine e.mem_iff.2 ?_;by_cases c:q=i
  ·rw[c];exact mH
  exact ma _ (h.al q (by omega) (hs q hq c▸h0))
 nn:=λv hv=>by
  obtain⟨e,_⟩|e:=hf;rw[e]at hv;exact h.nn v hv;obtain e2|e2:=nx.1 (e.mem_iff.1 hv)
  ·omega
  exact h.nn v e2
 le:=by
  have h1:=h.le;rw[c5q hp]at h1;rw[c5q hz];have:F'.length<=F.length+1:=by
   obtain⟨e,_⟩|e:=hf;rw[e];omega;have:=e.length_eq;simp at this;omega
  omega
 k3:=λe=>by omega
 k4:=λe=>by omega
 k0:=λ_ _=>h.k0 (by omega) (by omega)
theorem inv0(h:zH C x F K)(a:x.E=0):zH (C+16000) (dC x 1 0) F K where
 ho:=h.ho
 al:=h.al
 nn:=h.nn
 le:=by have:=h.le;rw[a8g (.inl rfl)];omega
 k3:=λe=>by simp[dC]at e
 k4:=λe=>by simp[dC]at e
 k0:=λ_ _=>h.k0 (by omega) (by omega)
theorem zH.wide{D:Nat}(h:zH C x F K)(a:C<=D):zH D x F K:=⟨h.ho,h.al,h.nn,kA h.le a,h.k3,h.k4,h.k0⟩
theorem b7r{y:Wd}(h:uJ y n)(e:y.k=2):0<=y.a/\y.a<n:=by grind[uJ]
theorem b9e(r:R4 x):∀i,i<x.A.length->∀k,k<(x.c i).F.length->uJ ((x.c i).p k).key x.A.length/\uJ ((x.c i).p k).val x.A.length:=λi b k e=>by
 have a:=(r.2 i b).2 k e;by_cases d:uW x i;exact a.1 d;exact⟨(a.2 d).1.1,(a.2 d).2.1⟩
def spB(x:Hp)(k:Nat):Bool:=(((x.c k).U == 1) || ((x.c k).U == 2)) && ((x.c k).J == 0) && ((x.E == 2) || decide ((k:Int)<x.I))
theorem c6z{k:Nat}:spB x k=true↔(cK (x.c k)/\(x.c k).J=0/\(x.E=2\/(k:Int)<x.I)):=by simp[spB,cK,and_assoc]
def wok(x:Hp)(k l:Nat):Prop:=¬dJ x ((x.c k).p l).key/\¬dJ x ((x.c k).p l).val
theorem c8f(r1:R1 x)(f:R6 x)(k:Nat):eH x k<=(x.c k).F.length:=by
 unfold eH;split;omega;split
 ·rename_i q;have e:=(f.2.1 q.1).2.2 q.2.1;unfold Hp.g0 at e;rw[q.2.2]at e;have:=r1.sub;simp at e;omega
 omega
theorem c0y(x:Hp)(b:Nat)(w:World){ac:Option Addr}{kc:Nat}{ag:Option Addr}{kg:Nat}(h:HAt w b x ar kr ac kc ag kg)(r1:R1 x)(d:R4 x)(f:R6 x):
  Calls prog 31 #[.pointer (some ⟨b,0,none⟩)] w λe w'=>∃r:Bool,e=.returned (.bool r)/\(r=true↔R7 x)/\Ext w w':=by
 have c4:=h.c4;have c5:=h.c5;have lc:=h.lc;have FO:=uU (b9e d);have LK:=uU (c8f r1 f);have SB:=uU r1.sub.1;clear d f r1;go_enter func31,ntmps31;go_upto_region 1 with fail;go_cut [19] from 8 to 18 (λv wx=>v=.bool ((x.E != 1) && (x.E != 2))/\w=wx)
 case first=>
  cases p:(x.E != 1) <;> cases q:(x.E != 2) <;> (go_wp21;go_meet;exact⟨by simp[p,q],rfl⟩)
 case rest=>
 obtain⟨rfl,rfl⟩:=hcut;cases mk:((x.E != 1) && (x.E != 2));rotate_left
 ·have Y:=uU (show R7 x from λm=>by obtain m|m:=m <;> simp[m]at mk);go_wp2;go_ret;first|(exact ko ⟨rfl,Y,hO _⟩)|(exact⟨true,rfl,⟨λ_=>uH Y,λ_=>rfl⟩,hO _⟩)
 have MK:=uU (show uD x by unfold uD;simp at mk;omega);clear mk;go_wp21;go_loopw [25] (λi wr=>∃k:Nat,k<=x.A.length/\i=.int .i64 k/\Hid (∀j,j<k->spB x j=false/\∀l,l<eH x j->wok x j l)/\Ext w wr) (λi _=>x.A.length-(intOf i).toNat)
 case atStart=>exact⟨0,kB _,rfl,λj h=>by omega,hO _⟩
 case round=>
 obtain⟨k,hk,rfl,HA,A⟩:=hrel;by_cases t:k<x.A.length;rotate_left
 ·have Y:=uU (show R7 x from λ_ i hi=>⟨λq=>(by have:=(HA i (by omega)).1;rw[c6z.2 q]at this;cases this),(HA i (by omega)).2⟩);go_wp2;go_ret;first|(exact ko ⟨rfl,Y,A⟩)|(exact⟨true,rfl,⟨λ_=>uH Y,λ_=>rfl⟩,A⟩)
 have y:=h.ext A;obtain⟨b',o,F,C,rfl,p0,p1,p2,p3,p4,p5,p6,p7,lp,P⟩:=y.cell k t;have HP:=uU P;have e5:=y.c5;have e6:=y.c6;have e7:=y.c7;have e8:=y.c8;have G:=uU y.G;have al:=cLt p0;have D:=cLt e8;have aj:=i0N k;have ae:(k:Int)<(x.A.length:Int):=by omega
 obtain⟨V,hV⟩:=obE (wr.alloc (oCl (x.c k) (.slice F (x.c k).F.length C)));have L:=uU (show Ext wr V by rw[hV];exact(hO wr).alloc _);have HV:=uU hV;clear hV P y;go_upto_region 6 with fail;go_cut [5] from 30 to 37 (λv wx=>∃u:Bool,v=.bool u/\Hid (u=(((x.c k).U == 1) || ((x.c k).U == 2)))/\V=wx)
 case first=>cases l1:((x.c k).U == 1) <;> cases l2:((x.c k).U == 2) <;> (go_wp21;go_meet;exact⟨_,rfl,by show _=_;rw[l1,l2];rfl,HV⟩)
 case rest=>
 obtain⟨u,rfl,U,rfl⟩:=hcut;have r3:V.cell? ⟨wr.heap.size,5,none⟩=some (.int .i64 (x.c k).J):=by rw[uH HV];simp[go_sem]
 have r7:V.cell? ⟨wr.heap.size,7,none⟩=some (.slice F (x.c k).F.length C):=by rw[uH HV];simp[go_sem]
 have rs:=cLt r3;have f5:=L.keep e5;have f6:=L.keep e6;have f7:=L.keep e7;have f8:=L.keep e8;go_upto_region 7 with fail;go_cut [58] from 38 to 57 (λv wx=>v=.bool (spB x k)/\V=wx)
 case first=>
  cases u <;> cases c0:((x.c k).J == 0) <;> cases p2:(x.E == 2) <;> by_cases kh:(k:Int)<x.I <;> (go_wp21;go_meet;exact⟨by simp only[spB,<-uH U,c0,p2,kh];first|rfl|simp[kh],rfl⟩)
 case rest=>
 obtain⟨rfl,rfl⟩:=hcut;cases sb:spB x k;rotate_left
 ·have N:=uU (show ¬R7 x from λr=>(r MK k t).1 (c6z.1 sb));go_wp2;go_ret;first|(exact kT ⟨rfl,N,A.trans L⟩)|(exact⟨false,rfl,fNo N,A.trans L⟩)
 have S0:=uU sb;clear sb;go_upto_region 10 with fail;go_cut [61] from 59 to 60 (λv wx=>∃u,Hid (v=.bool u)/\Hid (u=((x.c k).J == 2))/\V=wx)
 case first=>go_wp21;go_meet;exact⟨_,rfl,rfl,rfl⟩
 case rest=>
 obtain⟨u,e,cv,rfl⟩:=hcut;go_upto_region 11 with fail;go_cut [6] from 62 to 91 (λv wx=>v=.int .i64 (eH x k)/\V=wx)
 case first=>
  have e:=uH e;subst e;by_cases gl:0<x.D.length
  ·obtain⟨bg,og,rfl,g0⟩:=uH G 0 gl;unfold a8k at g0;simp only[Nat.zero_mul,Nat.add_zero]at g0;have g1:=L.keep g0;have g2:=cLt g1;have g3:(0:Int)<(x.D.length:Int):=by omega
   cases u <;> cases p2:(x.E == 2) <;> cases gk:(x.D[0] == (k:Int)) <;> (go_wp21;go_meet;exact⟨by have c2:=uH cv;simp at c2 p2 gk;simp[eH,c2,p2,gk,gl,List.length_pos_iff.1 gl] <;> (have:=uH SB;omega),rfl⟩)
  have g3:¬(0:Int)<(x.D.length:Int):=by omega
  cases u <;> cases p2:(x.E == 2) <;> (go_wp21;go_meet;exact⟨by have c2:=uH cv;simp at c2 p2;simp[eH,c2,p2,show x.D.length=0 by omega],rfl⟩)
 case rest=>
 obtain⟨rfl,rfl⟩:=hcut;have lk:=uH LK k;obtain⟨n,hn⟩:=obE (eH x k);rw[<-hn]at lk;have HN:=uU hn;rw[<-hn];clear hn;go_wp21;go_loopw [7] (λi m=>∃l:Nat,l<=n/\i=.int .i64 l/\Hid (∀j,j<l->wok x k j)/\Hid (Ext V m)) (λi _=>n-(intOf i).toNat)
 case atStart=>exact⟨0,kB _,rfl,λj h=>by omega,hO _⟩
 case round=>
 obtain⟨l,hl,rfl,HB,J⟩:=hrel;by_cases ln:l<n
 ·obtain⟨b2,o2,rfl,q0,q1,q2,q3,q4,q5⟩:=uH HP l (by omega);have E:=L.trans J;have g0:=E.keep q0;have g1:=E.keep q1;have g2:=E.keep q2;have g3:=E.keep q3;have g4:=E.keep q4;have g5:=E.keep q5;have g7:=J.keep r7;have l0:=i0N l;have l1:(l:Int)<(n:Int):=by omega
  have l2:(l:Int)<((x.c k).F.length:Int):=by omega
  have K:=uU (FO k t l (by omega));go_wp21;refine(b2u x b ((x.c k).p l).key _ (h.ext (A.trans E)) (λe=>b7r K.1 e)).mono ?_;rintro e w3 ⟨rfl,m⟩;have u7:=m.keep g7;have u3:=m.keep g3;have u4:=m.keep g4;have u5:=m.keep g5;have B:=uU (E.trans m);cases tk:a5k x ((x.c k).p l).key
  ·go_wp21;refine(b2u x b ((x.c k).p l).val _ (h.ext (A.trans B)) (λe=>b7r K.2 e)).mono ?_;rintro e w4 ⟨rfl,m4⟩;cases tv:a5k x ((x.c k).p l).val
   ·have S:=uU (show ∀j,j<l+1->wok x k j from λj hj=>by
     by_cases e:j=l;subst e;exact by simp[wok,<-a8z,tk,tv]
     exact HB j (by omega))
    go_wp2;go_roundw
    case rel=>exact⟨l+1,by omega,by go_num,S,(J.trans m).trans m4⟩
    simp[intOf];omega
   have N:=uU (show ¬R7 x from λr=>((r MK k t).2 l (by rw[<-uH HN];omega)).2 (a8z.1 tv));go_wp2;go_ret;first|(exact kT ⟨rfl,N,(A.trans B).trans m4⟩)|(exact⟨false,rfl,fNo N,(A.trans B).trans m4⟩)
  have N:=uU (show ¬R7 x from λr=>((r MK k t).2 l (by rw[<-uH HN];omega)).1 (a8z.1 tk));go_wp2;go_ret;first|(exact kT ⟨rfl,N,A.trans B⟩)|(exact⟨false,rfl,fNo N,A.trans B⟩)
 have S:=uU (show ∀j,j<k+1->spB x j=false/\∀l,l<eH x j->wok x j l from λj hj=>by
  by_cases e:j=k;subst e;exact⟨S0,λi hi=>uH HB i (by rw[<-uH HN]at hi;omega)⟩;exact HA j (by omega))
 have l1:¬(l:Int)<(n:Int):=by omega
 go_wp2;go_roundw
 case rel=>exact⟨k+1,by omega,by go_num,S,(A.trans L).trans J⟩
 simp[intOf];omega
end Go.Proofs.YtolmnenlnpbcfaaGreatDoor
