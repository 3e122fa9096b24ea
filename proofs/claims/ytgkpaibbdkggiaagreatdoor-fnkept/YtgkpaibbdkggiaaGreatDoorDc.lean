import Derived.Test.YtgkpaibbdkggiaaGreatDoorL2c
import Derived.RowKitTokens
import Derived.Stop.Asserts
set_option maxRecDepth 100000
set_option maxHeartbeats 4000000
namespace Go.Proofs.YtgkpaibbdkggiaaGreatDoor
open Go.RowKit Tryz
attribute [local go_sem ↓] Go.wp_at_zero Go.wp_at_succ
variable{w w' w4 w1 w2:World}{B n br c k q bc kr kc kg i:Nat}{v vr vc vg:Value}{x:Hp}{cB pb pk cO:Nat->Nat}{pa:Nat->Option Addr}{xs:List Value}{G:List Int}{t:TypeId}{ad ar ac ag:Option Addr}
theorem b1c(fn T E z:Nat)(q:fn=106/\T=23/\E=48/\z=3\/fn=108/\T=49/\E=53/\z=6\/fn=107/\T=24/\E=51/\z=8)(ad:Option Addr)(n g:Nat)(V:List Value)(w:World)(l:V.length=n*z)(A:∀W,Ext w W->∀j u,V[j]?=some u->∃a,ad=some a/\W.cell? (a.add j)=some u)(H:∀u,u∈V->u.oneCell'=true)(N:n<=1048576):
  Calls prog fn #[.slice ad n g] w λe w'=>∃v',e=.returned v'/\w'.ownsRow w.heap.size E z v' n V/\Ext w w':=by
 have B:∀W ad n k,(binOp .eql T (.slice ad n k) (.slice none 0 0)).run prog W=.ok (.bool ad.isNone) W:=by
  rcases q with⟨_,rfl,_⟩|⟨_,rfl,_⟩|⟨_,rfl,_⟩ <;> exact λ_ ad _ _=>by cases ad <;> kernel_rfl
 have A:=uU A;have H:=uU H;cases ad with
 | none=>
  have y:V=[]:=by
   cases V with
   | nil=>rfl
   | cons u V=>obtain⟨a,e,_⟩:=uH A w (hO _) 0 u rfl;cases e
  subst y;have y:n=0:=by
   rcases q with⟨_,_,_,rfl⟩|⟨_,_,_,rfl⟩|⟨_,_,_,rfl⟩ <;> simp at l <;> omega
  have B:=λW=>B W none 0 g;clear l;subst y;rcases q with⟨rfl,rfl,rfl,rfl⟩|⟨rfl,rfl,rfl,rfl⟩|⟨rfl,rfl,rfl,rfl⟩
  all_goals
   go_in;go_wp21;go_ret;exact⟨_,rfl,mB _ _ _ _,hO _⟩
 | some ad=>
  have B:=λW=>B W (some ad);have A:=uU (show ∀W,Ext w W->∀j u,V[j]?=some u->W.cell? (ad.add j)=some u from λW e j u f=>by
   obtain⟨a,e,h⟩:=A W e j u f;cases e;exact h)
  have O:=World.ownsRow_made (e:=E) (size:=z) w #[] 0 (hT _) (by unfold maxLen;omega) (by simp)
  rcases q with⟨rfl,rfl,rfl,rfl⟩|⟨rfl,rfl,rfl,rfl⟩|⟨rfl,rfl,rfl,rfl⟩
  focus obtain⟨K,s,x,r,t⟩:=info_parts b0z;have U:=underlying23
  rotate_left
  focus obtain⟨K,s,x,r,t⟩:=info_parts a2n;have U:=underlying49
  rotate_left
  focus obtain⟨K,s,x,r,t⟩:=info_parts a7v;have U:=underlying24
  rotate_left
  all_goals
   go_in;go_wp2_with (at_builtin;refine wpList_append_own_at _ rfl _ _ _ rfl w.heap.size _ K _ _ _ U s x r t rfl (by decide) _ 0 [] rfl O ad n g V rfl l (A _ (eAl w _)) H (by unfold maxLen;omega) (by omega) (by simp) ?_);intro v' w' d c _ _;have l:=uU (kG d (a4r (eAl w _) O (hT _) c));clear d c;go_wp21;go_ret;exact⟨_,rfl,l.1,l.2⟩
theorem yH.flat{α:Type}{P:World->Nat->Nat->α->Prop}{z:Nat}{xs:List α}(f:α->List Value)(c:0<z)(l:∀a,(f a).length=z)(h:yH (P w) z (.slice ad n k) xs)(g:∀b o a W,Ext w W->P w b o a->∀j,j<z->W.cell? (aA b (o+j))=(f a)[j]?):∀W,Ext w W->∀j u,(xs.flatMap f)[j]?=some u->∃a,ad=some a/\W.cell? (a.add j)=some u:=λW e j u q=>by
 obtain⟨ad,k,r,_,m⟩:=h;cases r;obtain h|h:=mN xs.length;rw[mU h]at q;simp at q;obtain⟨b,o,F,_⟩:=m 0 h;refine⟨_,F,b1b f z c l xs b o (λi C j I=>?_) j u q⟩;obtain⟨M,L,G,q⟩:=m i C;rw[F]at G;cases G;exact g _ _ _ W e q j I
theorem c3v(xs:List Wd)(v:Value)(w:World)(h:SlW w v xs)(N:xs.length<=1048576):
  Calls prog 106 #[v] w λe w'=>∃v',e=.returned v'/\w'.ownsRow w.heap.size 48 3 v' xs.length (xs.flatMap fW)/\Ext w w':=by
 have i:=h;obtain⟨ad,g,rfl,_⟩:=h;exact b1c _ _ _ _ (.inl ⟨rfl,rfl,rfl,rfl⟩) ad _ g _ w (a3r fW 3 (λ_=>rfl) xs) (yH.flat fW (by omega) (λ_=>rfl) i (λb o a W e q j I=>by
  obtain⟨D,J,E⟩:=q.ext e;obtain _|_|_|j:=j <;> first|assumption|omega)) (b9w fW (λa u f=>by simp[fW]at f;obtain e|e|e:=f <;> subst e <;> rfl) xs) N
theorem c3w(xs:List Pr)(v:Value)(w:World)(h:SlP w v xs)(N:xs.length<=1048576):
  Calls prog 108 #[v] w λe w'=>∃v',e=.returned v'/\w'.ownsRow w.heap.size 53 6 v' xs.length (xs.flatMap fP)/\Ext w w':=by
 have i:=h;obtain⟨ad,g,rfl,_⟩:=h;exact b1c _ _ _ _ (.inr (.inl ⟨rfl,rfl,rfl,rfl⟩)) ad _ g _ w (a3r fP 6 (λ_=>rfl) xs) (yH.flat fP (by omega) (λ_=>rfl) i (λb o a W e q j I=>by
  obtain⟨D,J,E,F,G,H⟩:=q.ext e;obtain _|_|_|_|_|_|j:=j <;> first|assumption|omega)) (b9w fP (λa u f=>by simp[fP]at f;obtain e|e|e|e|e|e:=f <;> subst e <;> rfl) xs) N
def CvAt(w:World)(b o:Nat)(z:Cl×Value):Prop:=∀j,j<8->w.cell? ⟨b,o+j,none⟩=(fC z)[j]?
theorem d0n{w:World}{v:Value}{xs:List Cl}(h:SlC w v xs):∃L:List (Cl×Value),L.map (·.1)=xs/\yH (CvAt w) 8 v L/\∀z,z∈L->SlP w z.2 z.1.F:=by
 obtain⟨ad,g,rfl,t,E⟩:=h;have m:∀i,∃f,∀(d:i<xs.length),∃b o,ad=some (aA b o)/\CvAt w b (o+i*8) (xs[i],f)/\SlP w f xs[i].F:=λi=>by
  by_cases d:i<xs.length;obtain⟨b,o,e,f,C,n,q,x,A,p,u,B,r⟩:=E i d;refine⟨f,λ_=>⟨b,o,e,λj D=>?_,r⟩⟩;match j,D with
  | 0,_=>exact C
  | 1,_=>exact n
  | 2,_=>exact q
  | 3,_=>exact x
  | 4,_=>exact A
  | 5,_=>exact p
  | 6,_=>exact u
  | 7,_=>exact B
  exact⟨.slice none 0 0,λh=>absurd h d⟩
 have l:=λi=>Classical.choose_spec (m i)
 refine⟨(List.range xs.length).map (λi=>(xs.getD i Cl0,Classical.choose (m i))),?_,⟨ad,g,by simp,by simpa using t,λi d=>?_⟩,λz s=>?_⟩;refine List.ext_getElem (by simp) (λi F y=>?_);simp[y];have a:i<xs.length:=by simpa using d
 obtain⟨b,o,e,c,_⟩:=l i a;refine⟨b,o,e,?_⟩;simp only[List.getElem_map,List.getElem_range];have k:xs.getD i Cl0=xs[i]:=by simp[a]
 rw[k];exact c;obtain⟨i,d,rfl⟩:=mg.1 s;have a:i<xs.length:=by simpa using d
 obtain⟨b,o,e,_,c⟩:=l i a;have k:xs.getD i Cl0=xs[i]:=by simp[a]
 simp only[k];exact c
theorem slP_one{xs:List Pr}(h:SlP w v xs):v.oneCell'=true:=by obtain⟨ad,a,rfl,_⟩:=h;rfl
theorem c3y(L:List (Cl×Value))(v:Value)(w:World)(h:yH (CvAt w) 8 v L)(F:∀z,z∈L->z.2.oneCell'=true)(N:L.length<=1048576):
  Calls prog 107 #[v] w λe w'=>∃v',e=.returned v'/\w'.ownsRow w.heap.size 51 8 v' L.length (L.flatMap fC)/\Ext w w':=by
 have i:=h;obtain⟨ad,g,rfl,_⟩:=h;exact b1c _ _ _ _ (.inr (.inr ⟨rfl,rfl,rfl,rfl⟩)) ad _ g _ w (a3r fC 8 (λ_=>rfl) L) (yH.flat fC (by omega) (λ_=>rfl) i (λb o a W e q j I=>by
  have q:=q j I;obtain _|_|_|_|_|_|_|_|j:=j;all_goals first|exact e.keep q|omega)) (λu d=>by
  obtain⟨a,J,d⟩:=List.mem_flatMap.1 d;simp[fC]at d;obtain e|e|e|e|e|e|e|e:=d <;> subst e <;> first|rfl|exact F a J) N
def b9z:Value->Option Addr
 | .slice a _ _=>a
 | _=>none
def kQ:Value->Nat
 | .slice _ _ k=>k
 | _=>0
def qW(v:Value):Nat:=v.ownBlock.getD 0
theorem a0d(h:w.ownsRow B t c v n xs):v=.slice (b9z v) n (kQ v)/\(0<n->b9z v=some (aA (qW v) 0)/\v.ownBlock=some (qW v)):=by
 obtain⟨rfl,rfl⟩|⟨g,cap,cur,rfl,_⟩:=h.2;exact⟨rfl,λh=>by omega⟩;exact⟨rfl,λ_=>⟨rfl,rfl⟩⟩
theorem b1d(h:w.ownsRow B t c v n xs)(f:0<n):Nf1 (qW v) w/\B<=qW v:=by
 obtain⟨e,d⟩:=a0d h;obtain⟨b,a⟩:=d f;refine⟨⟨(h.lt _ a).2,λj=>?_⟩,(h.lt _ a).1⟩;rw[e,b]at h;exact nN h j
theorem a6i{α:Type}{f:α->List Value}(p:∀a,(f a).length=c){L:List α}(h:w.ownsRow B t c v L.length (L.flatMap f))(i:Nat)(n:i<L.length)(j:Nat)(o:j<c):w.cell? (aA (qW v) (i*c+j))=(f L[i])[j]?:=by
 obtain⟨e,d⟩:=a0d h;obtain⟨r,s⟩:=d (by omega);obtain⟨ad,b,l,_,m⟩:=b1a p h;obtain⟨g,k,_,_,q⟩:=m i n;have:qW v=g:=by rw[l,k];rfl
 rw[this];have:=q j o;rwa [kO]at this
theorem b3x{t sz:Nat}(h:w.ownsRow B t sz v n xs):n<=kQ v:=by
 obtain⟨rfl,h1⟩|⟨g,cap,cur,rfl,_,_,hn,_⟩:=h.2;omega;exact hn
theorem b8k{t:Nat}(h:w.ownsRow B t c v n xs)(d:0<kQ v):b9z v=some (aA (qW v) 0)/\v.ownBlock=some (qW v)/\Nf1 (qW v) w/\(∀j,j<kQ v*c->∃u,w.cell? (aA (qW v) j)=some u)/\B<=qW v:=by
 obtain⟨rfl,h1⟩|⟨g,cap,cur,rfl,hb,hg,hn,_,hs,_⟩:=h.2;simp[kQ]at d;refine⟨rfl,rfl,⟨(nU.1 hg).1,λj=>nN h j⟩,λj b=>?_,hb⟩;have a:j<cur.size:=by rw[hs];exact b
 exact⟨cur[j],by rw[show qW (sS g n cap)=g from rfl,cell_of_row w g j cur _ _ hg];exact nL a⟩
theorem b8m(h:w.ownsRow B 53 6 v n xs)(c:0<kQ v):b9z v=some (aA (qW v) 0)/\v.ownBlock=some (qW v)/\Nfp (qW v) (kQ v) w/\B<=qW v:=by
 obtain⟨rfl,h1⟩|⟨g,cap,cur,rfl,hb,hg,hn,_,hs,_⟩:=h.2;simp[kQ]at c;refine⟨rfl,rfl,⟨(nU.1 hg).1,λj=>?_,λj b=>?_⟩,hb⟩
 ·exact nN h j
 have a:j<cur.size:=by rw[hs];exact b
 exact⟨cur[j],by rw[show qW (sS g n cap)=g from rfl,cell_of_row w g j cur _ _ hg];exact nL a⟩
theorem Rws.of{pv:Nat->Value}(l:w.ownsRow B 48 3 vr x.B.length (x.B.flatMap fW))(F:∀q,q<x.A.length->S7 w bc (q*8) (x.c q))(C:∀q,q<x.A.length->w.cell? (aA bc (q*8+7))=some (pv q))(E:0<x.A.length->Nf1 bc w/\B<=bc)(D:0<x.A.length->qW vr≠bc)
  (g:∀q,q<x.A.length->w.ownsRow B 53 6 (pv q) (x.c q).F.length ((x.c q).F.flatMap fP)/\∀b,(pv q).ownBlock=some b->b≠qW vr/\b≠bc) (v:∀q q',q<x.A.length->q'<x.A.length->q≠q'->∀b,(pv q).ownBlock=some b->(pv q').ownBlock≠some b) :
  Rws B w x (qW vr) bc (λq=>qW (pv q)) (λq=>b9z (pv q)) (λq=>kQ (pv q)) where
 r:=λi m=>⟨a6i (f:=fW) (λ_=>rfl) l i m 0 (by omega),a6i (f:=fW) (λ_=>rfl) l i m 1 (by omega),a6i (f:=fW) (λ_=>rfl) l i m 2 (by omega)⟩
 s:=F
 p7:=λq a=>by rw[C q a,<-(a0d (g q a).1).1]
 p:=λq a k y=>by
  have:=a6i (f:=fP) (λ_=>rfl) (g q a).1 k y;rw[Cl.p_eq _ _ y]at this;exact⟨this 0 (by omega),this 1 (by omega),this 2 (by omega),this 3 (by omega),this 4 (by omega),this 5 (by omega)⟩
 pl:=λq a j=>by
  obtain⟨t,o,z,A⟩:=b8m (g q a).1 j;exact⟨t,z,(g q a).2 _ o,A⟩
 nr:=λj=>b1d l j
 nc:=E
 d:=D
 dp:=λq q' a h u j n e=>by
  have t:=(b8m (g q a).1 j).2.1;have o:=(b8m (g q' h).1 n).2.1;exact v q q' a h u _ t (by rw[o,e])
 kp:=λq a=>b3x (g q a).1
def Grw(w:World)(B:Nat)(v:Value)(G:List Int):Prop:=
 (v=.slice none 0 0/\G=[])\/∃gb go cap cur,v=.slice (some ⟨gb,go,none⟩) G.length cap/\B<=gb/\w.heap[gb]?=some (.cells cur 3 (0,0))/\G.length<=cap/\go+cap<=cur.size/\(cur.toList.drop go).take G.length=G.map iv
theorem Grw.lt(h:Grw w B v G):∀k,v.ownBlock=some k->B<=k/\k<w.heap.size:=by
 intro k a;obtain⟨rfl,_⟩|⟨gb,go,cap,cur,rfl,hb,hg,_⟩:=h;simp[Value.ownBlock]at a;simp[Value.ownBlock]at a;subst a;exact⟨hb,(nU.1 hg).1⟩
theorem Grw.block(h:Grw w B v G)(i:∀k,v.ownBlock=some k->w'.heap[k]?=w.heap[k]?):Grw w' B v G:=by
 obtain h|⟨c,f,a,b,rfl,g,d,e⟩:=h;exact .inl h;exact .inr ⟨c,f,a,b,rfl,g,i c rfl▸d,e⟩
theorem Grw.form(h:Grw w B v G):∃a k,v=.slice a G.length k:=by grind[Grw,eX.form]
theorem Grw.of(h:w.ownsRow B 3 1 v G.length (G.map iv)):Grw w B v G:=by
 obtain⟨h0,h1⟩|⟨g,cap,cur,h0,hb,hg,hn,_,hs,ht⟩:=h.2;exact .inl ⟨h0,mU h1⟩;exact .inr ⟨g,0,cap,cur,h0,hb,hg,hn,by omega,by simpa using ht⟩
theorem Grw.at{a:Option Addr}(h:Grw w B (.slice a G.length k) G)(i:Nat)(b:i<G.length):∃gb go,a=some (aA gb go)/\w.cell? (aA gb (go+i))=some (iv G[i])/\B<=gb:=by
 obtain⟨_,rfl⟩|⟨gb,go,cap,cur,e,hb,hg,hn,hs,ht⟩:=h;simp at b;simp only[Value.slice.injEq]at e;refine⟨gb,go,e.1,?_,hb⟩;rw[cell_of_row w gb (go+i) cur _ _ hg,<-qB];have c:((cur.toList.drop go).take G.length)[i]?=(G.map iv)[i]?:=by rw[ht]
 rw[List.getElem?_take_of_lt b,List.getElem?_drop]at c;rw[c];simp[b]
theorem Grw.tail{gb go cap:Nat}{g:Int}(h:Grw w B (sO gb go (G.length+1) cap) (g::G)):Grw w B (sO gb (go+1) G.length (cap-1)) G:=by
 obtain⟨_,e⟩|⟨gb',go',cap',cur,e,hb,hg,hn,hs,ht⟩:=h
 cases e
 simp only[Value.slice.injEq,Option.some.injEq,Addr.mk.injEq]at e;obtain⟨⟨rfl,rfl,_⟩,_,rfl⟩:=e;refine .inr ⟨gb,go+1,cap-1,cur,rfl,hb,hg,by simp at hn;omega,by simp at hn;omega,?_⟩;have a:((cur.toList.drop go).take (G.length+1)).drop 1=G.map iv:=by
  have:(g::G).length=G.length+1:=rfl;rw[this]at ht;rw[ht];rfl
 rw[List.drop_take,List.drop_drop]at a;simpa using a
theorem d0o{α:Type}(L:List α)(o n:Nat)(v:α)(xs:List α)(h:(L.drop o).take n=xs)(a:xs.length=n)(b:o+n<L.length):((L.take (o+n)++[v]++L.drop (o+n+1)).drop o).take (n+1)=xs++[v]:=by grind
theorem d0p{P:Program}(w:World)(t D:TypeId)(i:TypeInfo)(z:Value)(B:Nat)(v:Value)(G:List Int)(C:P.underlying t=some (.slice 3))(A:P.info? 3=some i)(J:i.zero=some z)(f:i.size=1)(p:i.bytes=8)(E:z.cells.size=1)(h:Grw w B v G)(ad:Addr)(c:Nat)(x:Int)(L:w.cell? ad=some (iv x))(N:G.length<=1048576)(K:B<=w.heap.size):
  ∃gb go cap w',(Builtin.append_ #[t,t] D #[v,.slice (some ad) 1 c]).run P w=.ok (sO gb go (G.length+1) cap) w'/\Grw w' B (sO gb go (G.length+1) cap) (G++[x])/\w.grownBy w' v.ownBlock/\(v.ownBlock=some gb\/gb=w.heap.size)/\gb<w'.heap.size:=by
 have b:∀j u,[iv x][j]?=some u->w.cell? (ad.add j)=some u:=λj u n=>by
  match j,n with
  | 0,n=>
   simp at n;subst n;have:ad.add 0=ad:=by unfold Addr.add;simp
   rw[this];exact L
 have l:∀(a:Nat),a<G.length+1->Grw (w.drew.alloc (.cells ((G.map iv).toArray ++ #[iv x]++Builtin.zeroCells z.cells (grownCap w (G.length+1) a 3-(G.length+1))) 3)) B (sS w.heap.size (G.length+1) (grownCap w (G.length+1) a 3)) (G++[x])/\∀o,w.grownBy (w.drew.alloc (.cells ((G.map iv).toArray ++ #[iv x]++Builtin.zeroCells z.cells (grownCap w (G.length+1) a 3-(G.length+1))) 3)) o:=by
  intro a M;refine⟨.inr ⟨w.heap.size,0,grownCap w (G.length+1) a 3,_,by simp,K,heap_alloc_new w.drew _,by simpa using (grownCap_ge w (G.length+1) a 3),by simp[size_zeroCells,E];omega,?_⟩,λo=>⟨rfl,rfl,rfl,by simp,λk q _=>mF w.drew _ k q⟩⟩;simp;have e:G.length+1=(G.map iv++[iv x]).length:=by simp
  rw[List.append_cons,e,List.take_left]
 obtain⟨rfl,rfl⟩|⟨gb,go,cap,cur,rfl,hb,hg,hnc,hcs,htake⟩:=h;have y:=run_append_nil (P:=P) w t D 3 i z C A J ad 1 c [iv x] (by simp[f]) b (by omega) (by omega) (by rw[p];omega);have d:=l 0 (by omega);simp only[List.length_nil,Nat.zero_add,List.map_nil]at d;refine⟨_,_,_,_,y,?_,d.2 _,.inr rfl,by simp⟩;simpa using d.1;by_cases g:G.length+1<=cap
 ·have H:=run_firstCells_some (P:=P) w i.size 1 ad 1 c [iv x] (by simp[f]) b;rw[f]at H;have m:=run_storeCells_at P gb (go+G.length) 3 [iv x] 0 cur w hg (by simp;omega) (by intro v F;simp at F;subst F;rfl);simp only[Nat.add_zero,List.length_cons,List.length_nil,Nat.zero_add]at m;refine⟨gb,go,cap,w.setRow gb (cur.toList.take (go+G.length)++[iv x]++cur.toList.drop (go+G.length+1)).toArray,?_,.inr ⟨gb,go,cap,_,by simp,hb,setRow_heap w gb cur _ 3 _ hg,by simpa using g,?_,?_⟩,⟨rfl,rfl,rfl,by simp,λk _ q=>setRow_other w gb k _ (λe=>q (by simp[Value.ownBlock,e]))⟩,.inl rfl,?_⟩
  ·simp only[List.append_assoc,List.singleton_append]at m ⊢;simp[Builtin.append_,run_underlying C,sizeOf,typeInfo,A,Builtin.lenOf,g,H,Addr.add_lit,m,f]
  simp;omega;have:=d0o cur.toList go G.length (iv x) (G.map iv) htake (by simp) (by simp;omega);simpa using this;have:=(nU.1 hg).1;simpa using this
 have y:=run_append_grow (P:=P) w t D 3 i z C A J (aA gb go) G.length cap (G.map iv) (by simp[f]) (λj u n=>by
   have s:j<G.length:=by have:=(List.getElem?_eq_some_iff.1 n).1;simpa using this
   have:((aA gb go):Addr).add j=(aA gb (go+j)):=by unfold Addr.add;split <;> simp_all
   rw[this,cell_of_row w gb (go+j) cur _ _ hg,<-qB];have I:((cur.toList.drop go).take G.length)[j]?=(G.map iv)[j]?:=by rw[htake]
   rw[List.getElem?_take_of_lt s,List.getElem?_drop]at I;rw[I];exact n) ad 1 c [iv x] (by simp[f]) b (by omega) (by omega) (growslice_fits (by omega) (by rw[p];omega))
 have d:=l cap (by omega);exact⟨_,_,_,_,y,d.1,d.2 _,.inr rfl,by simp⟩
theorem b1e{P:Program}(w:World){ops:Array Oper}{o:Oper}{a:Act}{K:Act->World->Prop}{Q:Exit->Act->World->Prop}{E:Prop}(d:o.guard=none)(s x:Operand)(t:TypeId)
  (u:o.op=.call { callee:=.builtin .append,args:=#[s,x],argTypes:=#[t,t] }) (i:TypeInfo) (z:Value) (B:Nat) (v:Value) (G:List Int) (D:P.underlying t=some (.slice 3)) (A:P.info? 3=some i) (C:i.zero=some z) (b:i.size=1) (e:i.bytes=8) (f:z.cells.size=1) (H:a.eval s=v) (h:Grw w B v G) (ad:Addr) (c:Nat) (y:Int) (r:a.eval x=.slice (some ad) 1 c) (p:w.cell? ad=some (iv y)) (I:G.length<=1048576) (q:B<=w.heap.size)
  (F:∀gb go cap w',Grw w' B (sO gb go (G.length+1) cap) (G++[y])->w.grownBy w' v.ownBlock->(v.ownBlock=some gb\/gb=w.heap.size)->gb<w'.heap.size->K (a.put o.dst (sO gb go (G.length+1) cap)) w') :
  if Region.wanted o (yielded ops a.tmps)=true then Oper.wp P o a w K Q else E:=by
 have l:Region.wanted o (yielded ops a.tmps)=true:=by simp[Region.wanted,d]
 rw[if_pos l];have⟨gb,go,cap,w',n,j,g,k,m⟩:=d0p (P:=P) w t o.type i z B v G D A C b e f h ad c y p I q;unfold Oper.wp execOp;simp only[u,resolve,invoke,builtin,Sem.run_bind,Sem.run_pure,Result.andThen_ok,List.map_toArray,List.map_cons,List.map_nil,H,r,n];exact F gb go cap w' j g k m
theorem a5i(cs:List Cl)(k:Nat)(h:k<cs.length):dZ (cs.take (k+1))=dZ (cs.take k)+cL cs[k]:=by
 unfold dZ;rw[kx h];simp only[List.map_append,List.sum_append,List.map_cons,List.map_nil,List.sum_cons,List.sum_nil,Nat.add_zero]
theorem c0a(x:Hp)(b:Nat)(w:World)(h:HAt w b x ar kr ac kc ag kg)(M:x.A.length<=8000)(t:∀i,i<x.A.length->(x.c i).F.length<=200):
  Calls prog 60 #[pP b] w λe w'=>e=.returned (iv (dZ x.A))/\Ext w w':=by
 have K:=h.c4;go_in;go_wp21;go_loopw [3,11] (λn i wr=>∃(k:Nat)(u:Nat),k<=x.A.length/\i=iv k/\n=iv u/\Hid (u=dZ (x.A.take k))/\u<=201*k/\Ext w wr) (λ_ i _=>x.A.length-(intOf i).toNat)
 case atStart=>exact⟨0,0,kB _,rfl,rfl,by show _=_;simp[dZ],by omega,hO _⟩
 case round=>
  obtain⟨k,u,v,rfl,rfl,l,s,a⟩:=hrel;by_cases g:k<x.A.length
  ·obtain⟨L,o,z,E,rfl,J,y,A,F,G,B,D,I,C,P⟩:=(h.ext a).cell k g;have q:=t k g;have r:=i0N k;have p:(k:Int)<(x.A.length:Int):=by omega
   have d:=a5i x.A k g;rw[Hp.c_eq]at d;cases m:((x.c k).st == 1)
   ·have f:¬(x.c k).st=1:=by simpa using m
    have H:Hid (u=dZ (x.A.take (k+1))):=by have:=uH l;show _=_;rw[d,cL,if_neg f];omega
    go_wp2;go_roundw
    case rel=>exact⟨k+1,u,by omega,by go_num,rfl,H,by omega,a.alloc _⟩
    simp[intOf];omega
   have f:(x.c k).st=1:=by simpa using m
   have H:Hid (u+(1+(x.c k).F.length)=dZ (x.A.take (k+1))):=by have:=uH l;show _=_;rw[d,cL,if_pos f];omega
   go_wp2;go_roundw
   case rel=>exact⟨k+1,u+(1+(x.c k).F.length),by omega,by go_num,by go_num,H,by omega,a.alloc _⟩
   simp[intOf];omega
  have j:k=x.A.length:=by omega
  go_wp2;go_ret;exact⟨by rw[<-(show u=dZ x.A by have:=uH l;rw[j,mG]at this;exact this)];rfl,a⟩
theorem b6n(x:Hp)(b:Nat)(w:World)(h:HAt w b x ar kr ac kc ag kg):
  Calls prog 65 #[pP b] w λe w'=>∃r:Bool,e=.returned (.bool r)/\(r=true↔R8 x)/\Ext w w':=by
 have Q:=h.c4;have T:=h.lc;go_in;go_wp21;go_loopw [10] (λi wr=>∃(k:Nat),k<=x.A.length/\i=iv k/\(∀j,j<k->¬(x.E=6/\x.I<=j/\(x.c j).st=2))/\Ext w wr) (λi _=>x.A.length-(intOf i).toNat)
 case atStart=>exact⟨0,kB _,rfl,λj v=>by omega,hO _⟩
 case round=>
  obtain⟨k,z,rfl,l,a⟩:=hrel;have HA:=uU l;by_cases g:k<x.A.length
  ·have m:=h.ext a;obtain⟨R,o,C,I,rfl,O,B,D,J,K,E,H,M,G,P⟩:=m.cell k g;have s:=m.c5;have L:=m.c6;have A:=cLt s;have u:=i0N k;have t:(k:Int)<(x.A.length:Int):=by omega
   have d:¬(x.E=6/\x.I<=k/\(x.c k).st=2)->Hid (∀j,j<k+1->¬(x.E=6/\x.I<=j/\(x.c j).st=2)):=λy j v=>by
    by_cases e:j=k;subst e;exact y;exact HA j (by omega)
   cases q:(x.E == 6)
   ·have S:=d (by simp at q;omega);go_wp2;go_roundw
    case rel=>exact⟨k+1,by omega,by go_num,S,a.alloc _⟩
    simp[intOf];omega
   cases p:decide (x.I<=(k:Int))
   ·have S:=d (by simp at p;omega);go_wp2;go_roundw
    case rel=>exact⟨k+1,by omega,by go_num,S,a.alloc _⟩
    simp[intOf];omega
   cases n:((x.c k).st == 2)
   ·go_wp2;go_roundw
    case rel=>exact⟨k+1,by omega,by go_num,uH (d (by simp at n;omega)),a.alloc _⟩
    simp[intOf];omega
   go_wp2;go_ret;exact⟨false,rfl,fNo (show ¬R8 x from λr=>r k g ⟨by simpa using q,by simpa using p,by simpa using n⟩),a.alloc _⟩
  go_wp2;go_ret;exact⟨true,rfl,⟨λ_=>(show R8 x from λi F=>uH HA i (by omega)),λ_=>rfl⟩,a⟩
theorem cK.set9(h:cK w B x vr vc vg)(u:Int):cK (w.setCell ⟨B,9,none⟩ (iv u)) B { x with per:=u } vr vc vg:=h.st 9 _ rfl
theorem cK.set10(h:cK w B x vr vc vg)(u:Int):cK (w.setCell ⟨B,10,none⟩ (iv u)) B { x with V:=u } vr vc vg:=h.st 10 _ rfl
structure Cpl(w w4 wr:World)(x:Hp)(vr vc vg:Value)(pv vp:Nat->Value)(k:Nat):Prop where
 bx:cK wr w.heap.size x vr vc vg
 s:∀q,q<x.A.length->S7 wr (qW vc) (q*8) (x.c q)
 p7:∀q,q<x.A.length->wr.cell? ⟨qW vc,q*8+7,none⟩=some (if q<k then pv q else vp q)
 pr:∀q,q<x.A.length->q<k->wr.ownsRow w4.heap.size 53 6 (pv q) (x.c q).F.length ((x.c q).F.flatMap fP)
 dp:∀q q',q<k->q'<k->q≠q'->∀b,(pv q).ownBlock=some b->(pv q').ownBlock≠some b
 on:uZ (λq=>q=qW vc/\0<x.A.length) w4 wr
 nf:0<x.A.length->Nf1 (qW vc) wr
theorem Cpl.step{wr w5:World}{v':Value}{pv vp:Nat->Value}(h:Cpl w w4 wr x vr vc vg pv vp k)(D:k<x.A.length)(B:w.heap.size+2<=qW vc/\qW vc<w4.heap.size)(e:Ext wr w5)(o:w5.ownsRow wr.heap.size 53 6 v' (x.c k).F.length ((x.c k).F.flatMap fP)):
  Cpl w w4 (w5.setCell (aA (qW vc) (k*8+7)) v') x vr vc vg (λq=>if q=k then v' else pv q) vp (k+1):=by
 have z:=h.on.size;have n:∀b,b≠qW vc->(w5.setCell (aA (qW vc) (k*8+7)) v').heap[b]?=w5.heap[b]?:=λb a=>kP _ _ _ _ a
 refine⟨(h.bx.ext e).far _ _ _ (.inl (by omega)),λq d=>?_,λq d=>?_,λq d f=>?_,λq u d y r b a=>?_,?_,λA=>((h.nf A).ext e).set _ _⟩;refine(h.s q d).of λj C=>?_
 rw[uC _ (.inr (by omega))];exact e.cell (p:=(aA (qW vc) _)) (by show qW vc<_;omega);by_cases f:q=k
 ·subst f;rw[if_pos (by omega),if_pos rfl];exact kM _ _ _ (e.keep (h.p7 q d))
 rw[uC _ (.inr (by omega)),if_neg f];have:=e.keep (h.p7 q d);rw[this];by_cases l:q<k
 ·rw[if_pos l,if_pos (by omega)]
 rw[if_neg l,if_neg (by omega)];by_cases m:q=k
 ·subst m;simp only[if_pos];exact a3q (uN o (λb a=>n b (by have:=(o.lt b a).1;omega))) z
 simp only[if_neg m];have g:=h.pr q d (by omega);exact uN g (λb a=>(n b (by have:=(g.lt b a).1;omega)).trans (e.block b (g.lt b a).2));by_cases v:q=k <;> by_cases t:u=k
 ·omega
 rw[if_pos v]at a;rw[if_neg t];intro i;have:=(o.lt b a).1;have:=((h.pr u (by omega) (by omega)).lt b i).2;omega;rw[if_neg v]at a;rw[if_pos t];intro i;have:=(o.lt b i).1;have:=((h.pr q (by omega) (by omega)).lt b a).2;omega;rw[if_neg v]at a;rw[if_neg t];exact h.dp q u (by omega) (by omega) r b a;exact(h.on.trans (uZ.of_ext e)).setCell ⟨rfl,by omega⟩ _
theorem CvAt.ext{w w':World}(e:Ext w w'){b o:Nat}{z:Cl×Value}(h:CvAt w b o z):CvAt w' b o z:=λj c=>by
 have:=h j c;cases a:(fC z)[j]? with
 | none=>match j,c with|0,_|1,_|2,_|3,_|4,_|5,_|6,_|7,_=>simp[fC]at a
 | some y=>rw[a]at this;exact e.keep this
theorem Cpl.V{v4:Value}{L:List (Cl×Value)}(k:L.map (·.1)=x.A)(i:cK w4 w.heap.size x vr v4 vg)(e:w4.ownsRow B 51 8 vc L.length (L.flatMap fC))(n:w.heap.size<B):
  Cpl w (w4.setCell (aA w.heap.size 4) vc) (w4.setCell (aA w.heap.size 4) vc) x vr vc vg (λ_=>.slice none 0 0) (λq=>(L.getD q (Cl0,.slice none 0 0)).2) 0:=by
 have b:L.length=x.A.length:=by rw[<-k,mh]
 have g:∀q,q<x.A.length->∀j,j<8->(w4.setCell (aA w.heap.size 4) vc).cell? (aA (qW vc) (q*8+j))=(fC (L.getD q (Cl0,.slice none 0 0)))[j]?:=λq a j h=>by
  have d:=b1d e (by omega);rw[uC _ (.inl (by have:=d.2;omega)),a6i (f:=fC) (λ_=>rfl) e q (by omega) j h];congr 2;simp[b,a]
 have d:∀q,q<x.A.length->(L.getD q (Cl0,.slice none 0 0)).1=x.c q:=λq a=>by grind[uZ.A,QFr.A,Cl0,Hp.c,Hp.c_eq,cK,fC]
 refine⟨i.set4 vc,λq a=>?_,λq a=>?_,λq _ a=>by omega,λq l a=>by omega,uZ.refl _ _,λm=>(b1d e (by omega)).1.set _ _⟩;have:=g q a;rw[<-d q a];exact⟨this 0 (by omega),this 1 (by omega),this 2 (by omega),this 3 (by omega),this 4 (by omega),this 5 (by omega),this 6 (by omega)⟩;rw[if_neg (by omega)];exact g q a 7 (by omega)
def CapP(x:Hp)(pk:Nat->Nat):Prop:=∀q,q<x.A.length->(x.c q).F.length<=pk q
theorem d2b(h:w.ownsRow B t c v n xs):n<=kQ v:=by
 obtain⟨rfl,rfl⟩|⟨g,cap,cur,rfl,_,_,h4,_⟩:=h.2;exact hT _;exact h4
def HOwn(B:Nat)(w:World)(x:Hp)(vr vc:Value):Prop:=∃br bc pb pa pk ar kr ac kc,vr=.slice ar x.B.length kr/\(0<x.B.length->ar=some ⟨br,0,none⟩)/\vc=.slice ac x.A.length kc/\(0<x.A.length->ac=some ⟨bc,0,none⟩)/\Rws B w x br bc pb pa pk/\CapP x pk
theorem c4w(x:Hp)(M:Option Addr)(K N:Nat)(w:World){ar:Option Addr}{kr:Nat}{ac:Option Addr}{kc:Nat}(hR:SlW w (.slice ar x.B.length kr) x.B)(hC:SlC w (.slice ac x.A.length kc) x.A)(n1:x.B.length<=1048576)(n2:x.A.length<=8000)(n3:∀q,q<x.A.length->(x.c q).F.length<=200):
  Calls prog 50 #[x.v (.slice ar x.B.length kr) (.slice ac x.A.length kc) (.slice M K N)] w λe w'=>∃vr vc,e=.returned (x.v vr vc (.slice M K N))/\Hid (HOwn w.heap.size w' x vr vc)/\Ext w w':=by
 have⟨L,hL,ab,an⟩:=d0n hC;have y:L.length=x.A.length:=by rw[<-hL,mh]
 have xa:=(eAl w (oHp x (.slice ar x.B.length kr) (.slice ac x.A.length kc) ((.slice M K N)))).alloc (oH0);go_in;go_wp21;refine(c3v x.B _ _ (SlW.ext xa hR) n1).mono ?_;rintro e t ⟨vr,rfl,X,Q⟩;have⟨l,n,aj⟩:∃a k,vr=.slice a x.B.length k:=⟨_,_,(a0d X).1⟩;subst aj;have ay:w.heap.size+2<=t.heap.size:=by have:=Q.size;simp at this;omega
 have B3:=uU (((cK.new w x (.slice ar x.B.length kr) (.slice ac x.A.length kc) (.slice M K N) 27).ext (eAl _ (oH0))).ext Q);have OR:=uU X;have c3:=B3.2.2.2.1;have c4:=B3.2.2.2.2.1;have fz:∀o,t.frozen? ⟨w.heap.size,o,none⟩=false:=λo=>((cE Q).2 w.heap.size o (by simp;omega)).trans (by simp[go_sem])
 have f3:=fz 3;go_wp21;have V:Ext w (t.setCell ⟨w.heap.size,3,none⟩ (.slice l x.B.length n)):=(xa.trans Q).setCell (hT _) _;refine(c3y L _ _ (by rw[<-y];exact(show yH (CvAt _) 8 (.slice ac L.length kc) L from by have:=ab;rw[<-y]at this;exact this.mono λ_ _ _ k=>k.ext V)) (λz hz=>slP_one (an z hz)) (by omega)).mono ?_;rintro e J ⟨vc,rfl,E,O⟩;obtain⟨m,j,ao⟩:∃a k,vc=.slice a x.A.length k:=⟨_,_,by have:=(a0d E).1;rw[y]at this;exact this⟩;subst ao;have D:(t.setCell ⟨w.heap.size,3,none⟩ (.slice l x.B.length n)).heap.size=t.heap.size:=by simp[World.setCell]
 have B4:=uU ((B3.set3 (.slice l x.B.length n)).ext O);have ST:=uU (Cpl.V hL B4 E (by omega));have CB:=uU (a0d E).2;have U:=λh=>b1d E h;have bb:t.heap.size<=J.heap.size:=by have:=O.size;omega
 have d4:=B4.2.2.2.2.1;have g4:J.frozen? ⟨w.heap.size,4,none⟩=false:=((cE O).2 w.heap.size 4 (by omega)).trans (by rw[ki];exact fz 4);have bf:∀o,J.frozen? ⟨w.heap.size,o,none⟩=false:=λo=>((cE O).2 w.heap.size o (by omega)).trans (by rw[ki];exact fz o);go_wp21;have⟨W5,H⟩:∃W,W=J.setCell ⟨w.heap.size,4,none⟩ (.slice m x.A.length j):=⟨_,rfl⟩;rw[<-H]at ST ⊢;have s5:W5.heap.size=J.heap.size:=by rw[H];simp[World.setCell]
 have X5:Ext w W5:=by rw[H];exact (V.trans O).setCell (hT _) _
 go_loopw [15] (λi wr=>∃(k:Nat)(pv:Nat->Value),k<=x.A.length/\i=.int .i64 k/\Hid (Cpl w W5 wr x (.slice l x.B.length n) (.slice m x.A.length j) (.slice M K N) pv (λq=>(L.getD q (Cl0,.slice none 0 0)).2) k)) (λi _=>x.A.length-(intOf i).toNat)
 case atStart=>exact⟨0,_,kB _,rfl,ST⟩
 case round=>
  obtain⟨k,pv,hk,rfl,f⟩:=hrel;by_cases r:k<x.A.length
  ·have⟨bc,am⟩:∃bc,m=some ⟨bc,0,none⟩:=⟨_,(CB (by omega)).1⟩;subst am;have av:t.heap.size<=bc/\bc<J.heap.size:=by have C:=(U (by omega)).2;have h2:=(U (by omega)).1.1;rw[D]at C;exact⟨C,h2⟩
   have XR:Ext w wr:=f.on.ext X5 (λq p e=>by have e1:q=bc:=e.1;omega);have hm:L.getD k (Cl0,.slice none 0 0)∈L:=by
    have:L.getD k (Cl0,.slice none 0 0)=L[k]'(by omega):=by simp[y,r]
    rw[this];exact k7 _
   have C:(L.getD k (Cl0,.slice none 0 0)).1=x.c k:=by
    have e:x.A[k]=(L.map (·.1))[k]'(by simpa[y]using r):=by simp[uH hL]
    rw[<-Hp.c_eq x k r,e];simp[y,r]
   have G:=uH an _ hm;rw[C]at G;have⟨aa,af,T⟩:∃a c,(L.getD k (Cl0,.slice none 0 0)).2=.slice a (x.c k).F.length c:=let ⟨a,c,e,_⟩:=G;⟨a,c,e⟩;rw[T]at G;have p7:wr.cell? ⟨bc,k*8+7,none⟩=some (.slice aa (x.c k).F.length af):=by
    have:=f.p7 k r;rw[if_neg (by omega),T]at this;exact this
   have c4:wr.cell? ⟨w.heap.size,4,none⟩=some (.slice (some ⟨bc,0,none⟩) x.A.length j):=f.bx.2.2.2.2.1;have f7:wr.frozen? ⟨bc,k*8+7,none⟩=false:=(f.nf (by omega)).2 _;have be:=n3 k r;have bl:=i0N k;have ba:(k:Int)<(x.A.length:Int):=by omega
   have A:¬w.heap.size=bc:=by omega
   have aw:¬bc=w.heap.size:=by omega
   go_wp21;go_region_with (go_at_call 108;refine(c3w (x.c k).F _ _ (SlP.ext XR.drew G) (by omega)).mono ?_;rintro e w6 ⟨v',rfl,Y,P⟩;have⟨a',k',ai⟩:∃a c,v'=.slice a (x.c k).F.length c:=⟨_,_,(a0d Y).1⟩;subst ai;have P:=kI (eDr wr) P;have d4:=P.keep c4;have d7:=P.keep p7;have g7:=((cE P).2 bc (k*8+7) (cLt p7)).trans f7;have R:=f.step r ⟨by show w.heap.size+2<=bc;omega,by show bc<_;omega⟩ P Y);all_goals
    go_wp2;go_roundw
    case rel=>exact⟨k+1,_,by omega,by go_num,R⟩
    simp[intOf];omega
  have ap:k=x.A.length:=by omega
  subst ap;have XR:Ext w wr:=f.on.ext X5 (λq p e=>by
   have e1:q=qW (.slice m x.A.length j):=e.1;have C:=(U (by have:=e.2;omega)).2;rw[D]at C;omega)
  have u:0<x.A.length->t.heap.size<=qW (.slice m x.A.length j)/\qW (.slice m x.A.length j)<J.heap.size:=λh=>by
   have C:=(U (by omega)).2;rw[D]at C;exact⟨C,(U (by omega)).1.1⟩
  have WB:∀b,b<t.heap.size->b≠w.heap.size->wr.heap[b]?=t.heap[b]?:=λb B A=>by
   have e1:J.heap[b]?=t.heap[b]?:=(O.block b (D▸B)).trans (kP _ _ _ _ A);have e2:W5.heap[b]?=J.heap[b]?:=by rw[H];exact kP _ _ _ _ A
   exact(f.on.block b (by omega) (λe=>by have e1:b=qW (.slice m x.A.length j):=e.1;have:=(u e.2).1;omega)).trans (e2.trans e1)
  have Z:=uU (show Rws (w.heap.size+2) wr x _ _ _ _ _ from by
   have I:∀b,(Value.slice l x.B.length n).ownBlock=some b->w.heap.size+2<=b/\b<t.heap.size:=λb B=>by have:=OR.lt b B;simp at this;omega
   have bi:qW (.slice l x.B.length n)<t.heap.size:=by
    unfold qW;cases e:(Value.slice l x.B.length n).ownBlock with
    | none=>simp;omega
    | some b=>simp;exact(I b e).2
   refine Rws.of (vr:=.slice l x.B.length n) (bc:=qW (.slice m x.A.length j)) (pv:=pv) (uN (a3q OR (by simp)) (λb B=>WB b (I b B).2 (by have:=(I b B).1;omega))) f.s (λq p=>by have:=f.p7 q p;rw[if_pos p]at this;exact this) (λh=>⟨f.nf h,by have:=(u h).1;omega⟩) (λh=>by have:=(u h).1;omega) (λq p=>⟨a3q (f.pr q p p) (by omega),λb B=>?_⟩) (λq q' p ae A b B=>f.dp q q' p ae A b B);have C:=((f.pr q p p).lt b B).1;have h2:=u (by omega);omega)
  have d:∀o v,((w.alloc (oHp x (.slice ar x.B.length kr) (.slice ac x.A.length kc) ((.slice M K N)))).alloc (oH0)).cell? ⟨w.heap.size+1,o,none⟩=some v->wr.cell? ⟨w.heap.size+1,o,none⟩=some v:=λo v h=>
   (kT (a:=⟨w.heap.size+1,o,none⟩) (WB (w.heap.size+1) (by omega) (by omega))).trans ((show ∀o v,((w.alloc (oHp x (.slice ar x.B.length kr) (.slice ac x.A.length kc) ((.slice M K N)))).alloc (oH0)).cell? ⟨w.heap.size+1,o,none⟩=some v->t.cell? ⟨w.heap.size+1,o,none⟩=some v from λo v h=>Q.keep h) o v h)
  have g:∀o,wr.frozen? ⟨w.heap.size+1,o,none⟩=false:=λo=>(mR (a:=⟨w.heap.size+1,o,none⟩) (WB (w.heap.size+1) (by omega) (by omega))).trans ((show ∀o,t.frozen? ⟨w.heap.size+1,o,none⟩=false from λo=>((cE Q).2 (w.heap.size+1) o (by simp)).trans (by simp[go_sem])) o)
  have r0:=d 0 (iv 0) (by simp[go_sem]);have f0:=g 0;have f1:=g 1;have f2:=g 2;have f3:=g 3;have f4:=g 4;have f5:=g 5;have f6:=g 6;have f7:=g 7;have f8:=g 8;have f9:=g 9;have ax:=g 10;have bj:=g 11;have bd:=g 12;have⟨b0,b1,b2,b3,b4,b5,b6,b7,b8,b9,bk,bh,bg⟩:=f.bx;have I:=cLt b0;have az:w.heap.size+1<wr.heap.size:=uQ r0;go_wp2;refine bodyPost_ret (v:=x.v (.slice l x.B.length n) (.slice m x.A.length j) (.slice M K N)) (by simp[results,results50,go_sem,r0,d 1 (iv 0) (by simp[go_sem]),d 2 (iv 0) (by simp[go_sem]),d 3 (.slice none 0 0) (by simp[go_sem]),d 4 (.slice none 0 0) (by simp[go_sem]),d 5 (iv 0) (by simp[go_sem]),d 6 (iv 0) (by simp[go_sem]),d 7 (iv 0) (by simp[go_sem]),d 8 (.slice none 0 0) (by simp[go_sem]),d 9 (iv 0) (by simp[go_sem]),d 10 (iv 0) (by simp[go_sem]),d 11 (iv 0) (by simp[go_sem]),d 12 (iv 0) (by simp[go_sem])]) rfl ⟨_,_,rfl,?_⟩;refine(λ(F:uZ (λq=>q=w.heap.size+1) wr _)=>⟨⟨_,_,_,_,_,_,_,_,_,rfl,λh=>((a0d OR).2 h).1,rfl,λh=>(CB (by omega)).1,(Z.only F (λh e=>by have:=(Z.nr h).2;omega) (λh e=>by have:=(Z.nc h).2;omega) (λq p hl e=>by have:=(Z.pl q p hl).2.2.2;omega)).less (by omega),(show CapP x (λq=>kQ (pv q)) from λq p=>d2b (f.pr q p p))⟩,F.ext XR (λq p e=>by omega)⟩) ?_;repeat (first|refine uZ.setCell ?_ (by simp) _|exact uZ.refl _ _)
structure Rwn(B:Nat)(w:World)(x:Hp)(br:Nat)(cB cO:Nat->Nat)(pb:Nat->Nat)(pa:Nat->Option Addr)(pk:Nat->Nat):Prop where
 r:∀i (hi:i<x.B.length),yD w br (i*3) x.B[i]
 s:∀q,q<x.A.length->S7 w (cB q) (cO q) (x.c q)
 p7:∀q,q<x.A.length->w.cell? ⟨cB q,cO q+7,none⟩=some (.slice (pa q) (x.c q).F.length (pk q))
 p:∀q,q<x.A.length->∀k,k<(x.c q).F.length->qY w (pb q) (k*6) ((x.c q).p k)
 pl:∀q,q<x.A.length->0<pk q->pa q=some ⟨pb q,0,none⟩/\Nfp (pb q) (pk q) w/\(pb q≠br/\∀j,j<x.A.length->pb q≠cB j)/\B<=pb q
 nr:0<x.B.length->Nf1 br w/\B<=br
 nc:∀q,q<x.A.length->Nf1 (cB q) w/\B<=cB q
 d:∀q,q<x.A.length->br≠cB q
 dp:∀q q',q<x.A.length->q'<x.A.length->q≠q'->0<pk q->0<pk q'->pb q≠pb q'
 dc:∀q q',q<x.A.length->q'<x.A.length->q≠q'->cB q≠cB q'\/cO q+8<=cO q'\/cO q'+8<=cO q
 kp:CapP x pk
theorem Rwn.pw(h:Rwn B w x br cB cO pb pa pk)(b:q<x.A.length)(a:0<(x.c q).F.length):0<pk q:=kF a (h.kp q b)
theorem Rwn.same(h:Rwn B w x br cB cO pb pa pk)(l:w.heap.size<=w'.heap.size)
  (n:0<x.B.length->w'.heap[br]?=w.heap[br]?) (g:∀q,q<x.A.length->w'.heap[cB q]?=w.heap[cB q]?) (m:∀q,q<x.A.length->0<pk q->w'.heap[pb q]?=w.heap[pb q]?):Rwn B w' x br cB cO pb pa pk where
 r:=λi o=>(h.r i o).of λj _=>cOb br _ (n (by omega))
 s:=λq e=>(h.s q e).of λj _=>cOb (cB q) _ (g q e)
 p7:=λq e=>(cOb (cB q) _ (g q e)).trans (h.p7 q e)
 p:=λq e k t=>(h.p q e k t).of λj _=>cOb (pb q) _ (m q e (h.pw e (by omega)))
 pl:=λq e f=>let ⟨a,b,c⟩:=h.pl q e f;⟨a,eN b (m q e f) l,c⟩
 nr:=λf=>⟨uY (h.nr f).1 (n f) l,(h.nr f).2⟩
 nc:=λq e=>⟨uY (h.nc q e).1 (g q e) l,(h.nc q e).2⟩
 d:=h.d
 dp:=h.dp
 dc:=h.dc
 kp:=h.kp
theorem Rwn.ext(h:Rwn B w x br cB cO pb pa pk)(e:Ext w w'):Rwn B w' x br cB cO pb pa pk:=
 h.same e.size (λa=>e.block _ (h.nr a).1.1) (λq b=>e.block _ (h.nc q b).1.1) (λq b a=>e.block _ (h.pl q b a).2.1.1)
theorem Rwn.only{S:Nat->Prop}(h:Rwn B w x br cB cO pb pa pk)(e:uZ S w w')(f:0<x.B.length->¬S br)(c:∀q,q<x.A.length->¬S (cB q))(d:∀q,q<x.A.length->0<pk q->¬S (pb q)):Rwn B w' x br cB cO pb pa pk:=
 h.same e.size (λa=>e.block _ (h.nr a).1.1 (f a)) (λq b=>e.block _ (h.nc q b).1.1 (c q b)) (λq b a=>e.block _ (h.pl q b a).2.1.1 (d q b a))
theorem Rwn.slW(h:Rwn B w x br cB cO pb pa pk)(b:Nat)(c:0<x.B.length->ad=some (aA br 0))(d:x.B.length<=1048576):SlW w (.slice ad x.B.length b) x.B:=
 ⟨_,_,rfl,by omega,λi a=>⟨br,0,c (by omega),by rw[kO];exact h.r i a⟩⟩
theorem Rwn.far8(h:Rwn B w x br cB cO pb pa pk)(g:i<x.A.length)(c:q<x.A.length)(e:q≠i)(j:w.heap.size<=w1.heap.size)(o:uZ (λd=>d=cB i) w1 w2)(f:∀k,(k<cO i\/cO i+8<=k)->w2.cell? (aA (cB i) k)=w1.cell? (aA (cB i) k))(k:Nat)(l:k<8):w2.cell? (aA (cB q) (cO q+k))=w1.cell? (aA (cB q) (cO q+k)):=by
 by_cases b:cB q=cB i;rw[b];obtain d|d|d:=h.dc q i c g e
 ·exact(d b).elim
 exact f _ (by omega);exact f _ (by omega);exact cOb (cB q) _ (o.block (cB q) (kF (h.nc q c).1.1 j) b)
theorem a7i(h:Nf1 (cB q) w1)(n:Nf1 (cB i) w2)(o:uZ (λd=>d=cB i) w1 w2):Nf1 (cB q) w2:=by
 by_cases a:cB q=cB i;rw[a];exact n;exact uY h (o.block (cB q) h.1 a) o.size
theorem Rws.rwn(h:Rws B w x br bc pb pa pk):Rwn B w x br (λ_=>bc) (λq=>q*8) pb pa pk where
 r:=h.r
 s:=h.s
 p7:=h.p7
 p:=h.p
 pl:=λq f g=>let ⟨a,b,c,d⟩:=h.pl q f g;⟨a,b,⟨c.1,λ_ _=>c.2⟩,d⟩
 nr:=h.nr
 nc:=λq f=>h.nc (by omega)
 d:=λq f=>h.d (by omega)
 dp:=h.dp
 dc:=λq i _ _ e=>.inr (by omega)
 kp:=h.kp
end Go.Proofs.YtgkpaibbdkggiaaGreatDoor
namespace Go.Proofs.YtgkpaibbdkggiaaGreatDoor
open Go.RowKit Go.Extern.Stop Go.Stop Go.Extern Tryz
attribute [local go_sem ↓] Go.wp_at_zero Go.wp_at_succ
abbrev hdl(t:Nat):Value:=.pointer (some ⟨1,t,none⟩)
abbrev rty(t:Nat):Value:=.iface 220 (.agg #[hdl t])
theorem as_none(t:Value)(w:World):
  Calls prog 109 #[.nilIface,t] w λe w'=>e=.returned (.bool false)/\w'=w:=by
 go_in;go_wp2;go_ret;exact⟨rfl,rfl⟩
theorem as_vP(t:Addr)(w:World):(ReflectliteValue.unpack (.iface 148 (.pointer (some t)))).run prog w
  = .ok (.agg #[hdl 148,pP w.heap.size,.int .u64 150]) (w.alloc (.cells #[.pointer (some t)] 148)):=by kernel_rfl
theorem as_tP(a : Addr)(w : World): (ReflectliteValue.methodAny (ReflectliteValue.valueError "reflectlite.Value.Type" 0) (fun t _ _ _ => ReflectliteType.toType t) #[.agg #[hdl 148, .pointer (some a), .int .u64 150]]).run prog w
  = .ok (rty 148) w:=by kernel_rfl
theorem as_mK(h : Value)(w : World): (Go.method 395 220 (.agg #[h]) "Kind").run prog w = .ok (264, h) w := by kernel_rfl
theorem as_kP(w:World):((ReflectliteType.abiMethod λt=>Functor.map (λa:Nat=>Value.int IntKind.u8 (a:Int)) (Rtype.kind t)) #[hdl 148]).run prog w=.ok (.int .u8 22) w:=by kernel_rfl
theorem as_kR(w:World):((ReflectliteType.abiMethod λt=>Functor.map (λa:Nat=>Value.int IntKind.u8 (a:Int)) (Rtype.kind t)) #[hdl 146]).run prog w=.ok (.int .u8 25) w:=by kernel_rfl
theorem as_mE(h : Value)(w : World): (Go.method 395 220 (.agg #[h]) "Elem").run prog w = .ok (284, .agg #[h]) w := by kernel_rfl
theorem as_mI(h : Value)(w : World): (Go.method 395 220 (.agg #[h]) "Implements").run prog w = .ok (285, .agg #[h]) w := by kernel_rfl
theorem as_mA(h : Value)(w : World): (Go.method 395 220 (.agg #[h]) "AssignableTo").run prog w = .ok (282, .agg #[h]) w := by kernel_rfl
theorem as_eP(w:World):(ReflectliteType.method ReflectliteType.elem #[.agg #[hdl 148]]).run prog w=.ok (rty 146) w:=by kernel_rfl
theorem as_iR(w : World): (ReflectliteType.relation "Implements" ReflectliteType.implements_ #[.agg #[hdl 146], rty 112]).run prog w = .ok (.bool true) w := by kernel_rfl
theorem as_oR(v:Value)(w:World):(ReflectliteType.typeOf #[.iface 146 v]).run prog w=.ok (rty 146) w:=by kernel_rfl
theorem as_aR(w : World): (ReflectliteType.relation "AssignableTo" ReflectliteType.assignableTo #[.agg #[hdl 146], rty 146]).run prog w = .ok (.bool true) w := by kernel_rfl
theorem as_vR(c:Int)(w:World):(ReflectliteValue.unpack (.iface 146 (.agg #[iv c]))).run prog w
  = .ok (.agg #[hdl 146,pP w.heap.size,.int .u64 153]) (w.alloc (.cells #[iv c] 146)):=by kernel_rfl
theorem as_pP(a:Addr)(w:World):(ReflectliteValue.parts (.agg #[hdl 148,.pointer (some a),.int .u64 150])).run prog w=.ok (some (148,a,150)) w:=by kernel_rfl
theorem as_pR(a:Addr)(w:World):(ReflectliteValue.parts (.agg #[hdl 146,.pointer (some a),.int .u64 409])).run prog w=.ok (some (146,a,409)) w:=by kernel_rfl
theorem as_pS(a:Addr)(w:World):(ReflectliteValue.parts (.agg #[hdl 146,.pointer (some a),.int .u64 153])).run prog w=.ok (some (146,a,153)) w:=by kernel_rfl
theorem as_nP(a p:Addr)(W:World)(ha:W.cell? a=some (.pointer (some p))):
  (ReflectliteValue.method (ReflectliteValue.valueError "reflectlite.Value.IsNil" 0) ReflectliteValue.isNil #[.agg #[hdl 148, .pointer (some a), .int .u64 150]]).run prog W = .ok (.bool false) W := by
 delta ReflectliteValue.method ReflectliteValue.method.match_2;dsimp only[Array.getLit];rw[dif_pos (by rfl)];simp only[List.getElem_toArray,List.getElem_cons_zero,Sem.run_bind,as_pP,Result.andThen];simp[ReflectliteValue.isNil,loadVar,isAgg,underlying,underlying148,ha,Result.andThen]
theorem as_oP(w:World):(Rtype.elem? 148).run prog w=.ok (some 146) w:=by kernel_rfl
theorem as_kM(p:Addr)(w:World):(ReflectliteValue.mk 146 p ReflectliteValue.flagAddr).run prog w=.ok (.agg #[hdl 146,.pointer (some p),.int .u64 409]) w:=by kernel_rfl
theorem as_lP(a p:Addr)(W:World)(ha:W.cell? a=some (.pointer (some p))):
  (ReflectliteValue.method (ReflectliteValue.valueError "reflectlite.Value.Elem" 0) ReflectliteValue.elem #[.agg #[hdl 148, .pointer (some a), .int .u64 150]]).run prog W
   = .ok (.agg #[hdl 146,.pointer (some p),.int .u64 409]) W:=by
 delta ReflectliteValue.method ReflectliteValue.method.match_2;dsimp only[Array.getLit];rw[dif_pos (by rfl)];simp only[List.getElem_toArray,List.getElem_cons_zero,Sem.run_bind,as_pP,Result.andThen];simp[ReflectliteValue.elem,loadVar,isAgg,underlying,underlying148,ha,Result.andThen,as_oP,as_kM]
theorem as_dR(w:World):(Rtype.directlyAssignable 146 146).run prog w=.ok true w:=by kernel_rfl
theorem as_lR(B:Nat)(c:Int)(W:World)(a:W.cell? (aA B 0)=some (iv c)):(loadVar 146 (aA B 0)).run prog W=.ok (.agg #[iv c]) W:=by
 simp[loadVar,isAgg,underlying,loadCells,loadCellsFrom,Addr.add,a,Result.andThen]
theorem as_set(T B:Nat)(c:Int)(a:Value)(W:World)(b:W.cell? (aA B 0)=some (iv c))(e:W.cell? (aA T 0)=some a)(d:W.frozen? (aA T 0)=false):
  (ReflectliteValue.set #[.agg #[hdl 146,pP T,.int .u64 409],.agg #[hdl 146,pP B,.int .u64 153]]).run prog W
   = .ok (.tuple #[]) (W.setCell (aA T 0) (iv c)):=by
 delta ReflectliteValue.set ReflectliteValue.set.match_3;dsimp only[Array.getLit];rw[dif_pos (by rfl)];simp only[List.getElem_toArray,List.getElem_cons_zero,List.getElem_cons_succ,Sem.run_bind,as_pR,as_pS,Result.andThen];simp[ReflectliteValue.flagAddr,as_lR B c W b,Result.andThen,as_dR,storeVar,Value.cells,storeCells,Addr.add];rw[run_store prog W (aA T 0) _ _ (by rfl)];simp[e,d]
abbrev asU(w:World)(T:Nat):World:=(w.alloc (.cells #[pP T] 148)).alloc (.cells #[hdl 148,pP w.heap.size,.int .u64 150] 193)
abbrev asV(w:World)(T:Nat):World:=(asU w T).alloc (.cells #[hdl 148,pP w.heap.size,.int .u64 150] 193)
theorem as_hit(c:Int)(T:Nat)(old:Value)(w:World)(hg:w.cell? (aA 0 0)=some (rty 112))(ht0:w.cell? (aA T 0)=some old)(hf0:w.frozen? (aA T 0)=false):
  Calls prog 109 #[.iface 146 (.agg #[iv c]),.iface 148 (pP T)] w λev w'=>ev=.returned (.bool true)/\w'.cell? (aA T 0)=some (iv c)/\uZ (λq=>q=T) w w':=by
 have h6:=@run_callFunc_extern prog 170 _ (fun args=>ReflectliteValue.unpack (args.getD 0 (.tuple #[]))) func170 (by kernel_rfl) (by kernel_rfl) (by kernel_rfl) (by kernel_rfl);have h7 := @run_callFunc_extern prog 171 _ (ReflectliteValue.methodAny (ReflectliteValue.valueError "reflectlite.Value.Type" 0) (fun t _ _ _ => ReflectliteType.toType t)) func171 (by kernel_rfl) (by kernel_rfl) (by kernel_rfl) (by kernel_rfl);have h8 := @run_callFunc_extern prog 172 _ (ReflectliteValue.method (ReflectliteValue.valueError "reflectlite.Value.IsNil" 0) ReflectliteValue.isNil) func172 (by kernel_rfl) (by kernel_rfl) (by kernel_rfl) (by kernel_rfl);have h27:=@run_callFunc_extern prog 264 _ (ReflectliteType.abiMethod fun t=>do pure (.int .u8 (←Rtype.kind t))) func264 (by kernel_rfl) (by kernel_rfl) (by kernel_rfl) (by kernel_rfl);have h37:=@run_callFunc_extern prog 284 _ (ReflectliteType.method ReflectliteType.elem) func284 (by kernel_rfl) (by kernel_rfl) (by kernel_rfl) (by kernel_rfl);have h38 := @run_callFunc_extern prog 285 _ (ReflectliteType.relation "Implements" ReflectliteType.implements_) func285 (by kernel_rfl) (by kernel_rfl) (by kernel_rfl) (by kernel_rfl);have h10:=@run_callFunc_extern prog 211 _ ReflectliteType.typeOf func211 (by kernel_rfl) (by kernel_rfl) (by kernel_rfl) (by kernel_rfl);have h35 := @run_callFunc_extern prog 282 _ (ReflectliteType.relation "AssignableTo" ReflectliteType.assignableTo) func282 (by kernel_rfl) (by kernel_rfl) (by kernel_rfl) (by kernel_rfl);have h11 := @run_callFunc_extern prog 212 _ (ReflectliteValue.method (ReflectliteValue.valueError "reflectlite.Value.Elem" 0) ReflectliteValue.elem) func212 (by kernel_rfl) (by kernel_rfl) (by kernel_rfl) (by kernel_rfl);have h12:=@run_callFunc_extern prog 213 _ ReflectliteValue.set func213 (by kernel_rfl) (by kernel_rfl) (by kernel_rfl) (by kernel_rfl);have tO:=as_oR;have mA:=as_mA;have a25:=as_aR;have v25:=as_vR;have f6:=as_vP;have f7:=as_tP;have mK:=as_mK;have mE:=as_mE;have mI:=as_mI;have k27:=as_kP;have k25:=as_kR;have e27:=as_eP;have i25:=as_iR;have hlt:=cLt hg;have htl:=cLt ht0;have n8:=as_nP (aA w.heap.size 0) (aA T 0) (asU w T) (by simp)
 have hg2:(asU w T).cell? (aA 0 0)=some (rty 112):=by
  exact(((hO w).alloc _).alloc _).keep hg
 have el:=as_lP (aA w.heap.size 0) (aA T 0) (asV w T) (by rw[World.cell?_alloc_lt _ _ (aA w.heap.size 0) (by simp;omega)];simp)
 have st:=as_set T (w.heap.size+1+1+1) c old ((asV w T).alloc (.cells #[iv c] 146))
  (by rw[World.cell?_alloc_at _ _ _ _ (by simp)];rfl)
  ((((((hO w).alloc _).alloc _).alloc _).alloc _).keep ht0)
  (by rw[qd _ _ (aA T 0) (by simp;omega),qd _ _ (aA T 0) (by simp;omega),qd _ _ (aA T 0) (by simp;omega),qd _ _ (aA T 0) (Nat.ne_of_lt htl)];exact hf0)
 have FIN:=uU (show(((asV w T).alloc (.cells #[iv c] 146)).setCell (aA T 0) (iv c)).cell? (aA T 0)=some (iv c)/\uZ (λq=>q=T) w (((asV w T).alloc (.cells #[iv c] 146)).setCell (aA T 0) (iv c)) from
  ⟨kM _ _ _ (((((hO w).alloc _).alloc _).alloc _).alloc _ |>.keep ht0),uZ.setCell (S:=λq=>q=T) (uZ.of_ext (((((hO w).alloc _).alloc _).alloc _).alloc _)) (p:=(aA T 0)) rfl _⟩)
 go_in
 go_wp2
 refine wp_loop_rounds 1 ?_;rw[rounds_succ]
 go_wp2
 go_ret;exact⟨rfl,FIN.1,FIN.2⟩
