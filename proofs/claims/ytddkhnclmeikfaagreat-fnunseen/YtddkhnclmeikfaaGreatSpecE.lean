import Derived.Test.YtddkhnclmeikfaaGreatVn
import Derived.Test.YtddkhnclmeikfaaGreatFr0
import Derived.Deep.LoopGhost
import Derived.OwnWalk
set_option maxRecDepth 100000
set_option maxHeartbeats 4000000
namespace Go.Proofs.YtddkhnclmeikfaaGreat
open Go.RowKit Tryz
attribute [local go_sem ↓] Go.wp_at_zero Go.wp_at_succ
variable{x:Hp}{w w' w2 a W:World}{v v' vw:Value}{base bs n kr kc kg g cap j i q:Nat}{L M L' N R:List Int}{y:Wd}{ar ac ag:Option Addr}{z:Int}
theorem a9b(y:Wd)(b:Nat)(w:World)(a:(y.k == 2)=false):
  Calls prog 138 #[pP b,y.v] w λe w'=>e=.returned y.v/\Ext w w':=by
 go_enter func138,ntmps138;go_wp2_with fail;go_quiet (fail);go_wp2;refine bodyPost_ret (v:=y.v) (by simp [results,results138,go_sem]) rfl ⟨rfl,?_⟩
 repeat (first | exact Ext.refl _ | refine Ext.drewN ?_ _ | refine Ext.alloc ?_ _ | refine Ext.setCell ?_ (by show w.heap.size<=w.heap.size+1;omega) _)
theorem b4q(x:Hp)(b i:Nat)(w:World)(h:HAt w b x ar kr ac kc ag kg)(j:i<x.A.length)(q:((x.c i).st == 2)=false):
  Calls prog 138 #[pP b,.agg #[iv 2,iv 0,iv i]] w λe w'=>e=.returned (.agg #[iv 2,iv 0,iv i])/\Ext w w':=by
 obtain⟨d,o,n,k,rfl,C⟩:=h.cell i j;have g:=C.p0;have a:=h.c4;have l:b<w.heap.size:=uL a;have f:d<w.heap.size:=uL g;have m:(0:Int)<=(i:Int):=by omega
 have p:(i:Int)<(x.A.length:Int):=by omega
 go_enter func138,ntmps138;go_wp2_with fail;go_quiet (fail);go_wp2;refine bodyPost_ret (v:=.agg #[iv 2,iv 0,iv i]) (by simp [results,results138,go_sem]) rfl ⟨rfl,?_⟩
 repeat (first | exact Ext.refl _ | refine Ext.drewN ?_ _ | refine Ext.alloc ?_ _ | refine Ext.setCell ?_ (by show w.heap.size<=w.heap.size+1;omega) _)
theorem b3r(x:Hp)(b i:Nat)(w:World)(h:HAt w b x ar kr ac kc ag kg)(j:i<x.A.length)(r:((x.c i).st == 2)=true):
  Calls prog 138 #[pP b,.agg #[iv 2,iv 0,iv i]] w λe w'=>e=.returned (.agg #[iv 2,iv 0,iv (x.c i).to])/\Ext w w':=by
 obtain⟨d,o,p,k,rfl,C⟩:=h.cell i j;have g:=C.p0;have n:=C.p6;have a:=h.c4;have l:b<w.heap.size:=uL a;have f:d<w.heap.size:=uL g;have m:(0:Int)<=(i:Int):=by omega
 have q:(i:Int)<(x.A.length:Int):=by omega
 go_enter func138,ntmps138;go_wp2_with fail;go_quiet (fail);go_wp2_with fail
 go_region
 all_goals
  go_wp2;refine bodyPost_ret (v:=.agg #[iv 2,iv 0,iv (x.c i).to]) (by simp [results,results138,go_sem]) rfl ⟨rfl,?_⟩
  repeat (first | exact Ext.refl _ | refine Ext.drewN ?_ _ | refine Ext.drew ?_ | refine Ext.alloc ?_ _ | refine Ext.setCell ?_ (by show w.heap.size<=w.heap.size+1;omega) _)
def zH(x:Hp)(i:Nat):Nat:=if ((x.c i).st == 2)=true then (x.c i).to.toNat else i
structure Sn(w:World)(base bs n:Nat)(v:Value)(L:List Int):Prop where
 hb:base<=bs/\bs<w.heap.size
 s:∀i,i<n->w.cell? ⟨bs,i,none⟩=some (.bool (decide ((i:Int)∈L)))
 f:∀i,i<n->w.frozen? ⟨bs,i,none⟩=false
 own:w.ownsRow base 3 1 v L.length (L.map iv)
 ap:v.ownBlock≠some bs
 nd:L.Nodup
 rg:∀z,z∈L->0<=z/\z<n
theorem Sn.ext(h:Sn w base bs n v L)(e:Ext w w'):Sn w' base bs n v L:=
 ⟨⟨h.hb.1,Nat.lt_of_lt_of_le h.hb.2 e.size⟩,λi a=>e.keep (h.s i a),λi a=>by rw[e.frozen (p:=(aA bs i)) h.hb.2];exact h.f i a,uN h.own (λk b=>e.block k (h.own.lt k b).2),h.ap,h.nd,h.rg⟩
theorem Sn.len(h:Sn w base bs n v L):L.length<=n:=by
 have b:∀z,z∈L->z∈(List.range n).map (λi:Nat=>(i:Int)):=λz a=>by
  have:=h.rg z a;exact List.mem_map.2 ⟨z.toNat,by simp;omega,by omega⟩
 have:=List.Nodup.length_le_of_subset h.nd b
 simpa using this
structure Mfr(bs:Nat)(v v':Value)(w w':World):Prop where
 os:w'.os=w.os
 tape:w'.tape=w.tape
 output:w'.output=w.output
 size:w.heap.size<=w'.heap.size
 block:∀k:Nat,k<w.heap.size->k≠bs->v.ownBlock≠some k->w'.heap[k]?=w.heap[k]?
 own:v'.ownBlock=v.ownBlock\/∃g,v'.ownBlock=some g/\w.heap.size<=g
theorem Mfr.of_ext(e:Ext w w'):Mfr bs v v w w':=⟨e.os,e.tape,e.output,e.size,λk a _ _=>e.block k a,.inl rfl⟩
theorem Mfr.after{w1:World}(e:Ext w w1)(q:Mfr bs v v' w1 w2):Mfr bs v v' w w2:=
 ⟨q.os.trans e.os,q.tape.trans e.tape,q.output.trans e.output,Nat.le_trans e.size q.size,λk a d c=>(q.block k (Nat.lt_of_lt_of_le a e.size) d c).trans (e.block k a),by
  rcases q.own with h | ⟨g,h,b⟩
  ·exact .inl h
  ·exact .inr ⟨g,h,Nat.le_trans e.size b⟩⟩
theorem Mfr.ext(q:Mfr bs v v' w w')(e:Ext a w)(d:a.heap.size<=bs)(c:∀k,v.ownBlock=some k->a.heap.size<=k):Ext a w':=
 Below.trans e ⟨q.os,q.tape,q.output,q.size,λk b=>q.block k (Nat.lt_of_lt_of_le b e.size) (by omega) (λh=>by have:=c k h;omega)⟩
theorem Sn.own2(h:Sn w base bs n v L)(b:Ext (w.setCell (aA bs j) (.bool true)) W):W.ownsRow base 3 1 v L.length (L.map iv):=
 uN h.own (λk a=>(b.block k (by simpa using (h.own.lt k a).2)).trans (Below.heap_setCell _ _ _ _ (show k≠bs from λe=>h.ap (e ▸ a))))
theorem Sn.add(h:Sn w base bs n v L)(H:j<n)(G:¬(j:Int)∈L)(o:Ext (w.setCell (aA bs j) (.bool true)) W)
  (l:w2.ownsRow base 3 1 (sS g (L.length+1) cap) (L.length+1) (L.map iv++[iv j])) (m:W.grownBy w2 v.ownBlock) (p:v.ownBlock=some g\/g=W.heap.size) :
  Sn w2 base bs n (sS g (L.length+1) cap) (L++[(j:Int)])/\Mfr bs v (sS g (L.length+1) cap) w w2:=by
 have D:w.heap.size<=W.heap.size:=by have:=o.size;simpa using this
 have A:W.heap.size<=w2.heap.size:=m.size
 have u:g≠bs:=by
  rcases p with e | e
  ·intro q;exact h.ap (q ▸ e)
  ·have:=h.hb.2;omega
 have c:∀k:Nat,k<w.heap.size->v.ownBlock≠some k->w2.heap[k]?=(w.setCell (aA bs j) (.bool true)).heap[k]?:=λk t y=>
  (m.block k (by omega) (λe=>y e.symm)).trans (o.block k (by simpa using t))
 have d:=c bs h.hb.2 h.ap;refine⟨⟨⟨h.hb.1,by have:=h.hb.2;omega⟩,λi r=>?_,λi r=>?_,by simpa using l,λe=>u (by simpa [Value.ownBlock] using e),?_,λz B=>?_⟩,⟨m.os.trans o.os,m.tape.trans o.tape,m.output.trans o.output,by omega,λk t F E=>?_,?_⟩⟩
 ·rw[World.cell?_of_block (w:=w.setCell (aA bs j) (.bool true)) (a:=(aA bs i)) d];by_cases e:i=j
  ·subst e;rw[World.cell?_setCell_same _ _ _ (h.s i r)];simp
  ·rw[uC _ (.inr (λq=>e q.symm)),h.s i r];simp only [List.mem_append,List.mem_singleton]
   congr 2
   exact decide_eq_decide.2 ⟨λq=>.inl q,λq=>by rcases q with q | q;exact q;omega⟩
 ·rw[World.frozen?_of_block (w:=w.setCell (aA bs j) (.bool true)) (a:=(aA bs i)) d,World.frozen?_setCell];exact h.f i r
 ·rw[List.nodup_append];exact⟨h.nd,by simp,λa C b x=>by simp at x;rw[x];intro e;exact G (e ▸ C)⟩
 ·rcases List.mem_append.1 B with q | q
  ·exact h.rg z q
  ·simp at q;omega
 ·rw[c k t E,Below.heap_setCell _ _ _ _ (show k≠bs from F)]
 ·rcases p with e | e
  ·exact .inl (by rw[e];rfl)
  ·exact .inr ⟨g,rfl,by omega⟩
theorem c0s:(prog.info? 3).map (λi=>(i.zero,i.size,i.bytes))=some (some (iv 0),1,8):=by kernel_rfl
theorem b0c(x:Hp)(b i:Nat)(w:World)(h:HAt w b x ar kr ac kc ag kg)(d:i<x.A.length)(g:(x.c i).st=2->0<=(x.c i).to):
  Calls prog 138 #[pP b,.agg #[iv 2,iv 0,iv i]] w λe w'=>e=.returned (.agg #[iv 2,iv 0,iv (zH x i)])/\Ext w w':=by
 cases a:((x.c i).st == 2)
 ·have:zH x i=i:=by simp only [zH,a];simp
  rw[this];exact b4q x b i w h d a
 ·have f:(x.c i).st=2:=by simpa using a
  have:((zH x i:Nat):Int)=(x.c i).to:=by simp only [zH,a];have:=g f;simp;omega
  rw[this];exact b3r x b i w h d a
theorem c6x(y:Wd)(b base a n:Nat)(v:Value)(L:List Int)(w:World)(j:Sn w base a n v L)(d:(y.k == 2)=false):
  Calls prog 137 #[pP b,sS a n n,v,y.v] w λe w'=>Hid (e=.returned v)/\Sn w' base a n v L/\Ext w w':=by
 have i:=uU j;have f:(y.k != 2)=true:=by simpa using d
 go_enter func137,ntmps137;go_wp2_with fail;refine(a9b y b _ d).mono ?_;rintro e g ⟨rfl,h⟩;have c:Ext w g:=Ext.trans ((Ext.refl w).alloc _) h;go_wp2;go_ret;exact⟨rfl,i.ext (c.alloc _),c.alloc _⟩
theorem c6y(x:Hp)(b i base o:Nat)(v:Value)(L:List Int)(w:World){ar:Option Addr}{kr:Nat}{ac:Option Addr}{kc:Nat}{ag:Option Addr}{kg:Nat}(h:HAt w b x ar kr ac kc ag kg)(U:i<x.A.length)(V:(x.c i).st=2->0<=(x.c i).to)(I:zH x i<x.A.length)(J:Sn w base o x.A.length v L)(X:base<=w.heap.size)(Y:x.A.length<=8000):
  Calls prog 137 #[pP b,sS o x.A.length x.A.length,v,.agg #[iv 2,iv 0,iv i]] w λe w'=>∃v' L',Hid (e=.returned v')/\Sn w' base o x.A.length v' L'/\Hid (((zH x i:Int)∈L/\L'=L)\/(¬(zH x i:Int)∈L/\L'=L++[(zH x i:Int)]))/\Mfr o v v' w w':=by
 obtain⟨T,y,A,r,z⟩:=info_parts c0s;have N:=uU J;have Q:=uU h;have F:=J.len;obtain⟨j,P⟩:∃j,zH x i=j:=⟨_,rfl⟩;have G:=uU (λW (e:Ext w W)=>b0c x b i W (Q.ext e) U V);rw[P] at G I ⊢;have j0:(0:Int)<=(j:Int):=by omega
 have j1:(j:Int)<(x.A.length:Int):=by omega
 go_enter func137,ntmps137;go_wp2_with fail;refine(G _ ((Ext.refl w).alloc _)).mono ?_;rintro e B ⟨rfl,M⟩;have q:Ext w B:=Ext.trans ((Ext.refl w).alloc _) M;have d:=uU (N.ext q);have C:=d.s j (by omega);have fj:=d.f j (by omega);have R:o<B.heap.size:=d.hb.2;by_cases l:(j:Int)∈L
 ·have E:decide ((j:Int)∈L)=true:=decide_eq_true l;rw[E] at C;go_wp2;go_ret;exact⟨v,L,rfl,d.ext ((Ext.refl B).alloc _),.inl ⟨l,rfl⟩,Mfr.of_ext (q.alloc _)⟩
 ·have E:decide ((j:Int)∈L)=false:=decide_eq_false l;rw[E] at C;go_wp2_with (at_builtin;refine wpList_append_lies _ rfl _ _ 32 rfl base 3 T (iv 0) 1 8 underlying32 y A r z rfl (by decide) v L.length (L.map iv) rfl (Sn.own2 (j:=j) d (((Ext.refl _).alloc _).alloc _)) _ 1 1 [iv j] rfl rfl ?c1 ?c2 (by decide) ?c3 ?c4 ?c5 _ rfl ?_)
  case c1=>
   intro k u p
   match k,p with
   | 0,p=>simp at p;subst p;simp [Addr.add,go_sem]
  case c2=>intro u D;simp at D;subst D;rfl
  case c3=>unfold maxLen;omega
  case c4=>omega
  case c5=>have:=q.size;simp;omega
  intro g K Z n a t H;obtain⟨S,O⟩:=Sn.add d I l (((Ext.refl _).alloc _).alloc _) n a (by simpa using t);have m:=uU (And.intro S (Mfr.after q O));go_wp2;go_ret;exact⟨_,L++[(j:Int)],rfl,m.1,.inr ⟨l,rfl⟩,m.2⟩
def a6q(x:Hp)(i:Nat):Bool:=((x.c i).st == 1) && (((x.c i).U == 1) || ((x.c i).U == 2))
theorem a8h:a6q x i=true↔(x.c i).st=1/\hQ (x.c i):=by simp [a6q,hQ]
def a5e(x:Hp)(k:Nat):List Int:=zL (a6q x) a5d k
structure Rw1(w:World)(base:Nat)(v:Value)(M:List Int):Prop where
 own:w.ownsRow base 3 1 v M.length (M.map iv)
theorem Rw1.ext(h:Rw1 w base v M)(e:Ext w w'):Rw1 w' base v M:=⟨uN h.own (λk a=>e.block k (h.own.lt k a).2)⟩
theorem Rw1.cell(h:Rw1 w base (sS g n cap) M)(i:Nat)(a:i<M.length):w.cell? (aA g i)=some (iv (it M i))/\w.frozen? (aA g i)=false/\n=M.length:=by
 rcases h.own.2 with⟨h0,_⟩ | ⟨g',cap',cur,h0,hb,hg,hr⟩
 ·cases h0
 ·cases h0;have:=World.ownsRow.cellAt (w:=w) (base:=base) (e:=3) (size:=1) (g:=g) (n:=M.length) (cap:=cap) (xs:=M.map iv) h.own i (by omega);exact⟨by rw[this];simp [it,a],World.ownsRow.frozenAt (w:=w) (base:=base) (e:=3) (size:=1) (g:=g) (n:=M.length) (cap:=cap) (xs:=M.map iv) h.own i,rfl⟩
theorem Rw1.base_le(h:Rw1 w base (sS g n cap) M):base<=g/\g<w.heap.size:=h.own.lt g rfl
theorem Rw1.swap(h:Rw1 w base (sS g n cap) M)(i j:Nat):
  Rw1 ((w.setCell (aA g i) (iv (it M j))).setCell (aA g j) (iv (it M i))) base (sS g n cap) (swp M i j):=by
 have b:n=M.length:=by
  rcases h.own.2 with⟨h0,_⟩ | ⟨g',cap',cur,h0,_⟩
  ·cases h0
  ·cases h0;rfl
 subst b;obtain⟨a,_⟩:=World.ownsRow.stored h.own i (iv (it M j));obtain⟨c,_⟩:=World.ownsRow.stored a j (iv (it M i));refine⟨?_⟩;rw[a0v];unfold swp;rw[List.map_set,List.map_set];exact c
theorem Rw1.ext_of{o:Obj}(h:Rw1 w base v M)(j:W=w.alloc o)(b:w2.ownsRow base 3 1 (sS g (M.length+1) cap) (M.length+1) (M.map iv++[iv z]))(c:W.grownBy w2 v.ownBlock)(f:Ext a w)(m:a.heap.size<=base):
  Rw1 w2 base (sS g (M.length+1) cap) (M++[z])/\Ext a w2/\w.heap.size<=w2.heap.size:=by
 subst j;have l:w.heap.size+1<=w2.heap.size:=by have:=c.size;simpa using this
 refine⟨⟨by simpa using b⟩,?_,by omega⟩;refine Below.trans f ⟨c.os,c.tape,c.output,by omega,λk i=>?_⟩;have d:k<w.heap.size:=Nat.lt_of_lt_of_le i f.size;rw[c.block k (by simp;omega) (λe=>by have:=(h.own.lt k e.symm).1;omega),Below.heap_alloc _ o k d]
def tgt(x:Hp)(y:Wd):Nat:=zH x y.a.toNat
def uZ(x:Hp)(i:Nat):Prop:=∀P:Nat->Prop,(∀k (h:k<x.B.length),x.B[k].k=2->P (tgt x x.B[k]))->(∀i,i<x.A.length->(x.c i).st=1->hQ (x.c i)->P i)->
 (∀j p,P j->p<(x.c j).F.length->((x.c j).p p).key.k=2->P (tgt x ((x.c j).p p).key))->(∀j p,P j->p<(x.c j).F.length->((x.c j).p p).val.k=2->P (tgt x ((x.c j).p p).val))->P i
theorem uZ.reg(k:Nat)(h:k<x.B.length)(b:x.B[k].k=2):uZ x (tgt x x.B[k]):=λ_ a _ _ _=>a k h b
theorem uZ.U(i:Nat)(a:i<x.A.length)(d:(x.c i).st=1)(h:hQ (x.c i)):uZ x i:=λ_ _ b _ _=>b i a d h
theorem uZ.key(j p:Nat)(h:uZ x j)(f:p<(x.c j).F.length)(e:((x.c j).p p).key.k=2):uZ x (tgt x ((x.c j).p p).key):=λP a b c d=>c j p (h P a b c d) f e
theorem uZ.val(j p:Nat)(h:uZ x j)(f:p<(x.c j).F.length)(e:((x.c j).p p).val.k=2):uZ x (tgt x ((x.c j).p p).val):=λP a b c d=>d j p (h P a b c d) f e
def qD(x:Hp)(i:Nat):Prop:=i<x.A.length/\(x.c i).st=1/\¬uE x i
def a0y(x:Hp)(y:Wd):Prop:=y.k=2->y.n=0/\0<=y.a/\y.a<x.A.length/\((x.c y.a.toNat).st=2->0<=(x.c y.a.toNat).to)/\qD x (tgt x y)
theorem hU.may{m:Prop}(h:hU x y m)(i:R2 x):a0y x y:=λk=>by
 have j:=h.1;unfold uW at j;have f:y.n=0/\0<=y.a/\y.a<x.A.length:=by omega
 refine⟨f.1,f.2.1,f.2.2,λl=>?_,?_⟩
 ·have:=i.1 y.a.toNat (by omega);unfold hJ eH at this;omega
 ·rcases h.2 k with⟨h1,_⟩ | ⟨h1,h3⟩
  ·have b:=i.1 y.a.toNat (by omega);unfold hJ at b;rcases b with b | b | b
   ·omega
   ·have g:=b.2;unfold eH at g;have e:tgt x y=(x.c y.a.toNat).to.toNat:=by unfold tgt zH;rw[if_pos (by simp [h1])]
    rw[e];exact⟨by omega,g.2.2.2.2.1,λd=>by have:=d.1;omega⟩
   ·omega
  ·have e:tgt x y=y.a.toNat:=by unfold tgt zH;rw[if_neg (by simp [h1])]
   rw[e];exact⟨by omega,h1,h3⟩
theorem a2b(b:R2 x)(a:R4 x)(k:Nat)(h:k<x.B.length):a0y x x.B[k]:=(a.1 k h).may b
theorem a0j(b:R2 x)(d:R4 x)(j p:Nat)(a:qD x j)(e:p<(x.c j).F.length):a0y x ((x.c j).p p).key/\a0y x ((x.c j).p p).val:=by
 have:=((d.2 j a.1).2 p e).2 a.2.2;exact⟨this.1.may b,this.2.may b⟩
theorem a0q(b:R4 x)(i:Nat)(a:i<x.A.length)(e:(x.c i).st=1)(h:hQ (x.c i)):qD x i:=⟨a,e,λd=>(b.2 i a).1 ⟨d,h⟩⟩
theorem uZ.good(e:R2 x)(b:R4 x)(h:uZ x i):qD x i:=by
 exact h (qD x) (λk h a=>(a2b e b k h a).2.2.2.2) (λi f g h=>a0q b i f g h) (λj p c d a=>((a0j e b j p c d).1 a).2.2.2.2) (λj p c d a=>((a0j e b j p c d).2 a).2.2.2.2)
def Add(x:Hp)(y:Wd)(L L':List Int):Prop:=(y.k≠2/\L'=L)\/(y.k=2/\(((tgt x y:Int)∈L/\L'=L)\/(¬(tgt x y:Int)∈L/\L'=L++[(tgt x y:Int)])))
theorem Add.pre(h:Add x y L L'):∃R,L'=L++R:=by
 rcases h with⟨_,e⟩ | ⟨_,⟨_,e⟩ | ⟨_,e⟩⟩
 ·exact⟨[],by simp [e]⟩
 ·exact⟨[],by simp [e]⟩
 ·exact⟨_,e⟩
theorem Add.sub(h:Add x y L L')(a:z∈L):z∈L':=by grind [Add,Add.pre]
theorem Add.has(h:Add x y L L')(a:y.k=2):(tgt x y:Int)∈L':=by grind [Add,tgt]
theorem Add.new(h:Add x y L L')(a:z∈L'):z∈L\/(y.k=2/\z=(tgt x y:Int)):=by grind [Add,tgt]
theorem a1a(x:Hp)(y:Wd)(b base d:Nat)(v:Value)(L:List Int)(w:World)(h:HAt w b x ar kr ac kc ag kg)(B:a0y x y)(s:Sn w base d x.A.length v L)(m:base<=w.heap.size)(n:x.A.length<=8000):
  Calls prog 137 #[pP b,sS d x.A.length x.A.length,v,y.v] w λe w'=>∃v' L',Hid (e=.returned v')/\Sn w' base d x.A.length v' L'/\Hid (Add x y L L')/\Mfr d v v' w w':=by
 cases g:(y.k == 2)
 ·exact(c6x y b base d x.A.length v L w s g).mono λ_ _ ⟨j,c,l⟩=>⟨v,L,j,c,.inl ⟨by simpa using g,rfl⟩,Mfr.of_ext l⟩
 ·have f:y.k=2:=by simpa using g
  obtain⟨u,C,D,q,o⟩:=B f;obtain⟨i,p⟩:∃i:Nat,y.a=(i:Int):=⟨y.a.toNat,by omega⟩;have r:tgt x y=zH x i:=by unfold tgt;rw[p];simp
  have t:(.agg #[iv 2,iv 0,iv i]:Value)=y.v:=by rw[<-p,<-u,<-f]
  rw[r] at o;have A:y.a.toNat=i:=by omega
  rw[A] at q;have:=c6y x b i base d v L w h (by omega) q o.1 s m n;rw[t] at this;exact this.mono λ_ _ ⟨v',L',j,c,z,l⟩=>⟨v',L',j,c,.inr ⟨f,by rw[r];exact uH z⟩,l⟩
theorem c7a:(prog.info? 4).map (λi=>(i.zero,i.size,i.bytes))=some (some (.bool false),1,1):=by kernel_rfl
theorem c5v(n:Nat)(f:n<=1048576)(w:World):∃z,(Instr.makeSlice 65 (iv n) (iv n)).run prog w=.ok (sS w.heap.size n n) (w.alloc (.cells z 4))/\z=madeCells #[.bool false] n:=by
 obtain⟨e,d,a,c,b⟩:=info_parts c7a;have h:=run_make (P:=prog) w 65 4 e _ underlying65 d a .i64 .i64 n n (by omega) (Int.le_refl _) (by rw[b];omega) (by omega);rw[c] at h;simp only [Int.toNat_natCast,Nat.mul_one] at h;exact⟨_,h,rfl⟩
theorem Sn.V(w:World)(n:Nat)(t:TypeId):Sn (w.alloc (.cells (madeCells #[.bool false] n) t)) w.heap.size w.heap.size n (.slice none 0 0) []:=by
 have e:(w.alloc (.cells (madeCells #[.bool false] n) t)).heap[w.heap.size]?=some (.cells (madeCells #[.bool false] n) t):=heap_alloc_new w _;refine⟨⟨Nat.le_refl _,by simp⟩,λi a=>?_,λi a=>(a2s w _ n t i a).2,World.ownsRow_nil _ _ _ _,by simp [Value.ownBlock],List.nodup_nil,λz b=>by cases b⟩;rw[cell_of_row _ w.heap.size i _ _ (0,0) e,<-Array.getElem?_toList,toList_madeCells_one];simp [a]
def a5f(x:Hp)(L:List Int):Prop:=∀z,z∈L->∃i:Nat,z=(i:Int)/\uZ x i
def b1q(x:Hp)(k:Nat)(L:List Int):Prop:=∀j (h:j<x.B.length),j<k->x.B[j].k=2->(tgt x x.B[j]:Int)∈L
theorem a5f.add(h:a5f x L)(a:Add x y L L')(b:y.k=2->uZ x (tgt x y)):a5f x L':=by grind [a5f,Sn.add,Add,uZ,tgt,Add.new]
theorem c3x(h:q<L.length):it (L++R) q=it L q:=by grind [it]
theorem Rw1.form(h:Rw1 w base v M):∃ad cap,v=.slice ad M.length cap/\(0<M.length->∃g,ad=some (aA g 0)):=by
 rcases h.own.2 with⟨h1,h2⟩ | ⟨g,cap,cur,h1,_⟩
 ·grind
 ·grind
theorem Rw1.mfr(h:Rw1 w base vw M)(q:Mfr bs v v' w w')(b:vw.ownBlock≠some bs)(c:∀k,vw.ownBlock=some k->v.ownBlock≠some k):Rw1 w' base vw M:=
 ⟨uN h.own (λk a=>q.block k (h.own.lt k a).2 (λe=>b (e ▸ a)) (c k a))⟩
theorem c7b(h:Rw1 w base vw M)(q:Mfr bs v v' w w')(c:∀k,vw.ownBlock=some k->v.ownBlock≠some k):∀k,vw.ownBlock=some k->v'.ownBlock≠some k:=λk a=>by
 rcases q.own with e | ⟨g,e,b⟩
 ·grind
 ·rw[e];intro f;cases f;have:=(h.own.lt k a).2;omega
theorem Sn.mext(h:Sn w a.heap.size bs n v L)(q:Mfr bs v v' w w')(e:Ext a w):Ext a w':=q.ext e h.hb.1 (λk b=>(h.own.lt k b).1)
theorem Sn.form(h:Sn w base bs n v L):∃ad cap,v=.slice ad L.length cap/\(0<L.length->∃g,ad=some (aA g 0)):=(Rw1.mk h.own).form
def bo(x:Hp)(z:Int):Int:=(x.c z.toNat).born
def b8p(x:Hp)(M:List Int):Prop:=∀a b,a<b->b<M.length->bo x (it M a)<=bo x (it M b)
def But(x:Hp)(N:List Int)(j:Nat):Prop:=(∀a b,a<b->b<N.length->a≠j->b≠j->bo x (it N a)<=bo x (it N b))/\(∀b,j<b->b<N.length->bo x (it N j)<=bo x (it N b))
theorem it_app(h:q<L.length):it (L++R) q=it L q:=by grind [it]
theorem But.V(h:b8p x M):But x (M++[z]) M.length:=by grind [But,yW.V,yY.V,b8p,it_app]
theorem But.zero(h:But x N 0):b8p x N:=by grind [But,b8p]
theorem But.stop(h:But x N (j+1))(b:j+1<N.length)(a:bo x (it N j)<=bo x (it N (j+1))):b8p x N:=by grind [But,bo,it,b8p]
theorem But.swap(h:But x N (j+1))(b:j+1<N.length)(a:bo x (it N (j+1))<=bo x (it N j)):But x (swp N j (j+1)) j:=by grind [But,Rw1.swap,dW.swap,bo,it,swp,a4v,a0v]
theorem b3a(x:Hp)(b:Nat)(w:World){ar:Option Addr}{kr:Nat}{ac:Option Addr}{kc:Nat}{ag:Option Addr}{kg:Nat}(h:HAt w b x ar kr ac kc ag kg)(ba:x.A.length<=8000):
  Calls prog 135 #[pP b] w λe w'=>∃v M,Hid (e=.returned v)/\Rw1 w' w.heap.size v M/\(M.Perm (a5e x x.A.length)/\b8p x M)/\Ext w w':=by
 obtain⟨i0,aa,Y,ae,af⟩:=info_parts c0s;have X:=h.c4;have HH:=uU h;clear h;go_enter func135,ntmps135;go_wp2_with fail;go_loopw [3,14] (λv i wr=>∃(k:Nat) (M:List Int),k<=x.A.length/\i=iv k/\Rw1 wr w.heap.size v M/\Hid (M.Perm (a5e x k)/\b8p x M)/\Ext w wr) (λ_ i _=>x.A.length-(intOf i).toNat)
 case atStart=>exact⟨0,[],Nat.zero_le _,rfl,⟨World.ownsRow_nil _ _ _ _⟩,⟨List.Perm.refl _,λa b _ hb=>by simp at hb⟩,Ext.refl _⟩
 case round=>
  clear X;obtain⟨k,M,E,rfl,d,m,f⟩:=hrel;by_cases ai:k<x.A.length
  ·have y:=HH.ext f;obtain⟨b',o,ap,kp,rfl,p0,p1,p2,p3,p4,p5,p6,p7,lp,P⟩:=y.cell k ai;have l:=uU d;have az:(0:Int)<=(k:Int):=by omega
   have ay:(k:Int)<(x.A.length:Int):=by omega
   have T:=f.alloc (.cells #[iv (x.c k).st,iv (x.c k).kind,iv (x.c k).T,iv (x.c k).U,iv (x.c k).born,iv (x.c k).J,iv (x.c k).to,.slice ap (x.c k).F.length kp] 62);clear P y d;have ao:M.length<=k:=by have:=m.1.length_eq;have:=a2z (a6q x) a5d k;unfold a5e at *;omega
   have go_no:a6q x k=false->Hid (M.Perm (a5e x (k+1))):=λq=>by
    have:=m.1;unfold a5e at *;rw[a2y _ _ _ q];exact this
   have GN:=uU go_no;clear go_no;cases W:((x.c k).st == 1)
   ·have aq:((x.c k).st != 1)=true:=by simpa using W
    have P2:=uH GN (by simp [a6q,W]);go_wp2_with fail;go_roundw
    case rel=>exact⟨k+1,M,by omega,by go_num,l.ext ((Ext.refl wr).alloc _),⟨P2,m.2⟩,T⟩
    case measure=>simp [intOf];omega
   ·have aq:((x.c k).st != 1)=false:=by simpa using W
    cases t2:((x.c k).U == 1)
    ·have au:((x.c k).U != 1)=true:=by simpa using t2
     cases t3:((x.c k).U == 2)
     ·have an:((x.c k).U != 2)=true:=by simpa using t3
      have P2:=uH GN (by simp [a6q,t2,t3]);go_wp2_with fail;go_roundw
      case rel=>exact⟨k+1,M,by omega,by go_num,l.ext ((Ext.refl wr).alloc _),⟨P2,m.2⟩,T⟩
      case measure=>simp [intOf];omega
     ·have an:((x.c k).U != 2)=false:=by simpa using t3
      have QW:=uU (show a6q x k=true by simp [a6q,W,t3]);go_wp2_with (at_builtin;refine wpList_append_lies _ rfl _ _ 32 rfl w.heap.size 3 i0 (iv 0) 1 8 underlying32 aa Y ae af rfl (by decide) _ M.length (M.map iv) rfl ((l.own.alloc _).alloc _) _ 1 1 [iv k] rfl rfl ?c1 ?c2 (by decide) ?c3 ?X ?c5 _ rfl ?_)
      case c1=>
       intro q u E
       match q,E with
       | 0,E=>simp at E;subst E;simp [Addr.add,go_sem]
      case c2=>intro u hu;simp at hu;subst hu;rfl
      case c3=>unfold maxLen;omega
      case X=>omega
      case c5=>have:=f.size;simp;omega
      intro g I w2 p n J ab;obtain⟨R1,U,S1⟩:=Rw1.ext_of (l.ext ((Ext.refl wr).alloc _)) rfl p n T (Nat.le_refl _)
      have PW:=uU (show(M++[(k:Int)]).Perm (a5e x (k+1)) by
       have:=m.1;unfold a5e at *;rw[a2x _ _ _ (uH QW)];exact this.append_right _)
      have Z:=uU R1;have BT:=uU (But.V (z:=(k:Int)) m.2);clear R1 p n J p0 p1 p2 p3 p4 p5 p6 p7 T S1 l m GN;go_wp2_with fail;go_loopw [6] (λR wi=>∃(j:Nat) (N:List Int),j<N.length/\R=iv j/\N.length=M.length+1/\Rw1 wi w.heap.size (sS g (M.length+1) I) N/\Hid (N.Perm (a5e x (k+1))/\But x N j)/\Ext w wi) (λR _=>(intOf R).toNat)
      case atStart=>exact⟨M.length,M++[(k:Int)],by simp,by go_num,by simp,Z,⟨PW,BT⟩,U⟩
      case round=>
       clear Z PW BT U f;obtain⟨j,N,G,rfl,D,d,m,f⟩:=hrel;have l:=uU d;have y:=HH.ext f;have d4:=y.c4;have ad:=uU (And.intro l (And.intro m f));cases j with
       | zero=>
        clear d y;go_wp2_with fail;go_quiet (fail);go_wp2_with fail;go_roundw
        case rel=>exact⟨k+1,N,by omega,by go_num,(by have q:=uH l;rw[<-D] at q ⊢;exact q.ext ((Ext.refl _).drewN _)),⟨m.1,m.2.zero⟩,f.drewN _⟩
        case measure=>simp [intOf];omega
       | succ j=>
        obtain⟨a1,a2,a3⟩:=d.cell j (by omega);obtain⟨b1,b2,b3⟩:=d.cell (j+1) (by omega)
        have r:∀z,z∈N->∃q:Nat,z=(q:Int)/\q<x.A.length:=λz hz=>by
         obtain⟨q,hq,_,e⟩:=(a0r _ _ _ _).1 (m.1.mem_iff.1 hz);exact⟨q,e.symm,by omega⟩
        obtain⟨A,H,Q⟩:=r _ (a2w N j (by omega));obtain⟨B,F,S⟩:=r _ (a2w N (j+1) G);have t:=H;have s:=F;obtain⟨aw,o1,ah,ak,e1,V⟩:=y.cell A Q;cases e1;obtain⟨am,o2,aj,ax,e2,CB⟩:=y.cell B S;cases e2;have pa:=V.p4;have pb:=CB.p4;have SW:=uU (d.swap j (j+1));rw[H,F] at SW;have C:=d.base_le;have BE:=uU (λh:¬(x.c B).born<(x.c A).born=>m.2.stop G (show bo x (it N j)<=bo x (it N (j+1)) by unfold bo;rw[t,s];simp;omega));have BN:=uU (λh:(x.c B).born<(x.c A).born=>m.2.swap G (show bo x (it N (j+1))<=bo x (it N j) by unfold bo;rw[t,s];simp;omega));have O:=uU ((a4c N j (j+1) (by omega) G).trans m.1);rw[H] at a1;rw[F] at b1;have j0:(0:Int)<=(j:Int):=by omega
        have j1:(j:Int)<(M.length:Int)+1:=by omega
        have j2:(j:Int)+1<(M.length:Int)+1:=by omega
        have j3:(0:Int)<=(j:Int)+1:=by omega
        have j4:((j:Int)+1).toNat=j+1:=by omega
        have j5:(0:Int)<(j:Int)+1:=by omega
        have q0:(0:Int)<=(A:Int):=by omega
        have q1:(A:Int)<(x.A.length:Int):=by omega
        have q2:(0:Int)<=(B:Int):=by omega
        have q3:(B:Int)<(x.A.length:Int):=by omega
        have al:M.length<=8000:=by omega
        clear d y V CB r a3 b3 H F t s;cases L:decide ((x.c B).born<(x.c A).born)
        ·go_wp2_with fail;go_quiet (fail);go_wp2_with fail;go_roundw
         case rel=>exact⟨k+1,N,by omega,by go_num,(by have q:=uH l;rw[<-D] at q ⊢;exact q.ext ((Ext.refl _).drewN _)),⟨m.1,uH BE (Int.not_lt.1 (of_decide_eq_false L))⟩,f.drewN _⟩
         case measure=>simp [intOf];omega
        ·have K:=of_decide_eq_true L;clear L;go_wp2_with fail;go_quiet (fail);go_wp2_with fail;go_roundw
         case rel=>exact⟨j,swp N j (j+1),by rw[a0v];omega,by go_num,by rw[a0v];omega,⟨uN SW.own (λq _=>rfl)⟩,⟨O,uH BN K⟩,((f.drewN _).setCell C.1 _).setCell C.1 _⟩
         case measure=>simp [intOf]
    ·have au:((x.c k).U != 1)=false:=by simpa using t2
     have QW:=uU (show a6q x k=true by simp [a6q,W,t2]);go_wp2_with (at_builtin;refine wpList_append_lies _ rfl _ _ 32 rfl w.heap.size 3 i0 (iv 0) 1 8 underlying32 aa Y ae af rfl (by decide) _ M.length (M.map iv) rfl ((l.own.alloc _).alloc _) _ 1 1 [iv k] rfl rfl ?c1 ?c2 (by decide) ?c3 ?X ?c5 _ rfl ?_)
     case c1=>
      intro q u E
      match q,E with
      | 0,E=>simp at E;subst E;simp [Addr.add,go_sem]
     case c2=>intro u hu;simp at hu;subst hu;rfl
     case c3=>unfold maxLen;omega
     case X=>omega
     case c5=>have:=f.size;simp;omega
     intro g I w2 p n J ab;obtain⟨R1,U,S1⟩:=Rw1.ext_of (l.ext ((Ext.refl wr).alloc _)) rfl p n T (Nat.le_refl _)
     have PW:=uU (show(M++[(k:Int)]).Perm (a5e x (k+1)) by
      have:=m.1;unfold a5e at *;rw[a2x _ _ _ (uH QW)];exact this.append_right _)
     have Z:=uU R1;have BT:=uU (But.V (z:=(k:Int)) m.2);clear R1 p n J p0 p1 p2 p3 p4 p5 p6 p7 T S1 l m GN;go_wp2_with fail;go_loopw [6] (λR wi=>∃(j:Nat) (N:List Int),j<N.length/\R=iv j/\N.length=M.length+1/\Rw1 wi w.heap.size (sS g (M.length+1) I) N/\Hid (N.Perm (a5e x (k+1))/\But x N j)/\Ext w wi) (λR _=>(intOf R).toNat)
     case atStart=>exact⟨M.length,M++[(k:Int)],by simp,by go_num,by simp,Z,⟨PW,BT⟩,U⟩
     case round=>
      clear Z PW BT U f;obtain⟨j,N,G,rfl,D,d,m,f⟩:=hrel;have l:=uU d;have y:=HH.ext f;have d4:=y.c4;have ad:=uU (And.intro l (And.intro m f));cases j with
      | zero=>
       clear d y;go_wp2_with fail;go_quiet (fail);go_wp2_with fail;go_roundw
       case rel=>exact⟨k+1,N,by omega,by go_num,(by have q:=uH l;rw[<-D] at q ⊢;exact q.ext ((Ext.refl _).drewN _)),⟨m.1,m.2.zero⟩,f.drewN _⟩
       case measure=>simp [intOf];omega
      | succ j=>
       obtain⟨a1,a2,a3⟩:=d.cell j (by omega);obtain⟨b1,b2,b3⟩:=d.cell (j+1) (by omega)
       have r:∀z,z∈N->∃q:Nat,z=(q:Int)/\q<x.A.length:=λz hz=>by
        obtain⟨q,hq,_,e⟩:=(a0r _ _ _ _).1 (m.1.mem_iff.1 hz);exact⟨q,e.symm,by omega⟩
       obtain⟨A,H,Q⟩:=r _ (a2w N j (by omega));obtain⟨B,F,S⟩:=r _ (a2w N (j+1) G);have t:=H;have s:=F;obtain⟨aw,o1,ah,ak,e1,V⟩:=y.cell A Q;cases e1;obtain⟨am,o2,aj,ax,e2,CB⟩:=y.cell B S;cases e2;have pa:=V.p4;have pb:=CB.p4;have SW:=uU (d.swap j (j+1));rw[H,F] at SW;have C:=d.base_le;have BE:=uU (λh:¬(x.c B).born<(x.c A).born=>m.2.stop G (show bo x (it N j)<=bo x (it N (j+1)) by unfold bo;rw[t,s];simp;omega));have BN:=uU (λh:(x.c B).born<(x.c A).born=>m.2.swap G (show bo x (it N (j+1))<=bo x (it N j) by unfold bo;rw[t,s];simp;omega));have O:=uU ((a4c N j (j+1) (by omega) G).trans m.1);rw[H] at a1;rw[F] at b1;have j0:(0:Int)<=(j:Int):=by omega
       have j1:(j:Int)<(M.length:Int)+1:=by omega
       have j2:(j:Int)+1<(M.length:Int)+1:=by omega
       have j3:(0:Int)<=(j:Int)+1:=by omega
       have j4:((j:Int)+1).toNat=j+1:=by omega
       have j5:(0:Int)<(j:Int)+1:=by omega
       have q0:(0:Int)<=(A:Int):=by omega
       have q1:(A:Int)<(x.A.length:Int):=by omega
       have q2:(0:Int)<=(B:Int):=by omega
       have q3:(B:Int)<(x.A.length:Int):=by omega
       have al:M.length<=8000:=by omega
       clear d y V CB r a3 b3 H F t s;cases L:decide ((x.c B).born<(x.c A).born)
       ·go_wp2_with fail;go_quiet (fail);go_wp2_with fail;go_roundw
        case rel=>exact⟨k+1,N,by omega,by go_num,(by have q:=uH l;rw[<-D] at q ⊢;exact q.ext ((Ext.refl _).drewN _)),⟨m.1,uH BE (Int.not_lt.1 (of_decide_eq_false L))⟩,f.drewN _⟩
        case measure=>simp [intOf];omega
       ·have K:=of_decide_eq_true L;clear L;go_wp2_with fail;go_quiet (fail);go_wp2_with fail;go_roundw
        case rel=>exact⟨j,swp N j (j+1),by rw[a0v];omega,by go_num,by rw[a0v];omega,⟨uN SW.own (λq _=>rfl)⟩,⟨O,uH BN K⟩,((f.drewN _).setCell C.1 _).setCell C.1 _⟩
        case measure=>simp [intOf]
  ·have av:k=x.A.length:=by omega
   subst av;have l:=uU d;clear d;go_wp2_with fail;go_ret;exact⟨_,M,rfl,l,m,f⟩
theorem c5u(h:x.E=0\/x.E=4):(((x.I == 0) && (x.sub == 0))=true↔R6 x):=by grind [R6]
theorem R6_1(h:x.E=1\/x.E=3\/x.E=6):((x.sub == 0)=true↔R6 x):=by grind [R6]
theorem c0o(x:Hp)(b:Nat)(w:World)(h:HAt w b x ar kr ac kc ag kg)(r1:R1 x)(Z:R5 x):
  Calls prog 131 #[pP b] w λe w'=>∃r:Bool,e=.returned (.bool r)/\(r=true↔R6 x)/\Ext w w':=by
 have c4:=h.c4;have c5:=h.c5;have D:=h.c6;have c7:=h.c7;have c8:=h.c8;have lg:=h.lg;obtain⟨X,K⟩:=r1.E;obtain⟨A,L⟩:=r1.I;have d:x.E=0\/x.E=1\/x.E=2\/x.E=3\/x.E=4\/x.E=5\/x.E=6:=by omega
 rcases d with a | a | a | a | a | a | a
 ·have Y:=uU (c5u (x:=x) (Or.inl a));cases q:(x.I == 0)
  all_goals
   go_enter func131,ntmps131;go_wp2;go_ret;exact⟨_,rfl,by have:=uH Y;rw[q] at this;simpa using this,Ext.refl _⟩
 ·have Y:=uU (R6_1 (x:=x) (Or.inl a));go_enter func131,ntmps131;go_wp2;go_ret;exact⟨_,rfl,Y,Ext.refl _⟩
 ·cases q:(x.I == 0)
  ·have Y:=uU (show ¬R6 x from λr=>by have:=(r.2.1 a).1;simp at q;omega);have R:(x.I != 0)=true:=by simpa using q
   go_enter func131,ntmps131;go_wp2;go_ret;exact⟨false,rfl,⟨λf=>by simp at f,λr=>(Y r).elim⟩,Ext.refl _⟩
  ·have R:(x.I != 0)=false:=by simpa using q
   by_cases B:x.D.length=0
   ·have Y:=uU (show(x.sub == 0)=true↔R6 x by
     have l:x.I=0:=by simpa using q
     unfold R6;simp [a,B,l])
    go_enter func131,ntmps131;go_wp2;go_ret;exact⟨_,rfl,Y,Ext.refl _⟩
   ·have g:0<x.D.length:=by omega
    have p:=Z.2.2 x.D[0] (List.getElem_mem g);obtain⟨i,j⟩:=Int.eq_ofNat_of_zero_le p.1;have Q:x.g0=i:=by simp [Hp.g0,g,j]
    have Y:=uU (show decide (x.sub<=((x.c i).F.length:Int))=true↔R6 x by
     have l:x.I=0:=by simpa using q
     have z:x.D≠[]:=λe=>by simp [e] at B
     unfold R6;rw[Q];simp [a,z,l])
    obtain⟨bg,og,rfl,m⟩:=h.G 0 g;unfold a6w at m;rw[j] at m;simp only [Nat.zero_mul,Nat.add_zero] at m;obtain⟨W,o,F,N,rfl,U,E,H,O,S,I,M,T,J,P⟩:=h.cell i (by omega);have V:((x.D.length:Int) == 0)=false:=beq_eq_false_iff_ne.2 (by omega)
    have t:(0:Int)<=(i:Int):=by omega
    have s:(i:Int)<(x.A.length:Int):=by omega
    go_enter func131,ntmps131;go_wp2_with fail;go_quiet (fail);go_wp2;go_ret;exact⟨_,rfl,Y,(Ext.refl _).drewN _⟩
 ·have Y:=uU (R6_1 (x:=x) (Or.inr (Or.inl a)));go_enter func131,ntmps131;go_wp2;go_ret;exact⟨_,rfl,Y,Ext.refl _⟩
 ·have Y:=uU (c5u (x:=x) (Or.inr a));cases q:(x.I == 0)
  all_goals
   go_enter func131,ntmps131;go_wp2;go_ret;exact⟨_,rfl,by have:=uH Y;rw[q] at this;simpa using this,Ext.refl _⟩
 ·obtain⟨i,j⟩:=Int.eq_ofNat_of_zero_le A;cases q:(x.I == (x.A.length:Int))
  ·have u:i<x.A.length:=by simp at q;omega
   have l:((i:Int) == (x.A.length:Int))=false:=by simp;omega
   have y:=uU (λn=>a9g x b i (w.drewN n) (h.ext ((Ext.refl w).drewN n)) (by omega) (by omega));rw[Int.toNat_natCast] at y;obtain⟨W,o,F,N,rfl,U,E,H,O,S,I,M,T,J,P⟩:=h.cell i u;rw[j] at D;have t:(0:Int)<=(i:Int):=by omega
   have s:(i:Int)<(x.A.length:Int):=by omega
   cases C:a8z x i
   ·have Y:=uU (show(x.sub == 0)=true↔R6 x by
     have k:¬(x.c i).st=1:=by simpa [a8z] using C
     unfold R6;simp [a,j,k])
    go_enter func131,ntmps131;go_wp2_with fail;go_quiet ((go_at_call 203;exact Calls.quiet_of_same (y _)));go_wp2;go_ret;exact⟨_,rfl,Y,(Ext.refl _).drewN _⟩
   ·have Y:=uU (show decide (x.sub<=((x.c i).F.length:Int))=true↔R6 x by
     have k:(x.c i).st=1:=by simpa [a8z] using C
     have v:¬(i:Int)=(x.A.length:Int):=by omega
     unfold R6;simp [a,j,k,v])
    go_enter func131,ntmps131;go_wp2_with fail;go_quiet ((go_at_call 203;exact Calls.quiet_of_same (y _)));go_wp2_with fail;go_quiet (fail);go_wp2;go_ret;exact⟨_,rfl,Y,((Ext.refl _).drewN _).drewN _⟩
  ·have Y:=uU (show(x.sub == 0)=true↔R6 x by
     have k:x.I=x.A.length:=by simpa using q
     unfold R6;simp [a,k])
   have v:x.I=x.A.length:=by simpa using q
   rw[v] at D
   go_enter func131,ntmps131;go_wp2_with fail;go_quiet (fail);go_wp2;go_ret;exact⟨_,rfl,Y,(Ext.refl _).drewN _⟩
 ·have Y:=uU (R6_1 (x:=x) (Or.inr (Or.inr a)));go_enter func131,ntmps131;go_wp2;go_ret;exact⟨_,rfl,Y,Ext.refl _⟩
end Go.Proofs.YtddkhnclmeikfaaGreat
