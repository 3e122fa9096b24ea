import Derived.Test.YtolmnenlnpbcfaaGreatDoorHx
import Derived.Test.YtolmnenlnpbcfaaGreatDoorImpB
import Derived.Deep.LoopGhost
import Derived.OwnWalk
set_option maxRecDepth 100000
set_option maxHeartbeats 2000000
namespace Go.Proofs.YtolmnenlnpbcfaaGreatDoor
open Go.RowKit Tryz
attribute [local go_sem ↓] Go.wp_at_zero Go.wp_at_succ
variable{x:Hp}{w w' a w1 w2 W:World}{L L':List Int}{v v':Value}{bs n base kr kc kg j g cap:Nat}{y:Wd}{ar ac ag:Option Addr}{z:Int}
theorem Ext.drewN(h:Ext a w)(n:Nat):Ext a (w.drewN n):=below_drewN h n
theorem b3w(n b a:Int)(r:Bool)(h:eK n b a=r)(w:World):Calls prog 65 #[iv n,iv b,iv a] w λe w'=>e=.returned (.bool r)/\w'=w:=by grind[eK,a9s]
theorem d1j{P:Program}{f:FuncId}{args:Array Value}{k:Nat}(h:Calls P f args (w.drewN (k+n)) λe w'=>e=.returned v/\w'=w.drewN (k+n)):
  Calls P f args (w.drewN (k+n)) λe w''=>e=.returned v/\∃m,w''=w.drewN (k+m):=h.mono λ_ _ ⟨a,b⟩=>⟨a,n,b⟩
theorem c4p{n lo hi:Int}(h:eK n lo hi=true):lo<=n/\n<=hi:=by simpa[eK]using h
theorem a8t(y:Wd)(b:Nat)(w:World)(a:(y.k == 2)=false):
  Calls prog 153 #[pP b,y.v] w λe w'=>e=.returned y.v/\Ext w w':=by
 go_in;go_wp21;go_quiet (fail);go_wp2;refine bodyPost_ret (v:=y.v) (by simp[results,results153,go_sem]) rfl ⟨rfl,?_⟩;repeat (first|exact hO _|refine Ext.drewN ?_ _|refine mD ?_ _|refine mQ ?_ (by show w.heap.size<=w.heap.size+1;omega) _)
theorem b5h(x:Hp)(b i:Nat)(w:World)(h:HAt w b x ar kr ac kc ag kg)(j:i<x.A.length)(q:((x.c i).st == 2)=false):
  Calls prog 153 #[pP b,.agg #[iv 2,iv 0,iv i]] w λe w'=>e=.returned (.agg #[iv 2,iv 0,iv i])/\Ext w w':=by
 obtain⟨d,o,n,k,rfl,C⟩:=h.cell i j;have g:=C.p0;have a:=h.c4;have l:=cLt a;have f:=cLt g;have m:=i0N i;have p:(i:Int)<(x.A.length:Int):=by omega
 go_in;go_wp21;go_quiet (fail);go_wp2;refine bodyPost_ret (v:=.agg #[iv 2,iv 0,iv i]) (by simp[results,results153,go_sem]) rfl ⟨rfl,?_⟩;repeat (first|exact hO _|refine Ext.drewN ?_ _|refine mD ?_ _|refine mQ ?_ (by show w.heap.size<=w.heap.size+1;omega) _)
theorem b3o(x:Hp)(b i:Nat)(w:World)(h:HAt w b x ar kr ac kc ag kg)(j:i<x.A.length)(r:((x.c i).st == 2)=true):
  Calls prog 153 #[pP b,.agg #[iv 2,iv 0,iv i]] w λe w'=>e=.returned (.agg #[iv 2,iv 0,iv (x.c i).to])/\Ext w w':=by
 obtain⟨d,o,p,k,rfl,C⟩:=h.cell i j;have g:=C.p0;have n:=C.p6;have a:=h.c4;have l:=cLt a;have f:=cLt g;have m:=i0N i;have q:(i:Int)<(x.A.length:Int):=by omega
 go_in;go_wp21;go_quiet (fail);go_wp21;go_region;all_goals
  go_wp2;refine bodyPost_ret (v:=.agg #[iv 2,iv 0,iv (x.c i).to]) (by simp[results,results153,go_sem]) rfl ⟨rfl,?_⟩;repeat (first|exact hO _|refine Ext.drewN ?_ _|refine mP ?_|refine mD ?_ _|refine mQ ?_ (by show w.heap.size<=w.heap.size+1;omega) _)
def a2m(x:Hp)(i:Nat):Nat:=if ((x.c i).st == 2)=true then (x.c i).to.toNat else i
structure Sn(w:World)(base bs n:Nat)(v:Value)(L:List Int):Prop where
 hb:base<=bs/\bs<w.heap.size
 s:∀i,i<n->w.cell? ⟨bs,i,none⟩=some (.bool (decide ((i:Int)∈L)))
 f:∀i,i<n->w.frozen? ⟨bs,i,none⟩=false
 own:w.ownsRow base 3 1 v L.length (L.map iv)
 ap:v.ownBlock≠some bs
 nd:L.Nodup
 rg:∀z,z∈L->0<=z/\z<n
theorem Sn.ext(h:Sn w base bs n v L)(e:Ext w w'):Sn w' base bs n v L:=
 ⟨⟨h.hb.1,kF h.hb.2 e.size⟩,λi a=>e.keep (h.s i a),λi a=>(e.frozen (p:=(aA bs i)) h.hb.2)▸h.f i a,uN h.own (λk b=>e.block k (h.own.lt k b).2),h.ap,h.nd,h.rg⟩
theorem Sn.len(h:Sn w base bs n v L):L.length<=n:=by
 have b:∀z,z∈L->z∈(List.range n).map (λi:Nat=>(i:Int)):=λz a=>by
  have:=h.rg z a;exact mY.2 ⟨z.toNat,by simp;omega,by omega⟩
 have:=qR h.nd b;simpa using this
structure Mfr(bs:Nat)(v v':Value)(w w':World):Prop where
 os:w'.os=w.os
 tape:w'.tape=w.tape
 output:w'.output=w.output
 size:w.heap.size<=w'.heap.size
 block:∀k:Nat,k<w.heap.size->k≠bs->v.ownBlock≠some k->w'.heap[k]?=w.heap[k]?
 own:v'.ownBlock=v.ownBlock\/∃g,v'.ownBlock=some g/\w.heap.size<=g
theorem Mfr.of_ext(e:Ext w w'):Mfr bs v v w w':=⟨e.os,e.tape,e.output,e.size,λk a _ _=>e.block k a,.inl rfl⟩
theorem Mfr.after(e:Ext w w1)(q:Mfr bs v v' w1 w2):Mfr bs v v' w w2:=
 ⟨q.os.trans e.os,q.tape.trans e.tape,q.output.trans e.output,kA e.size q.size,λk a d c=>(q.block k (kF a e.size) d c).trans (e.block k a),by
  obtain h|⟨g,h,b⟩:=q.own;exact .inl h;exact .inr ⟨g,h,kA e.size b⟩⟩
theorem Mfr.ext(q:Mfr bs v v' w w')(e:Ext a w)(d:a.heap.size<=bs)(c:∀k,v.ownBlock=some k->a.heap.size<=k):Ext a w':=
 mO e ⟨q.os,q.tape,q.output,q.size,λk b=>q.block k (kF b e.size) (by omega) (λh=>by have:=c k h;omega)⟩
theorem Sn.own2(h:Sn w base bs n v L)(b:Ext (w.setCell (aA bs j) (.bool true)) W):W.ownsRow base 3 1 v L.length (L.map iv):=
 uN h.own (λk a=>(b.block k (by simpa using (h.own.lt k a).2)).trans (kP _ _ _ _ (λe=>h.ap (e ▸ a):k≠bs)))
theorem Sn.add(h:Sn w base bs n v L)(H:j<n)(G:¬(j:Int)∈L)(o:Ext (w.setCell (aA bs j) (.bool true)) W)
  (l:w2.ownsRow base 3 1 (sS g (L.length+1) cap) (L.length+1) (L.map iv++[iv j])) (m:W.grownBy w2 v.ownBlock) (p:v.ownBlock=some g\/g=W.heap.size) :
  Sn w2 base bs n (sS g (L.length+1) cap) (L++[(j:Int)])/\Mfr bs v (sS g (L.length+1) cap) w w2:=by
 have D:w.heap.size<=W.heap.size:=by have:=o.size;simpa using this
 have A:W.heap.size<=w2.heap.size:=m.size;have u:g≠bs:=by
  obtain e|e:=p;intro q;exact h.ap (q ▸ e);have:=h.hb.2;omega
 have c:∀k:Nat,k<w.heap.size->v.ownBlock≠some k->w2.heap[k]?=(w.setCell (aA bs j) (.bool true)).heap[k]?:=λk t y=>
  (m.block k (by omega) (λe=>y e.symm)).trans (o.block k (by simpa using t))
 have d:=c bs h.hb.2 h.ap;refine⟨⟨⟨h.hb.1,by have:=h.hb.2;omega⟩,λi r=>?_,λi r=>?_,by simpa using l,λe=>u (by simpa[Value.ownBlock]using e),?_,λz B=>?_⟩,⟨m.os.trans o.os,m.tape.trans o.tape,m.output.trans o.output,by omega,λk t F E=>?_,?_⟩⟩;rw[kR (w:=w.setCell (aA bs j) (.bool true)) (a:=(aA bs i)) d];by_cases e:i=j
 ·subst e;rw[kM _ _ _ (h.s i r)];simp
 rw[uC _ (.inr (λq=>e q.symm)),h.s i r];simp only[List.mem_append,List.mem_singleton];congr 2;exact decide_eq_decide.2 ⟨λq=>.inl q,λq=>by obtain q|q:=q;exact q;omega⟩;rw[mL (w:=w.setCell (aA bs j) (.bool true)) (a:=(aA bs i)) d,kS];exact h.f i r;rw[na];exact⟨h.nd,by simp,λa C b x=>by simp at x;rw[x];intro e;exact G (e ▸ C)⟩;obtain q|q:=kx.1 B
 ·exact h.rg z q
 simp at q;omega;rw[c k t E,kP _ _ _ _ (F:k≠bs)];obtain e|e:=p
 ·exact .inl (by rw[e];rfl)
 exact .inr ⟨g,rfl,by omega⟩
theorem c1p:(prog.info? 3).map (λi=>(i.zero,i.size,i.bytes))=some (some (iv 0),1,8):=by kernel_rfl
theorem b0f(x:Hp)(b i:Nat)(w:World)(h:HAt w b x ar kr ac kc ag kg)(d:i<x.A.length)(g:(x.c i).st=2->0<=(x.c i).to):
  Calls prog 153 #[pP b,.agg #[iv 2,iv 0,iv i]] w λe w'=>e=.returned (.agg #[iv 2,iv 0,iv (a2m x i)])/\Ext w w':=by
 cases a:((x.c i).st == 2)
 have:a2m x i=i:=by simp only[a2m,a];simp
 rw[this];exact b5h x b i w h d a;have f:(x.c i).st=2:=by simpa using a
 have:((a2m x i:Nat):Int)=(x.c i).to:=by simp only[a2m,a];have:=g f;simp;omega
 rw[this];exact b3o x b i w h d a
theorem c8r(y:Wd)(b base a n:Nat)(v:Value)(L:List Int)(w:World)(j:Sn w base a n v L)(d:(y.k == 2)=false):
  Calls prog 158 #[pP b,sS a n n,v,y.v] w λe w'=>Hid (e=.returned v)/\Sn w' base a n v L/\Ext w w':=by
 have f:(y.k != 2)=true:=by simpa using d
 go_in;go_wp21;refine(a8t y b _ d).mono ?_;rintro e g ⟨rfl,h⟩;have c:Ext w g:=kI (eAl w _) h;go_wp2;go_ret;exact⟨rfl,j.ext (c.alloc _),c.alloc _⟩
theorem c8s(x:Hp)(b i base o:Nat)(v:Value)(L:List Int)(w:World){ar:Option Addr}{kr:Nat}{ac:Option Addr}{kc:Nat}{ag:Option Addr}{kg:Nat}(h:HAt w b x ar kr ac kc ag kg)(U:i<x.A.length)(V:(x.c i).st=2->0<=(x.c i).to)(I:a2m x i<x.A.length)(J:Sn w base o x.A.length v L)(X:base<=w.heap.size)(Y:x.A.length<=8000):
  Calls prog 158 #[pP b,sS o x.A.length x.A.length,v,.agg #[iv 2,iv 0,iv i]] w λe w'=>∃v' L',Hid (e=.returned v')/\Sn w' base o x.A.length v' L'/\Hid (((a2m x i:Int)∈L/\L'=L)\/(¬(a2m x i:Int)∈L/\L'=L++[(a2m x i:Int)]))/\Mfr o v v' w w':=by
 have⟨T,y,A,r,z⟩:=info_parts c1p;have F:=J.len;have⟨j,P⟩:∃j,a2m x i=j:=⟨_,rfl⟩;have G:=λW (e:Ext w W)=>b0f x b i W (h.ext e) U V;rw[P]at G I ⊢;have j0:=i0N j;have j1:(j:Int)<(x.A.length:Int):=by omega
 go_in;go_wp21;refine(G _ (eAl w _)).mono ?_;rintro e B ⟨rfl,M⟩;have q:Ext w B:=kI (eAl w _) M;have d:=J.ext q;have C:=d.s j (by omega);have fj:=d.f j (by omega);have R:o<B.heap.size:=d.hb.2;by_cases l:(j:Int)∈L
 ·have E:decide ((j:Int)∈L)=true:=decide_eq_true l;rw[E]at C;go_wp2;go_ret;exact⟨v,L,rfl,d.ext (eAl B _),.inl ⟨l,rfl⟩,Mfr.of_ext (q.alloc _)⟩
 have E:decide ((j:Int)∈L)=false:=decide_eq_false l;rw[E]at C;go_wp2_with (at_builtin;refine wpList_append_lies _ rfl _ _ 25 rfl base 3 T (iv 0) 1 8 underlying25 y A r z rfl (by decide) v L.length (L.map iv) rfl (Sn.own2 (j:=j) d ((eAl _ _).alloc _)) _ 1 1 [iv j] rfl rfl ?c1 ?c2 (by decide) ?c3 ?c4 ?c5 _ rfl ?_)
 case c1=>
  intro k u p;match k,p with
  | 0,p=>simp at p;subst p;simp[Addr.add,go_sem]
 case c2=>intro u D;simp at D;subst D;rfl
 case c3=>unfold maxLen;omega
 case c4=>omega
 case c5=>have:=q.size;simp;omega
 intro g K Z n a t H;have⟨S,O⟩:=Sn.add d I l ((eAl _ _).alloc _) n a (by simpa using t);have m:=kG S (Mfr.after q O);go_wp2;go_ret;exact⟨_,L++[(j:Int)],rfl,m.1,.inr ⟨l,rfl⟩,m.2⟩
def tgt(x:Hp)(y:Wd):Nat:=a2m x y.a.toNat
def cU(x:Hp)(i:Nat):Prop:=∀P:Nat->Prop,(∀k (h:k<x.B.length),x.B[k].k=2->P (tgt x x.B[k]))->(∀i,i<x.A.length->(x.c i).st=1->cK (x.c i)->P i)->
 (∀j p,P j->p<(x.c j).F.length->((x.c j).p p).key.k=2->P (tgt x ((x.c j).p p).key))->(∀j p,P j->p<(x.c j).F.length->((x.c j).p p).val.k=2->P (tgt x ((x.c j).p p).val))->P i
theorem cU.reg(k:Nat)(h:k<x.B.length)(b:x.B[k].k=2):cU x (tgt x x.B[k]):=λ_ a _ _ _=>a k h b
theorem cU.U(i:Nat)(a:i<x.A.length)(d:(x.c i).st=1)(h:cK (x.c i)):cU x i:=λ_ _ b _ _=>b i a d h
theorem cU.key(j p:Nat)(h:cU x j)(f:p<(x.c j).F.length)(e:((x.c j).p p).key.k=2):cU x (tgt x ((x.c j).p p).key):=λP a b c d=>c j p (h P a b c d) f e
theorem cU.val(j p:Nat)(h:cU x j)(f:p<(x.c j).F.length)(e:((x.c j).p p).val.k=2):cU x (tgt x ((x.c j).p p).val):=λP a b c d=>d j p (h P a b c d) f e
def Good(x:Hp)(i:Nat):Prop:=i<x.A.length/\(x.c i).st=1/\¬uW x i
def a0m(x:Hp)(y:Wd):Prop:=y.k=2->y.n=0/\0<=y.a/\y.a<x.A.length/\((x.c y.a.toNat).st=2->0<=(x.c y.a.toNat).to)/\Good x (tgt x y)
theorem hE.may{m:Prop}(h:hE x y m)(i:R2 x):a0m x y:=λk=>by
 have j:=h.1;unfold uJ at j;have f:y.n=0/\0<=y.a/\y.a<x.A.length:=by omega
 refine⟨f.1,f.2.1,f.2.2,λl=>by have:=i.1 y.a.toNat (by omega);unfold cZ qL at this;omega,?_⟩;obtain⟨h1,_⟩|⟨h1,h3⟩:=h.2 k
 ·have b:=i.1 y.a.toNat (by omega);unfold cZ at b;obtain b|b|b:=b
  ·omega
  have g:=b.2;unfold qL at g;have e:tgt x y=(x.c y.a.toNat).to.toNat:=by unfold tgt a2m;rw[if_pos (by simp[h1])]
  rw[e];exact⟨by omega,g.2.2.2.2.1,λd=>by have:=d.1;omega⟩;omega
 have e:tgt x y=y.a.toNat:=by unfold tgt a2m;rw[if_neg (by simp[h1])]
 rw[e];exact⟨by omega,h1,h3⟩
theorem b0h(b:R2 x)(a:R4 x)(k:Nat)(h:k<x.B.length):a0m x x.B[k]:=(a.1 k h).may b
theorem a4c(b:R2 x)(d:R4 x)(j p:Nat)(a:Good x j)(e:p<(x.c j).F.length):a0m x ((x.c j).p p).key/\a0m x ((x.c j).p p).val:=by
 have:=((d.2 j a.1).2 p e).2 a.2.2;exact⟨this.1.may b,this.2.may b⟩
theorem b1u(b:R4 x)(i:Nat)(a:i<x.A.length)(e:(x.c i).st=1)(h:cK (x.c i)):Good x i:=⟨a,e,λd=>(b.2 i a).1 ⟨d,h⟩⟩
theorem cU.good(e:R2 x)(b:R4 x){i:Nat}(h:cU x i):Good x i:=by
 exact h (Good x) (λk h a=>(b0h e b k h a).2.2.2.2) (λi f g h=>b1u b i f g h) (λj p c d a=>((a4c e b j p c d).1 a).2.2.2.2) (λj p c d a=>((a4c e b j p c d).2 a).2.2.2.2)
def Add(x:Hp)(y:Wd)(L L':List Int):Prop:=(y.k≠2/\L'=L)\/(y.k=2/\(((tgt x y:Int)∈L/\L'=L)\/(¬(tgt x y:Int)∈L/\L'=L++[(tgt x y:Int)])))
theorem Add.pre(h:Add x y L L'):∃R,L'=L++R:=by
 obtain⟨_,e⟩|⟨_,⟨_,e⟩|⟨_,e⟩⟩:=h;exact⟨[],by simp[e]⟩;exact⟨[],by simp[e]⟩;exact⟨_,e⟩
theorem Add.sub(h:Add x y L L')(a:z∈L):z∈L':=by grind[Add,Add.pre]
theorem Add.has(h:Add x y L L')(a:y.k=2):(tgt x y:Int)∈L':=by grind[Add,tgt]
theorem Add.new(h:Add x y L L')(a:z∈L'):z∈L\/(y.k=2/\z=(tgt x y:Int)):=by grind[Add,tgt]
theorem a0z(x:Hp)(y:Wd)(b base d:Nat)(v:Value)(L:List Int)(w:World)(h:HAt w b x ar kr ac kc ag kg)(B:a0m x y)(s:Sn w base d x.A.length v L)(m:base<=w.heap.size)(n:x.A.length<=8000):
  Calls prog 158 #[pP b,sS d x.A.length x.A.length,v,y.v] w λe w'=>∃v' L',Hid (e=.returned v')/\Sn w' base d x.A.length v' L'/\Hid (Add x y L L')/\Mfr d v v' w w':=by
 cases g:(y.k == 2)
 exact(c8r y b base d x.A.length v L w s g).mono λ_ _ ⟨j,c,l⟩=>⟨v,L,j,c,.inl ⟨by simpa using g,rfl⟩,Mfr.of_ext l⟩
 have f:y.k=2:=by simpa using g
 have⟨u,C,D,q,o⟩:=B f;have⟨i,p⟩:∃i:Nat,y.a=(i:Int):=⟨y.a.toNat,by omega⟩;have r:tgt x y=a2m x i:=by unfold tgt;rw[p];simp
 have t:(.agg #[iv 2,iv 0,iv i]:Value)=y.v:=by rw[<-p,<-u,<-f]
 rw[r]at o;have A:y.a.toNat=i:=by omega
 rw[A]at q;have:=c8s x b i base d v L w h (by omega) q o.1 s m n;rw[t]at this;exact this.mono λ_ _ ⟨v',L',j,c,z,l⟩=>⟨v',L',j,c,.inr ⟨f,r▸uH z⟩,l⟩
theorem c5j(l:∀z,z∈L->∃i:Nat,z=(i:Int)/\cU x i)(g:∀k (h:k<x.B.length),x.B[k].k=2->(tgt x x.B[k]:Int)∈L)(f:∀i,i<x.A.length->(x.c i).st=1->cK (x.c i)->(i:Int)∈L)
  (e:∀j:Nat,(j:Int)∈L->∀p,p<(x.c j).F.length->(((x.c j).p p).key.k=2->(tgt x ((x.c j).p p).key:Int)∈L)/\(((x.c j).p p).val.k=2->(tgt x ((x.c j).p p).val:Int)∈L)) (i:Nat):(i:Int)∈L↔cU x i:=by
 constructor;grind[cU,tgt,Hp.c,cK,Cl.p];intro h;exact h (λi=>(i:Int)∈L) g f (λj p a d b=>(e j a p d).1 b) (λj p a d b=>(e j a p d).2 b)
theorem c8u:(prog.info? 4).map (λi=>(i.zero,i.size,i.bytes))=some (some (.bool false),1,1):=by kernel_rfl
theorem c7e(n:Nat)(f:n<=1048576)(w:World):∃z,(Instr.makeSlice 133 (iv n) (iv n)).run prog w=.ok (sS w.heap.size n n) (w.alloc (.cells z 4))/\z=madeCells #[.bool false] n:=by
 have⟨e,d,a,c,b⟩:=info_parts c8u;have h:=run_make (P:=prog) w 133 4 e _ underlying133 d a .i64 .i64 n n (by omega) (mx _) (by rw[b];omega) (by omega);rw[c]at h;simp only[Int.toNat_natCast,Nat.mul_one]at h;exact⟨_,h,rfl⟩
theorem c1b(w:World)(base a b g n cap i j:Nat)(I J:Int)(L:List Int)(k:I=(i:Int))(f:J=(j:Int))(h:eU w base a b (sS g n cap) L)(c:i<n)(d:j<n):
  Calls prog 121 #[pQ a b,iv I,iv J] w λe w'=>e=.returned (.tuple #[])/\eU w' base a b (sS g n cap) (swp L i j)/\QFr a b (sS g n cap) (sS g n cap) w w':=by grind[swp,c6w]
theorem sink_ls(w:World)(base t u g n cap:Nat)(L:List Int)(h:eU w base t u (sS g n cap) L)(S:a6g L 0)(hn:n<=1000000000):
  Calls prog 215 #[pQ t u] w λe w'=>e=.returned (.tuple #[])/\∃L',eU w' base t u (sS g n cap) L'/\Ho L'/\L'.Perm L/\QFr t u (sS g n cap) (sS g n cap) w w':=by
 have R:=h.len.1;have HL:=uU h;have B:=uU S;clear h S;go_in;go_wp21;go_loopw [2] (λP wr=>∃(a:Nat)(M:List Int),a<=n/\P=iv a/\M.length=n/\eU wr base t u (sS g n cap) M/\a6g M a/\M.Perm L/\QFr t u (sS g n cap) (sS g n cap) w wr) (λP _=>n-(intOf P).toNat)
 case atStart=>exact⟨0,L,kB _,rfl,R.symm,HL,B,m9 _,QFr.refl _ _ _ _⟩
 case round=>
  clear B HL R;obtain⟨a,M,ha,rfl,hM,b,H,E,D⟩:=hrel;have j:=uU b;have A:=uU H;have y:=uU E;have k:=uU D;have hd:=b.hd;have i0:=i0N a;have i1:(a:Int)<=1000000000:=by omega
  by_cases J:n<=2*a+1
  ·have O:(n:Int)<=2*(a:Int)+1:=by omega
   have Y:=uU (a6g.bottom A (by omega));clear b H E D J;go_wp21;try simp only[Exit.inBlock,Exit.then]
   refine bodyPost_ret (results_none rfl _ _ _) rfl ?_;exact⟨rfl,M,j,Y,y,k⟩
  have O:¬(n:Int)<=2*(a:Int)+1:=by omega
  have U:2*(a:Int)+1<(n:Int):=by omega
  have j0:(0:Int)<=2*(a:Int)+1:=by omega
  have j1:(2*(a:Int)+1).toNat=2*a+1:=by omega
  have j2:(a:Int)<(n:Int):=by omega
  have V:IntKind.i64.wrap (2*(a:Int)+1+1)=2*(a:Int)+2:=by rw[nH];omega
  obtain⟨s,i⟩:∃z,it M a=z:=⟨_,rfl⟩;have T:=b.cell a (by omega);rw[i]at T;obtain⟨x,f⟩:∃z,it M (2*a+1)=z:=⟨_,rfl⟩;have X:=b.cell (2*a+1) (by omega);rw[f]at X;by_cases K:2*a+2<n;focus
   obtain⟨I,m⟩:∃z,it M (2*a+2)=z:=⟨_,rfl⟩;have cr:=b.cell (2*a+2) (by omega);rw[m]at cr;have k0:2*(a:Int)+2<(n:Int):=by omega
   have k1:(0:Int)<=2*(a:Int)+2:=by omega
   have k2:(2*(a:Int)+2).toNat=2*a+2:=by omega
   by_cases N:I<x;focus
    have o:=uU (a1s.right (by omega) (by rw[m,f];exact N):a1s M a (2*a+2));obtain⟨c,F⟩:=obE (2*a+2);rw[<-F]at o m;obtain⟨z,rfl⟩:=nM I
   rotate_left
   focus
    have o:=uU (a1s.left (by omega) (λ_=>by rw[m,f];omega):a1s M a (2*a+1));have W:decide (I<x)=false:=decide_eq_false N;obtain⟨c,F⟩:=obE (2*a+1);rw[<-F]at o f;obtain⟨z,rfl⟩:=nM x;have m:=f;clear N
  rotate_left 2
  focus
   have o:=uU (a1s.left (by omega) (λq=>by omega):a1s M a (2*a+1));have Z:decide (2*(a:Int)+2<(n:Int))=false:=decide_eq_false (by omega);obtain⟨c,F⟩:=obE (2*a+1);rw[<-F]at o f;obtain⟨z,rfl⟩:=nM x;have m:=f;clear K
  all_goals
   have HF:=uU F;clear b H E D J F;by_cases l:s<=z
   ·have Y:=uU (a6g.done A o (by rw[i,m];exact l));go_wp21;go_quiet (fail);go_wp21;go_quiet (fail);go_wp21;try simp only[Exit.inBlock,Exit.then]
    refine bodyPost_ret (results_none rfl _ _ _) rfl ?_;exact⟨rfl,M,j.ext (by first|exact((hO _).drewN _).drewN _|exact(hO _).drewN _),Y,y,by first|exact(k.drewN _).drewN _|exact k.drewN _⟩
   have G:decide (s<=z)=false:=decide_eq_false l;have R2:=uU (a6g.down A o (by rw[i,m];omega));have C:c<M.length:=o.2.1;clear l;go_wp21;go_quiet (fail);go_wp21;go_quiet (fail);go_wp21;refine(c1b _ base t u g n cap a c (a:Int) _ M rfl (by have:=uH HF;omega) (j.ext (by first|exact((hO _).drewN _).drewN _|exact(hO _).drewN _)) (by omega) (by omega)).mono ?_;rintro e Q ⟨rfl,d,v⟩;have p:=uU d;have r:=uU (QFr.trans (by first|exact(k.drewN _).drewN _|exact k.drewN _) v);clear d v;go_wp21;go_roundw
   case rel=>exact⟨c,swp M a c,by omega,by congr 1;have:=uH HF;omega,by rw[a1x];omega,p,R2,(a9v M a c (by omega) C).trans y,r⟩
   have:=uH HF;simp[intOf];omega
theorem infoInt:(prog.info? 3).map (λi=>(i.zero,i.size,i.bytes))=some (some (iv 0),1,8):=by kernel_rfl
theorem c8i{bq oq:Nat}{x:Int}{o:Obj}(h:eU w base bq oq v L)
  (f:w1.ownsRow base 3 1 (sS g (L.length+1) cap) (L.length+1) (L.map iv++[iv x])) (i:(w.alloc o).grownBy w1 v.ownBlock) (d:v.ownBlock=some g\/g=w.heap.size+1) :
  eU (w1.setCell (aA bq oq) (sS g (L.length+1) cap)) base bq oq (sS g (L.length+1) cap) (L++[x])/\
  QFr bq oq v (sS g (L.length+1) cap) w (w1.setCell (aA bq oq) (sS g (L.length+1) cap))/\w1.cell? (aA bq oq)=some v/\w1.frozen? (aA bq oq)=false:=by
 have l:=h.hlt;have m:g≠bq:=by
  obtain e|e:=d;intro q;exact h.apart (q ▸ e);omega
 have u:w.heap.size+1<=w1.heap.size:=by have:=i.size;simpa using this
 have p:∀k,k<w.heap.size->v.ownBlock≠some k->w1.heap[k]?=w.heap[k]?:=λk c s=>
  (i.block k (by simp;omega) (λe=>s e.symm)).trans (ky w o k c)
 have b:w1.heap[bq]?=w.heap[bq]?:=p bq l h.apart;have r:w1.cell? (aA bq oq)=some v:=(cOb bq oq b).trans h.hd;have n:w1.frozen? (aA bq oq)=false:=(fOb bq oq b).trans h.hf;refine⟨⟨kM _ _ _ r,by rw[kS];exact n,?_,λe=>m (by simpa[Value.ownBlock]using e)⟩,⟨?_,?_,?_,?_,λk c y t=>?_,λj z=>?_,λj=>?_,?_⟩,r,n⟩;refine uN (by simpa using f) (λk c=>kP _ _ _ _ ?_);simp[Value.ownBlock]at c;show k≠bq;omega;exact i.os;exact i.tape;exact i.output;have:(w1.setCell (aA bq oq) (sS g (L.length+1) cap)).heap.size=w1.heap.size:=by simp[World.setCell]
 omega;rw[kP _ _ _ _ (y:k≠bq)];exact p k c t;rw[uC _ (.inr (λe=>z e.symm))];exact cOb bq j b;rw[kS];exact fOb bq j b;obtain e|e:=d
 ·exact .inl e.symm
 exact .inr ⟨g,rfl,by omega⟩
theorem b4p(w:World)(base m n:Nat)(v:Value)(L:List Int)(x:Int)(h:eU w base m n v L)(hb:base<=w.heap.size)(ho:Ho L)(hn:L.length<=1000000000):
  Calls prog 74 #[pQ m n,iv x] w λe w'=>e=.returned (.tuple #[])/\∃v' L',eU w' base m n v' L'/\Ho L'/\L'.Perm (x::L)/\QFr m n v v' w w':=by
 have⟨i0,hi,O,E,J⟩:=info_parts infoInt;have T:=h.hd;have hf:=h.hf;have ab:=h.hlt;have S:=uU (kD.V ho x);clear ho;go_in;go_wp2_with (at_builtin;refine wpList_append_lies _ rfl _ _ 25 rfl base 3 i0 (iv 0) 1 8 underlying25 hi O E J rfl (by decide) v L.length (L.map iv) rfl (h.own.alloc _) (aA w.heap.size 0) 1 1 [iv x] rfl rfl ?c1 ?c2 (by decide) ?c3 ?c4 ?c5 (w.heap.size+1) (by simp) ?_)
 case c1=>
  intro j u t;match j,t with
  | 0,t=>simp at t;subst t;simp[Addr.add]
 case c2=>intro u r;simp at r;subst r;rfl
 case c3=>unfold maxLen;omega
 case c4=>omega
 case c5=>simp;omega
 intro g f w1 d c p aa;have⟨P1,X,P3,P4⟩:=c8i h d c p;have U:=uU P1;have Z:=uU X;clear d c p P1 X T hf;go_wp21;go_loopw [4] (λK wr=>∃(a:Nat)(M:List Int),a<M.length/\K=iv a/\M.length=L.length+1/\eU wr base m n (sS g (L.length+1) f) M/\kD M a/\M.Perm (x::L)/\QFr m n v (sS g (L.length+1) f) w wr) (λK _=>(intOf K).toNat)
 case atStart=>exact⟨L.length,L++[x],by simp,by go_num,by simp,U,S,nI _ _,Z⟩
 case round=>
  clear S h P3 P4 U Z;obtain⟨a,M,F,rfl,hM,b,N,D,B⟩:=hrel;have P:=uU N;have G:=uU B;have T:=b.hd;have⟨H,k⟩:∃z,it M a=z:=⟨_,rfl⟩;have ca:=b.cell a F;rw[k]at ca;by_cases h0:0<a
  ·have⟨u,r⟩:=obE ((a-1) / 2);have o:u<M.length:=by omega
   have⟨y,i⟩:∃z,it M u=z:=⟨_,rfl⟩;have cu:=b.cell u o;rw[i]at cu;have ad:((a:Int)-1).tdiv 2=(u:Int):=by
    rw[Int.tdiv_eq_ediv_of_nonneg (by omega)];omega
   have i0:(0:Int)<(a:Int):=by omega
   have i1:=i0N a;have i2:(a:Int)<(L.length:Int)+1:=by omega
   have i3:=i0N u;have i4:(u:Int)<(L.length:Int)+1:=by omega
   have ac:u<a:=by omega
   have W:=uU r;clear N B r;by_cases A:y<=H
   ·have Y:=kD.done P (by rw[<-uH W,i,k];exact A);go_wp21;go_quiet (fail);go_wp21;try simp only[Exit.inBlock,Exit.then]
    refine bodyPost_ret (results_none rfl _ _ _) rfl ?_;exact⟨rfl,_,M,b.ext ((hO _).drewN _),Y,D,G.drewN _⟩
   have ae:decide (y<=H)=false:=decide_eq_false A;have q:H<y:=by omega
   have R2:=uU (kD.up P h0 F W (by rw[i,k];exact q));clear A q;go_wp21;go_quiet (fail);go_wp21;refine(c6w _ base m n g (L.length+1) f u a M (b.ext ((hO _).drewN _)) (by omega) (by omega)).mono ?_;rintro e w2 ⟨rfl,s,V⟩;have Q:=uU s;have R:=uU ((G.drewN _).trans V);clear s V;go_wp21;go_roundw
   case rel=>exact⟨u,swp M u a,by rw[a1x];omega,by go_num,by rw[a1x];omega,Q,R2,(a9v M u a o F).trans D,R⟩
   simp[intOf];omega
  have C:a=0:=by omega
  subst C;clear N B;go_wp21;go_end0;exact⟨rfl,_,M,b,(kD.top P),D,G⟩
end Go.Proofs.YtolmnenlnpbcfaaGreatDoor
