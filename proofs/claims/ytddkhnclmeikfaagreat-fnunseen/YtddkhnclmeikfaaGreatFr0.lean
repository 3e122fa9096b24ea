import Derived.Test.YtddkhnclmeikfaaGreatRw
set_option maxRecDepth 100000
namespace Go.Proofs.YtddkhnclmeikfaaGreat
open Go.RowKit Tryz
attribute [local go_sem ↓] Go.wp_at_zero Go.wp_at_succ
def zL(p:Nat->Bool)(f:Nat->Int)(k:Nat):List Int:=((List.range k).filter p).map f
theorem a2x(p:Nat->Bool)(f:Nat->Int)(k:Nat)(h:p k=true):zL p f (k+1)=zL p f k++[f k]:=by
 simp [zL,List.range_succ,List.filter_append,h]
theorem a2y(p:Nat->Bool)(f:Nat->Int)(k:Nat)(h:p k=false):zL p f (k+1)=zL p f k:=by
 simp [zL,List.range_succ,List.filter_append,h]
theorem a0r(p:Nat->Bool)(f:Nat->Int)(k:Nat)(z:Int):z∈zL p f k↔∃i,i<k/\p i=true/\f i=z:=by
 simp [zL,and_assoc]
theorem a2z(p:Nat->Bool)(f:Nat->Int)(k:Nat):(zL p f k).length<=k:=by grind [Cl.p,zL]
theorem a5y(p:Nat->Bool)(f:Nat->Int)(k:Nat):(zL p f k).Nodup↔∀i j,i<j->j<k->p i=true->p j=true->f i≠f j:=by
 unfold zL List.Nodup;rw[List.pairwise_map,List.pairwise_filter,List.pairwise_iff_getElem];constructor
 ·grind [Cl.p,zL]
 ·grind [Cl.p,zL]
def a5d(i:Nat):Int:=(i:Int)
theorem b0d(p:Nat->Bool)(k:Nat):(zL p a5d k).Nodup:=by grind [Cl.p,zL,a5d,a5y]
def a5z(x:Hp)(s:Int)(i:Nat):Bool:=(x.c i).st == s
def c3w(x:Hp)(i:Nat):Int:=(x.c i).born
def toOf(x:Hp)(i:Nat):Int:=(x.c i).to
def a7e(x:Hp)(k:Nat):List Int:=zL (a5z x 1) (c3w x) k
def a4o(x:Hp)(k:Nat):List Int:=zL (a5z x 2) (toOf x) k
def a7f(x:Hp)(k:Nat):List Int:=zL (a5z x 0) a5d k
theorem c6z(x:Hp)(h:∀i,i<x.A.length->hJ x i):b7j x↔(a7e x x.A.length).Nodup/\(a4o x x.A.length).Nodup:=by
 unfold a7e a4o;rw[a5y,a5y];constructor
 ·grind [a5z,c3w,hJ,a2t,toOf,eH,yV,b7j,a7e,a4o]
 ·intro⟨hb,ht⟩ i hi hs k hk ⟨e1,e2,e3⟩;have a:=h i hi;unfold hJ at a;rcases a with a | a | a
  ·exact hs a.1
  ·exact ht k i hk hi (by simp [a5z];omega) (by simp [a5z];omega) e3
  ·exact hb k i hk hi (by simp [a5z];omega) (by simp [a5z];omega) e2
theorem c0t{A B:List Int}(c:A.Nodup)(h:∀z,z∈A->z∈B)(g:B.length<=A.length):A.Perm B:=by
 induction A generalizing B with
 | nil=>cases B with
  | nil=>exact List.Perm.refl _
  | cons _ _=>simp at g
 | cons a A ih=>
  rw[List.nodup_cons] at c;have d:a∈B:=h a List.mem_cons_self;have i:=List.perm_cons_erase d;have b:(B.erase a).length=B.length-1:=List.length_erase_of_mem d
  have j:=ih (B:=B.erase a) c.2 (λz f=>by
   have:z≠a:=λe=>c.1 (e ▸ f)
   exact(List.mem_erase_of_ne this).2 (h z (List.mem_cons_of_mem _ f))) (by rw[b];simp at g;omega)
  exact(j.cons a).trans i.symm
def a7g(x:Hp)(i:Nat):Bool:=(x.c i).J == 1
def a6p(x:Hp)(k:Nat):List Int:=zL (a7g x) a5d k
def a4f(x:Hp)(i:Nat):Prop:=uY x\/(x.E=3/\x.I<=i)
def R5b(x:Hp):Prop:=
 (∀i,i<x.A.length->(x.c i).J=2->a4f x i)/\(¬uY x->(a6p x x.A.length).length=0)/\x.D.length=(a6p x x.A.length).length/\
 (∀g,g∈x.D->(0<=g/\g<x.A.length)/\(x.c g.toNat).J=1)/\x.D.Nodup
theorem a9i(x:Hp):R5 x↔R5b x:=by
 constructor
 ·intro⟨h1,h2,h3⟩
  have o:∀g,g∈x.D->(0<=g/\g<x.A.length)/\(x.c g.toNat).J=1:=λg k=>by
   have a:=h3 g k;refine⟨a,?_⟩;have r:=h2 g.toNat (by omega);by_cases e:(x.c g.toNat).J=1
   ·exact e
   ·have:=r.2.1 e;unfold cnt at this;rw[Int.toNat_of_nonneg a.1] at this;have:=List.count_pos_iff.2 k;omega
  have j:x.D.Perm (a6p x x.A.length):=by
   rw[List.perm_iff_count];intro z;by_cases h:z∈x.D
   ·have a:=o z h;have m:=(h2 z.toNat (by omega)).1 a.2;unfold cnt at m;rw[Int.toNat_of_nonneg a.1.1] at m;rw[m];have d:z∈a6p x x.A.length:=(a0r _ _ _ _).2 ⟨z.toNat,by omega,by simp [a7g,a.2],by unfold a5d;omega⟩;have:=(b0d (a7g x) x.A.length);rw[List.nodup_iff_count] at this;have l:=this z;have f:=List.count_pos_iff.2 d;unfold a6p at f ⊢;omega
   ·rw[List.count_eq_zero.2 h]
    symm
    rw[List.count_eq_zero];intro d;obtain⟨i,b,p,e⟩:=(a0r _ _ _ _).1 d;have:=(h2 i b).1 (by simpa [a7g] using p);have:=List.count_pos_iff.1 (show 0<List.count (i:Int) x.D by unfold cnt at this;omega);unfold a5d at e;rw[e] at this;exact h this
  refine⟨λi b q=>(h2 i b).2.2 q,λn=>by rw[<-j.length_eq];exact h1 n,j.length_eq,o,?_⟩;rw[j.nodup_iff];exact b0d _ _
 ·intro⟨h1,h2,h3,l,f⟩
  have j:x.D.Perm (a6p x x.A.length):=c0t f (λz h=>by
   have a:=l z h;exact(a0r _ _ _ _).2 ⟨z.toNat,by omega,by simp [a7g,a.2],by unfold a5d;omega⟩) (by omega)
  refine⟨λn=>by rw[h3];exact h2 n,λi b=>⟨λe=>?_,λe=>?_,λe=>h1 i b e⟩,λg k=>(l g k).1⟩
  ·have d:(i:Int)∈x.D:=j.mem_iff.2 ((a0r _ _ _ _).2 ⟨i,b,by simp [a7g,e],rfl⟩);have s:=List.count_pos_iff.2 d;rw[List.nodup_iff_count] at f;have:=f (i:Int);unfold cnt;omega
  ·grind [cnt,R5,R5b]
abbrev eX(c n:Int):Value:=.agg #[iv c,iv n]
theorem a8r:Tryz.zeroCells132.size=4018/\Tryz.zeroCells132[4015]?=some (iv 0)/\Tryz.zeroCells132[4016]?=some (iv 0)/\Tryz.zeroCells132[4017]?=some (.slice none 0 0):=⟨by kernel_rfl,by kernel_rfl,by kernel_rfl,by kernel_rfl⟩
abbrev stZ(cs:Array Value)(v0 v1 v2 v3 v4 v5 v6 v7 v8 v9 v10 v11 v12 v13 v14:Value):Array Value:=(((((((((((((((cs.setIfInBounds 0 v0).setIfInBounds 1 v1).setIfInBounds 2 v2).setIfInBounds 3 v3).setIfInBounds 4 v4).setIfInBounds 5 v5).setIfInBounds 6 v6).setIfInBounds 7 v7).setIfInBounds 8 v8).setIfInBounds 9 v9).setIfInBounds 10 v10).setIfInBounds 11 v11).setIfInBounds 12 v12).setIfInBounds 13 v13).setIfInBounds 14 v14)
theorem stZ_at(cs:Array Value)(g k j h i n m l o f a e b c d:Value)(p:cs.size=4018)(q:cs[4015]?=some (iv 0))(s:cs[4016]?=some (iv 0))(r:cs[4017]?=some (.slice none 0 0)):(stZ cs g k j h i n m l o f a e b c d).size=4018/\
   ((stZ cs g k j h i n m l o f a e b c d)[0]?=some g/\(stZ cs g k j h i n m l o f a e b c d)[1]?=some k/\(stZ cs g k j h i n m l o f a e b c d)[2]?=some j/\(stZ cs g k j h i n m l o f a e b c d)[3]?=some h/\(stZ cs g k j h i n m l o f a e b c d)[4]?=some i/\(stZ cs g k j h i n m l o f a e b c d)[5]?=some n/\(stZ cs g k j h i n m l o f a e b c d)[6]?=some m/\(stZ cs g k j h i n m l o f a e b c d)[7]?=some l/\(stZ cs g k j h i n m l o f a e b c d)[8]?=some o/\(stZ cs g k j h i n m l o f a e b c d)[9]?=some f/\(stZ cs g k j h i n m l o f a e b c d)[10]?=some a/\(stZ cs g k j h i n m l o f a e b c d)[11]?=some e/\(stZ cs g k j h i n m l o f a e b c d)[12]?=some b/\(stZ cs g k j h i n m l o f a e b c d)[13]?=some c/\(stZ cs g k j h i n m l o f a e b c d)[14]?=some d)/\
   (stZ cs g k j h i n m l o f a e b c d)[4015]?=some (iv 0)/\(stZ cs g k j h i n m l o f a e b c d)[4016]?=some (iv 0)/\(stZ cs g k j h i n m l o f a e b c d)[4017]?=some (.slice none 0 0):=by
 unfold stZ;exact⟨by simp [p],by simp [p],by simp [q],by simp [s],by simp [r]⟩
theorem d1m(L:List Pr):(L.flatMap fP).length=L.length*6:=by
 induction L with
 | nil=>rfl
 | cons a l ih=>simp only [List.flatMap_cons,List.length_append,ih,List.length_cons];simp [fP];omega
theorem fP_at{w:World}{b:Nat}:∀{L:List Pr} {o:Nat},(∀k (hk:k<L.length),qN w b (o+k*6) L[k])->∀j u,(L.flatMap fP)[j]?=some u->w.cell? (aA b (o+j))=some u
 | [],_,_,j,u,hu=>by simp at hu
 | p::l,o,h,j,u,hu=>by
  rw[List.flatMap_cons] at hu;by_cases hj:j<6
  ·have h0:=h 0 (by simp);obtain⟨h0,h1,h2,h3,h4,h5⟩:=h0;simp only [Nat.zero_mul,Nat.add_zero,List.getElem_cons_zero] at h0 h1 h2 h3 h4 h5;rw[List.getElem?_append_left (by simp [fP];exact hj)] at hu
   match j,hj with
   | 0,_=>simp [fP] at hu;rw[<-hu];exact h0
   | 1,_=>simp [fP] at hu;rw[<-hu];exact h1
   | 2,_=>simp [fP] at hu;rw[<-hu];exact h2
   | 3,_=>simp [fP] at hu;rw[<-hu];exact h3
   | 4,_=>simp [fP] at hu;rw[<-hu];exact h4
   | 5,_=>simp [fP] at hu;rw[<-hu];exact h5
  ·have hl:(fP p).length=6:=rfl;rw[List.getElem?_append_right (by rw[hl];omega),hl] at hu
   have:=fP_at (w:=w) (b:=b) (L:=l) (o:=o+6) (λk hk=>by
    have:=h (k+1) (by simp;omega);rw[show o+(k+1)*6=o+6+k*6 by omega] at this
    simpa using this) (j-6) u hu
   rw[show o+6+(j-6)=o+j by omega] at this;exact this
theorem c7j{w wr:World}{xs:List Int}{k:Nat}(h:k<xs.length)(g:∀j (a:j<xs.length),j<k->a6w wr w.heap.size (0+j*1) xs[j])(d:∀j,j<xs.length*1->qC wr w.heap.size j)(b:Ext w wr)(c:Nf1 w.heap.size wr):
  let W:=wr.setCell (aA w.heap.size k) (iv xs[k])
  (∀j (a:j<xs.length),j<k+1->a6w W w.heap.size (0+j*1) xs[j])/\(∀j,j<xs.length*1->qC W w.heap.size j)/\Ext w W/\Nf1 w.heap.size W:=by
 intro W;refine⟨λj a f=>?_,λj a=>(d j a).set _ _,b.setCell (Nat.le_refl _) _,c.set _ _⟩;by_cases e:j=k
 ·subst e;show W.cell? _=_;have:=(d j (by omega)).same (iv xs[j])
  simpa using this
 ·show W.cell? _=_;rw[uC _ (Or.inr (by omega))];exact g j a (by omega)
structure Ak where
 op:Int
 a:Int
 b:Int
 c:Int
 n:Int
abbrev Ak.v(x:Ak):Value:=.agg #[iv x.op,iv x.a,iv x.b,iv x.c,iv x.n]
def fA(y:Ak):List Value:=[iv y.op,iv y.a,iv y.b,iv y.c,iv y.n]
def zw(n:Nat):Array Value:=Array.replicate n (iv 0)
theorem mk16(w:World):(Instr.makeSlice 30 (iv 16) (iv 16)).run prog w=.ok (sS w.heap.size 16 16) (w.alloc (.cells (zw 48) 152)):=by kernel_rfl
theorem c2u(n:Int)(w:World):Calls prog 151 #[iv n] w λe w'=>e=.returned (pP (w.heap.size+1))/\w'=(w.alloc (.cells (zw 48) 152)).alloc (.cells #[iv n,iv 0,iv 0,sS w.heap.size 16 16,.slice none 0 0,iv 0,iv 0,iv 0,.slice none 0 0,iv 0,iv 0,iv 0,iv 0] 34):=by
 have a:=mk16;go_enter func151,ntmps151
 go_wp2
 go_ret;exact⟨rfl,rfl⟩
end Go.Proofs.YtddkhnclmeikfaaGreat
