import Derived.Test.YtgkpaibbdkggiaaGreatDoorL2c
import Derived.Laws.EntriesVeiled
set_option maxRecDepth 100000
set_option maxHeartbeats 2000000
namespace Go.Proofs.YtgkpaibbdkggiaaGreatDoor
open Go.RowKit Tryz
attribute [local go_sem ↓] Go.wp_at_zero Go.wp_at_succ
variable{x:Hp}{k i kr kc kg:Nat}{ar ac ag:Option Addr}{P:Program}
def a6j(x:Hp)(i:Nat):Bool:=(x.c i).st == 1
def dY(w:Wd)(n:Nat):Bool:=if w.k=0 then w.n == 0 && w.a == 0 else if w.k=1 then w.a == 0 else if w.k=2 then w.n == 0 && decide (0<=w.a) && decide (w.a<n) else false
def zH(x:Hp)(i:Nat):Bool:=(x.E == 3) && decide (x.I<=i) && ((x.c i).st == 1) && ((x.c i).J == 0)
def eC(x:Hp)(i k:Nat):Bool:=if x.E=4 then false else if x.E=5 then decide ((i:Int)<x.I) || ((i:Int) == x.I && decide ((k:Int)<x.sub)) else true
theorem c7h:a6j x i=true↔(x.c i).st=1:=by simp[a6j]
theorem a2y:zH x i=true↔uW x i:=by grind[zH,uW]
theorem a0o{w:Wd}{n:Nat}:dY w n=true↔uJ w n:=by grind[dY,uJ]
theorem b2n:eC x i k=true↔cN x i k:=by grind[eC,cN]
theorem a8r(x:Hp)(b:Nat)(a:Int)(w:World)(h:HAt w b x ar kr ac kc ag kg)(c:0<=a)(k:a<x.A.length):
  Calls prog 114 #[pP b,iv a] w λe w'=>e=.returned (.bool (a6j x a.toNat))/\w'=w:=by
 obtain⟨i,rfl⟩:=km c;rw[mM];obtain⟨f,o,rfl,g,j,_⟩:=h.C i (by omega);have d:=h.c4;go_in;go_wp2;go_ret;exact⟨rfl,rfl⟩
theorem a5g(x:Wd)(n:Nat)(w:World):Calls prog 118 #[x.v,iv n] w λe w'=>e=.returned (.bool (dY x n))/\Ext w w':=by
 by_cases b:x.k=0
 ·have e:dY x n=(x.n == 0 && x.a == 0):=by simp[dY,b]
  have E:=uU e;clear e;cases q:(x.n == 0);all_goals
   go_in;go_wp2;go_ret;exact⟨by rw[uH E];simp[q],(hO w).alloc _⟩
 have f:(x.k == 0)=false:=by simp[b]
 by_cases c:x.k=1
 ·have e:dY x n=(x.a == 0):=by simp[dY,c]
  have E:=uU e;clear e b f;go_in;go_wp2;go_ret;exact⟨by rw[uH E];simp,(hO w).alloc _⟩
 have i:(x.k == 1)=false:=by simp[c]
 by_cases d:x.k=2
 ·have e:dY x n=(x.n == 0 && decide (0<=x.a) && decide (x.a<n)):=by simp[dY,d]
  have E:=uU e;clear e b f c i;cases q:(x.n == 0)
  ·go_in;go_wp2;go_ret;exact⟨by rw[uH E];simp[q],(hO w).alloc _⟩
  by_cases g:0<=x.a
  ·go_in;go_wp2;go_ret;exact⟨by rw[uH E];simp[q,g],(hO w).alloc _⟩
  have h:decide (0<=x.a)=false:=by simp;omega
  go_in;go_wp2;go_ret;exact⟨by rw[uH E,h];simp,(hO w).alloc _⟩
 have j:(x.k == 2)=false:=by simp[d]
 have e:dY x n=false:=by simp[dY,b,c,d]
 have E:=uU e;clear e;go_in;go_wp2;go_ret;exact⟨by rw[uH E];rfl,(hO w).alloc _⟩
theorem a9q(x:Hp)(b:Nat)(a:Int)(w:World)(h:HAt w b x ar kr ac kc ag kg)(k:0<=a)(l:a<x.A.length):
  Calls prog 117 #[pP b,iv a] w λe w'=>e=.returned (.bool (zH x a.toNat))/\w'=w:=by
 obtain⟨i,rfl⟩:=km k;rw[mM];have j:=a8r x b i w h k l;rw[mM]at j;have g:=uU j;obtain⟨y,o,rfl,n,u,m,q,s,t,p,_⟩:=h.C i (by omega);have v:=h.c4;have r:=h.c5;have z:=h.c6;cases d:(x.E == 3)
 ·go_in;go_wp2;go_ret;exact⟨by simp[zH,d],rfl⟩
 cases f:decide (x.I<=(i:Int))
 ·go_in;go_wp2;go_ret;exact⟨by simp[zH,d,f],rfl⟩
 cases c:a6j x i
 all_goals
  go_in;go_wp2_with (go_at_call 114;refine g.mono ?_;rintro e w' ⟨rfl,rfl⟩);go_ret
 exact⟨by unfold a6j at c;simp[zH,c],rfl⟩;exact⟨by unfold a6j at c;simp[zH,d,f,c],rfl⟩
theorem b8o(x:Hp)(b i k:Nat)(w:World)(h:HAt w b x ar kr ac kc ag kg):
  Calls prog 119 #[pP b,iv i,iv k] w λe w'=>e=.returned (.bool (eC x i k))/\w'=w:=by
 have m:=h.c5;have j:=h.c6;have n:=h.c7;by_cases c:x.E=4
 ·have E:=uU (show eC x i k=false by simp[eC,c]);go_in;go_wp2;go_ret;exact⟨by rw[uH E];rfl,rfl⟩
 have l:(x.E == 4)=false:=by simp[c]
 by_cases d:x.E=5
 ·have E:=uU (show eC x i k=(decide ((i:Int)<x.I) || ((i:Int) == x.I && decide ((k:Int)<x.sub))) by simp[eC,d]);cases a:decide ((i:Int)<x.I)
  ·cases f:((i:Int) == x.I)
   ·go_in;go_wp2;go_ret;exact⟨by rw[uH E,a,f];simp,rfl⟩
   go_in;go_wp2;go_ret;exact⟨by rw[uH E,a,f];simp,rfl⟩
  go_in;go_wp2;go_ret;exact⟨by rw[uH E,a];simp,rfl⟩
 have g:(x.E == 5)=false:=by simp[d]
 go_in;go_wp2;go_ret;exact⟨by rw[(show eC x i k=true by simp[eC,c,d])];rfl,rfl⟩
def Rn(x:Hp):Nat->Prop
 | 0=>R1 x
 | 1=>R2 x
 | 2=>R3 x
 | 3=>R4 x
 | 4=>R5 x
 | 5=>R6 x
 | 6=>R7 x
 | _=>R8 x
theorem b1g(l:k<8)(h:∀j,j<k->Rn x j)(b:¬Rn x k):qU x ((k:Int)+1):=by
 unfold qU;have a:=h 0;have c:=h 1;have d:=h 2;have e:=h 3;have f:=h 4;have g:=h 5;have i:=h 6;obtain _|_|_|_|_|_|_|_|k:=k;all_goals first|omega|simp_all[Rn]
theorem c6b(h:∀j,j<8->Rn x j):qU x 0:=by
 unfold qU;have a:=h 0;have c:=h 1;have d:=h 2;have e:=h 3;have f:=h 4;have g:=h 5;have i:=h 6;have j:=h 7;simp_all[Rn]
theorem a3e(h:∀j,j<k->Rn x j)(a:Rn x k):∀j,j<k+1->Rn x j:=by grind[Rn]
theorem c3z(b:R2 x)(i:Nat)(a:i<x.A.length):(x.c i).F.length<=200:=by
 obtain c|c|c:=b.1 i a;have:=c.2.1.2.2.2.2.2;omega;have:=c.2.1.2.2.2.2.2;omega;exact c.2.2.2.2.2.2.2
def c0n(op:Int):Bool:=!(op == 18 || op == 20 || op == 21 || op == 22 || op == 23 || op == 24)
def c6f(op:Int):Bool:=op == 4 || op == 5 || op == 6 || op == 7 || op == 8 || op == 13
def kJ(op:Int):Int:=if op=1 then 255 else if c6f op=true then 15 else if op=23 then 64 else 0
def gH(op:Int):Int:=if op=1\/op=9\/op=10 then 200 else if 5<=op/\op<=8 then 199 else if op=11 then 3 else if op=12 then 1 else if op=22 then 100000 else if op=23 then 4000 else 0
theorem d1a(op:Int)(a:1<=op)(b:op<=24):op=1\/op=2\/op=3\/op=4\/op=5\/op=6\/op=7\/op=8\/op=9\/op=10\/op=11\/op=12\/op=13\/op=14\/op=15\/op=16\/op=17\/op=18\/op=19\/op=20\/op=21\/op=22\/op=23\/op=24:=by omega
theorem l5_any(op:Int)(a:1<=op)(b:op<=24)(w:World):(Calls prog 121 #[iv op] w λe w'=>e=.returned (.tuple #[.bool (c0n op),.bool (c6f op)])/\w'=w)/\Calls prog 122 #[iv op] w λe w'=>e=.returned (.tuple #[iv (kJ op),iv (gH op)])/\w'=w:=by
 have h:=d1a op a b;obtain rfl|rfl|rfl|rfl|rfl|rfl|rfl|rfl|rfl|rfl|rfl|rfl|rfl|rfl|rfl|rfl|rfl|rfl|rfl|rfl|rfl|rfl|rfl|rfl:=h <;> constructor
 all_goals
  go_in;go_wp2;go_ret2;exact⟨rfl,rfl⟩
def a6y(op:Int):Int:=if c0n op=true then 15 else 0
def zC(op a b c n:Int):Bool:=decide ((1<=op/\op<=24)/\(n=0\/op=2)) && (decide (0<=a/\a<=a6y op) && (decide (0<=b/\b<=kJ op) && decide (0<=c/\c<=gH op)))
abbrev yU(op a b c n:Int):Value:=.agg #[iv op,iv a,iv b,iv c,iv n]
theorem act_no{op a b c n:Int}(h:op<1\/24<op\/(n≠0/\op≠2)):zC op a b c n=false:=by grind[zC]
theorem a1g(op a b c n:Int)(w:World):Calls prog 66 #[yU op a b c n] w λe w'=>e=.returned (.bool (zC op a b c n))/\Ext w w':=by
 by_cases o:1<=op/\op<=24
 rotate_left
 ·have E:=uU (show zC op a b c n=false by grind[zC]);by_cases i:op<1
  rotate_left
  have j:op > 24:=by omega
  all_goals
   go_in;go_wp21;go_ret;exact⟨by rw[uH E];rfl,(hO _).alloc _⟩
 have k:=uU (λW=>l5_any op o.1 o.2 W);obtain⟨g,C⟩:=obE (kJ op);obtain⟨t,B⟩:=obE (gH op);obtain⟨r,R⟩:=obE (c0n op);rw[<-C,<-B,<-R]at k;have E:=uU (show zC op a b c n=(decide (n=0\/op=2) && decide (0<=a/\a<=if r=true then 15 else 0) && qL b 0 g && qL c 0 t) by rw[C,B,R,Bool.eq_iff_iff];cases h:c0n op <;> simp[zC,a6y,qL,o,h,and_assoc]);have H:¬op<1:=by omega
 have I:¬op > 24:=by omega
 clear C B R o;cases p:(op != 2)
 focus skip
 rotate_left
 cases q:(n != 0)
 rotate_left
 ·go_in;go_wp21;go_ret;exact⟨by simp at p q;show Ending.returned (.bool _)=_;rw[uH E];simp[p,q],(hO _).alloc _⟩
 all_goals
  have D:=uU (show n=0\/op=2 by simp at p;first|exact .inr p|exact .inl (by simpa using q));cases r
  focus cases f:(a != 0)
  rotate_left 2
  focus cases f:qL a 0 15
  rotate_left 2
  all_goals
   cases i:qL b 0 g
   all_goals
    go_in;go_wp2_with (first|(go_at_call 121;refine(k _).1.mono ?_;rintro e d ⟨rfl,rfl⟩)|(go_at_call 122;refine(k _).2.mono ?_;rintro e d ⟨rfl,rfl⟩)|(go_at_call 113;refine(a9n _ _ _ _).mono ?_;rintro e d ⟨rfl,rfl⟩));go_ret;exact⟨by show Ending.returned (.bool _)=_;rw[uH E,decide_eq_true (uH D),i];simp[qL]at f;simp[f] <;> (intros;omega),(hO _).alloc _⟩
theorem a7z:Tryz.zeroCells103.size=4018/\Tryz.zeroCells103[4015]?=some (iv 0)/\Tryz.zeroCells103[4016]?=some (iv 0)/\Tryz.zeroCells103[4017]?=some (.slice none 0 0):=by refine⟨?_,?_,?_,?_⟩<;>kernel_rfl
abbrev stZ(cs:Array Value)(v0 v1 v2 v3 v4 v5 v6 v7 v8 v9 v10 v11 v12 v13 v14:Value):Array Value:=(((((((((((((((cs.setIfInBounds 0 v0).setIfInBounds 1 v1).setIfInBounds 2 v2).setIfInBounds 3 v3).setIfInBounds 4 v4).setIfInBounds 5 v5).setIfInBounds 6 v6).setIfInBounds 7 v7).setIfInBounds 8 v8).setIfInBounds 9 v9).setIfInBounds 10 v10).setIfInBounds 11 v11).setIfInBounds 12 v12).setIfInBounds 13 v13).setIfInBounds 14 v14)
theorem stZ_at(cs:Array Value)(g k j h i n m l o f a e b c d:Value)(p:cs.size=4018)(q:cs[4015]?=some (iv 0))(s:cs[4016]?=some (iv 0))(r:cs[4017]?=some (.slice none 0 0)):(stZ cs g k j h i n m l o f a e b c d).size=4018/\
   ((stZ cs g k j h i n m l o f a e b c d)[0]?=some g/\(stZ cs g k j h i n m l o f a e b c d)[1]?=some k/\(stZ cs g k j h i n m l o f a e b c d)[2]?=some j/\(stZ cs g k j h i n m l o f a e b c d)[3]?=some h/\(stZ cs g k j h i n m l o f a e b c d)[4]?=some i/\(stZ cs g k j h i n m l o f a e b c d)[5]?=some n/\(stZ cs g k j h i n m l o f a e b c d)[6]?=some m/\(stZ cs g k j h i n m l o f a e b c d)[7]?=some l/\(stZ cs g k j h i n m l o f a e b c d)[8]?=some o/\(stZ cs g k j h i n m l o f a e b c d)[9]?=some f/\(stZ cs g k j h i n m l o f a e b c d)[10]?=some a/\(stZ cs g k j h i n m l o f a e b c d)[11]?=some e/\(stZ cs g k j h i n m l o f a e b c d)[12]?=some b/\(stZ cs g k j h i n m l o f a e b c d)[13]?=some c/\(stZ cs g k j h i n m l o f a e b c d)[14]?=some d)/\
   (stZ cs g k j h i n m l o f a e b c d)[4015]?=some (iv 0)/\(stZ cs g k j h i n m l o f a e b c d)[4016]?=some (iv 0)/\(stZ cs g k j h i n m l o f a e b c d)[4017]?=some (.slice none 0 0):=by
 unfold stZ;exact⟨by simp[p],by simp[p],by simp[q],by simp[s],by simp[r]⟩
theorem ptr_nil(a o:Nat)(w:World):(binOp .eql 97 (.pointer none) (pQ a o)).run prog w=.ok (.bool false) w:=by kernel_rfl
theorem c1z(w:World)(a p q:Nat):(sameAddr (aA a p) (aA a q)).run P w=.ok (p == q) w:=by
 have:(((aA a p):Addr) == (aA a q))=(p == q):=by grind
 simp[sameAddr,this]
theorem d2o(w:World)(d:Nat)(t e:TypeId)(i:TypeInfo)(c:P.underlying t=some (.pointer e))(b:P.info? e=some i)(f:i.size≠0)(a p q:Nat):
  (Op.equalIn (d+1) t (pQ a p) (pQ a q)).run P w=.ok (p == q) w:=by
 simp[Op.equalIn,run_underlying c,sizeOf,typeInfo,b,f,c1z]
theorem c8q:(prog.info? 107).map (λi=>i.size)=some 2:=by kernel_rfl
theorem d2p(a p q:Nat)(w:World):(binOp .eql 97 (pQ a p) (pQ a q)).run prog w=.ok (.bool (p == q)) w:=by
 have⟨i,b,d⟩:∃i,prog.info? 107=some i/\i.size=2:=by
  have:=c8q;cases h:prog.info? 107 with
  | none=>rw[h]at this;simp at this
  | some i=>rw[h]at this;simp at this;exact⟨i,rfl,this⟩
 have c:(Op.equalIn 10000 97 (pQ a p) (pQ a q)).run prog w=.ok (p == q) w:=by
  exact d2o w 9999 97 107 i underlying97 b (by omega) a p q
 simp only[binOp];simp[Op.equal,Op.maxDepth,c]
theorem d2q(a p q:Nat)(w:World)(h:¬p=q):(binOp .eql 97 (pQ a p) (pQ a q)).run prog w=.ok (.bool false) w:=by grind[d2p]
theorem c6t(a p:Nat)(w:World):(binOp .eql 97 (pQ a p) (pQ a p)).run prog w=.ok (.bool true) w:=by
 rw[d2p];simp
theorem c9y{w wr:World}{xs:List Int}(h:k<xs.length)(g:∀j (a:j<xs.length),j<k->a8e wr w.heap.size (0+j*1) xs[j])(d:∀j,j<xs.length*1->yQ wr w.heap.size j)(b:Ext w wr)(c:Nf1 w.heap.size wr):
  let W:=wr.setCell (aA w.heap.size k) (iv xs[k]);(∀j (a:j<xs.length),j<k+1->a8e W w.heap.size (0+j*1) xs[j])/\(∀j,j<xs.length*1->yQ W w.heap.size j)/\Ext w W/\Nf1 w.heap.size W:=by
 intro W;refine⟨λj a f=>?_,λj a=>(d j a).set _ _,b.setCell (hT _) _,c.set _ _⟩;by_cases e:j=k;subst e;show W.cell? _=_;have:=(d j (by omega)).same (iv xs[j]);simpa using this;show W.cell? _=_;rw[uC _ (kz (by omega))];exact g j a (by omega)
theorem a4g(n b a:Int)(r:Bool)(h:cH n b a=r)(w:World):Calls prog 30 #[iv n,iv b,iv a] w λe w'=>e=.returned (.bool r)/\w'=w:=h ▸ a8p n b a w
def b6z:List Value:=[iv 0,iv 0,iv 0,.nilFunc,iv 15,iv 255,iv 200,.func (.func 174) #[] #[],iv 15,iv 0,iv 0,.func (.func 175) #[] #[],iv 15,iv 0,iv 0,.func (.func 176) #[] #[],iv 15,iv 15,iv 0,.func (.func 177) #[] #[],iv 15,iv 15,iv 199,.func (.func 178) #[] #[],iv 15,iv 15,iv 199,.func (.func 178) #[] #[],iv 15,iv 15,iv 199,.func (.func 179) #[] #[],iv 15,iv 15,iv 199,.func (.func 179) #[] #[],iv 15,iv 0,iv 200,.func (.func 180) #[] #[],iv 15,iv 0,iv 200,.func (.func 181) #[] #[],iv 15,iv 0,iv 3,.func (.func 182) #[] #[],iv 15,iv 0,iv 1,.func (.func 183) #[] #[],iv 15,iv 15,iv 0,.func (.func 184) #[] #[],iv 15,iv 0,iv 0,.func (.func 185) #[] #[],iv 15,iv 0,iv 0,.func (.func 186) #[] #[],iv 15,iv 0,iv 0,.func (.func 187) #[] #[],iv 15,iv 0,iv 0,.func (.func 188) #[] #[],iv 0,iv 0,iv 0,.func (.func 189) #[] #[],iv 15,iv 0,iv 0,.func (.func 190) #[] #[],iv 0,iv 0,iv 0,.func (.func 191) #[] #[],iv 0,iv 0,iv 0,.func (.func 192) #[] #[],iv 0,iv 0,iv 100000,.func (.func 193) #[] #[],iv 0,iv 64,iv 4000,.func (.func 194) #[] #[],iv 0,iv 0,iv 0,.func (.func 195) #[] #[]]
def wayF(op:Int):Nat:=if op=1 then 174 else if op=2 then 175 else if op=3 then 176 else if op=4 then 177 else if op=5 then 178 else if op=6 then 178 else if op=7 then 179 else if op=8 then 179 else if op=9 then 180 else if op=10 then 181 else if op=11 then 182 else if op=12 then 183 else if op=13 then 184 else if op=14 then 185 else if op=15 then 186 else if op=16 then 187 else if op=17 then 188 else if op=18 then 189 else if op=19 then 190 else if op=20 then 191 else if op=21 then 192 else if op=22 then 193 else if op=23 then 194 else 195
theorem wayL_at(k:Nat)(b:1<=k)(a:k<=24):b6z[k*4]?=some (iv (a6y k))/\b6z[k*4+1]?=some (iv (kJ k))/\b6z[k*4+2]?=some (iv (gH k))/\b6z[k*4+3]?=some (.func (.func (wayF k)) #[] #[]):=by
 have h:k=1\/k=2\/k=3\/k=4\/k=5\/k=6\/k=7\/k=8\/k=9\/k=10\/k=11\/k=12\/k=13\/k=14\/k=15\/k=16\/k=17\/k=18\/k=19\/k=20\/k=21\/k=22\/k=23\/k=24:=by omega
 obtain rfl|rfl|rfl|rfl|rfl|rfl|rfl|rfl|rfl|rfl|rfl|rfl|rfl|rfl|rfl|rfl|rfl|rfl|rfl|rfl|rfl|rfl|rfl|rfl:=h <;> exact⟨rfl,rfl,rfl,rfl⟩
theorem b2j{o:Oper}{a:Act}{K:Act->World->Prop}{Q:Exit->Act->World->Prop}(W:World)(g:Nat)(b:Array Value)(t:TypeId)(L c:List Value)(f:L=c)(j:W.heap[g]?=some (.cells b t (0,0)))(k:c.length=b.size)(h:c.all (·.oneCell')=true)(i:∀W',W'=W.setRow g c.toArray->Oper.upon P o a K Q (.ok .skip W')):
  Oper.upon P o a K Q (((storeCells (aA g 0) L).run P W).andThen λ_ w'=>.ok .skip w'):=by
 subst f;have:=run_storeCells_at (P:=P) g 0 t L 0 b W j (by omega) (λv d=>List.all_eq_true.1 h v d);rw[this];refine i _ ?_;have e:List.drop (0+0+L.length) b.toList=[]:=qS (by simp[k]);rw[e];simp
theorem a5y(w:World)(c b a:Obj):(((w.alloc c).alloc b).alloc a).heap[w.heap.size+1+1]?=some a:=by
 have:=heap_alloc_new ((w.alloc c).alloc b) a;simpa using this
structure c3i(w W:World)(op a b c n:Int):Prop where
 a0:W.cell? ⟨w.heap.size,0,none⟩=some (iv op)
 a1:W.cell? ⟨w.heap.size,1,none⟩=some (iv a)
 a2:W.cell? ⟨w.heap.size,2,none⟩=some (iv b)
 a3:W.cell? ⟨w.heap.size,3,none⟩=some (iv c)
 a4:W.cell? ⟨w.heap.size,4,none⟩=some (iv n)
 v0:W.cell? ⟨w.heap.size+1,0,none⟩=some (iv 0)
 v1:W.cell? ⟨w.heap.size+1,1,none⟩=some (iv 0)
 v2:W.cell? ⟨w.heap.size+1,2,none⟩=some (iv 0)
 v3:W.cell? ⟨w.heap.size+1,3,none⟩=some .nilFunc
 fz:∀j,W.frozen? ⟨w.heap.size+1,j,none⟩=false
 t:∀j,W.cell? ⟨w.heap.size+1+1,j,none⟩=b6z[j]?
 ex:Ext w W
theorem c3i.of(w W:World)(op a b c n:Int)(h i g:TypeId)(d:Array Value)(m:W=(((w.alloc (.cells #[iv op,iv a,iv b,iv c,iv n] h)).alloc (.cells #[iv 0,iv 0,iv 0,.nilFunc] i)).alloc (.cells d g)).setRow (w.heap.size+1+1) b6z.toArray):c3i w W op a b c n:=by
 have o:∀k,k≠w.heap.size+1+1->W.heap[k]?=(((w.alloc (.cells #[iv op,iv a,iv b,iv c,iv n] h)).alloc (.cells #[iv 0,iv 0,iv 0,.nilFunc] i)).alloc (.cells d g)).heap[k]?:=λk p=>by rw[m];exact setRow_other _ _ k _ p
 have f:∀j,W.cell? (aA w.heap.size j)=#[iv op,iv a,iv b,iv c,iv n][j]?:=λj=>by
  rw[cOb w.heap.size j (o w.heap.size (by omega))];refine cell_of_row _ w.heap.size j _ h (0,0) ?_;rw[mF _ _ _ (by simp;omega),mF _ _ _ (by simp)];exact heap_alloc_new w _
 have q:W.heap[w.heap.size+1]?=some (.cells #[iv 0,iv 0,iv 0,.nilFunc] i):=by
  rw[o _ (by omega),mF _ _ _ (by simp)];have:=heap_alloc_new (w.alloc (.cells #[iv op,iv a,iv b,iv c,iv n] h)) (.cells #[iv 0,iv 0,iv 0,.nilFunc] i);have e:(w.alloc (.cells #[iv op,iv a,iv b,iv c,iv n] h)).heap.size=w.heap.size+1:=by simp
  rw[e]at this;exact this
 have l:∀j,W.cell? (aA (w.heap.size+1) j)=#[iv 0,iv 0,iv 0,.nilFunc][j]?:=λj=>cell_of_row _ _ j _ i (0,0) q
 have r:W.heap[w.heap.size+1+1]?=some (.cells b6z.toArray g):=by
  rw[m];exact setRow_heap _ _ d _ g _ (a5y _ _ _ _)
 refine⟨f 0,f 1,f 2,f 3,f 4,l 0,l 1,l 2,l 3,λj=>?_,λj=>?_,?_⟩;unfold World.frozen?;simp[q];rw[cell_of_row _ _ j _ g (0,0) r];simp;rw[m];exact mV ((eAl w _).alloc _ |>.alloc _) ⟨rfl,rfl,rfl,by simp[World.setRow],λk p=>setRow_other _ _ k _ (by omega)⟩
theorem c9z(op a b c n:Int)(w:World)(h:cH op 1 24=false):Calls prog 110 #[yU op a b c n] w λe w'=>e=.returned (.tuple #[.agg #[iv 0,iv 0,iv 0,.nilFunc],.bool false])/\Ext w w':=by
 have k:=uU (λW=>a4g op 1 24 false h W);go_in;go_wp21;refine b2j _ _ _ _ _ b6z (by kernel_rfl) (a5y _ _ _ _) (by kernel_rfl) (by kernel_rfl) ?_;intro r d;have T:=c3i.of _ _ _ _ _ _ _ _ _ _ _ d;clear d;obtain⟨x,o,s,u,v,j,i,l,m,q,f,g⟩:=T;have y:=uU f;have X:=uU g;clear f g;simp only[Oper.upon];go_wp2_with (go_at_call 30;refine(k _).mono ?_;rintro e t ⟨rfl,rfl⟩);refine bodyPost_ret (by rw[results_cell_tmp rfl];simp[go_sem,loadVar,j,i,l,m];rfl) rfl ?_;exact⟨rfl,(((X.sc (w.heap.size+1) 0 (mS _) _).sc (w.heap.size+1) 1 (mS _) _).sc (w.heap.size+1) 2 (mS _) _).sc (w.heap.size+1) 3 (mS _) _⟩
theorem d0a(k:Nat)(a b c n:Int)(w:World)(o:1<=k)(q:k<=24)(C:((k:Int) != 2)=true)(B:(n != 0)=true):Calls prog 110 #[yU k a b c n] w λe w'=>e=.returned (.tuple #[.agg #[iv 0,iv 0,iv 0,.nilFunc],.bool false])/\Ext w w':=by
 have j:=uU (λW=>a4g k 1 24 true (by simp[cH];omega) W);clear o q;go_in;go_wp21;refine b2j _ _ _ _ _ b6z (by kernel_rfl) (a5y _ _ _ _) (by kernel_rfl) (by kernel_rfl) ?_;intro t d;have T:=c3i.of _ _ _ _ _ _ _ _ _ _ _ d;clear d;obtain⟨z,r,u,x,y,i,h,l,m,s,f,g⟩:=T;have A:=uU f;have X:=uU g;clear f g;simp only[Oper.upon];go_wp2_with (go_at_call 30;refine(j _).mono ?_;rintro e v ⟨rfl,rfl⟩);refine bodyPost_ret (by rw[results_cell_tmp rfl];simp[go_sem,loadVar,i,h,l,m];rfl) rfl ?_;exact⟨rfl,(((X.sc (w.heap.size+1) 0 (mS _) _).sc (w.heap.size+1) 1 (mS _) _).sc (w.heap.size+1) 2 (mS _) _).sc (w.heap.size+1) 3 (mS _) _⟩
