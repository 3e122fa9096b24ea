import Derived.Test.YtmfgdjfpchplmaaGreatDoorHx
import Derived.Test.YtmfgdjfpchplmaaGreatDoorIn
import Derived.Laws.CopyRow
import Derived.Laws.EntriesVeiled
import Derived.Laws.Pointers
import Derived.Laws.ResultCell
set_option maxRecDepth 100000
set_option maxHeartbeats 2000000
namespace Go.Proofs.YtmfgdjfpchplmaaGreatDoor
open Go.RowKit Tryz
attribute [local go_sem ↓] Go.wp_at_zero Go.wp_at_succ
variable{w w' a:World}{B k cap i n kr kc kg b o C sz:Nat}{S T:Nat->Prop}{x:Hp}{v vr vc vg:Value}{xs:List Cl}{ad ar ac ag:Option Addr}{P:Program}
def a6o(x:Hp)(i:Nat):Bool:=(x.c i).st == 1
def dQ(w:Wd)(n:Nat):Bool:=if w.k=0 then w.n == 0 && w.a == 0 else if w.k=1 then w.a == 0 else if w.k=2 then w.n == 0 && decide (0<=w.a) && decide (w.a<n) else false
def qE(x:Hp)(i:Nat):Bool:=(x.E == 3) && decide (x.I<=i) && ((x.c i).st == 1) && ((x.c i).J == 0)
def dK(x:Hp)(i k:Nat):Bool:=if x.E=4 then false else if x.E=5 then decide ((i:Int)<x.I) || ((i:Int) == x.I && decide ((k:Int)<x.sub)) else true
theorem d0a:a6o x i=true↔(x.c i).st=1:=by simp [a6o]
theorem a3b:qE x i=true↔uW x i:=by grind [qE,uW]
theorem a0p{w:Wd}:dQ w n=true↔hQ w n:=by grind [dQ,hQ]
theorem b3g:dK x i k=true↔cQ x i k:=by grind [dK,cQ]
theorem a9a(x:Hp)(b:Nat)(a:Int)(w:World)(h:HAt w b x ar kr ac kc ag kg)(c:0<=a)(k:a<x.A.length):
  Calls prog 77 #[pP b,iv a] w λe w'=>e=.returned (.bool (a6o x a.toNat))/\w'=w:=by
 obtain⟨i,rfl⟩:=mb c;rw[mD];obtain⟨f,o,rfl,g,j,_⟩:=h.C i (by omega);have d:=h.c4;go_in;go_wp2;go_ret;exact⟨rfl,rfl⟩
theorem a5i(x:Wd)(n:Nat)(w:World):Calls prog 81 #[x.v,iv n] w λe w'=>e=.returned (.bool (dQ x n))/\Ext w w':=by
 by_cases b:x.k=0
 ·have e:dQ x n=(x.n == 0 && x.a == 0):=by simp [dQ,b]
  have E:=uU e;clear e;cases q:(x.n == 0)
  all_goals
   go_in
   go_wp2
   go_ret;exact⟨by rw[uH E];simp [q],(hO w).alloc _⟩
 ·have f:(x.k == 0)=false:=by simp [b]
  by_cases c:x.k=1
  ·have e:dQ x n=(x.a == 0):=by simp [dQ,c]
   have E:=uU e;clear e b f;go_in;go_wp2;go_ret;exact⟨by rw[uH E];simp,(hO w).alloc _⟩
  ·have i:(x.k == 1)=false:=by simp [c]
   by_cases d:x.k=2
   ·have e:dQ x n=(x.n == 0 && decide (0<=x.a) && decide (x.a<n)):=by simp [dQ,d]
    have E:=uU e;clear e b f c i;cases q:(x.n == 0)
    ·go_in;go_wp2;go_ret;exact⟨by rw[uH E];simp [q],(hO w).alloc _⟩
    ·by_cases g:0<=x.a
     ·go_in;go_wp2;go_ret;exact⟨by rw[uH E];simp [q,g],(hO w).alloc _⟩
     ·have h:decide (0<=x.a)=false:=by simp;omega
      go_in;go_wp2;go_ret;exact⟨by rw[uH E,h];simp,(hO w).alloc _⟩
   ·have j:(x.k == 2)=false:=by simp [d]
    have e:dQ x n=false:=by simp [dQ,b,c,d]
    have E:=uU e;clear e;go_in;go_wp2;go_ret;exact⟨by rw[uH E];rfl,(hO w).alloc _⟩
theorem b0c(x:Hp)(b:Nat)(a:Int)(w:World)(h:HAt w b x ar kr ac kc ag kg)(k:0<=a)(l:a<x.A.length):
  Calls prog 80 #[pP b,iv a] w λe w'=>e=.returned (.bool (qE x a.toNat))/\w'=w:=by
 obtain⟨i,rfl⟩:=mb k;rw[mD];have j:=a9a x b i w h k l;rw[mD] at j;have g:=uU j;obtain⟨y,o,rfl,n,u,m,q,s,t,p,_⟩:=h.C i (by omega);have v:=h.c4;have r:=h.c5;have z:=h.c6;cases d:(x.E == 3)
 ·go_in;go_wp2;go_ret;exact⟨by simp [qE,d],rfl⟩
 ·cases f:decide (x.I<=(i:Int))
  ·go_in;go_wp2;go_ret;exact⟨by simp [qE,d,f],rfl⟩
  ·cases c:a6o x i
   all_goals
    go_in;go_wp2_with (go_at_call 77;refine g.mono ?_;rintro e w' ⟨rfl,rfl⟩);go_ret
   ·exact⟨by unfold a6o at c;simp [qE,c],rfl⟩
   ·exact⟨by unfold a6o at c;simp [qE,d,f,c],rfl⟩
theorem b9t(x:Hp)(b i k:Nat)(w:World)(h:HAt w b x ar kr ac kc ag kg):
  Calls prog 82 #[pP b,iv i,iv k] w λe w'=>e=.returned (.bool (dK x i k))/\w'=w:=by
 have m:=h.c5;have j:=h.c6;have n:=h.c7;by_cases c:x.E=4
 ·have E:=uU (show dK x i k=false by simp [dK,c]);go_in;go_wp2;go_ret;exact⟨by rw[uH E];rfl,rfl⟩
 ·have l:(x.E == 4)=false:=by simp [c]
  by_cases d:x.E=5
  ·have E:=uU (show dK x i k=(decide ((i:Int)<x.I) || ((i:Int) == x.I && decide ((k:Int)<x.sub))) by simp [dK,d]);cases a:decide ((i:Int)<x.I)
   ·cases f:((i:Int) == x.I)
    ·go_in;go_wp2;go_ret;exact⟨by rw[uH E,a,f];simp,rfl⟩
    ·go_in;go_wp2;go_ret;exact⟨by rw[uH E,a,f];simp,rfl⟩
   ·go_in;go_wp2;go_ret;exact⟨by rw[uH E,a];simp,rfl⟩
  ·have g:(x.E == 5)=false:=by simp [d]
   go_in;go_wp2;go_ret;exact⟨by rw[(show dK x i k=true by simp [dK,c,d])];rfl,rfl⟩
def c3h(op:Int):Bool:=!(op == 18 || op == 20 || op == 21 || op == 22 || op == 23 || op == 24)
def c9a(op:Int):Bool:=op == 4 || op == 5 || op == 6 || op == 7 || op == 8 || op == 13
def kW(op:Int):Int:=if op=1 then 255 else if c9a op=true then 15 else if op=23 then 64 else 0
def kK(op:Int):Int:=if op=1\/op=9\/op=10 then 200 else if 5<=op/\op<=8 then 199 else if op=11 then 3 else if op=12 then 1 else if op=22 then 100000 else if op=23 then 4000 else 0
theorem d4n(op:Int)(a:1<=op)(b:op<=24):op=1\/op=2\/op=3\/op=4\/op=5\/op=6\/op=7\/op=8\/op=9\/op=10\/op=11\/op=12\/op=13\/op=14\/op=15\/op=16\/op=17\/op=18\/op=19\/op=20\/op=21\/op=22\/op=23\/op=24:=by omega
theorem l5_any(op:Int)(a:1<=op)(b:op<=24)(w:World):(Calls prog 84 #[iv op] w λe w'=>e=.returned (.tuple #[.bool (c3h op),.bool (c9a op)])/\w'=w)/\Calls prog 85 #[iv op] w λe w'=>e=.returned (.tuple #[iv (kW op),iv (kK op)])/\w'=w:=by
 have h:=d4n op a b;rcases h with rfl|rfl|rfl|rfl|rfl|rfl|rfl|rfl|rfl|rfl|rfl|rfl|rfl|rfl|rfl|rfl|rfl|rfl|rfl|rfl|rfl|rfl|rfl|rfl <;> constructor
 all_goals
  go_in
  go_wp2
  go_ret2;exact⟨rfl,rfl⟩
def a7c(op:Int):Int:=if c3h op=true then 15 else 0
def qJ(op a b c n:Int):Bool:=decide ((1<=op/\op<=24)/\(n=0\/op=2)) && (decide (0<=a/\a<=a7c op) && (decide (0<=b/\b<=kW op) && decide (0<=c/\c<=kK op)))
abbrev tV(op a b c n:Int):Value:=.agg #[iv op,iv a,iv b,iv c,iv n]
theorem act_no{op a b c n:Int}(h:op<1\/24<op\/(n≠0/\op≠2)):qJ op a b c n=false:=by grind [qJ]
theorem a1h(op a b c n:Int)(w:World):Calls prog 44 #[tV op a b c n] w λe w'=>e=.returned (.bool (qJ op a b c n))/\Ext w w':=by
 by_cases o:1<=op/\op<=24
 rotate_left
 ·have E:=uU (show qJ op a b c n=false by grind [qJ]);by_cases i:op<1
  rotate_left
  have j:op > 24:=by omega
  all_goals
   go_in;go_wp21;go_ret;exact⟨by rw[uH E];rfl,(hO _).alloc _⟩
 have k:=uU (λW=>l5_any op o.1 o.2 W);obtain⟨g,C⟩:=obE (kW op);obtain⟨t,B⟩:=obE (kK op);obtain⟨r,R⟩:=obE (c3h op);rw[<-C,<-B,<-R] at k;have E:=uU (show qJ op a b c n=(decide (n=0\/op=2) && decide (0<=a/\a<=if r=true then 15 else 0) && eV b 0 g && eV c 0 t) by rw[C,B,R,Bool.eq_iff_iff];cases h:c3h op <;> simp [qJ,a7c,eV,o,h,and_assoc]);have H:¬op<1:=by omega
 have I:¬op > 24:=by omega
 clear C B R o;cases p:(op != 2)
 focus skip
 rotate_left
 cases q:(n != 0)
 rotate_left
 ·go_in;go_wp21;go_ret;exact⟨by simp at p q;show Ending.returned (.bool _)=_;rw[uH E];simp [p,q],(hO _).alloc _⟩
 all_goals
  have D:=uU (show n=0\/op=2 by simp at p;first|exact .inr p|exact .inl (by simpa using q));cases r
  focus cases f:(a != 0)
  rotate_left 2
  focus cases f:eV a 0 15
  rotate_left 2
  all_goals
   cases i:eV b 0 g
   all_goals
    go_in;go_wp2_with (first|(go_at_call 84;refine(k _).1.mono ?_;rintro e d ⟨rfl,rfl⟩)|(go_at_call 85;refine(k _).2.mono ?_;rintro e d ⟨rfl,rfl⟩)|(go_at_call 76;refine(b0d _ _ _ _).mono ?_;rintro e d ⟨rfl,rfl⟩));go_ret;exact⟨by show Ending.returned (.bool _)=_;rw[uH E,decide_eq_true (uH D),i];simp [eV] at f;simp [f] <;> (intros;omega),(hO _).alloc _⟩
def Rn(x:Hp):Nat->Prop
 | 0=>R1 x
 | 1=>R2 x
 | 2=>R3 x
 | 3=>R4 x
 | 4=>R5 x
 | 5=>R6 x
 | 6=>R7 x
 | _=>R8 x
theorem b1z(l:k<8)(h:∀j,j<k->Rn x j)(b:¬Rn x k):eD x ((k:Int)+1):=by
 unfold eD;have a:=h 0;have c:=h 1;have d:=h 2;have e:=h 3;have f:=h 4;have g:=h 5;have i:=h 6;rcases k with _|_|_|_|_|_|_|_|k
 all_goals first|omega|simp_all [Rn]
theorem c8x(h:∀j,j<8->Rn x j):eD x 0:=by
 unfold eD;have a:=h 0;have c:=h 1;have d:=h 2;have e:=h 3;have f:=h 4;have g:=h 5;have i:=h 6;have j:=h 7;simp_all [Rn]
theorem a3g(h:∀j,j<k->Rn x j)(a:Rn x k):∀j,j<k+1->Rn x j:=by grind [Rn]
theorem c6o(b:R2 x)(i:Nat)(a:i<x.A.length):(x.c i).F.length<=200:=by
 rcases b.1 i a with c|c|c
 ·have:=c.2.1.2.2.2.2.2;omega
 ·have:=c.2.1.2.2.2.2.2;omega
 ·exact c.2.2.2.2.2.2.2
theorem ptr_nil(a o:Nat)(w:World):(binOp .eql 104 (.pointer none) (pQ a o)).run prog w=.ok (.bool false) w:=by kernel_rfl
theorem c4p(w:World)(a p q:Nat):(sameAddr (aA a p) (aA a q)).run P w=.ok (p == q) w:=by
 have:(((aA a p):Addr) == (aA a q))=(p == q):=by grind
 simp [sameAddr,this]
theorem d5t(w:World)(d:Nat)(t e:TypeId)(i:TypeInfo)(c:P.underlying t=some (.pointer e))(b:P.info? e=some i)(f:i.size≠0)(a p q:Nat):
  (Op.equalIn (d+1) t (pQ a p) (pQ a q)).run P w=.ok (p == q) w:=by
 simp [Op.equalIn,run_underlying c,sizeOf,typeInfo,b,f,c4p]
theorem d1r:(prog.info? 114).map (λi=>i.size)=some 2:=by kernel_rfl
theorem d5u(a p q:Nat)(w:World):(binOp .eql 104 (pQ a p) (pQ a q)).run prog w=.ok (.bool (p == q)) w:=by
 have⟨i,b,d⟩:∃i,prog.info? 114=some i/\i.size=2:=by
  have:=d1r;cases h:prog.info? 114 with
  | none=>rw[h] at this;simp at this
  | some i=>rw[h] at this;simp at this;exact⟨i,rfl,this⟩
 have c:(Op.equalIn 10000 104 (pQ a p) (pQ a q)).run prog w=.ok (p == q) w:=by
  exact d5t w 9999 104 114 i underlying104 b (by omega) a p q
 simp only [binOp];simp [Op.equal,Op.maxDepth,c]
theorem d5v(a p q:Nat)(w:World)(h:¬p=q):(binOp .eql 104 (pQ a p) (pQ a q)).run prog w=.ok (.bool false) w:=by grind [d5u]
theorem c9o(a p:Nat)(w:World):(binOp .eql 104 (pQ a p) (pQ a p)).run prog w=.ok (.bool true) w:=by
 rw[d5u];simp
theorem a8d:Tryz.zeroCells110.size=4018/\Tryz.zeroCells110[4015]?=some (iv 0)/\Tryz.zeroCells110[4016]?=some (iv 0)/\Tryz.zeroCells110[4017]?=some (.slice none 0 0):=by refine⟨?_,?_,?_,?_⟩<;>kernel_rfl
abbrev stZ(cs:Array Value)(v0 v1 v2 v3 v4 v5 v6 v7 v8 v9 v10 v11 v12 v13 v14:Value):Array Value:=(((((((((((((((cs.setIfInBounds 0 v0).setIfInBounds 1 v1).setIfInBounds 2 v2).setIfInBounds 3 v3).setIfInBounds 4 v4).setIfInBounds 5 v5).setIfInBounds 6 v6).setIfInBounds 7 v7).setIfInBounds 8 v8).setIfInBounds 9 v9).setIfInBounds 10 v10).setIfInBounds 11 v11).setIfInBounds 12 v12).setIfInBounds 13 v13).setIfInBounds 14 v14)
theorem stZ_at(cs:Array Value)(g k j h i n m l o f a e b c d:Value)(p:cs.size=4018)(q:cs[4015]?=some (iv 0))(s:cs[4016]?=some (iv 0))(r:cs[4017]?=some (.slice none 0 0)):(stZ cs g k j h i n m l o f a e b c d).size=4018/\
   ((stZ cs g k j h i n m l o f a e b c d)[0]?=some g/\(stZ cs g k j h i n m l o f a e b c d)[1]?=some k/\(stZ cs g k j h i n m l o f a e b c d)[2]?=some j/\(stZ cs g k j h i n m l o f a e b c d)[3]?=some h/\(stZ cs g k j h i n m l o f a e b c d)[4]?=some i/\(stZ cs g k j h i n m l o f a e b c d)[5]?=some n/\(stZ cs g k j h i n m l o f a e b c d)[6]?=some m/\(stZ cs g k j h i n m l o f a e b c d)[7]?=some l/\(stZ cs g k j h i n m l o f a e b c d)[8]?=some o/\(stZ cs g k j h i n m l o f a e b c d)[9]?=some f/\(stZ cs g k j h i n m l o f a e b c d)[10]?=some a/\(stZ cs g k j h i n m l o f a e b c d)[11]?=some e/\(stZ cs g k j h i n m l o f a e b c d)[12]?=some b/\(stZ cs g k j h i n m l o f a e b c d)[13]?=some c/\(stZ cs g k j h i n m l o f a e b c d)[14]?=some d)/\
   (stZ cs g k j h i n m l o f a e b c d)[4015]?=some (iv 0)/\(stZ cs g k j h i n m l o f a e b c d)[4016]?=some (iv 0)/\(stZ cs g k j h i n m l o f a e b c d)[4017]?=some (.slice none 0 0):=by
 unfold stZ;exact⟨by simp [p],by simp [p],by simp [q],by simp [s],by simp [r]⟩
theorem c2p(a:Option Addr)(n cap:Nat)(l:Int)(w:World)(d:n<=35184372088832)(c:0<=l)(b:l<=1048576):
  Calls prog 14 #[.slice a n cap,iv l] w λe w'=>∃r:Int,e=.returned (iv r)/\((0<=r/\r=l-n)\/r = -1)/\w'=w:=by
 by_cases h:l-(n:Int)<0
 ·go_in;go_wp2;go_ret;exact⟨-1,rfl,kP rfl,rfl⟩
 ·go_in;go_wp2;go_ret;exact⟨_,rfl,kT ⟨by omega,rfl⟩,rfl⟩
theorem c2q(a:Option Addr)(n cap:Nat)(l:Int)(w:World)(d:n<=35184372088832)(c:0<=l)(b:l<=1048576):
  Calls prog 75 #[.slice a n cap,iv l] w λe w'=>∃r:Int,e=.returned (iv r)/\((0<=r/\r=l-n)\/r = -1)/\w'=w:=by
 by_cases h:l-(n:Int)<0
 ·go_in;go_wp2;go_ret;exact⟨-1,rfl,kP rfl,rfl⟩
 ·go_in;go_wp2;go_ret;exact⟨_,rfl,kT ⟨by omega,rfl⟩,rfl⟩
theorem c6s(a:Option Addr)(n cap:Nat)(l:Int)(w:World)(d:n<=35184372088832)(c:0<=l)(b:l<=1048576):
  Calls prog 16 #[.slice a n cap,iv l] w λe w'=>∃r:Int,e=.returned (iv r)/\((0<=r/\r=l-n)\/r = -1)/\w'=w:=by
 by_cases h:l-(n:Int)<0
 ·go_in;go_wp2;go_ret;exact⟨-1,rfl,kP rfl,rfl⟩
 ·go_in;go_wp2;go_ret;exact⟨_,rfl,kT ⟨by omega,rfl⟩,rfl⟩
def yD(cs:List Cl):Nat:=(cs.map λc=>c.F.length).sum
theorem c6t(cs:List Cl)(k:Nat)(h:k<cs.length):yD (cs.take (k+1))=yD (cs.take k)+cs[k].F.length:=by
 unfold yD;rw[ko h];simp only [List.map_append,List.sum_append,List.map_cons,List.map_nil,List.sum_cons,List.sum_nil,Nat.add_zero]
theorem d4e(cs:List Cl)(k:Nat)(h:k<cs.length):cs[k].F.length<=yD cs:=by
 induction cs generalizing k with
 | nil=>simp at h
 | cons c cs ih=>
  cases k with
  | zero=>simp [yD]
  | succ k=>
   have:=ih k (by simpa using h);simp only [yD,List.map_cons,List.sum_cons,List.getElem_cons_succ] at *;omega
theorem c6u(x:Cl)(b:Value)(l:Int)(w:World)(j:SlP w b x.F)(i:0<=l)(h:l<=1048576):
  Calls prog 35 #[x.v b,iv l] w λe w'=>∃r:Int,e=.returned (iv r)/\((0<=r/\r=l-x.F.length)\/r = -1)/\Ext w w':=by
 obtain⟨n,c,rfl,g,m⟩:=j;go_in;go_wp21;refine(c2q _ _ _ _ _ g i h).mono ?_;rintro e k ⟨r,rfl,f,rfl⟩;by_cases d:r<0
 ·go_wp21;go_ret;exact⟨-1,rfl,kP rfl,(hO w).alloc _⟩
 ·have a:0<=r/\r=l-x.F.length:=by omega
  have H:=uU a;clear f a;go_wp21;go_ret;exact⟨r,rfl,kT H,(hO w).alloc _⟩
theorem c2r(xs:List Cl)(v:Value)(l:Int)(w:World)(h:SlC w v xs)(h0:0<=l)(h1:l<=1048576):
  Calls prog 15 #[v,iv l] w λe w'=>∃r:Int,e=.returned (iv r)/\((0<=r/\r=l-xs.length-yD xs)\/r = -1)/\Ext w w':=by
 obtain⟨ad,N,rfl,R,L⟩:=h;by_cases P:l-(xs.length:Int)<0
 ·go_in;go_wp21;go_ret;exact⟨-1,rfl,kP rfl,hO _⟩
 ·go_in;go_wp21;go_loopw [1,5] (λI i wr=>∃(k:Nat)(r:Int),k<=xs.length/\i=iv k/\I=iv r/\0<=r/\Hid (r=l-xs.length-yD (xs.take k))/\r<=1048576/\Ext w wr) (λ_ i _=>xs.length-(intOf i).toNat)
  case atStart=>exact⟨0,_,kA _,rfl,rfl,by omega,by show _=_;simp [yD],by omega,hO _⟩
  case round=>
   obtain⟨k,r,U,rfl,rfl,m,n,u,a⟩:=hrel;by_cases g:k<xs.length
   ·obtain⟨b,o,rfl,G,z,B,F,x,D,A,E,y,s⟩:=L k g;have Q:=a.keep z;have T:=a.keep B;have O:=a.keep F;have X:=a.keep x;have V:=a.keep D;have W:=a.keep A;have Y:=a.keep E;have S:=a.keep y;clear z B F x D A E y;have K:=i0N k;have J:(k:Int)<(xs.length:Int):=by omega
    go_wp21;refine(c6u xs[k] G r _ (SlP.ext a s) m u).mono ?_;rintro e Z ⟨c,rfl,M,j⟩;by_cases C:c<0
    ·go_wp21;go_ret;exact⟨-1,rfl,kP rfl,a.trans j⟩
    ·have f:0<=c/\c=r-xs[k].F.length:=by omega
     have H:Hid (c=l-xs.length-yD (xs.take (k+1))):=by
      have:=c6t xs k g;have q:=uH n;show _=_;omega
     have p:c<=1048576:=by omega
     have t:=f.1;clear M f;go_wp21;go_roundw
     case rel=>exact⟨k+1,c,by omega,by go_num,rfl,t,H,p,a.trans j⟩
     simp [intOf];omega
   ·have d:k=xs.length:=by omega
    have H:r=l-xs.length-yD xs:=by have q:=uH n;rw[d,ky] at q;exact q
    clear d;go_wp21;go_ret;exact⟨r,rfl,kT ⟨m,H⟩,a⟩
theorem c6v(x:Hp)(vr q z:Value)(l:Int)(w:World)(O:SlW w vr x.B)(N:SlC w q x.A)(L:SlI w z x.D)(M:0<=l)(K:l<=1048576):
  Calls prog 4 #[x.v vr q z,iv l] w λe w'=>∃r:Int,e=.returned (iv r)/\((0<=r/\r=l-x.B.length-x.A.length-yD x.A-x.D.length)\/r = -1)/\Ext w w':=by
 obtain⟨G,s,rfl,k,o⟩:=O;obtain⟨I,u,rfl,m,h⟩:=L;clear o h;go_in;go_wp21;refine(c2p _ _ _ _ _ k M K).mono ?_;rintro e T ⟨r,rfl,J,rfl⟩;by_cases F:r<0
 ·go_wp21;go_ret;exact⟨-1,rfl,kP rfl,(hO w).alloc _⟩
 ·have c:0<=r/\r=l-x.B.length:=by omega
  have j:r<=1048576:=by omega
  have i:=c.1;have H:=uU c.2;clear J c;go_wp21;refine(c2r x.A q r _ (SlC.ext (eAl w _) N) i j).mono ?_;rintro e R ⟨f,rfl,A,g⟩;have D:=(uK g).1;by_cases t:f<0
  ·go_wp21;go_ret;exact⟨-1,rfl,kP rfl,kF (eAl w _) g⟩
  ·have b:0<=f/\f=r-x.A.length-yD x.A:=by omega
   have p:f<=1048576:=by omega
   have n:=b.1;have B:=uU b.2;clear A b;go_wp21;refine(c6s _ _ _ _ _ m n p).mono ?_;rintro e S ⟨a,rfl,C,rfl⟩;by_cases y:a<0
   ·go_wp21;go_ret;exact⟨-1,rfl,kP rfl,kF (eAl w _) g⟩
   ·have d:0<=a/\a=l-x.B.length-x.A.length-yD x.A-x.D.length:=by
     have Q:=uH H;have P:=uH B;omega
    have E:=uU d;clear C d;go_wp21;go_ret;exact⟨a,rfl,kT E,kF (eAl w _) g⟩
theorem b8q{wr:World}{xs:List Int}(h:k<xs.length)(g:∀j (a:j<xs.length),j<k->a5f wr w.heap.size (0+j*1) xs[j])(d:∀j,j<xs.length*1->cL wr w.heap.size j)(b:Ext w wr)(c:Nf1 w.heap.size wr):
  let W:=wr.setCell (aA w.heap.size k) (iv xs[k])
  (∀j (a:j<xs.length),j<k+1->a5f W w.heap.size (0+j*1) xs[j])/\(∀j,j<xs.length*1->cL W w.heap.size j)/\Ext w W/\Nf1 w.heap.size W:=by
 intro W;refine⟨λj a f=>?_,λj a=>(d j a).set _ _,b.setCell (hT _) _,c.set _ _⟩;by_cases e:j=k
 ·subst e;show W.cell? _=_;have:=(d j (by omega)).same (iv xs[j]);simpa using this
 ·show W.cell? _=_;rw[uC _ (kP (by omega))];exact g j a (by omega)
theorem c6w(xs:List Int)(v:Value)(w:World)(h:SlI w v xs)(hn:xs.length<=1048576):
  Calls prog 22 #[v] w λe w'=>∃v',e=.returned v'/\SlI w' v' xs/\Fn0 w.heap.size w' v'/\Ext w w':=by
 obtain⟨ad,cap,rfl,hl,hx⟩:=h;obtain⟨z,hmk⟩:=d3h xs.length hn w;go_enter func22,ntmps22;go_wp21;go_loopw [4] (λi wr=>∃k:Nat,k<=xs.length/\i=.int .i64 k/\(∀j (hj:j<xs.length),j<k->a5f wr w.heap.size (0+j*1) xs[j])/\(∀j,j<xs.length*1->cL wr w.heap.size j)/\Ext w wr/\Hid (Nf1 w.heap.size wr)) (λi _=>xs.length-(intOf i).toNat)
 case atStart=>exact⟨0,kA _,rfl,λj hj h=>by omega,λj hj=>a2a _ _ _ _ _ (by omega),(hO w).alloc _,Nf1.made _ _ _ _⟩
 case round=>
  obtain⟨k,hk,rfl,hm,hop,hbl,hnf⟩:=hrel;by_cases hlt:k<xs.length
  ·obtain⟨b,o,rfl,p0⟩:=hx k hlt;have e0:=hbl.keep p0;simp only [Nat.mul_one] at e0;clear p0;have hk0:(0:Int)<=(k:Int):=by omega
   have hk1:(k:Int)<(xs.length:Int):=by omega
   obtain⟨⟨v0,c0⟩,f0⟩:=hop k (by omega);have R:=uU (b8q hlt hm hop hbl (uH hnf));clear hm hop;go_wp21;go_roundw
   case rel=>exact⟨k+1,by omega,by go_num,by simpa only [Nat.zero_add,Nat.mul_one] using (uH R).1,by simpa only [Nat.mul_one] using (uH R).2.1,(uH R).2.2⟩
   case measure=>simp [intOf];omega
  ·have hk2:k=xs.length:=by omega
   have HM:tX (a5f wr) 1 (.slice (some ⟨w.heap.size,0,none⟩) xs.length xs.length) xs:=⟨_,_,rfl,hl,λi hi=>⟨_,_,rfl,hm i hi (by omega)⟩⟩;have HM:=uU HM;clear hm hop hk2;go_wp21;go_ret;exact⟨_,rfl,uH HM,(uH hnf).fn,hbl⟩
theorem c6x(x:Cl)(r:Value)(w:World)(z:SlP w r x.F)(D:x.F.length<=1048576):Calls prog 58 #[x.v r] w λe w'=>∃vp',e=.returned (x.v vp')/\SlP w' vp' x.F/\Fn0 w.heap.size w' vp'/\Ext w w':=by
 go_in;go_wp21;refine(c1v x.F r _ (SlP.ext ((((hO w).alloc _).alloc _).alloc _) z) D).mono ?_;rintro e u ⟨vp',rfl,g,s,m⟩;obtain⟨f,d,rfl⟩:∃B l,vp'=.slice B x.F.length l:=let ⟨a,c,h,_⟩:=g;⟨a,c,h⟩;have p:=(uK m).1;have A:=(uK m).2;have t:=uU (s.mono (C:=w.heap.size+3) (by simp));have y:Ext w u:=kF ((((hO w).alloc _).alloc _).alloc _) m;have i:∀W,uQ (λq=>q=w.heap.size+1\/q=w.heap.size+1+1) u W->SlP W (.slice f x.F.length d) x.F/\Fn0 w.heap.size W (.slice f x.F.length d)/\Ext w W:=λW h=>
  ⟨a6m h (λb o n c e=>by have:=t.1 b o n c e;omega) g,(t.only h (by intro q F;omega)).mono (by omega),h.ext y (by intro k E;omega)⟩
 have j:=uU i;clear s i g z;go_wp21;refine bodyPost_ret (v:=x.v (.slice f x.F.length d)) (by simp [results,results58,go_sem,p]) rfl ⟨_,rfl,uH j _ ?_⟩
 repeat (first|refine uQ.setCell ?_ (by simp) _|exact uQ.refl _ _)
def Fn2(B:Nat)(w:World)(b:Nat)(v:Value):Prop:=Fn0 B w v/\∀b' o n c,v=.slice (some ⟨b',o,none⟩) n c->b'≠b
def a8s(B:Nat)(w:World)(b o:Nat)(x:Cl):Prop:=
 ∃vp,w.cell? ⟨b,o,none⟩=some (iv x.st)/\w.cell? ⟨b,o+1,none⟩=some (iv x.kind)/\w.cell? ⟨b,o+2,none⟩=some (iv x.T)/\
  w.cell? ⟨b,o+3,none⟩=some (iv x.U)/\w.cell? ⟨b,o+4,none⟩=some (iv x.born)/\w.cell? ⟨b,o+5,none⟩=some (iv x.J)/\
  w.cell? ⟨b,o+6,none⟩=some (iv x.to)/\w.cell? ⟨b,o+7,none⟩=some vp/\SlP w vp x.F/\Fn2 B w b vp
theorem a8s.at{x:Cl}(h:a8s B w b o x):b7g w b o x:=by
 have⟨g,i,a,d,c,l,f,k,j,e,_⟩:=h;exact⟨g,i,a,d,c,l,f,k,j,e⟩
theorem a8s.less{x:Cl}(h:a8s B w b o x)(n:C<=B):a8s C w b o x:=by
 have⟨i,j,c,e,d,m,g,l,k,f,a⟩:=h;exact⟨i,j,c,e,d,m,g,l,k,f,a.1.mono n,a.2⟩
def a9i(B:Nat)(w:World)(v:Value)(xs:List Cl):Prop:=tX (a8s B w) 8 v xs/\Fn0 B w v
theorem a9i.sl(h:a9i B w v xs):SlC w v xs:=h.1.mono λ_ _ _ k=>k.at
theorem a9i.only(h:a9i B w v xs)(a:uQ S w w')(f:∀q,S q->q<B):a9i B w' v xs:=by
 refine⟨h.1.mono2 λb o n c e A x t=>?_,h.2.only a f⟩;have d:¬S b:=λs=>by have:=f b s;have:=h.2.1 b o n c e;omega
 have⟨i,r,k,l,p,j,m,z,y,u,g⟩:=t;exact⟨i,a.keep d r,a.keep d k,a.keep d l,a.keep d p,a.keep d j,a.keep d m,a.keep d z,a.keep d y,a6m a (λb o n c e s=>by have:=f b s;have:=g.1.1 b o n c e;omega) u,g.1.only a f,g.2⟩
theorem a9i.less(h:a9i B w v xs)(a:C<=B):a9i C w v xs:=⟨h.1.mono λ_ _ _ k=>k.less a,h.2.mono a⟩
theorem a9i.ext(h:a9i B w v xs)(a:Ext w w'):a9i B w' v xs:=
 h.only (S:=λ_=>False) (uQ.of_ext a) (λ_ f=>f.elim)
def b9z(B:Nat)(w:World)(v:Value)(xs:List Wd):Prop:=SlW w v xs/\Fn0 B w v
theorem b9z.only{xs:List Wd}(h:b9z B w v xs)(a:uQ S w w')(g:∀q,S q->q<B):b9z B w' v xs:=by
 refine⟨tX.mono2 h.1 λb o n c e i x f=>?_,h.2.only a g⟩;have d:¬S b:=λs=>by have:=g b s;have:=h.2.1 b o n c e;omega
 exact⟨a.keep d f.1,a.keep d f.2.1,a.keep d f.2.2⟩
theorem b9z.ext{xs:List Wd}(h:b9z B w v xs)(a:Ext w w'):b9z B w' v xs:=⟨SlW.ext a h.1,h.2.ext a⟩
def c2s(B:Nat)(w:World)(v:Value)(xs:List Int):Prop:=SlI w v xs/\Fn0 B w v
theorem c2s.only{xs:List Int}(h:c2s B w v xs)(d:uQ S w w')(a:∀q,S q->q<B):c2s B w' v xs:=by
 refine⟨tX.mono2 h.1 λb o n c e i x g=>?_,h.2.only d a⟩;have f:¬S b:=λs=>by have:=a b s;have:=h.2.1 b o n c e;omega
 exact d.keep f g
theorem c2s.ext{xs:List Int}(h:c2s B w v xs)(a:Ext w w'):c2s B w' v xs:=⟨SlI.ext a h.1,h.2.ext a⟩
theorem c6y{wr w1:World}{vp:Value}(D:k<xs.length)(E:∀j (g:j<xs.length),j<k->a8s (w.heap.size+1) wr w.heap.size (0+j*8) xs[j])(p:∀j,j<xs.length*8->cL wr w.heap.size j)(i:Ext w wr)(H:w.heap.size<wr.heap.size)(d:Ext wr w1)(F:SlP w1 vp xs[k].F)(m:Fn0 wr.heap.size w1 vp)(l:Nf1 w.heap.size wr):
  let W:=w1.setCells w.heap.size (k*8) [iv xs[k].st,iv xs[k].kind,iv xs[k].T,iv xs[k].U,iv xs[k].born,iv xs[k].J,iv xs[k].to,vp]
  (∀j (g:j<xs.length),j<k+1->a8s (w.heap.size+1) W w.heap.size (0+j*8) xs[j])/\(∀j,j<xs.length*8->cL W w.heap.size j)/\Ext w W/\w.heap.size<W.heap.size/\Nf1 w.heap.size W:=by
 intro W;have a:∀j,j<[iv xs[k].st,iv xs[k].kind,iv xs[k].T,iv xs[k].U,iv xs[k].born,iv xs[k].J,iv xs[k].to,vp].length->cL w1 w.heap.size (k*8+j):=λj g=>(p (k*8+j) (by simp at g;omega)).ext d
 have f:uQ (λq=>q=w.heap.size) w1 W:=a0r (S:=λq=>q=w.heap.size) rfl (uQ.refl _ w1);refine⟨λj g s=>?_,λj g=>a9z ((p j g).ext d),f.ext (i.trans d) (by intro k G;omega),by have:=f.size;have:=d.size;omega,(l.ext d).put⟩;by_cases e:j=k
 ·subst e;refine⟨vp,?_,?_,?_,?_,?_,?_,?_,?_,a6m f (λb o n c e=>by have:=m.1 b o n c e;omega) F,(m.only f (by intro q d;omega)).mono (by omega),λb o n c e=>by have:=m.1 b o n c e;omega⟩
  ·have:=a1i a 0 (by simp);simpa using this
  ·have:=a1i a 1 (by simp);simpa using this
  ·have:=a1i a 2 (by simp);simpa using this
  ·have:=a1i a 3 (by simp);simpa using this
  ·have:=a1i a 4 (by simp);simpa using this
  ·have:=a1i a 5 (by simp);simpa using this
  ·have:=a1i a 6 (by simp);simpa using this
  ·have:=a1i a 7 (by simp);simpa using this
 ·have⟨t,z,u,v,y,r,x,C,B,A,h⟩:=E j g (by omega);refine⟨t,?_,?_,?_,?_,?_,?_,?_,?_,a6m f (λb o n c e=>by have:=h.1.1 b o n c e;omega) (SlP.ext d A),(h.1.ext d).only f (by intro q d;omega),h.2⟩
  all_goals
   rw[a2u _ _ (kP (by simp;omega))]
  ·exact d.keep z
  ·exact d.keep u
  ·exact d.keep v
  ·exact d.keep y
  ·exact d.keep r
  ·exact d.keep x
  ·exact d.keep C
  ·exact d.keep B
theorem c2t(xs:List Cl)(v:Value)(w:World)(h:SlC w v xs)(hn:xs.length<=1048576)(hp:yD xs<=1048576):
  Calls prog 21 #[v] w λe w'=>∃v',e=.returned v'/\a9i w.heap.size w' v' xs/\Ext w w':=by
 obtain⟨ad,cap,rfl,hl,hx⟩:=h;have⟨z,hmk⟩:=c8u xs.length hn w;go_in;go_wp21;go_loopw [4] (λi wr=>∃k:Nat,k<=xs.length/\i=.int .i64 k/\(∀j (hj:j<xs.length),j<k->a8s (w.heap.size+1) wr w.heap.size (0+j*8) xs[j])/\(∀j,j<xs.length*8->cL wr w.heap.size j)/\Ext w wr/\w.heap.size<wr.heap.size/\Hid (Nf1 w.heap.size wr)) (λi _=>xs.length-(intOf i).toNat)
 case atStart=>exact⟨0,kA _,rfl,λj hj h=>by omega,λj hj=>a2a _ _ _ _ _ (by omega),(hO w).alloc _,by simp,Nf1.made _ _ _ _⟩
 case round=>
  obtain⟨k,hk,rfl,hm,hop,hbl,hg,hnf⟩:=hrel;by_cases hlt:k<xs.length
  ·obtain⟨b,o,rfl,vp,p0,p1,p2,p3,p4,p5,p6,p7,hP⟩:=hx k hlt;have e0:=hbl.keep p0;have e1:=hbl.keep p1;have e2:=hbl.keep p2;have e3:=hbl.keep p3;have e4:=hbl.keep p4;have e5:=hbl.keep p5;have e6:=hbl.keep p6;have e7:=hbl.keep p7;have hpl:xs[k].F.length<=1048576:=kB (d4e xs k hlt) hp;clear p0 p1 p2 p3 p4 p5 p6 p7;have hk0:=i0N k;have hk1:(k:Int)<(xs.length:Int):=by omega
   go_wp21;refine(c6x xs[k] vp _ (SlP.ext hbl hP) hpl).mono ?_;rintro e w1 ⟨vp',rfl,hP',hF',hq1⟩;have⟨⟨v0,c0⟩,f0⟩:=(hop (k*8) (by omega)).ext hq1;have⟨⟨v1,c1⟩,f1⟩:=(hop (k*8+1) (by omega)).ext hq1;have⟨⟨v2,c2⟩,f2⟩:=(hop (k*8+2) (by omega)).ext hq1;have⟨⟨v3,c3⟩,f3⟩:=(hop (k*8+3) (by omega)).ext hq1;have⟨⟨v4,c4⟩,f4⟩:=(hop (k*8+4) (by omega)).ext hq1;have⟨⟨v5,c5⟩,f5⟩:=(hop (k*8+5) (by omega)).ext hq1;have⟨⟨v6,c6⟩,f6⟩:=(hop (k*8+6) (by omega)).ext hq1;have⟨⟨v7,c7⟩,f7⟩:=(hop (k*8+7) (by omega)).ext hq1;have R:=c6y hlt hm hop hbl hg hq1 hP' hF' hnf;obtain⟨ad',cap',rfl⟩:∃ad cap,vp'=.slice ad xs[k].F.length cap:=let ⟨a,c,h,_⟩:=hP';⟨a,c,h⟩;clear hm hop hP' hF';go_wp21;go_roundw
   case rel=>exact⟨k+1,by omega,by go_num,R.1,R.2.1,R.2.2.1,R.2.2.2.1,R.2.2.2.2⟩
   simp [intOf];omega
  ·have hk2:k=xs.length:=by omega
   have HM:tX (a8s w.heap.size wr) 8 (.slice (some ⟨w.heap.size,0,none⟩) xs.length xs.length) xs:=⟨_,_,rfl,hl,λi hi=>⟨_,_,rfl,(hm i hi (by omega)).less (by omega)⟩⟩;clear hm hop hk2;go_wp21;go_ret;exact⟨_,rfl,⟨HM,hnf.fn⟩,hbl⟩
def Dis(vr vc:Value):Prop:=∀b o n c b' o' n' c',vr=.slice (some ⟨b,o,none⟩) n c->vc=.slice (some ⟨b',o',none⟩) n' c'->b≠b'
def SlIG(B:Nat)(w:World)(v:Value)(xs:List Int)(vr vc:Value):Prop:=SlI w v xs/\Fn0 B w v/\Dis vr vc
def HpF(B:Nat)(w:World)(x:Hp)(vr vc vg:Value):Prop:=b9z B w vr x.B/\a9i B w vc x.A/\SlIG B w vg x.D vr vc
theorem HpF.only(h:HpF B w x vr vc vg)(b:uQ S w w')(a:∀q,S q->q<B):HpF B w' x vr vc vg:=
 ⟨h.1.only b a,h.2.1.only b a,(c2s.only ⟨h.2.2.1,h.2.2.2.1⟩ b a).1,h.2.2.2.1.only b a,h.2.2.2.2⟩
theorem HpF.ext(h:HpF B w x vr vc vg)(a:Ext w w'):HpF B w' x vr vc vg:=⟨h.1.ext a,h.2.1.ext a,SlI.ext a h.2.2.1,h.2.2.2.1.ext a,h.2.2.2.2⟩
theorem a5o(x:Hp)(vr Y Z:Value)(w:World)(hR:SlW w vr x.B)(hC:SlC w Y x.A)(hG:SlI w Z x.D)(n1:x.B.length<=1048576)(n2:x.A.length<=1048576)(n3:yD x.A<=1048576)(n4:x.D.length<=1048576):
  Calls prog 6 #[x.v vr Y Z] w λe w'=>∃vr' vc' vg',e=.returned (x.v vr' vc' vg')/\HpF w.heap.size w' x vr' vc' vg'/\Ext w w':=by
 go_in;go_wp21;refine(c1u x.B vr _ (SlW.ext (((eAl w _).alloc _).alloc _) hR) n1).mono ?_;rintro e s ⟨vr',rfl,t,E,N⟩;obtain⟨i,d,rfl⟩:∃I j,vr'=.slice I x.B.length j:=let ⟨a,c,h,_⟩:=t;⟨a,c,h⟩;have U:=(uK N).1;have ab:=(uK N).2;have z1:w.heap.size+1+1<s.heap.size:=by have:=N.size;simp at this;omega
 have ac:w.heap.size<s.heap.size:=by omega
 have V:w.heap.size+1<s.heap.size:=by omega
 have y1:Ext w s:=kF (((eAl w _).alloc _).alloc _) N;have F:b9z (w.heap.size+3) s (.slice i x.B.length d) x.B:=⟨t,E.mono (by simp)⟩;have F:=uU F;clear t E;go_wp21;have X:∀v,uQ (λq=>q=w.heap.size+1+1) s (s.setCell (aA (w.heap.size+1+1) 3) v):=λv=>uQ.setCell (S:=λq=>q=w.heap.size+1+1) (p:=(aA (w.heap.size+1+1) 3)) (uQ.refl _ _) rfl v
 have J:∀v,Ext w (s.setCell (aA (w.heap.size+1+1) 3) v):=λv=>(X v).ext y1 (by intro k hk;omega)
 refine(c2t x.A Y _ (SlC.ext (J _) hC) n2 n3).mono ?_;rintro e y ⟨vc',rfl,m,K⟩;obtain⟨l,f,rfl⟩:∃I j,vc'=.slice I x.A.length j:=let ⟨a,c,h,_⟩:=m.1;⟨a,c,h⟩;have P:=(uK K).1;have ae:=(uK K).2;have z2:w.heap.size+1+1<y.heap.size:=by have:=K.size;simp at this;omega
 have aa:w.heap.size<y.heap.size:=by omega
 have Q:w.heap.size+1<y.heap.size:=by omega
 have y2:Ext w y:=kF (J _) K;have A2:=uU ((F.only (X _) (by intro q R;omega)).ext K);have DI:=uU (show Dis (.slice i x.B.length d) (.slice l x.A.length f) from λb o n c b' o' n' c' J B=>by
  have q1:=(F.2.2 b o n c J).1;have q2:=(m.2.1 b' o' n' c' B).1;simp at q2;omega)
 have B2:=uU (m.less (C:=w.heap.size+3) (by simp;omega));clear m F;go_wp21;have M:∀v a b c,uQ (λq=>q=w.heap.size+1+1) y ((((y.setCell (aA (w.heap.size+1+1) 4) v).setCell (aA (w.heap.size+1+1) 5) a).setCell (aA (w.heap.size+1+1) 6) b).setCell (aA (w.heap.size+1+1) 7) c):=λv a b c=>by
  repeat (first|refine uQ.setCell ?_ (by simp) _|exact uQ.refl _ _)
 have B:∀v a b c,Ext w ((((y.setCell (aA (w.heap.size+1+1) 4) v).setCell (aA (w.heap.size+1+1) 5) a).setCell (aA (w.heap.size+1+1) 6) b).setCell (aA (w.heap.size+1+1) 7) c):=λv a b c=>(M v a b c).ext y2 (by intro k hk;omega)
 refine(c6w x.D Z _ (SlI.ext (B _ _ _ _) hG) n4).mono ?_;rintro e L ⟨vg',rfl,u,H,A⟩;obtain⟨r,g,rfl⟩:∃I j,vg'=.slice I x.D.length j:=let ⟨a,c,h,_⟩:=u;⟨a,c,h⟩;have T:=(uK A).1;have af:=(uK A).2;have z3:w.heap.size+1+1<L.heap.size:=by have:=A.size;simp at this;omega
 have y3:Ext w L:=kF (B _ _ _ _) A;have G:c2s (w.heap.size+3) L (.slice r x.D.length g) x.D:=⟨u,H.mono (by simp;omega)⟩;have HF:HpF (w.heap.size+3) L x (.slice i x.B.length d) (.slice l x.A.length f) (.slice r x.D.length g):=
  ⟨(A2.only (M _ _ _ _) (by intro q R;omega)).ext A,(B2.only (M _ _ _ _) (by intro q R;omega)).ext A,G.1,G.2,DI⟩
 have D:∀W,uQ (λq=>q=w.heap.size+1\/q=w.heap.size+1+1) L W->HpF w.heap.size W x (.slice i x.B.length d) (.slice l x.A.length f) (.slice r x.D.length g)/\Ext w W:=λW h=>by
  have z:=HF.only h (by intro q R;omega);exact⟨⟨⟨z.1.1,z.1.2.mono (by omega)⟩,z.2.1.less (by omega),⟨z.2.2.1,z.2.2.2.1.mono (by omega),z.2.2.2.2⟩⟩,h.ext y3 (by intro k hk;omega)⟩
 have O:=uU D;clear u H A2 B2 G HF D M B X J DI;go_wp21;refine bodyPost_ret (v:=x.v (.slice i x.B.length d) (.slice l x.A.length f) (.slice r x.D.length g)) ?_ rfl ⟨_,_,_,rfl,uH O _ ?_⟩
 ·simp [results,results6,go_sem,U,P,T,Q,V]
 repeat (first|refine uQ.setCell ?_ (by simp) _|exact uQ.refl _ _)
structure Wr(S:Nat->Prop)(w w':World):Prop where
 o:uQ S w w'
 op:∀b k,cL w b k->cL w' b k
theorem Wr.refl(S:Nat->Prop)(w:World):Wr S w w:=⟨uQ.refl _ _,λ_ _ h=>h⟩
theorem Wr.trans{b c:World}(h:Wr S a b)(k:Wr S b c):Wr S a c:=⟨h.o.trans k.o,λd i q=>k.op d i (h.op d i q)⟩
theorem Wr.set(h:Wr S a w){p:Addr}(c:S p.block)(u:Value):Wr S a (w.setCell p u):=⟨h.o.setCell c u,λb k q=>(h.op b k q).set _ _⟩
theorem Wr.mono(h:Wr S w w')(a:∀k,S k->T k):Wr T w w':=⟨h.o.mono a,h.op⟩
def a6h(S:Nat->Prop)(w:World)(sz:Nat)(ad:Option Addr)(n:Nat):Prop:=0<n->∃b o,ad=some ⟨b,o,none⟩/\S b/\∀j,j<sz*n->cL w b (o+j)
theorem a6h.wr(h:a6h S w sz ad n)(k:Wr T w w'):a6h S w' sz ad n:=λc=>by
 obtain⟨b,o,e,s,q⟩:=h c;exact⟨b,o,e,s,λj a=>k.op _ _ (q j a)⟩
theorem a6h.ext(h:a6h S w sz ad n)(k:Ext w w'):a6h S w' sz ad n:=λc=>by
 obtain⟨b,o,e,s,q⟩:=h c;exact⟨b,o,e,s,λj a=>(q j a).ext k⟩
def OpC(S:Nat->Prop)(w:World)(ad:Option Addr)(xs:List Cl):Prop:=0<xs.length->∃b o,ad=some ⟨b,o,none⟩/\S b/\∀i (hi:i<xs.length),(∀j,j<7->cL w b (o+i*8+j))/\∃ap kp,w.cell? ⟨b,o+i*8+7,none⟩=some (.slice ap xs[i].F.length kp)/\a6h (λq=>S q/\q≠b) w 6 ap xs[i].F.length
theorem OpC.ext(h:OpC S w ad xs)(k:Ext w w'):OpC S w' ad xs:=λl=>by
 obtain⟨b,o,e,s,q⟩:=h l;refine⟨b,o,e,s,λi a=>⟨λj g=>((q i a).1 j g).ext k,?_⟩⟩;obtain⟨f,m,c,d⟩:=(q i a).2;exact⟨f,m,k.keep c,d.ext k⟩
theorem OpC.wr(h:OpC S w ad xs)(k:Wr T w w')(n:∀b o,ad=some (aA b o)->¬T b):OpC S w' ad xs:=λl=>by
 obtain⟨b,o,e,s,q⟩:=h l;refine⟨b,o,e,s,λi a=>⟨λj g=>k.op _ _ ((q i a).1 j g),?_⟩⟩;obtain⟨f,m,c,d⟩:=(q i a).2;exact⟨f,m,k.o.keep (n b o e) c,d.wr k⟩
theorem c0b(S:Nat->Prop)(j:Option Addr)(n cap:Nat)(k0:Int)(w:World)(H:n<=1048576)(G:0<=k0)(F:k0<=1125899906842624)(h:a6h S w 3 j n):
  Calls prog 31 #[.slice j n cap,iv k0] w λe w'=>e=.returned (iv (k0+3*n))/\Wr S w w':=by
 have l:=uU h;clear h;go_in;go_wp21;go_loopw [1,5] (λq i wr=>∃k:Nat,k<=n/\i=iv k/\q=iv (k0+3*k)/\Hid (Wr S w wr)) (λ_ i _=>n-(intOf i).toNat)
 case atStart=>exact⟨0,kA _,rfl,by simp,Wr.refl _ _⟩
 case round=>
  obtain⟨k,A,rfl,rfl,f⟩:=hrel;by_cases m:k<n
  ·obtain⟨b,o,rfl,d,a⟩:=uH l (by omega);have c:∀i,i<3->cL wr b (o+k*3+i):=λi x=>by
    have:=f.op _ _ (a (3*k+i) (by omega));have e:o+(3*k+i)=o+k*3+i:=by omega
    rw[e] at this;exact this
   obtain⟨⟨u,D⟩,E⟩:cL wr b (o+k*3):=c 0 (by omega);obtain⟨⟨t,C⟩,r⟩:=c 1 (by omega);obtain⟨⟨v,y⟩,s⟩:=c 2 (by omega);have z:=i0N k;have B:(k:Int)<(n:Int):=by omega
   have R:=uU (λ(x0 x1 x2:Value)=>((f.set (p:=(aA b (o+k*3))) d x0).set (p:=(aA b (o+k*3+1))) d x1).set (p:=(aA b (o+k*3+2))) d x2);clear c a;go_wp21;go_roundw
   case rel=>exact⟨k+1,by omega,by go_num,by go_num,uH R _ _ _⟩
   simp [intOf];omega
  ·have g:k=n:=by omega
   subst g;go_wp21;go_ret;exact⟨rfl,f⟩
theorem c2u(S:Nat->Prop)(g:Option Addr)(n cap:Nat)(k0:Int)(w:World)(z:n<=1048576)(y:0<=k0)(x:k0<=1125899906842624)(f:a6h S w 1 g n):
  Calls prog 33 #[.slice g n cap,iv k0] w λe w'=>e=.returned (iv (k0+n))/\Wr S w w':=by
 have j:=uU f;clear f;go_in;go_wp21;go_loopw [1,5] (λm i wr=>∃k:Nat,k<=n/\i=iv k/\m=iv (k0+k)/\Hid (Wr S w wr)) (λ_ i _=>n-(intOf i).toNat)
 case atStart=>exact⟨0,kA _,rfl,by simp,Wr.refl _ _⟩
 case round=>
  obtain⟨k,s,rfl,rfl,c⟩:=hrel;by_cases l:k<n
  ·obtain⟨b,o,rfl,h,a⟩:=uH j (by omega);obtain⟨⟨q,u⟩,v⟩:cL wr b (o+k):=c.op _ _ (a k (by omega));have r:=i0N k;have t:(k:Int)<(n:Int):=by omega
   have R:=uU (λ(x0:Value)=>(c.set (p:=(aA b (o+k))) h x0));clear a;go_wp21;go_roundw
   case rel=>exact⟨k+1,by omega,by go_num,by go_num,uH R _⟩
   simp [intOf];omega
  ·have d:k=n:=by omega
   subst d;go_wp21;go_ret;exact⟨rfl,c⟩
theorem c0c(S:Nat->Prop)(j:Option Addr)(n cap:Nat)(k0:Int)(w:World)(Q:n<=1048576)(P:0<=k0)(O:k0<=1125899906842624)(h:a6h S w 6 j n):
  Calls prog 71 #[.slice j n cap,iv k0] w λe w'=>e=.returned (iv (k0+6*n))/\Wr S w w':=by
 have l:=uU h;clear h;go_in;go_wp21;go_loopw [1,5] (λq i wr=>∃k:Nat,k<=n/\i=iv k/\q=iv (k0+6*k)/\Hid (Wr S w wr)) (λ_ i _=>n-(intOf i).toNat)
 case atStart=>exact⟨0,kA _,rfl,by simp,Wr.refl _ _⟩
 case round=>
  obtain⟨k,G,rfl,rfl,f⟩:=hrel;by_cases m:k<n
  ·obtain⟨b,o,rfl,c,d⟩:=uH l (by omega);have a:∀i,i<6->cL wr b (o+k*6+i):=λi D=>by
    have:=f.op _ _ (d (6*k+i) (by omega));have e:o+(6*k+i)=o+k*6+i:=by omega
    rw[e] at this;exact this
   obtain⟨⟨x,K⟩,L⟩:cL wr b (o+k*6):=a 0 (by omega);obtain⟨⟨v,J⟩,r⟩:=a 1 (by omega);obtain⟨⟨C,E⟩,s⟩:=a 2 (by omega);obtain⟨⟨M,B⟩,z⟩:=a 3 (by omega);obtain⟨⟨t,H⟩,A⟩:=a 4 (by omega);obtain⟨⟨y,u⟩,N⟩:=a 5 (by omega);have F:=i0N k;have I:(k:Int)<(n:Int):=by omega
   have R:=uU (λ(x0 x1 x2 x3 x4 x5:Value)=>(((((f.set (p:=(aA b (o+k*6))) c x0).set (p:=(aA b (o+k*6+1))) c x1).set (p:=(aA b (o+k*6+2))) c x2).set (p:=(aA b (o+k*6+3))) c x3).set (p:=(aA b (o+k*6+4))) c x4).set (p:=(aA b (o+k*6+5))) c x5);clear a d;go_wp21;go_roundw
   case rel=>exact⟨k+1,by omega,by go_num,by go_num,uH R _ _ _ _ _ _⟩
   simp [intOf];omega
  ·have g:k=n:=by omega
   subst g;go_wp21;go_ret;exact⟨rfl,f⟩
theorem put8{wr:World}{a:Nat}(c:S b)(h:Wr S w wr)(d j e i k f g:Value):
  let W:=((((((wr.setCell (aA b a) d).setCell (aA b (a+1)) j).setCell (aA b (a+2)) e).setCell (aA b (a+3)) i).setCell (aA b (a+4)) k).setCell (aA b (a+5)) f).setCell (aA b (a+6)) g
  Wr S w W/\(∀o,(o<a\/a+7<=o)->W.cell? (aA b o)=wr.cell? (aA b o)):=by
 intro W;refine⟨((((((h.set (p:=(aA b a)) c _).set (p:=(aA b (a+1))) c _).set (p:=(aA b (a+2))) c _).set (p:=(aA b (a+3))) c _).set (p:=(aA b (a+4))) c _).set (p:=(aA b (a+5))) c _).set (p:=(aA b (a+6))) c _,λo l=>?_⟩;show(World.setCell _ _ _).cell? _=_;rw[uC _ (.inr (by omega)),uC _ (.inr (by omega)),uC _ (.inr (by omega)),uC _ (.inr (by omega)),uC _ (.inr (by omega)),uC _ (.inr (by omega)),uC _ (.inr (by omega))]
theorem c0d(S:Nat->Prop)(v:Option Addr)(xs:List Cl)(cap:Nat)(k0:Int)(w:World)(hn:xs.length<=1048576)(P:yD xs<=1048576)(O:0<=k0)(h1:k0<=4194304)(B:OpC S w v xs):
  Calls prog 32 #[.slice v xs.length cap,iv k0] w λe w'=>∃k1:Int,Hid (e=.returned (iv k1))/\0<=k1/\k1<=7000000000000/\Wr S w w':=by
 have F:=uU B;have I:=uU (λk (h:k<xs.length)=>kB (d4e xs k h) P);clear B;go_enter func32,ntmps32;go_wp21;go_loopw [1,5] (λN i wr=>∃(k:Nat)(m:Int),k<=xs.length/\i=iv k/\N=iv m/\0<=m/\m<=4194304+6291463*k/\Hid (Wr S w wr/\∀b o j,v=some (aA b o)->j<xs.length->wr.cell? (aA b (o+j*8+7))=w.cell? (aA b (o+j*8+7)))) (λ_ i _=>xs.length-(intOf i).toNat)
 case atStart=>exact⟨0,k0,kA _,rfl,rfl,O,by omega,Wr.refl _ _,λ_ _ _ _ _=>rfl⟩
 case round=>
  obtain⟨k,m,hk,rfl,rfl,r,C,g⟩:=hrel;by_cases d:k<xs.length
  ·obtain⟨b,o,rfl,D,c⟩:=uH F (by omega);have f:∀i,i<7->cL wr b (o+k*8+i):=λi K=>g.1.op _ _ ((c k d).1 i K)
   obtain⟨⟨Z,c0⟩,f0⟩:cL wr b (o+k*8):=f 0 (by omega);obtain⟨⟨X,c1⟩,Q⟩:=f 1 (by omega);obtain⟨⟨v2,c2⟩,U⟩:=f 2 (by omega);obtain⟨⟨v3,c3⟩,f3⟩:=f 3 (by omega);obtain⟨⟨V,c4⟩,f4⟩:=f 4 (by omega);obtain⟨⟨v5,W⟩,f5⟩:=f 5 (by omega);obtain⟨⟨Y,T⟩,f6⟩:=f 6 (by omega);obtain⟨M,J,x,l⟩:=(c k d).2;have d7:=(g.2 b o k rfl d).trans x;have g0:(0:Int)<=(k:Int):=by omega
   have g1:(k:Int)<(xs.length:Int):=by omega
   have u:=uH I k d;have L:=uU l;have t:=uU c;have R:=uU (λ(x0 x1 x2 x3 x4 x5 x6:Value)=>put8 (a:=o+k*8) D g.1 x0 x1 x2 x3 x4 x5 x6);clear f c x l;go_wp21;refine(c0c (λq=>S q/\q≠b) M xs[k].F.length J (m+1+1+1+1+1+1+1) _ u (by omega) (by omega) (L.wr (R _ _ _ _ _ _ _).1)).mono ?_;rintro e y ⟨rfl,s⟩
   have R2:=uU (show Wr S w y/\∀n p j,(some (aA b o):Option Addr)=some (aA n p)->j<xs.length->y.cell? (aA n (p+j*8+7))=w.cell? (aA n (p+j*8+7)) from by
    refine⟨(R _ _ _ _ _ _ _).1.trans (s.mono (λ_ h=>h.1)),λn p j e A=>?_⟩;cases e;obtain⟨H,E,z,_⟩:=(t j A).2;rw[z];refine s.o.keep (by simp) ?_;rw[(uH R _ _ _ _ _ _ _).2 _ (by omega)];exact(g.2 b o j rfl A).trans z)
   clear s R;go_wp21;go_roundw
   case rel=>exact⟨k+1,_,by omega,by go_num,rfl,by omega,by omega,R2⟩
   case measure=>simp [intOf];omega
  ·have G:k=xs.length:=by omega
   go_wp21;go_ret;exact⟨_,rfl,r,by omega,g.1⟩
theorem c2v(S:Nat->Prop)(x:Hp)(f a d:Option Addr)(m j i:Nat)(w:World)(T:x.B.length<=1048576)(R:x.A.length<=1048576)(U:yD x.A<=1048576)(V:x.D.length<=1048576)(Q:∀q,S q->q<w.heap.size)(E:a6h S w 3 f x.B.length)(G:OpC S w a x.A)(F:a6h S w 1 d x.D.length)(H:∀b o b' o',f=some (aA b o)->a=some (aA b' o')->b≠b'):
  Calls prog 11 #[x.v (.slice f x.B.length m) (.slice a x.A.length j) (.slice d x.D.length i),iv 1] w λe w'=>∃k1:Int,Hid (e=.returned (iv k1))/\0<=k1/\∃w1,Ext w w1/\Wr S w1 w':=by
 have l:=(hO w).alloc (.cells #[iv x.M,iv x.K,iv x.born,.slice f x.B.length m,.slice a x.A.length j,iv x.E,iv x.I,iv x.sub,.slice d x.D.length i,iv x.per,iv x.V,iv x.Q,iv x.S] 33);have c:¬S w.heap.size:=λh=>by have:=Q _ h;omega
 have A:=uU (show a6h (λq=>S q/\∀b o,a=some (aA b o)->q≠b) (w.alloc (.cells #[iv x.M,iv x.K,iv x.born,.slice f x.B.length m,.slice a x.A.length j,iv x.E,iv x.I,iv x.sub,.slice d x.D.length i,iv x.per,iv x.V,iv x.Q,iv x.S] 33)) 3 f x.B.length from λN=>by
  obtain⟨b,o,e,s,q⟩:=E.ext l N;exact⟨b,o,e,⟨s,λb' o' J=>H b o b' o' e J⟩,q⟩)
 have p:=uU (G.ext l);have D:=uU (F.ext l);clear E G F H;go_in;go_wp21;refine(c0b _ f x.B.length m 1 _ T (by omega) (by omega) A).mono ?_;rintro e w1 ⟨rfl,g⟩;have O:w1.cell? (aA w.heap.size 4)=some (.slice a x.A.length j):=g.o.keep (λh=>c h.1) (by simp [go_sem]);have r:w1.cell? (aA w.heap.size 8)=some (.slice d x.D.length i):=g.o.keep (λh=>c h.1) (by simp [go_sem]);have u:=uU (p.wr g (λb o e h=>h.2 b o e rfl));have t:=uU (D.wr g);have B:=uU (g.mono (λ_ h=>h.1));clear A p D g;go_wp21;refine(c0d S a x.A j (1+3*x.B.length) _ R U (by omega) (by omega) u).mono ?_;rintro e M ⟨I,rfl,n,P,k⟩;have K:M.cell? (aA w.heap.size 8)=some (.slice d x.D.length i):=k.o.keep c r;have C:=uU (t.wr k);have z:=uU (B.trans k);clear u t k O r B;go_wp21;refine(c2u S d x.D.length i I _ V n (by omega) C).mono ?_;rintro e W ⟨rfl,y⟩;have L:=uU (z.trans y);clear y C z K;go_wp21;go_ret;exact⟨_,rfl,by omega,_,l,L⟩
theorem opW{xs:List Wd}(h:b9z B w (.slice ad xs.length cap) xs)(m:∀b,B<=b->b<w.heap.size->S b):a6h S w 3 ad xs.length:=λk=>by
 obtain⟨d,a,e,_,c⟩:=h.1;simp only [Value.slice.injEq,true_and] at e;obtain⟨rfl,rfl⟩:=e;obtain⟨b,o,rfl,_⟩:=c 0 k;refine⟨b,o,rfl,m b (h.2.1 b o _ _ rfl).1 (h.2.2 b o _ _ rfl).1,λj n=>⟨?_,(h.2.2 b o _ _ rfl).2 _⟩⟩;obtain⟨r,p,f,i,g,l⟩:=c (j / 3) (by omega);cases f;have:j % 3=0\/j % 3=1\/j % 3=2:=by omega
 rcases this with q|q|q
 ·exact⟨_,by rw[show o+j=o+j / 3*3 by omega];exact i⟩
 ·exact⟨_,by rw[show o+j=o+j / 3*3+1 by omega];exact g⟩
 ·exact⟨_,by rw[show o+j=o+j / 3*3+2 by omega];exact l⟩
theorem opI{xs:List Int}(h:SlI w (.slice ad xs.length cap) xs)(c:Fn0 B w (.slice ad xs.length cap))(l:∀b,B<=b->b<w.heap.size->S b):a6h S w 1 ad xs.length:=λk=>by
 obtain⟨g,d,e,_,f⟩:=h;simp only [Value.slice.injEq,true_and] at e;obtain⟨rfl,rfl⟩:=e;obtain⟨b,o,rfl,_⟩:=f 0 k;refine⟨b,o,rfl,l b (c.1 b o _ _ rfl).1 (c.2 b o _ _ rfl).1,λj m=>⟨?_,(c.2 b o _ _ rfl).2 _⟩⟩;obtain⟨p,n,i,a⟩:=f j (by omega);cases i;have a:w.cell? (aA b (o+j*1))=some (iv xs[j]):=a;exact⟨_,by rw[mN] at a;exact a⟩
theorem opP{b0:Nat}{xs:List Pr}(h:SlP w (.slice ad xs.length cap) xs)(a:Fn2 B w b0 (.slice ad xs.length cap))(s:∀b,B<=b->b<w.heap.size->S b):a6h (λq=>S q/\q≠b0) w 6 ad xs.length:=λp=>by
 obtain⟨l,c,e,_,d⟩:=h;simp only [Value.slice.injEq,true_and] at e;obtain⟨rfl,rfl⟩:=e;obtain⟨b,o,rfl,_⟩:=d 0 p;refine⟨b,o,rfl,⟨s b (a.1.1 b o _ _ rfl).1 (a.1.2 b o _ _ rfl).1,a.2 b o _ _ rfl⟩,λj v=>⟨?_,(a.1.2 b o _ _ rfl).2 _⟩⟩;obtain⟨u,t,f,i,m,r,g,n,k⟩:=d (j / 6) (by omega);cases f;have:j % 6=0\/j % 6=1\/j % 6=2\/j % 6=3\/j % 6=4\/j % 6=5:=by omega
 rcases this with q|q|q|q|q|q
 ·exact⟨_,by rw[show o+j=o+j / 6*6 by omega];exact i⟩
 ·exact⟨_,by rw[show o+j=o+j / 6*6+1 by omega];exact m⟩
 ·exact⟨_,by rw[show o+j=o+j / 6*6+2 by omega];exact r⟩
 ·exact⟨_,by rw[show o+j=o+j / 6*6+3 by omega];exact g⟩
 ·exact⟨_,by rw[show o+j=o+j / 6*6+4 by omega];exact n⟩
 ·exact⟨_,by rw[show o+j=o+j / 6*6+5 by omega];exact k⟩
theorem opC(h:a9i B w (.slice ad xs.length cap) xs)(f:∀b,B<=b->b<w.heap.size->S b):OpC S w ad xs:=λz=>by
 obtain⟨s,a,e,_,d⟩:=h.1;simp only [Value.slice.injEq,true_and] at e;obtain⟨rfl,rfl⟩:=e;obtain⟨b,o,rfl,_⟩:=d 0 z;refine⟨b,o,rfl,f b (h.2.1 b o _ _ rfl).1 (h.2.2 b o _ _ rfl).1,λi v=>?_⟩;obtain⟨F,E,g,D,n,t,C,k,x,r,A,m,c,p⟩:=d i v;cases g;have l:=(h.2.2 b o _ _ rfl).2;refine⟨λj G=>⟨?_,l _⟩,?_⟩
 ·have:j=0\/j=1\/j=2\/j=3\/j=4\/j=5\/j=6:=by omega
  rcases this with q|q|q|q|q|q|q
  ·subst q;exact⟨_,n⟩
  ·subst q;exact⟨_,t⟩
  ·subst q;exact⟨_,C⟩
  ·subst q;exact⟨_,k⟩
  ·subst q;exact⟨_,x⟩
  ·subst q;exact⟨_,r⟩
  ·subst q;exact⟨_,A⟩
 ·obtain⟨y,u,e,_⟩:=id c;subst e;exact⟨y,u,m,opP c p f⟩
theorem a4i(n b a:Int)(r:Bool)(h:cH n b a=r)(w:World):Calls prog 132 #[iv n,iv b,iv a] w λe w'=>e=.returned (.bool r)/\w'=w:=h ▸ a9b n b a w
def b8f:List Value:=[iv 0,iv 0,iv 0,.nilFunc,iv 15,iv 255,iv 200,.func (.func 156) #[] #[],iv 15,iv 0,iv 0,.func (.func 157) #[] #[],iv 15,iv 0,iv 0,.func (.func 158) #[] #[],iv 15,iv 15,iv 0,.func (.func 159) #[] #[],iv 15,iv 15,iv 199,.func (.func 160) #[] #[],iv 15,iv 15,iv 199,.func (.func 160) #[] #[],iv 15,iv 15,iv 199,.func (.func 161) #[] #[],iv 15,iv 15,iv 199,.func (.func 161) #[] #[],iv 15,iv 0,iv 200,.func (.func 162) #[] #[],iv 15,iv 0,iv 200,.func (.func 163) #[] #[],iv 15,iv 0,iv 3,.func (.func 164) #[] #[],iv 15,iv 0,iv 1,.func (.func 165) #[] #[],iv 15,iv 15,iv 0,.func (.func 166) #[] #[],iv 15,iv 0,iv 0,.func (.func 167) #[] #[],iv 15,iv 0,iv 0,.func (.func 168) #[] #[],iv 15,iv 0,iv 0,.func (.func 169) #[] #[],iv 15,iv 0,iv 0,.func (.func 170) #[] #[],iv 0,iv 0,iv 0,.func (.func 171) #[] #[],iv 15,iv 0,iv 0,.func (.func 172) #[] #[],iv 0,iv 0,iv 0,.func (.func 173) #[] #[],iv 0,iv 0,iv 0,.func (.func 174) #[] #[],iv 0,iv 0,iv 100000,.func (.func 175) #[] #[],iv 0,iv 64,iv 4000,.func (.func 176) #[] #[],iv 0,iv 0,iv 0,.func (.func 177) #[] #[]]
def wayF(op:Int):Nat:=if op=1 then 156 else if op=2 then 157 else if op=3 then 158 else if op=4 then 159 else if op=5 then 160 else if op=6 then 160 else if op=7 then 161 else if op=8 then 161 else if op=9 then 162 else if op=10 then 163 else if op=11 then 164 else if op=12 then 165 else if op=13 then 166 else if op=14 then 167 else if op=15 then 168 else if op=16 then 169 else if op=17 then 170 else if op=18 then 171 else if op=19 then 172 else if op=20 then 173 else if op=21 then 174 else if op=22 then 175 else if op=23 then 176 else 177
theorem wayL_at(k:Nat)(b:1<=k)(a:k<=24):b8f[k*4]?=some (iv (a7c k))/\b8f[k*4+1]?=some (iv (kW k))/\b8f[k*4+2]?=some (iv (kK k))/\b8f[k*4+3]?=some (.func (.func (wayF k)) #[] #[]):=by
 have h:k=1\/k=2\/k=3\/k=4\/k=5\/k=6\/k=7\/k=8\/k=9\/k=10\/k=11\/k=12\/k=13\/k=14\/k=15\/k=16\/k=17\/k=18\/k=19\/k=20\/k=21\/k=22\/k=23\/k=24:=by omega
 rcases h with rfl|rfl|rfl|rfl|rfl|rfl|rfl|rfl|rfl|rfl|rfl|rfl|rfl|rfl|rfl|rfl|rfl|rfl|rfl|rfl|rfl|rfl|rfl|rfl <;> exact⟨rfl,rfl,rfl,rfl⟩
theorem b3c{o:Oper}{a:Act}{K:Act->World->Prop}{Q:Exit->Act->World->Prop}(W:World)(g:Nat)(b:Array Value)(t:TypeId)(L c:List Value)(f:L=c)(j:W.heap[g]?=some (.cells b t (0,0)))(k:c.length=b.size)(h:c.all (·.oneCell')=true)(i:∀W',W'=W.setRow g c.toArray->Oper.upon P o a K Q (.ok .skip W')):
  Oper.upon P o a K Q (((storeCells (aA g 0) L).run P W).andThen λ_ w'=>.ok .skip w'):=by
 subst f;have:=run_storeCells_at (P:=P) g 0 t L 0 b W j (by omega) (λv d=>List.all_eq_true.1 h v d);rw[this];refine i _ ?_;have e:List.drop (0+0+L.length) b.toList=[]:=qG (by simp [k]);rw[e];simp
theorem a6c(w:World)(c b a:Obj):(((w.alloc c).alloc b).alloc a).heap[w.heap.size+1+1]?=some a:=by
 have:=heap_alloc_new ((w.alloc c).alloc b) a;simpa using this
structure c5o(w W:World)(op a b c n:Int):Prop where
 a0:W.cell? ⟨w.heap.size,0,none⟩=some (iv op)
 a1:W.cell? ⟨w.heap.size,1,none⟩=some (iv a)
 a2:W.cell? ⟨w.heap.size,2,none⟩=some (iv b)
 a3:W.cell? ⟨w.heap.size,3,none⟩=some (iv c)
 a4:W.cell? ⟨w.heap.size,4,none⟩=some (iv n)
 v0:W.cell? ⟨w.heap.size+1,0,none⟩=some (iv 0)
 v1:W.cell? ⟨w.heap.size+1,1,none⟩=some (iv 0)
 v2:W.cell? ⟨w.heap.size+1,2,none⟩=some (iv 0)
 v3:W.cell? ⟨w.heap.size+1,3,none⟩=some .nilFunc
 fz:∀j,W.frozen? ⟨w.heap.size+1,j,none⟩=false
 t:∀j,W.cell? ⟨w.heap.size+1+1,j,none⟩=b8f[j]?
 ex:Ext w W
theorem c5o.of(w W:World)(op a b c n:Int)(h i g:TypeId)(d:Array Value)(m:W=(((w.alloc (.cells #[iv op,iv a,iv b,iv c,iv n] h)).alloc (.cells #[iv 0,iv 0,iv 0,.nilFunc] i)).alloc (.cells d g)).setRow (w.heap.size+1+1) b8f.toArray):c5o w W op a b c n:=by
 have o:∀k,k≠w.heap.size+1+1->W.heap[k]?=(((w.alloc (.cells #[iv op,iv a,iv b,iv c,iv n] h)).alloc (.cells #[iv 0,iv 0,iv 0,.nilFunc] i)).alloc (.cells d g)).heap[k]?:=λk p=>by rw[m];exact setRow_other _ _ k _ p
 have f:∀j,W.cell? (aA w.heap.size j)=#[iv op,iv a,iv b,iv c,iv n][j]?:=λj=>by
  rw[cOb w.heap.size j (o w.heap.size (by omega))];refine cell_of_row _ w.heap.size j _ h (0,0) ?_;rw[kz _ _ _ (by simp;omega),kz _ _ _ (by simp)];exact heap_alloc_new w _
 have q:W.heap[w.heap.size+1]?=some (.cells #[iv 0,iv 0,iv 0,.nilFunc] i):=by
  rw[o _ (by omega),kz _ _ _ (by simp)];have:=heap_alloc_new (w.alloc (.cells #[iv op,iv a,iv b,iv c,iv n] h)) (.cells #[iv 0,iv 0,iv 0,.nilFunc] i);have e:(w.alloc (.cells #[iv op,iv a,iv b,iv c,iv n] h)).heap.size=w.heap.size+1:=by simp
  rw[e] at this;exact this
 have l:∀j,W.cell? (aA (w.heap.size+1) j)=#[iv 0,iv 0,iv 0,.nilFunc][j]?:=λj=>cell_of_row _ _ j _ i (0,0) q
 have r:W.heap[w.heap.size+1+1]?=some (.cells b8f.toArray g):=by
  rw[m];exact setRow_heap _ _ d _ g _ (a6c _ _ _ _)
 refine⟨f 0,f 1,f 2,f 3,f 4,l 0,l 1,l 2,l 3,λj=>?_,λj=>?_,?_⟩
 ·unfold World.frozen?;simp [q]
 ·rw[cell_of_row _ _ j _ g (0,0) r];simp
 ·rw[m];exact mP ((eAl w _).alloc _ |>.alloc _) ⟨rfl,rfl,rfl,by simp [World.setRow],λk p=>setRow_other _ _ k _ (by omega)⟩
theorem d2u(op a b c n:Int)(w:World)(h:cH op 1 24=false):Calls prog 116 #[tV op a b c n] w λe w'=>e=.returned (.tuple #[.agg #[iv 0,iv 0,iv 0,.nilFunc],.bool false])/\Ext w w':=by
 have k:=uU (λW=>a4i op 1 24 false h W);go_in;go_wp21;refine b3c _ _ _ _ _ b8f (by kernel_rfl) (a6c _ _ _ _) (by kernel_rfl) (by kernel_rfl) ?_;intro r d;have T:=c5o.of _ _ _ _ _ _ _ _ _ _ _ d;clear d;obtain⟨x,o,s,u,v,j,i,l,m,q,f,g⟩:=T;have y:=uU f;have X:=uU g;clear f g;simp only [Oper.upon];go_wp2_with (go_at_call 132;refine(k _).mono ?_;rintro e t ⟨rfl,rfl⟩);refine bodyPost_ret (by rw[results_cell_tmp rfl];simp [go_sem,loadVar,j,i,l,m];rfl) rfl ?_;exact⟨rfl,(((X.sc (w.heap.size+1) 0 (mL _) _).sc (w.heap.size+1) 1 (mL _) _).sc (w.heap.size+1) 2 (mL _) _).sc (w.heap.size+1) 3 (mL _) _⟩
theorem d2v(k:Nat)(a b c n:Int)(w:World)(o:1<=k)(q:k<=24)(C:((k:Int) != 2)=true)(B:(n != 0)=true):Calls prog 116 #[tV k a b c n] w λe w'=>e=.returned (.tuple #[.agg #[iv 0,iv 0,iv 0,.nilFunc],.bool false])/\Ext w w':=by
 have j:=uU (λW=>a4i k 1 24 true (by simp [cH];omega) W);clear o q;go_in;go_wp21;refine b3c _ _ _ _ _ b8f (by kernel_rfl) (a6c _ _ _ _) (by kernel_rfl) (by kernel_rfl) ?_;intro t d;have T:=c5o.of _ _ _ _ _ _ _ _ _ _ _ d;clear d;obtain⟨z,r,u,x,y,i,h,l,m,s,f,g⟩:=T;have A:=uU f;have X:=uU g;clear f g;simp only [Oper.upon];go_wp2_with (go_at_call 132;refine(j _).mono ?_;rintro e v ⟨rfl,rfl⟩);refine bodyPost_ret (by rw[results_cell_tmp rfl];simp [go_sem,loadVar,i,h,l,m];rfl) rfl ?_;exact⟨rfl,(((X.sc (w.heap.size+1) 0 (mL _) _).sc (w.heap.size+1) 1 (mL _) _).sc (w.heap.size+1) 2 (mL _) _).sc (w.heap.size+1) 3 (mL _) _⟩
end Go.Proofs.YtmfgdjfpchplmaaGreatDoor
