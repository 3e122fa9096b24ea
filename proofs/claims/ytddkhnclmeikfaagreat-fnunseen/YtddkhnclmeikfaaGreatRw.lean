import Derived.Test.YtddkhnclmeikfaaGreatProg
import Derived.BigQuiet
import Derived.BigRegion
import Derived.Deep.AppendLies
import Derived.Deep.DrawnRows
import Derived.Deep.QuietTactic
import Derived.Deep.RegionHeld3
import Derived.Laws.OwnMore
import Derived.Maps.AppendAt
import Derived.Outline
import Derived.WalkKit
import Derived.WalkLawsBesides
import Derived.WalkSmall
import Derived.WalkSpells
set_option maxRecDepth 100000
set_option maxHeartbeats 1000000
namespace Go.Proofs.YtddkhnclmeikfaaGreat
open Go.RowKit Tryz
attribute [local go_sem ↓] Go.wp_at_zero Go.wp_at_succ
variable{w w' a w1 W w5:World}{B b o base bq oq n bc kc g k kr br cap kg sz i b' s:Nat}{L G M:List Int}{vr vg vc v' u v2:Value}{S:Nat->Prop}{ac ar ag ad:Option Addr}{xs vs:List Value}{pb pk role role':Nat->Nat}{pa:Nat->Option Addr}{t T:TypeId}{x:Int}
abbrev aA (b k : Nat) : Addr := ⟨b, k, none⟩
abbrev pP (b : Nat) : Value := .pointer (some ⟨b, 0, none⟩)
abbrev pQ (b k : Nat) : Value := .pointer (some ⟨b, k, none⟩)
abbrev sS (b n k : Nat) : Value := .slice (some ⟨b, 0, none⟩) n k
abbrev sO (b o n k : Nat) : Value := .slice (some ⟨b, o, none⟩) n k
structure Wd where
 k:Int
 n:Int
 a:Int
structure Pr where
 key:Wd
 val:Wd
structure Cl where
 st:Int
 kind:Int
 T:Int
 U:Int
 born:Int
 J:Int
 to:Int
 F:List Pr
structure Hp where
 M:Int
 K:Int
 born:Int
 B:List Wd
 A:List Cl
 E:Int
 I:Int
 sub:Int
 D:List Int
 per:Int
 V:Int
 Q:Int
 S:Int
abbrev iv(n:Int):Value:=.int .i64 n
abbrev Wd.v(x:Wd):Value:=.agg #[iv x.k,iv x.n,iv x.a]
abbrev Hp.v(x:Hp)(vr vc vg:Value):Value:=.agg #[iv x.M,iv x.K,iv x.born,vr,vc,iv x.E,iv x.I,iv x.sub,vg,iv x.per,iv x.V,iv x.Q,iv x.S]
theorem uU{p:Prop}(h:p):Hid p:=h
theorem uH{p:Prop}(h:Hid p):p:=h
abbrev Ext(w w':World):Prop:=Below w.heap.size w w'
theorem Ext.refl(w:World):Ext w w:=Below.refl _ _
theorem Ext.trans{b c:World}(h:Ext a b)(k:Ext b c):Ext a c:=Below.trans h (Below.mono k h.size)
theorem Ext.alloc(h:Ext a w)(o:Obj):Ext a (w.alloc o):=Below.alloc h h.size o
theorem Ext.drew(h:Ext a w):Ext a w.drew:=Below.drew h
theorem Ext.setCell(h:Ext a w){p:Addr}(b:a.heap.size<=p.block)(u:Value):Ext a (w.setCell p u):=Below.setCell h b u
theorem uL{p:Addr}{v:Value}(h:w.cell? p=some v):p.block<w.heap.size:=by
 unfold World.cell? at h;by_cases a:p.block<w.heap.size
 ·exact a
 ·rw[Array.getElem?_eq_none (by omega)] at h;simp at h
theorem Ext.keep(h:Ext w w'){v:Value}(a:w.cell? (aA b o)=some v):w'.cell? (aA b o)=some v:=by
 rw[Below.cell h (p:=(aA b o)) (uL a)];exact a
theorem uK(a:Ext W w1):(∀b o,b<W.heap.size->w1.cell? (aA b o)=W.cell? (aA b o))/\(∀b o,b<W.heap.size->w1.frozen? (aA b o)=W.frozen? (aA b o)):=
 ⟨λb o h=>a.cell (p:=(aA b o)) h,λb o h=>a.frozen (p:=(aA b o)) h⟩
def yU(w:World)(b o:Nat)(x:Wd):Prop:=
 w.cell? ⟨b,o,none⟩=some (iv x.k)/\w.cell? ⟨b,o+1,none⟩=some (iv x.n)/\w.cell? ⟨b,o+2,none⟩=some (iv x.a)
def qN(w:World)(b o:Nat)(x:Pr):Prop:=
 w.cell? ⟨b,o,none⟩=some (iv x.key.k)/\w.cell? ⟨b,o+1,none⟩=some (iv x.key.n)/\w.cell? ⟨b,o+2,none⟩=some (iv x.key.a)/\
 w.cell? ⟨b,o+3,none⟩=some (iv x.val.k)/\w.cell? ⟨b,o+4,none⟩=some (iv x.val.n)/\w.cell? ⟨b,o+5,none⟩=some (iv x.val.a)
def a6w(w:World)(b o:Nat)(x:Int):Prop:=w.cell? ⟨b,o,none⟩=some (iv x)
def tJ{α:Type}(at_:Nat->Nat->α->Prop)(sz:Nat)(v:Value)(xs:List α):Prop:=
 ∃(ad:Option Addr) (cap:Nat),v=.slice ad xs.length cap/\xs.length<=35184372088832/\∀i (hi:i<xs.length),∃b o,ad=some ⟨b,o,none⟩/\at_ b (o+i*sz) xs[i]
abbrev SlW(w:World)(v:Value)(xs:List Wd):Prop:=tJ (yU w) 3 v xs
abbrev SlP(w:World)(v:Value)(xs:List Pr):Prop:=tJ (qN w) 6 v xs
abbrev SlI(w:World)(v:Value)(xs:List Int):Prop:=tJ (a6w w) 1 v xs
def ClAt(w:World)(b o:Nat)(x:Cl):Prop:=
 ∃vp,w.cell? ⟨b,o,none⟩=some (iv x.st)/\w.cell? ⟨b,o+1,none⟩=some (iv x.kind)/\w.cell? ⟨b,o+2,none⟩=some (iv x.T)/\
  w.cell? ⟨b,o+3,none⟩=some (iv x.U)/\w.cell? ⟨b,o+4,none⟩=some (iv x.born)/\w.cell? ⟨b,o+5,none⟩=some (iv x.J)/\
  w.cell? ⟨b,o+6,none⟩=some (iv x.to)/\w.cell? ⟨b,o+7,none⟩=some vp/\SlP w vp x.F
abbrev SlC(w:World)(v:Value)(xs:List Cl):Prop:=tJ (ClAt w) 8 v xs
theorem tJ.mono{α:Type}{p q:Nat->Nat->α->Prop}{v:Value}{xs:List α}(h:tJ p sz v xs)(c:∀b o x,p b o x->q b o x):tJ q sz v xs:=by
 obtain⟨ad,a,e,f,j⟩:=h;exact⟨ad,a,e,f,λi d=>by obtain⟨b,o,k,g⟩:=j i d;exact⟨b,o,k,c _ _ _ g⟩⟩
theorem yU.ext(h:Ext w w'){x:Wd}(a:yU w b o x):yU w' b o x:=⟨h.keep a.1,h.keep a.2.1,h.keep a.2.2⟩
theorem qN.ext(h:Ext w w'){x:Pr}(a:qN w b o x):qN w' b o x:=
 ⟨h.keep a.1,h.keep a.2.1,h.keep a.2.2.1,h.keep a.2.2.2.1,h.keep a.2.2.2.2.1,h.keep a.2.2.2.2.2⟩
theorem a6w.ext(h:Ext w w')(a:a6w w b o x):a6w w' b o x:=h.keep a
theorem SlW.ext(h:Ext w w'){v:Value}{xs:List Wd}(a:SlW w v xs):SlW w' v xs:=a.mono λ_ _ _ k=>k.ext h
theorem SlP.ext(h:Ext w w'){v:Value}{xs:List Pr}(a:SlP w v xs):SlP w' v xs:=a.mono λ_ _ _ k=>k.ext h
theorem SlI.ext(h:Ext w w'){v:Value}{xs:List Int}(a:SlI w v xs):SlI w' v xs:=a.mono λ_ _ _ k=>k.ext h
theorem ClAt.ext(h:Ext w w'){x:Cl}(m:ClAt w b o x):ClAt w' b o x:=by
 obtain⟨j,l,k,d,a,e,i,f,c,g⟩:=m;exact⟨j,h.keep l,h.keep k,h.keep d,h.keep a,h.keep e,h.keep i,h.keep f,h.keep c,SlP.ext h g⟩
theorem SlC.ext(h:Ext w w'){v:Value}{xs:List Cl}(a:SlC w v xs):SlC w' v xs:=a.mono λ_ _ _ k=>k.ext h
theorem tJ.nil{α:Type}{p:Nat->Nat->α->Prop}:tJ p sz (.slice ad 0 cap) []:=by grind [tJ]
structure uX(S:Nat->Prop)(w w':World):Prop where
 os:w'.os=w.os
 tape:w'.tape=w.tape
 output:w'.output=w.output
 size:w.heap.size<=w'.heap.size
 block:∀k,k<w.heap.size->¬S k->w'.heap[k]?=w.heap[k]?
theorem uX.refl(S:Nat->Prop)(w:World):uX S w w:=⟨rfl,rfl,rfl,Nat.le_refl _,λ_ _ _=>rfl⟩
theorem uX.trans{b c:World}(h:uX S a b)(k:uX S b c):uX S a c:=
 ⟨k.os.trans h.os,k.tape.trans h.tape,k.output.trans h.output,Nat.le_trans h.size k.size,λi d e=>(k.block i (Nat.lt_of_lt_of_le d h.size) e).trans (h.block i d e)⟩
theorem uX.of_ext(h:Ext w w'):uX S w w':=⟨h.os,h.tape,h.output,h.size,λk a _=>h.block k a⟩
theorem uX.below(h:uX S w w')(c:B<=w.heap.size)(b:∀k,k<B->¬S k):Below B w w':=
 ⟨h.os,h.tape,h.output,h.size,λk a=>h.block k (by omega) (b k a)⟩
theorem uX.ext(h:uX S w w')(b:Ext a w)(c:∀k,k<a.heap.size->¬S k):Ext a w':=
 Below.trans b (h.below b.size c)
theorem uX.setCell(h:uX S a w){p:Addr}(c:S p.block)(u:Value):uX S a (w.setCell p u):=
 h.trans ⟨rfl,rfl,rfl,by simp [World.setCell],λk _ b=>Below.heap_setCell _ _ _ _ (λe=>b (e ▸ c))⟩
theorem uX.drew(h:uX S a w):uX S a w.drew:=⟨h.os,h.tape,h.output,h.size,h.block⟩
theorem uX.mono{T:Nat->Prop}(h:uX S w w')(a:∀k,S k->T k):uX T w w':=
 ⟨h.os,h.tape,h.output,h.size,λk b c=>h.block k b (λd=>c (a k d))⟩
theorem uX.keep(h:uX S w w'){v:Value}(e:¬S b)(c:w.cell? (aA b o)=some v):w'.cell? (aA b o)=some v:=by
 have d:w'.heap[b]?=w.heap[b]?:=h.block b (uL c) e;have:=World.cell?_of_block (w:=w) (w':=w') (a:=(aA b o)) d;rw[this];exact c
theorem uX.A(h:uX S w w')(b:Nat)(c:b<w.heap.size)(d:¬S b):(∀o,w'.cell? (aA b o)=w.cell? (aA b o)):=
 λo=>World.cell?_of_block (w:=w) (w':=w') (a:=(aA b o)) (h.block b c d)
theorem uX.frozen(h:uX S w w')(a:b<w.heap.size)(c:¬S b):w'.frozen? (aA b o)=w.frozen? (aA b o):=
 World.frozen?_of_block (w:=w) (h.block b a c)
def qC(w:World)(b o:Nat):Prop:=(∃v,w.cell? ⟨b,o,none⟩=some v)/\w.frozen? ⟨b,o,none⟩=false
theorem qC.set(h:qC w b o)(p:Addr)(u:Value):qC (w.setCell p u) b o:=
 ⟨by obtain⟨v,a⟩:=h.1;exact cell?_setCell_some a,by rw[World.frozen?_setCell];exact h.2⟩
theorem qC.ext(h:qC w b o)(c:Ext w w'):qC w' b o:=by
 obtain⟨⟨v,a⟩,d⟩:=h;exact⟨⟨v,c.keep a⟩,by rw[(uK c).2 b o (uL a)];exact d⟩
theorem qC.same(h:qC w b o)(u:Value):(w.setCell (aA b o) u).cell? (aA b o)=some u:=by
 obtain⟨v,a⟩:=h.1;exact World.cell?_setCell_same _ _ _ a
theorem uC{o':Nat}(u:Value)(h:b≠b'\/o≠o'):(w.setCell (aA b o) u).cell? (aA b' o')=w.cell? (aA b' o'):=
 World.cell?_setCell_other _ _ _ _ (by intro e;cases e;simp at h)
theorem swap_ne(w:World)(d b g a n cap i j:Nat)(f c:Int)(u:w.cell? (aA d b)=some (sO g a n cap))(p:w.cell? (aA g (a+i))=some (iv f))(s:w.cell? (aA g (a+j))=some (iv c))(r:w.frozen? (aA g (a+i))=false)(t:w.frozen? (aA g (a+j))=false)(q:i<n)(v:j<n)(o:i≠j):
  Calls prog 171 #[pQ d b,iv i,iv j] w λe w'=>e=.returned (.tuple #[])/\w'.heap=((w.setCell (aA g (a+i)) (iv c)).setCell (aA g (a+j)) (iv f)).heap/\w'.os=w.os/\w'.tape=w.tape/\w'.output=w.output:=by
 have l:(0:Int)<=(i:Int):=by omega
 have m:(i:Int)<(n:Int):=by omega
 have k:(0:Int)<=(j:Int):=by omega
 have h:(j:Int)<(n:Int):=by omega
 go_enter func171,ntmps171
 go_wp2
 go_region
 all_goals go_end0
 all_goals exact⟨rfl,rfl,rfl,rfl,rfl⟩
theorem swap_eq(w:World)(c d g a n cap i:Nat)(b:Int)(j:w.cell? (aA c d)=some (sO g a n cap))(k:w.cell? (aA g (a+i))=some (iv b))(m:w.frozen? (aA g (a+i))=false)(l:i<n):
  Calls prog 171 #[pQ c d,iv i,iv i] w λe w'=>e=.returned (.tuple #[])/\w'.heap=((w.setCell (aA g (a+i)) (iv b)).setCell (aA g (a+i)) (iv b)).heap/\w'.os=w.os/\w'.tape=w.tape/\w'.output=w.output:=by
 have f:(0:Int)<=(i:Int):=by omega
 have h:(i:Int)<(n:Int):=by omega
 go_enter func171,ntmps171
 go_wp2
 go_region
 all_goals go_end0
 all_goals exact⟨rfl,rfl,rfl,rfl,rfl⟩
theorem a4d(w:World)(a b:Nat)(ad:Option Addr)(cap:Nat)(c:w.cell? (aA a b)=some (.slice ad 0 cap)):
  Calls prog 227 #[pQ a b] w λe w'=>e=.returned (.tuple #[iv 0,.bool false])/\w'=w:=by
 go_enter func227,ntmps227
 go_wp2
 go_ret2;exact⟨rfl,rfl⟩
theorem a1r(w:World)(b c g d n cap:Nat)(a:Int)(i:0<n)(h:w.cell? (aA b c)=some (sO g d n cap))(j:w.cell? (aA g d)=some (iv a)):
  Calls prog 227 #[pQ b c] w λe w'=>e=.returned (.tuple #[iv a,.bool true])/\w'=w:=by
 have f:((n:Int) == 0)=false:=beq_eq_false_iff_ne.2 (by omega)
 go_enter func227,ntmps227
 go_wp2
 go_ret2;exact⟨rfl,rfl⟩
theorem a2s(w:World)(z:Array Value)(m:Nat)(t:TypeId)(j:Nat)(b:j<m):qC (w.alloc (.cells (madeCells z m) t)) w.heap.size j:=by
 have e:(w.alloc (.cells (madeCells z m) t)).heap[w.heap.size]?=some (.cells (madeCells z m) t):=by show(w.heap.push _)[w.heap.size]?=_;simp
 have a:=size_madeCells z m;refine⟨⟨(madeCells z m)[j]'(by omega),?_⟩,?_⟩
 ·unfold World.cell?;rw[e];simp [a,b]
 ·unfold World.frozen?;rw[e];simp
theorem a2m(c:∀j,j<vs.length->qC w1 g (o+j))(j:Nat)(a:j<vs.length):(w1.setCells g o vs).cell? (aA g (o+j))=some vs[j]:=by
 refine World.cell?_setCells_in g vs o w1 (λj a=>?_) j a;obtain⟨⟨v,b⟩,_⟩:=c j a;rw[b];rfl
theorem a1p(b a:Nat)(h:b≠g\/a<o\/o+vs.length<=a):(w1.setCells g o vs).cell? (aA b a)=w1.cell? (aA b a):=
 World.cell?_setCells_out g vs o w1 (aA b a) (λe _=>by simp at e;simp;omega)
theorem a9z{g:Nat}:∀{vs:List Value} {w1:World} {o b' o':Nat},qC w1 b' o'->qC (w1.setCells g o vs) b' o'
 | [],_,_,_,_,h=>h
 | _::r,_,_,_,_,h=>a9z (vs:=r) (h.set _ _)
theorem a5a{S:Nat->Prop}{g:Nat}(hg:S g):∀{vs:List Value} {a w1:World} {o:Nat},uX S a w1->uX S a (w1.setCells g o vs)
 | [],_,_,_,h=>h
 | _::r,_,_,_,h=>a5a hg (vs:=r) (h.setCell hg _)
theorem tJ.mono2{α:Type}{p q:Nat->Nat->α->Prop}{v:Value}{xs:List α}(h:tJ p sz v xs)(a:∀b o n c,v=sO b o n c->∀o' x,p b o' x->q b o' x):tJ q sz v xs:=by grind [tJ]
def Nf1(B:Nat)(w:World):Prop:=B<w.heap.size/\∀j,w.frozen? ⟨B,j,none⟩=false
theorem Nf1.ext(h:Nf1 B w)(e:Ext w w'):Nf1 B w':=⟨Nat.lt_of_lt_of_le h.1 e.size,λj=>by rw[(uK e).2 B j h.1];exact h.2 j⟩
theorem Nf1.set(h:Nf1 B w)(p:Addr)(u:Value):Nf1 B (w.setCell p u):=⟨by have:=h.1;simpa [World.setCell] using this,λj=>by rw[World.frozen?_setCell];exact h.2 j⟩
theorem Nf1.put{B g:Nat}:∀{vs:List Value} {w:World} {o:Nat},Nf1 B w->Nf1 B (w.setCells g o vs)
 | [],_,_,h=>h
 | _::r,_,_,h=>Nf1.put (vs:=r) (h.set _ _)
theorem Nf1.made(w:World)(z:Array Value)(m:Nat)(t:TypeId):Nf1 w.heap.size (w.alloc (.cells (madeCells z m) t)):=by
 refine⟨by simp,λj=>?_⟩;have e:(w.alloc (.cells (madeCells z m) t)).heap[w.heap.size]?=some (.cells (madeCells z m) t):=by show(w.heap.push _)[w.heap.size]?=_;simp
 unfold World.frozen?;rw[e];simp
theorem a6y(h:uX S w w'){v:Value}{xs:List Pr}(d:∀b o n c,v=sO b o n c->¬S b)(f:SlP w v xs):SlP w' v xs:=
 tJ.mono2 f λb o n c e _ _ a=>⟨h.keep (d b o n c e) a.1,h.keep (d b o n c e) a.2.1,h.keep (d b o n c e) a.2.2.1,h.keep (d b o n c e) a.2.2.2.1,h.keep (d b o n c e) a.2.2.2.2.1,h.keep (d b o n c e) a.2.2.2.2.2⟩
theorem b1m:(prog.info? 152).map (λi=>(i.zero,i.size,i.bytes))=some (some (.agg #[iv 0,iv 0,iv 0]),3,24):=by kernel_rfl
theorem a3v:(prog.info? 154).map (λi=>(i.zero,i.size,i.bytes))=some (some (.agg #[iv 0,iv 0,iv 0,iv 0,iv 0,iv 0]),6,48):=by kernel_rfl
theorem mkPairs(n:Nat)(f:n<=1048576)(w:World):∃z,(Instr.makeSlice 60 (iv n) (iv n)).run prog w=.ok (sS w.heap.size n n) (w.alloc (.cells (madeCells z (n*6)) 154)):=by
 obtain⟨e,d,a,c,b⟩:=info_parts a3v;have h:=run_make (P:=prog) w 60 154 e _ underlying60 d a .i64 .i64 n n (by omega) (Int.le_refl _) (by rw[b];omega) (by omega);rw[c] at h;simp only [Int.toNat_natCast] at h;exact⟨_,h⟩
theorem b4j:(prog.info? 3).map (λi=>(i.zero,i.size,i.bytes))=some (some (iv 0),1,8):=by kernel_rfl
theorem mkInts(n:Nat)(f:n<=1048576)(w:World):∃z,(Instr.makeSlice 32 (iv n) (iv n)).run prog w=.ok (sS w.heap.size n n) (w.alloc (.cells (madeCells z (n*1)) 3)):=by
 obtain⟨e,d,a,c,b⟩:=info_parts b4j;have h:=run_make (P:=prog) w 32 3 e _ underlying32 d a .i64 .i64 n n (by omega) (Int.le_refl _) (by rw[b];omega) (by omega);rw[c] at h;simp only [Int.toNat_natCast] at h;exact⟨_,h⟩
theorem b1n:(prog.info? 62).map (λi=>(i.zero,i.size,i.bytes))=some (some (.agg #[iv 0,iv 0,iv 0,iv 0,iv 0,iv 0,iv 0,.slice none 0 0]),8,80):=by kernel_rfl
theorem mkCells(n:Nat)(f:n<=1048576)(w:World):∃z,(Instr.makeSlice 31 (iv n) (iv n)).run prog w=.ok (sS w.heap.size n n) (w.alloc (.cells (madeCells z (n*8)) 62)):=by
 obtain⟨e,d,a,c,b⟩:=info_parts b1n;have h:=run_make (P:=prog) w 31 62 e _ underlying31 d a .i64 .i64 n n (by omega) (Int.le_refl _) (by rw[b];omega) (by omega);rw[c] at h;simp only [Int.toNat_natCast] at h;exact⟨_,h⟩
theorem c3n{wr:World}{xs:List Pr}(o:k<xs.length)(m:∀j (d:j<xs.length),j<k->qN wr w.heap.size (0+j*6) xs[j])(i:∀j,j<xs.length*6->qC wr w.heap.size j)(g:Ext w wr)(f:Ext wr w1)(h:Nf1 w.heap.size wr):
  let W:=w1.setCells w.heap.size (k*6) (let x:=xs[k];[iv x.key.k,iv x.key.n,iv x.key.a,iv x.val.k,iv x.val.n,iv x.val.a])
  (∀j (d:j<xs.length),j<k+1->qN W w.heap.size (0+j*6) xs[j])/\(∀j,j<xs.length*6->qC W w.heap.size j)/\Ext w W/\Nf1 w.heap.size W:=by
 intro W;have b:∀j,j<[iv xs[k].key.k,iv xs[k].key.n,iv xs[k].key.a,iv xs[k].val.k,iv xs[k].val.n,iv xs[k].val.a].length->qC w1 w.heap.size (k*6+j):=λj d=>(i (k*6+j) (by simp at d;omega)).ext f
 refine⟨λj d l=>?_,λj d=>a9z ((i j d).ext f),(a5a (S:=λq=>q=w.heap.size) rfl (uX.refl _ w1)).ext (g.trans f) (by intro k p;omega),(h.ext f).put⟩;by_cases e:j=k
 ·subst e;refine⟨?_,?_,?_,?_,?_,?_⟩
  ·have:=a2m b 0 (by simp)
   simpa using this
  ·have:=a2m b 1 (by simp)
   simpa using this
  ·have:=a2m b 2 (by simp)
   simpa using this
  ·have:=a2m b 3 (by simp)
   simpa using this
  ·have:=a2m b 4 (by simp)
   simpa using this
  ·have:=a2m b 5 (by simp)
   simpa using this
 ·have c:=m j d (by omega);have c:=qN.ext f c;refine⟨?_,?_,?_,?_,?_,?_⟩
  ·rw[a1p _ _ (Or.inr (by simp;omega))];exact c.1
  ·rw[a1p _ _ (Or.inr (by simp;omega))];exact c.2.1
  ·rw[a1p _ _ (Or.inr (by simp;omega))];exact c.2.2.1
  ·rw[a1p _ _ (Or.inr (by simp;omega))];exact c.2.2.2.1
  ·rw[a1p _ _ (Or.inr (by simp;omega))];exact c.2.2.2.2.1
  ·rw[a1p _ _ (Or.inr (by simp;omega))];exact c.2.2.2.2.2
theorem uN{e size:Nat}{v:Value}(h:w.ownsRow base e size v n xs)(j:∀k,v.ownBlock=some k->w'.heap[k]?=w.heap[k]?):w'.ownsRow base e size v n xs:=by
 refine⟨h.1,?_⟩;rcases h.2 with d | ⟨g,a,b,rfl,i,f,c⟩
 ·exact .inl d
 ·exact .inr ⟨g,a,b,rfl,i,(j g rfl).trans f,c⟩
def Cl0:Cl:=⟨0,0,0,0,0,0,0,[]⟩
def Hp.c(x:Hp)(i:Nat):Cl:=x.A.getD i Cl0
theorem Hp.c_eq(x:Hp)(i:Nat)(h:i<x.A.length):x.A[i]=x.c i:=by simp [Hp.c,h]
structure R1(x:Hp):Prop where
 M:1<=x.M/\x.M<=4000
 B:x.B.length=16
 A:(x.A.length:Int)<=2*x.M
 D:x.D.length<=x.A.length
 born:0<=x.born/\x.born<=1000000000
 Q:0<=x.Q/\x.Q<=1000000000
 S:0<=x.S/\x.S<=1000000000
 per:0<=x.per/\x.per<=64
 V:0<=x.V/\x.V<=4000
 E:0<=x.E/\x.E<=6
 I:0<=x.I/\x.I<=x.A.length
 sub:0<=x.sub/\x.sub<=200
def yV(c:Cl):Prop:=c.kind=0/\c.T=0/\c.U=0/\c.born=0/\c.J=0/\c.F.length=0
def a2t(x:Hp)(c:Cl):Prop:=
 (0<=c.kind/\c.kind<=255)/\(0<=c.T/\c.T<=3)/\(0<=c.U/\c.U<=3)/\(1<=c.born/\c.born<=x.born)/\(0<=c.J/\c.J<=2)/\c.to=0/\c.F.length<=200
def eH(x:Hp)(i:Nat)(c:Cl):Prop:=
 yV c/\4<=x.E/\0<=c.to/\c.to<i/\(x.c c.to.toNat).st=1/\(x.E=4->∀k:Nat,(k:Int)<c.to->(x.c k).st≠0)
def hJ(x:Hp)(i:Nat):Prop:=
 ((x.c i).st=0/\yV (x.c i)/\(x.c i).to=0)\/((x.c i).st=2/\eH x i (x.c i))\/((x.c i).st=1/\a2t x (x.c i))
def b7j(x:Hp):Prop:=
 ∀i,i<x.A.length->(x.c i).st≠0->∀k,k<i->¬((x.c k).st=(x.c i).st/\(x.c k).born=(x.c i).born/\(x.c k).to=(x.c i).to)
def R2(x:Hp):Prop:=(∀i,i<x.A.length->hJ x i)/\b7j x
def hV(c:Cl):Nat:=if c.st=1 then 1+c.F.length else 0
def units(cs:List Cl):Nat:=(cs.map hV).sum
def R3(x:Hp):Prop:=x.K=units x.A/\x.K<=x.M
def uW(w:Wd)(n:Nat):Prop:=(w.k=0/\w.n=0/\w.a=0)\/(w.k=1/\w.a=0)\/(w.k=2/\w.n=0/\0<=w.a/\w.a<n)
def uE(x:Hp)(i:Nat):Prop:=x.E=3/\x.I<=i/\(x.c i).st=1/\(x.c i).J=0
def hU(x:Hp)(w:Wd)(moved:Prop):Prop:=
 uW w x.A.length/\(w.k=2->((x.c w.a.toNat).st=2/\moved)\/((x.c w.a.toNat).st=1/\¬uE x w.a.toNat))
def cH(x:Hp)(i k:Nat):Prop:=x.E≠4/\(x.E=5->(i:Int)<x.I\/((i:Int)=x.I/\(k:Int)<x.sub))
def a2u(x:Hp)(i k:Nat)(p:Pr):Prop:=
 (uE x i->uW p.key x.A.length/\uW p.val x.A.length)/\(¬uE x i->hU x p.key (¬cH x i k)/\hU x p.val (¬cH x i k))
def Pr0:Pr:=⟨⟨0,0,0⟩,⟨0,0,0⟩⟩
def Cl.p(c:Cl)(k:Nat):Pr:=c.F.getD k Pr0
theorem Cl.p_eq(c:Cl)(k:Nat)(h:k<c.F.length):c.F[k]=c.p k:=by simp [Cl.p,h]
def hQ(c:Cl):Prop:=c.U=1\/c.U=2
def R4(x:Hp):Prop:=
 (∀i (h:i<x.B.length),hU x x.B[i] False)/\
 (∀i,i<x.A.length->¬(uE x i/\hQ (x.c i))/\∀k,k<(x.c i).F.length->a2u x i k ((x.c i).p k))
def uY(x:Hp):Prop:=x.E=1\/x.E=2
def cnt(g:List Int)(i:Nat):Nat:=g.count (i:Int)
def eK(x:Hp)(i:Nat):Prop:=
 ((x.c i).J=1->cnt x.D i=1)/\((x.c i).J≠1->cnt x.D i=0)/\((x.c i).J=2->uY x\/(x.E=3/\x.I<=i))
def R5(x:Hp):Prop:=
 (¬uY x->x.D.length=0)/\(∀i,i<x.A.length->eK x i)/\(∀g,g∈x.D->0<=g/\g<x.A.length)
def Hp.g0(x:Hp):Nat:=(x.D.getD 0 0).toNat
def R6(x:Hp):Prop:=
 ((x.E=0\/x.E=4)->x.I=0/\x.sub=0)/\
 (x.E=2->x.I=0/\(x.D.length=0->x.sub=0)/\(x.D.length≠0->x.sub<=(x.c x.g0).F.length))/\
 (x.E=5->((x.I=x.A.length\/(x.c x.I.toNat).st≠1)->x.sub=0)/\(x.I≠x.A.length/\(x.c x.I.toNat).st=1->x.sub<=(x.c x.I.toNat).F.length))/\
 ((x.E=1\/x.E=3\/x.E=6)->x.sub=0)
def hY(x:Hp)(w:Wd):Prop:=w.k=2/\(x.c w.a.toNat).J=0
def hD(x:Hp)(i:Nat):Nat:=
 if (x.c i).J=2 then (x.c i).F.length else if x.E=2/\x.D.length≠0/\x.D.getD 0 0=(i:Int) then x.sub.toNat else 0
def R7(x:Hp):Prop:=
 uY x->∀i,i<x.A.length->¬(hQ (x.c i)/\(x.c i).J=0/\(x.E=2\/(i:Int)<x.I))/\∀k,k<hD x i->¬hY x ((x.c i).p k).key/\¬hY x ((x.c i).p k).val
def R8(x:Hp):Prop:=∀i,i<x.A.length->¬(x.E=6/\x.I<=i/\(x.c i).st=2)
def dX(x:Hp)(n:Int):Prop:=
 (¬R1 x/\n=1)\/(R1 x/\¬R2 x/\n=2)\/(R1 x/\R2 x/\¬R3 x/\n=3)\/(R1 x/\R2 x/\R3 x/\¬R4 x/\n=4)\/(R1 x/\R2 x/\R3 x/\R4 x/\¬R5 x/\n=5)\/
 (R1 x/\R2 x/\R3 x/\R4 x/\R5 x/\¬R6 x/\n=6)\/(R1 x/\R2 x/\R3 x/\R4 x/\R5 x/\R6 x/\¬R7 x/\n=7)\/(R1 x/\R2 x/\R3 x/\R4 x/\R5 x/\R6 x/\R7 x/\¬R8 x/\n=8)\/
 (R1 x/\R2 x/\R3 x/\R4 x/\R5 x/\R6 x/\R7 x/\R8 x/\n=0)
theorem dX.uniq{x:Hp}{n m:Int}(h:dX x n)(k:dX x m):n=m:=by grind [dX,R2,R3,R4,R5,R6,R7,R8]
structure HAt(w:World)(b:Nat)(x:Hp)(ar:Option Addr)(kr:Nat)(ac:Option Addr)(kc:Nat)(ag:Option Addr)(kg:Nat):Prop where
 c0:w.cell? ⟨b,0,none⟩=some (iv x.M)
 c1:w.cell? ⟨b,1,none⟩=some (iv x.K)
 c2:w.cell? ⟨b,2,none⟩=some (iv x.born)
 c3:w.cell? ⟨b,3,none⟩=some (.slice ar x.B.length kr)
 c4:w.cell? ⟨b,4,none⟩=some (.slice ac x.A.length kc)
 c5:w.cell? ⟨b,5,none⟩=some (iv x.E)
 c6:w.cell? ⟨b,6,none⟩=some (iv x.I)
 c7:w.cell? ⟨b,7,none⟩=some (iv x.sub)
 c8:w.cell? ⟨b,8,none⟩=some (.slice ag x.D.length kg)
 c9:w.cell? ⟨b,9,none⟩=some (iv x.per)
 c10:w.cell? ⟨b,10,none⟩=some (iv x.V)
 c11:w.cell? ⟨b,11,none⟩=some (iv x.Q)
 c12:w.cell? ⟨b,12,none⟩=some (iv x.S)
 lr:x.B.length<=35184372088832
 lc:x.A.length<=35184372088832
 lg:x.D.length<=35184372088832
 R:∀i (hi:i<x.B.length),∃b' o,ar=some ⟨b',o,none⟩/\yU w b' (o+i*3) x.B[i]
 C:∀i,i<x.A.length->∃b' o,ac=some ⟨b',o,none⟩/\ClAt w b' (o+i*8) (x.c i)
 G:∀i (hi:i<x.D.length),∃b' o,ag=some ⟨b',o,none⟩/\a6w w b' (o+i*1) x.D[i]
theorem HAt.ext{x:Hp}(h:HAt w b x ar kr ac kc ag kg)(e:Ext w w'):HAt w' b x ar kr ac kc ag kg:=
 ⟨e.keep h.c0,e.keep h.c1,e.keep h.c2,e.keep h.c3,e.keep h.c4,e.keep h.c5,e.keep h.c6,e.keep h.c7,e.keep h.c8,e.keep h.c9,e.keep h.c10,e.keep h.c11,e.keep h.c12,h.lr,h.lc,h.lg,
  λi c=>let ⟨b',o,a,p⟩:=h.R i c;⟨b',o,a,p.ext e⟩,λi c=>let ⟨b',o,a,p⟩:=h.C i c;⟨b',o,a,p.ext e⟩,λi c=>let ⟨b',o,a,p⟩:=h.G i c;⟨b',o,a,p.ext e⟩⟩
structure CAt(w:World)(b o:Nat)(c:Cl)(ap:Option Addr)(kp:Nat):Prop where
 p0:w.cell? ⟨b,o,none⟩=some (iv c.st)
 p1:w.cell? ⟨b,o+1,none⟩=some (iv c.kind)
 p2:w.cell? ⟨b,o+2,none⟩=some (iv c.T)
 p3:w.cell? ⟨b,o+3,none⟩=some (iv c.U)
 p4:w.cell? ⟨b,o+4,none⟩=some (iv c.born)
 p5:w.cell? ⟨b,o+5,none⟩=some (iv c.J)
 p6:w.cell? ⟨b,o+6,none⟩=some (iv c.to)
 p7:w.cell? ⟨b,o+7,none⟩=some (.slice ap c.F.length kp)
 lp:c.F.length<=35184372088832
 P:∀k,k<c.F.length->∃b' o',ap=some ⟨b',o',none⟩/\qN w b' (o'+k*6) (c.p k)
theorem HAt.cell{x:Hp}(h:HAt w b x ar kr ac kc ag kg)(i:Nat)(v:i<x.A.length):
  ∃b' o ap kp,ac=some (aA b' o)/\CAt w b' (o+i*8) (x.c i) ap kp:=by
 obtain⟨b',o,e,y,u,d,g,p,r,f,m,t,ap,kp,rfl,j,P⟩:=h.C i v;exact⟨b',o,ap,kp,e,u,d,g,p,r,f,m,t,j,λk a=>by obtain⟨n,l,s,q⟩:=P k a;rw[Cl.p_eq _ _ a] at q;exact⟨n,l,s,q⟩⟩
theorem CAt.ext{c:Cl}{ap:Option Addr}{kp:Nat}(h:CAt w b o c ap kp)(e:Ext w w'):CAt w' b o c ap kp:=
 ⟨e.keep h.p0,e.keep h.p1,e.keep h.p2,e.keep h.p3,e.keep h.p4,e.keep h.p5,e.keep h.p6,e.keep h.p7,h.lp,λk d=>let ⟨b',o',a,p⟩:=h.P k d;⟨b',o',a,p.ext e⟩⟩
def it(L:List Int)(i:Nat):Int:=L.getD i 0
theorem b2z(L:List Int)(i:Nat)(h:i<L.length):L[i]=it L i:=by simp [it,h]
def swp(L:List Int)(i j:Nat):List Int:=(L.set i (it L j)).set j (it L i)
theorem a0v(L:List Int)(i j:Nat):(swp L i j).length=L.length:=by simp [swp]
theorem a4v(L:List Int)(i j k:Nat)(a:i<L.length)(b:j<L.length):it (swp L i j) k=if k=j then it L i else if k=i then it L j else it L k:=by grind [it,swp]
theorem a4c(L:List Int)(i j:Nat)(a:i<L.length)(b:j<L.length):(swp L i j).Perm L:=by grind [swp,b2z]
def Ho(L:List Int):Prop:=∀i,0<i->i<L.length->it L ((i-1) / 2)<=it L i
theorem Ho.root{L:List Int}(h:Ho L):∀i,i<L.length->it L 0<=it L i:=by
 intro i
 induction i using Nat.strongRecOn with
 | ind i ih=>
  intro a;by_cases b:i=0
  ·grind [Ho,it]
  ·grind [Ho,it]
theorem a2w(L:List Int)(i:Nat)(h:i<L.length):it L i∈L:=by grind [it,b2z]
theorem Ho.least(h:Ho L)(b:x∈L):it L 0<=x:=by
 obtain⟨i,a,e⟩:=List.getElem_of_mem b;rw[<-e,b2z L i a];exact h.root i a
theorem Ho.nil:Ho []:=λi _ h=>by simp at h
def yW(L:List Int)(a:Nat):Prop:=
 (∀i,0<i->i<L.length->i≠a->it L ((i-1) / 2)<=it L i)/\(∀i,0<i->i<L.length->(i-1) / 2=a->0<a->it L ((a-1) / 2)<=it L i)
theorem c6r(L:List Int)(x:Int)(i:Nat):it (L++[x]) i=if i<L.length then it L i else if i=L.length then x else 0:=by grind [it]
theorem yW.V(h:Ho L)(x:Int):yW (L++[x]) L.length:=by grind [yW,Ho,c6r]
theorem yW.top(h:yW L 0):Ho L:=by grind [yW,Ho]
theorem yW.done{a:Nat}(h:yW L a)(b:it L ((a-1) / 2)<=it L a):Ho L:=by grind [yW,it,Ho]
theorem yW.up{a u:Nat}(h:yW L a)(m:0<a)(k:a<L.length)(l:u=(a-1) / 2)(j:it L a<it L u):yW (swp L u a) u:=by
 have c:u<L.length:=by omega
 refine⟨λi d b e=>?_,λi d b f g=>?_⟩
 ·grind [a0v,a4v,yW,it,swp]
 ·grind [a0v,a4v,yW,it,swp]
def yY(L:List Int)(a:Nat):Prop:=
 (∀i,0<i->i<L.length->(i-1) / 2≠a->it L ((i-1) / 2)<=it L i)/\(∀i,0<i->i<L.length->(i-1) / 2=a->0<a->it L ((a-1) / 2)<=it L i)
theorem yY.bottom{a:Nat}(h:yY L a)(b:L.length<=2*a+1):Ho L:=by grind [yY,Ho]
def a1y(L:List Int)(a s:Nat):Prop:=(s=2*a+1\/s=2*a+2)/\s<L.length/\(∀i,0<i->i<L.length->(i-1) / 2=a->it L s<=it L i)
theorem a1y.right{a:Nat}(h:2*a+2<L.length)(b:it L (2*a+2)<it L (2*a+1)):a1y L a (2*a+2):=by grind [a1y,it]
theorem a1y.left{a:Nat}(h:2*a+1<L.length)(b:2*a+2<L.length->it L (2*a+1)<=it L (2*a+2)):a1y L a (2*a+1):=by grind [a1y,it]
theorem yY.done{a:Nat}(h:yY L a)(c:a1y L a s)(b:it L a<=it L s):Ho L:=by grind [yY,yW.done,a1y,it,Ho]
theorem yY.down{a:Nat}(h:yY L a)(p:a1y L a s)(r:it L s<it L a):yY (swp L a s) s:=by
 obtain⟨m,b,g⟩:=p;have c:a<L.length:=by omega
 refine⟨λi e d j=>?_,λi e d o q=>?_⟩
 ·rw[a0v] at d;rw[a4v L a s _ c b,a4v L a s _ c b];rw[if_neg j];by_cases l:i=s
  ·grind [yY,a1y,it,swp]
  ·rw[if_neg l];by_cases f:(i-1) / 2=a
   ·rw[if_pos f,if_neg (by omega)];exact g i e d f
   ·rw[if_neg f];by_cases k:i=a
    ·subst k;rw[if_pos rfl];exact h.2 s (by omega) b (by omega) e
    ·rw[if_neg k];exact h.1 i e d f
 ·rw[a0v] at d;rw[a4v L a s _ c b,a4v L a s _ c b];have n:(s-1) / 2=a:=by omega
  rw[n,if_neg (by omega),if_pos rfl,if_neg (by omega),if_neg (by omega)];have:=h.1 i e d (by omega);rw[o] at this;exact this
def b8j(L:List Int):List Int:=(swp L 0 (L.length-1)).take (L.length-1)
theorem c9x(L:List Int):(b8j L).length=L.length-1:=by simp [b8j,a0v]
theorem c5s(L:List Int)(n i:Nat)(h:i<n):it (L.take n) i=it L i:=by simp [it,h]
theorem c6s(L:List Int)(h:0<L.length):(it L 0::b8j L).Perm L:=by
 have b:=a4c L 0 (L.length-1) h (by omega)
 have c:swp L 0 (L.length-1)=b8j L++[it L 0]:=by
  have a:=List.take_append_getElem (l:=swp L 0 (L.length-1)) (i:=L.length-1) (by rw[a0v];omega);rw[b2z,a4v L 0 _ _ h (by omega),if_pos rfl] at a;have:L.length-1+1=(swp L 0 (L.length-1)).length:=by rw[a0v];omega
  rw[this,List.take_length] at a;exact a.symm
 rw[c] at b;exact(List.perm_append_singleton _ _).symm.trans b
theorem yY.V(h:Ho L):yY (b8j L) 0:=by
 refine⟨λi c b a=>?_,λi c b d e=>by omega⟩;rw[c9x] at b;unfold b8j;rw[c5s _ _ _ (by omega),c5s _ _ _ (by omega),a4v L 0 _ _ (by omega) (by omega),a4v L 0 _ _ (by omega) (by omega),if_neg (by omega),if_neg a,if_neg (by omega),if_neg (by omega)];exact h i c (by omega)
theorem b4k(hp:(x::M).Perm L)(hL:Ho L)(hx:x=it L 0)(hM:Ho M)(hm:M=[]\/it M 0≠x):L.Nodup↔M.Nodup:=by
 rw[<-hp.nodup_iff,List.nodup_cons];refine⟨λh=>h.2,λh=>⟨λhmem=>?_,h⟩⟩;rcases hm with e | e
 ·rw[e] at hmem;cases hmem
 ·have h1:=hM.least hmem;have hne:M≠[]:=List.ne_nil_of_mem hmem;have h2:it M 0∈M:=a2w M 0 (by cases M with | nil=>exact(hne rfl).elim | cons _ _=>simp);have h3:=hL.least (hp.mem_iff.1 (List.mem_cons_of_mem _ h2));omega
theorem c0g(b:(x::M).Perm L)(a:0<M.length)(e:it M 0=x):¬L.Nodup:=by grind [it,a2w]
theorem b4g{α:Type}(f:α->List Value)(c:Nat)(hc:∀a,(f a).length=c):∀(l:List α) (i j:Nat) (hi:i<l.length),j<c->(l.flatMap f)[i*c+j]?=(f l[i])[j]?
 | a::l,0,j,_,hj=>by simp only [List.flatMap_cons,Nat.zero_mul,Nat.zero_add,List.getElem_cons_zero];exact List.getElem?_append_left (by rw[hc];exact hj)
 | a::l,i+1,j,hi,hj=>by
  simp only [List.flatMap_cons,List.getElem_cons_succ];rw[List.getElem?_append_right (by rw[hc,Nat.succ_mul];omega),hc,show(i+1)*c+j-c=i*c+j by rw[Nat.succ_mul];omega];exact b4g f c hc l i j (by simpa using hi) hj
theorem a3u{c:Nat}{v:Value}{α:Type}{f:α->List Value}(k:∀a,(f a).length=c){L:List α}(h:w.ownsRow base t c v L.length (L.flatMap f)):∃ad cap,v=.slice ad L.length cap/\(0<L.length->∃g,ad=some (aA g 0))/\∀i (d:i<L.length),∃g,ad=some (aA g 0)/\base<=g/\g<w.heap.size/\∀j,j<c->w.cell? (aA g (0+i*c+j))=(f L[i])[j]?:=by
 rcases h.2 with⟨h0,h1⟩ | ⟨g,cap,cur,h0,hb,hg,hr⟩
 ·grind
 ·subst h0;refine⟨_,cap,rfl,λ_=>⟨g,rfl⟩,λi d=>⟨g,rfl,(h.lt g rfl).1,(h.lt g rfl).2,λj e=>?_⟩⟩
  have b:i*c+j<L.length*c:=by
   have:(i+1)*c<=L.length*c:=Nat.mul_le_mul_right c (by omega);rw[Nat.succ_mul] at this;omega
  rw[Nat.zero_add,World.ownsRow.cellAt h (i*c+j) b];exact b4g f c k L i j d e
theorem a2g{v:Value}{c:Nat}(f:Ext a W)(d:W.ownsRow base t c v n xs)(h:a.heap.size<=base)(b:W.grownBy w5 v.ownBlock):Ext a w5:=
 Below.trans f ⟨b.os,b.tape,b.output,b.size,λk g=>b.block k (Nat.lt_of_lt_of_le g f.size) (λe=>by have:=(d.lt k e.symm).1;omega)⟩
theorem b4h{w3:World}{c n':Nat}{ys:List Value}{v:Value}{bg:Nat}(s:bg<base)(r:Ext w3 W)(j:W.ownsRow base T c v n xs)(p:w3.heap.size<=bg)(h:bg<W.heap.size)(g:W.grownBy w5 v.ownBlock)(i:w5.ownsRow base T c v' n' ys):
  (w5.setCell (aA bg o) u).ownsRow base T c v' n' ys/\Ext w3 (w5.setCell (aA bg o) u)/\(∀o',o'≠o->(w5.setCell (aA bg o) u).cell? (aA bg o')=W.cell? (aA bg o'))/\(∀o',(w5.setCell (aA bg o) u).frozen? (aA bg o')=W.frozen? (aA bg o'))/\(∀y,W.cell? (aA bg o)=some y->(w5.setCell (aA bg o) u).cell? (aA bg o)=some u)/\(∀q,q<W.heap.size->q≠bg->v.ownBlock≠some q->(w5.setCell (aA bg o) u).heap[q]?=W.heap[q]?):=by
 have b:w5.heap[bg]?=W.heap[bg]?:=g.block bg h (λe=>by have:=(j.lt bg e.symm).1;omega);refine⟨uN i (λq d=>Below.heap_setCell _ _ _ _ (λe=>by have:=(i.lt q d).1;simp only at e;omega)),(a2g r j (by omega) g).setCell p u,λo' m=>?_,λo'=>?_,λy k=>?_,λq d f l=>?_⟩
 ·rw[uC _ (.inr (λe=>m e.symm))];exact World.cell?_of_block (a:=(aA bg o')) b
 ·rw[World.frozen?_setCell];exact World.frozen?_of_block (a:=(aA bg o')) b
 ·exact World.cell?_setCell_same _ _ _ ((World.cell?_of_block (a:=(aA bg o)) b).trans k)
 ·exact(Below.heap_setCell _ _ _ _ f).trans (g.block q d (λe=>l e.symm))
theorem a6z{c:Nat}{v:Value}(h:w.ownsRow b T c v n xs)(a:b'<=b):w.ownsRow b' T c v n xs:=
 ⟨h.1,h.2.imp id (λ⟨g,cap,cur,hv,hg,r⟩=>⟨g,cap,cur,hv,Nat.le_trans a hg,r⟩)⟩
theorem a5b{α:Type}(f:α->List Value)(c:Nat)(b:∀a,(f a).length=c)(L:List α):(L.flatMap f).length=L.length*c:=by
 induction L with
 | nil=>simp
 | cons a L ih=>simp [ih,b,Nat.succ_mul];omega
theorem c0d{α:Type}(f:α->List Value)(h:∀a u,u∈f a->u.oneCell'=true)(L:List α):∀u,u∈L.flatMap f->u.oneCell'=true:=by grind
theorem c0e(b o j:Nat):((aA b o):Addr).add j=(aA b (o+j)):=by unfold Addr.add;split <;> simp_all
theorem a8f{α:Type}(f:α->List Value)(c:Nat)(k:0<c)(n:∀a,(f a).length=c)(L:List α)(b o:Nat)(h:∀i (p:i<L.length),∀j,j<c->w.cell? (aA b (o+i*c+j))=(f L[i])[j]?):∀j u,(L.flatMap f)[j]?=some u->w.cell? (((aA b o):Addr).add j)=some u:=λj u m=>by
 have l:j<L.length*c:=by grind [a5b]
 have g:j / c<L.length:=(Nat.div_lt_iff_lt_mul k).2 l;have d:j % c<c:=Nat.mod_lt _ k;have e:j / c*c+j % c=j:=Nat.div_add_mod' j c;rw[c0e,<-m];have:=h (j / c) g (j % c) d;rw[Nat.add_assoc,e] at this;rw[this,<-b4g f c n L (j / c) (j % c) g d,e]
structure dW(w:World)(base bq oq:Nat)(v:Value)(L:List Int):Prop where
 hd:w.cell? ⟨bq,oq,none⟩=some v
 hf:w.frozen? ⟨bq,oq,none⟩=false
 own:w.ownsRow base 3 1 v L.length (L.map iv)
 apart:v.ownBlock≠some bq
structure QFr(bq oq:Nat)(v v':Value)(w w':World):Prop where
 os:w'.os=w.os
 tape:w'.tape=w.tape
 output:w'.output=w.output
 size:w.heap.size<=w'.heap.size
 block:∀k,k<w.heap.size->k≠bq->v.ownBlock≠some k->w'.heap[k]?=w.heap[k]?
 hdr:∀o,o≠oq->w'.cell? ⟨bq,o,none⟩=w.cell? ⟨bq,o,none⟩
 hfr:∀o,w'.frozen? ⟨bq,o,none⟩=w.frozen? ⟨bq,o,none⟩
 own:v'.ownBlock=v.ownBlock\/∃g,v'.ownBlock=some g/\w.heap.size<=g
theorem QFr.refl(b a:Nat)(v:Value)(w:World):QFr b a v v w w:=⟨rfl,rfl,rfl,Nat.le_refl _,λ_ _ _ _=>rfl,λ_ _=>rfl,λ_=>rfl,.inl rfl⟩
theorem QFr.trans{v v1:Value}{w2:World}(h:QFr bq oq v v1 w w1)(k:QFr bq oq v1 v2 w1 w2):QFr bq oq v v2 w w2:=
 ⟨k.os.trans h.os,k.tape.trans h.tape,k.output.trans h.output,Nat.le_trans h.size k.size,
  λi c b j=>(k.block i (Nat.lt_of_lt_of_le c h.size) b (λe=>by
   rcases h.own with a | ⟨g,a,d⟩
   ·grind
   ·rw[a] at e;cases e;omega)).trans (h.block i c b j),
  λo f=>(k.hdr o f).trans (h.hdr o f),λo=>(k.hfr o).trans (h.hfr o),by
   rcases k.own with a | ⟨g,a,d⟩
   ·rcases h.own with l | ⟨g,l,m⟩
    ·grind
    ·grind
   ·exact .inr ⟨g,a,Nat.le_trans h.size d⟩⟩
theorem QFr.ext{v:Value}(h:QFr bq oq v v' w w')(e:Ext a w)(d:a.heap.size<=bq)(c:∀k,v.ownBlock=some k->a.heap.size<=k):Ext a w':=
 Below.trans e ⟨h.os,h.tape,h.output,h.size,λk b=>h.block k (Nat.lt_of_lt_of_le b e.size) (by omega) (λq=>by have:=c k q;omega)⟩
theorem QFr.drewN{v:Value}(h:QFr bq oq v v' w w')(n:Nat):QFr bq oq v v' w (w'.drewN n):=⟨h.os,h.tape,h.output,h.size,h.block,h.hdr,h.hfr,h.own⟩
theorem QFr.A{v:Value}(h:QFr bq oq v v' w w')(c:w.cell? (aA b o)=some u)(d:b≠bq)(e:v.ownBlock≠some b):w'.cell? (aA b o)=some u:=
 (World.cell?_of_block (w:=w) (w':=w') (a:=(aA b o)) (h.block b (uL c) d e)).trans c
theorem dW.hlt{v:Value}(h:dW w base bq oq v L):bq<w.heap.size:=uL h.hd
theorem dW.rlt{v:Value}(h:dW w base bq oq v L):∀k,v.ownBlock=some k->base<=k/\k<w.heap.size:=h.own.lt
theorem dW.ext{v:Value}(h:dW w base bq oq v L)(e:Ext w w'):dW w' base bq oq v L:=
 ⟨e.keep h.hd,by rw[e.frozen (p:=(aA bq oq)) h.hlt];exact h.hf,uN h.own (λk a=>e.block k (h.rlt k a).2),h.apart⟩
theorem dW.other{b2 o2:Nat}{v:Value}(h:dW w base b2 o2 v2 L)(q:QFr bq oq v v' w w')(g:b2≠bq)(i:v.ownBlock≠some b2)(f:v2.ownBlock≠some bq)(d:∀k,v2.ownBlock=some k->v.ownBlock≠some k):dW w' base b2 o2 v2 L:=by
 have b:w'.heap[b2]?=w.heap[b2]?:=q.block b2 h.hlt g i;refine⟨(World.cell?_of_block (w:=w) (w':=w') (a:=(aA b2 o2)) b).trans h.hd,(World.frozen?_of_block (w:=w) (w':=w') (a:=(aA b2 o2)) b).trans h.hf,uN h.own (λk c=>q.block k (h.rlt k c).2 (λe=>f (e ▸ c)) (d k c)),h.apart⟩
theorem dW.nil(b:w.cell? (aA bq oq)=some (.slice none 0 0))(a:w.frozen? (aA bq oq)=false):dW w base bq oq (.slice none 0 0) []:=
 ⟨b,a,World.ownsRow_nil _ _ _ _,by simp [Value.ownBlock]⟩
theorem dW.form{v:Value}(h:dW w base bq oq v L)(a:0<L.length):∃g cap,v=sS g L.length cap/\g≠bq:=by
 obtain⟨g,cap,rfl,_,_⟩:=h.own.form a;exact⟨g,cap,rfl,λe=>h.apart (by rw[<-e];rfl)⟩
theorem dW.empty{v:Value}(h:dW w base bq oq v L)(a:L.length=0):∃ad cap,v=.slice ad 0 cap:=by
 rcases h.own.2 with⟨h1,_⟩ | ⟨g,cap,cur,h1,_⟩
 ·grind
 ·grind
theorem dW.cell(h:dW w base bq oq (sS g n cap) L)(i:Nat)(b:i<L.length):w.cell? (aA g i)=some (iv (it L i)):=by
 obtain⟨c,a⟩:=h.own;rcases a with⟨h0,_⟩ | ⟨g',cap',cur,h0,hb,hg,hr⟩
 ·cases h0
 ·cases h0;have:=World.ownsRow.cellAt (w:=w) (base:=base) (e:=3) (size:=1) (g:=g) (n:=L.length) (cap:=cap) (xs:=L.map iv) h.own i (by omega);rw[this];simp [it,b]
theorem dW.froz(h:dW w base bq oq (sS g n cap) L)(i:Nat):w.frozen? (aA g i)=false:=by
 obtain⟨b,a⟩:=h.own;rcases a with⟨h0,_⟩ | ⟨g',cap',cur,h0,hb,hg,hr⟩
 ·cases h0
 ·cases h0;exact World.ownsRow.frozenAt (w:=w) (base:=base) (e:=3) (size:=1) (g:=g) (n:=L.length) (cap:=cap) (xs:=L.map iv) h.own i
theorem dW.len(h:dW w base bq oq (sS g n cap) L):n=L.length/\n<=cap:=by
 rcases h.own.2 with⟨h0,_⟩ | ⟨g',cap',cur,h0,hb,hg,hr,_⟩
 ·cases h0
 ·grind
theorem dW.store(h:dW w base bq oq (sS g n cap) L)(i:Nat)(x:Int):
  dW (w.setCell (aA g i) (iv x)) base bq oq (sS g n cap) (L.set i x)/\QFr bq oq (sS g n cap) (sS g n cap) w (w.setCell (aA g i) (iv x)):=by
 have a:g≠bq:=λe=>h.apart (by rw[<-e];rfl)
 obtain⟨j,l⟩:=h.len;subst j;obtain⟨d,b⟩:=World.ownsRow.stored h.own i (iv x);refine⟨⟨?_,?_,?_,h.apart⟩,⟨rfl,rfl,rfl,b.size,λk c m f=>b.block k c (λe=>f e.symm),λo p=>?_,λo=>?_,.inl rfl⟩⟩
 ·rw[uC _ (.inl a)];exact h.hd
 ·rw[World.frozen?_setCell];exact h.hf
 ·rw[List.length_set,List.map_set];exact d
 ·exact uC _ (.inl a)
 ·rw[World.frozen?_setCell]
theorem dW.swap(h:dW w base bq oq (sS g n cap) L)(i j:Nat)
  (d:w'.heap=((w.setCell (aA g i) (iv (it L j))).setCell (aA g j) (iv (it L i))).heap) (s:w'.os=w.os) (r:w'.tape=w.tape) (t:w'.output=w.output) :
  dW w' base bq oq (sS g n cap) (swp L i j)/\QFr bq oq (sS g n cap) (sS g n cap) w w':=by
 obtain⟨f,l⟩:=h.store i (it L j);obtain⟨c,p⟩:=f.store j (it L i);have q:=l.trans p;have b:∀k:Nat,w'.heap[k]?=((w.setCell (aA g i) (iv (it L j))).setCell (aA g j) (iv (it L i))).heap[k]?:=λk=>by rw[d]
 refine⟨⟨(World.cell?_of_block (a:=(aA bq oq)) (b bq)).trans c.hd,(World.frozen?_of_block (a:=(aA bq oq)) (b bq)).trans c.hf,uN c.own (λk _=>b k),h.apart⟩,
  ⟨s,r,t,by rw[d];exact q.size,λk e x y=>(b k).trans (q.block k e x y),λo m=>(World.cell?_of_block (a:=(aA bq o)) (b bq)).trans (q.hdr o m),λo=>(World.frozen?_of_block (a:=(aA bq o)) (b bq)).trans (q.hfr o),.inl rfl⟩⟩
theorem c5t(w:World)(base b c g n cap i j:Nat)(L:List Int)(h:dW w base b c (sS g n cap) L)(l:i<n)(m:j<n):
  Calls prog 171 #[pQ b c,iv i,iv j] w λe w'=>e=.returned (.tuple #[])/\dW w' base b c (sS g n cap) (swp L i j)/\QFr b c (sS g n cap) (sS g n cap) w w':=by
 have o:=h.len.1;by_cases e:i=j
 ·subst e;refine Calls.mono (swap_eq w b c g 0 n cap i (it L i) h.hd (by simpa using h.cell i (by omega)) (by simpa using h.froz i) l) ?_;intro e w' ⟨r,f,k,d,a⟩;exact⟨r,h.swap i i (by rw[f];simp) k d a⟩
 ·refine Calls.mono (swap_ne w b c g 0 n cap i j (it L i) (it L j) h.hd (by simpa using h.cell i (by omega)) (by simpa using h.cell j (by omega)) (by simpa using h.froz i) (by simpa using h.froz j) l m e) ?_;intro e w' ⟨r,f,k,d,a⟩;exact⟨r,h.swap i j (by rw[f];simp) k d a⟩
def a8z(x:Hp)(i:Nat):Bool:=(x.c i).st == 1
def dY(w:Wd)(n:Nat):Bool:=if w.k=0 then w.n == 0 && w.a == 0 else if w.k=1 then w.a == 0 else if w.k=2 then w.n == 0 && decide (0<=w.a) && decide (w.a<n) else false
def a0p(x:Hp)(i:Nat):Bool:=(x.E == 3) && decide (x.I<=i) && ((x.c i).st == 1) && ((x.c i).J == 0)
def eU(x:Hp)(i k:Nat):Bool:=if x.E=4 then false else if x.E=5 then decide ((i:Int)<x.I) || ((i:Int) == x.I && decide ((k:Int)<x.sub)) else true
theorem b7k{x:Hp}:a8z x i=true↔(x.c i).st=1:=by simp [a8z]
theorem a2h{x:Hp}:a0p x i=true↔uE x i:=by grind [a0p,uE]
theorem a0n{w:Wd}:dY w n=true↔uW w n:=by grind [dY,uW]
theorem b2y{x:Hp}:eU x i k=true↔cH x i k:=by grind [eU,cH]
theorem a9g(x:Hp)(b:Nat)(a:Int)(w:World)(h:HAt w b x ar kr ac kc ag kg)(c:0<=a)(k:a<x.A.length):
  Calls prog 203 #[pP b,iv a] w λe w'=>e=.returned (.bool (a8z x a.toNat))/\w'=w:=by
 obtain⟨i,rfl⟩:=Int.eq_ofNat_of_zero_le c;rw[Int.toNat_natCast];obtain⟨f,o,rfl,g,j,_⟩:=h.C i (by omega);have d:=h.c4;go_enter func203,ntmps203
 go_wp2
 go_ret;exact⟨rfl,rfl⟩
theorem a1w(x:Wd)(n:Nat)(w:World):Calls prog 207 #[x.v,iv n] w λe w'=>e=.returned (.bool (dY x n))/\Ext w w':=by
 by_cases b:x.k=0
 ·have e:dY x n=(x.n == 0 && x.a == 0):=by simp [dY,b]
  have E:=uU e;clear e;cases q:(x.n == 0)
  all_goals
   go_enter func207,ntmps207
   go_wp2
   go_ret;exact⟨by rw[uH E];simp [q],(Ext.refl w).alloc _⟩
 ·have f:(x.k == 0)=false:=by simp [b]
  by_cases c:x.k=1
  ·have e:dY x n=(x.a == 0):=by simp [dY,c]
   have E:=uU e;clear e b f;go_enter func207,ntmps207
   go_wp2
   go_ret;exact⟨by rw[uH E];simp,(Ext.refl w).alloc _⟩
  ·have i:(x.k == 1)=false:=by simp [c]
   by_cases d:x.k=2
   ·have e:dY x n=(x.n == 0 && decide (0<=x.a) && decide (x.a<n)):=by simp [dY,d]
    have E:=uU e;clear e b f c i;cases q:(x.n == 0)
    ·go_enter func207,ntmps207
     go_wp2
     go_ret;exact⟨by rw[uH E];simp [q],(Ext.refl w).alloc _⟩
    ·by_cases g:0<=x.a
     ·go_enter func207,ntmps207
      go_wp2
      go_ret;exact⟨by rw[uH E];simp [q,g],(Ext.refl w).alloc _⟩
     ·have h:decide (0<=x.a)=false:=by simp;omega
      go_enter func207,ntmps207
      go_wp2
      go_ret;exact⟨by rw[uH E,h];simp,(Ext.refl w).alloc _⟩
   ·have j:(x.k == 2)=false:=by simp [d]
    have e:dY x n=false:=by simp [dY,b,c,d]
    have E:=uU e;clear e;go_enter func207,ntmps207
    go_wp2
    go_ret;exact⟨by rw[uH E];rfl,(Ext.refl w).alloc _⟩
theorem b0a(x:Hp)(b:Nat)(a:Int)(w:World)(h:HAt w b x ar kr ac kc ag kg)(k:0<=a)(l:a<x.A.length):
  Calls prog 206 #[pP b,iv a] w λe w'=>e=.returned (.bool (a0p x a.toNat))/\w'=w:=by
 obtain⟨i,rfl⟩:=Int.eq_ofNat_of_zero_le k;rw[Int.toNat_natCast];have j:=a9g x b i w h k l;rw[Int.toNat_natCast] at j;have g:=uU j;obtain⟨y,o,rfl,n,u,m,q,s,t,p,_⟩:=h.C i (by omega);have v:=h.c4;have r:=h.c5;have z:=h.c6;cases d:(x.E == 3)
 ·go_enter func206,ntmps206
  go_wp2
  go_ret;exact⟨by simp [a0p,d],rfl⟩
 ·cases f:decide (x.I<=(i:Int))
  ·go_enter func206,ntmps206
   go_wp2
   go_ret;exact⟨by simp [a0p,d,f],rfl⟩
  ·cases c:a8z x i
   ·go_enter func206,ntmps206;go_wp2_with (go_at_call 203;refine g.mono ?_;rintro e w' ⟨rfl,rfl⟩);go_ret;exact⟨by unfold a8z at c;simp [a0p,c],rfl⟩
   ·go_enter func206,ntmps206;go_wp2_with (go_at_call 203;refine g.mono ?_;rintro e w' ⟨rfl,rfl⟩);go_ret;exact⟨by unfold a8z at c;simp [a0p,d,f,c],rfl⟩
theorem b8i(x:Hp)(b i k:Nat)(w:World)(h:HAt w b x ar kr ac kc ag kg):
  Calls prog 208 #[pP b,iv i,iv k] w λe w'=>e=.returned (.bool (eU x i k))/\w'=w:=by
 have m:=h.c5;have j:=h.c6;have n:=h.c7;by_cases c:x.E=4
 ·have E:=uU (show eU x i k=false by simp [eU,c]);go_enter func208,ntmps208
  go_wp2
  go_ret;exact⟨by rw[uH E];rfl,rfl⟩
 ·have l:(x.E == 4)=false:=by simp [c]
  by_cases d:x.E=5
  ·have E:=uU (show eU x i k=(decide ((i:Int)<x.I) || ((i:Int) == x.I && decide ((k:Int)<x.sub))) by simp [eU,d]);cases a:decide ((i:Int)<x.I)
   ·cases f:((i:Int) == x.I)
    ·go_enter func208,ntmps208
     go_wp2
     go_ret;exact⟨by rw[uH E,a,f];simp,rfl⟩
    ·go_enter func208,ntmps208
     go_wp2
     go_ret;exact⟨by rw[uH E,a,f];simp,rfl⟩
   ·go_enter func208,ntmps208
    go_wp2
    go_ret;exact⟨by rw[uH E,a];simp,rfl⟩
  ·have g:(x.E == 5)=false:=by simp [d]
   have E:=uU (show eU x i k=true by simp [eU,c,d]);go_enter func208,ntmps208
   go_wp2
   go_ret;exact⟨by rw[uH E];rfl,rfl⟩
def fW(y:Wd):List Value:=[iv y.k,iv y.n,iv y.a]
def fP(p:Pr):List Value:=[iv p.key.k,iv p.key.n,iv p.key.a,iv p.val.k,iv p.val.n,iv p.val.a]
def fC(z:Cl×Value):List Value:=[iv z.1.st,iv z.1.kind,iv z.1.T,iv z.1.U,iv z.1.born,iv z.1.J,iv z.1.to,z.2]
theorem ownW{v:Value}{L:List Wd}(h:w.ownsRow base 152 3 v L.length (L.flatMap fW))(k:L.length<=1048576):SlW w v L:=by
 obtain⟨ad,a,e,_,j⟩:=a3u (f:=fW) (λ_=>rfl) h;refine⟨ad,a,e,by omega,λi c=>?_⟩;obtain⟨g,d,_,_,b⟩:=j i c;exact⟨g,0,d,by have:=b 0 (by omega);simpa [fW] using this,by have:=b 1 (by omega);simpa [fW] using this,by have:=b 2 (by omega);simpa [fW] using this⟩
theorem ownP{v:Value}{L:List Pr}(h:w.ownsRow base 154 6 v L.length (L.flatMap fP))(k:L.length<=1048576):SlP w v L:=by
 obtain⟨ad,b,e,_,j⟩:=a3u (f:=fP) (λ_=>rfl) h;refine⟨ad,b,e,by omega,λi c=>?_⟩;obtain⟨g,d,_,_,a⟩:=j i c;exact⟨g,0,d,by have:=a 0 (by omega);simpa [fP] using this,by have:=a 1 (by omega);simpa [fP] using this,by have:=a 2 (by omega);simpa [fP] using this,by have:=a 3 (by omega);simpa [fP] using this,by have:=a 4 (by omega);simpa [fP] using this,by have:=a 5 (by omega);simpa [fP] using this⟩
def S7(w:World)(b o:Nat)(c:Cl):Prop:=
 w.cell? ⟨b,o,none⟩=some (iv c.st)/\w.cell? ⟨b,o+1,none⟩=some (iv c.kind)/\w.cell? ⟨b,o+2,none⟩=some (iv c.T)/\w.cell? ⟨b,o+3,none⟩=some (iv c.U)/\w.cell? ⟨b,o+4,none⟩=some (iv c.born)/\w.cell? ⟨b,o+5,none⟩=some (iv c.J)/\w.cell? ⟨b,o+6,none⟩=some (iv c.to)
theorem S7.of{c:Cl}(h:S7 w b o c)(e:∀j,j<7->w'.cell? (aA b (o+j))=w.cell? (aA b (o+j))):S7 w' b o c:=by
 obtain⟨f,g,i,a,l,d,k⟩:=h;exact⟨(e 0 (by omega)).trans f,(e 1 (by omega)).trans g,(e 2 (by omega)).trans i,(e 3 (by omega)).trans a,(e 4 (by omega)).trans l,(e 5 (by omega)).trans d,(e 6 (by omega)).trans k⟩
theorem qN.of{p:Pr}(h:qN w b o p)(e:∀j,j<6->w'.cell? (aA b (o+j))=w.cell? (aA b (o+j))):qN w' b o p:=by
 obtain⟨d,f,g,a,i,c⟩:=h;exact⟨(e 0 (by omega)).trans d,(e 1 (by omega)).trans f,(e 2 (by omega)).trans g,(e 3 (by omega)).trans a,(e 4 (by omega)).trans i,(e 5 (by omega)).trans c⟩
theorem yU.of{y:Wd}(h:yU w b o y)(e:∀j,j<3->w'.cell? (aA b (o+j))=w.cell? (aA b (o+j))):yU w' b o y:=by
 obtain⟨d,a,c⟩:=h;exact⟨(e 0 (by omega)).trans d,(e 1 (by omega)).trans a,(e 2 (by omega)).trans c⟩
structure Nfp(b k:Nat)(w:World):Prop where
 lt:b<w.heap.size
 nf:∀j,w.frozen? ⟨b,j,none⟩=false
 cp:∀j,j<k*6->∃v,w.cell? ⟨b,j,none⟩=some v
theorem Nfp.n1(h:Nfp b k w):Nf1 b w:=⟨h.1,h.2⟩
theorem a0g(h:Nfp b k w)(c:w'.heap[b]?=w.heap[b]?)(e:w.heap.size<=w'.heap.size):Nfp b k w':=
 ⟨Nat.lt_of_lt_of_le h.1 e,λj=>(World.frozen?_of_block (a:=(aA b j)) c).trans (h.2 j),λj d=>let ⟨v,hv⟩:=h.3 j d;⟨v,(World.cell?_of_block (a:=(aA b j)) c).trans hv⟩⟩
theorem Nfp.ext(h:Nfp b k w)(e:Ext w w'):Nfp b k w':=a0g h (e.block b h.1) e.size
theorem Nfp.set(h:Nfp b k w)(p:Addr)(u:Value):Nfp b k (w.setCell p u):=⟨(h.n1.set p u).1,(h.n1.set p u).2,λj a=>let ⟨_,hv⟩:=h.3 j a;cell?_setCell_some hv⟩
theorem Nfp.put{b k g:Nat}:∀{vs:List Value} {w:World} {o:Nat},Nfp b k w->Nfp b k (w.setCells g o vs)
 | [],_,_,h=>h
 | _::r,_,_,h=>Nfp.put (vs:=r) (h.set _ _)
theorem c0h{c:Nat}{p:Pr}(h:Nfp b c w)(n:Nf1 b w')(q:qN w' b (k*6) p)(o:∀j,(j<k*6\/k*6+6<=j)->w'.cell? (aA b j)=w.cell? (aA b j)):Nfp b c w':=
 ⟨n.1,n.2,λj f=>by
  by_cases e:j<k*6\/k*6+6<=j
  ·rw[o j e];exact h.3 j f
  ·obtain⟨m,l,d,a,g,i⟩:=q;have:j=k*6\/j=k*6+1\/j=k*6+2\/j=k*6+3\/j=k*6+4\/j=k*6+5:=by omega
   rcases this with rfl | rfl | rfl | rfl | rfl | rfl
   ·exact⟨_,m⟩
   ·exact⟨_,l⟩
   ·exact⟨_,d⟩
   ·exact⟨_,a⟩
   ·exact⟨_,g⟩
   ·exact⟨_,i⟩⟩
structure Rws(B:Nat)(w:World)(x:Hp)(br bc:Nat)(pb:Nat->Nat)(pa:Nat->Option Addr)(pk:Nat->Nat):Prop where
 r:∀i (hi:i<x.B.length),yU w br (i*3) x.B[i]
 s:∀q,q<x.A.length->S7 w bc (q*8) (x.c q)
 p7:∀q,q<x.A.length->w.cell? ⟨bc,q*8+7,none⟩=some (.slice (pa q) (x.c q).F.length (pk q))
 p:∀q,q<x.A.length->∀k,k<(x.c q).F.length->qN w (pb q) (k*6) ((x.c q).p k)
 pl:∀q,q<x.A.length->0<pk q->pa q=some ⟨pb q,0,none⟩/\Nfp (pb q) (pk q) w/\(pb q≠br/\pb q≠bc)/\B<=pb q
 nr:0<x.B.length->Nf1 br w/\B<=br
 nc:0<x.A.length->Nf1 bc w/\B<=bc
 d:0<x.A.length->br≠bc
 dp:∀q q',q<x.A.length->q'<x.A.length->q≠q'->0<pk q->0<pk q'->pb q≠pb q'
 kp:∀q,q<x.A.length->(x.c q).F.length<=pk q
theorem Rws.pw{x:Hp}(h:Rws B w x br bc pb pa pk){q:Nat}(b:q<x.A.length)(a:0<(x.c q).F.length):0<pk q:=Nat.lt_of_lt_of_le a (h.kp q b)
theorem uJ(h:Nf1 b w)(c:w'.heap[b]?=w.heap[b]?)(d:w.heap.size<=w'.heap.size):Nf1 b w':=
 ⟨Nat.lt_of_lt_of_le h.1 d,λj=>(World.frozen?_of_block (a:=(aA b j)) c).trans (h.2 j)⟩
theorem Rws.same{x:Hp}(h:Rws B w x br bc pb pa pk)(l:w.heap.size<=w'.heap.size)
  (n:0<x.B.length->w'.heap[br]?=w.heap[br]?) (g:0<x.A.length->w'.heap[bc]?=w.heap[bc]?) (m:∀q,q<x.A.length->0<pk q->w'.heap[pb q]?=w.heap[pb q]?):Rws B w' x br bc pb pa pk where
 r:=λi o=>(h.r i o).of λj _=>World.cell?_of_block (a:=(aA br _)) (n (by omega))
 s:=λq f=>(h.s q f).of λj _=>World.cell?_of_block (a:=(aA bc _)) (g (by omega))
 p7:=λq f=>(World.cell?_of_block (a:=(aA bc _)) (g (by omega))).trans (h.p7 q f)
 p:=λq f k t=>(h.p q f k t).of λj _=>World.cell?_of_block (a:=(aA (pb q) _)) (m q f (h.pw f (by omega)))
 pl:=λq f e=>let ⟨a,b,c⟩:=h.pl q f e;⟨a,a0g b (m q f e) l,c⟩
 nr:=λe=>⟨uJ (h.nr e).1 (n e) l,(h.nr e).2⟩
 nc:=λe=>⟨uJ (h.nc e).1 (g e) l,(h.nc e).2⟩
 d:=h.d
 dp:=h.dp
 kp:=h.kp
theorem Rws.ext{x:Hp}(h:Rws B w x br bc pb pa pk)(e:Ext w w'):Rws B w' x br bc pb pa pk:=
 h.same e.size (λa=>e.block _ (h.nr a).1.1) (λa=>e.block _ (h.nc a).1.1) (λq b a=>e.block _ (h.pl q b a).2.1.1)
theorem Rws.only{x:Hp}(h:Rws B w x br bc pb pa pk)(e:uX S w w')(f:0<x.B.length->¬S br)(c:0<x.A.length->¬S bc)(d:∀q,q<x.A.length->0<pk q->¬S (pb q)):Rws B w' x br bc pb pa pk:=
 h.same e.size (λa=>e.block _ (h.nr a).1.1 (f a)) (λa=>e.block _ (h.nc a).1.1 (c a)) (λq b a=>e.block _ (h.pl q b a).2.1.1 (d q b a))
theorem Rws.less{C:Nat}{x:Hp}(h:Rws B w x br bc pb pa pk)(f:C<=B):Rws C w x br bc pb pa pk:=
 ⟨h.r,h.s,h.p7,h.p,λq g e=>let ⟨a,b,c,d⟩:=h.pl q g e;⟨a,b,c,Nat.le_trans f d⟩,λe=>⟨(h.nr e).1,Nat.le_trans f (h.nr e).2⟩,λe=>⟨(h.nc e).1,Nat.le_trans f (h.nc e).2⟩,h.d,h.dp,h.kp⟩
theorem Rws.slW{x:Hp}(h:Rws B w x br bc pb pa pk)(b:Nat)(c:0<x.B.length->ad=some (aA br 0))(d:x.B.length<=1048576):SlW w (.slice ad x.B.length b) x.B:=
 ⟨_,_,rfl,by omega,λi a=>⟨br,0,c (by omega),by rw[Nat.zero_add];exact h.r i a⟩⟩
theorem Rws.slC{x:Hp}(h:Rws B w x br bc pb pa pk)(o:Nat)(r:0<x.A.length->ad=some (aA bc 0))(t:x.A.length<=1048576)(n:∀q,q<x.A.length->(x.c q).F.length<=200):SlC w (.slice ad x.A.length o) x.A:=by
 refine⟨_,_,rfl,by omega,λi a=>⟨bc,0,r (by omega),?_⟩⟩;rw[Nat.zero_add,Hp.c_eq x i a];obtain⟨f,g,j,d,m,e,l⟩:=h.s i a;refine⟨_,f,g,j,d,m,e,l,h.p7 i a,_,_,rfl,by have:=n i a;omega,λk b=>⟨pb i,0,(h.pl i a (h.pw a (by omega))).1,?_⟩⟩;rw[Nat.zero_add,Cl.p_eq _ _ b];exact h.p i a k b
structure uQ where
 z:Nat->Option Obj
def Prt[Inhabited uQ](w:World)(role:Nat->Nat):Prop:=∀q o,(default:uQ).z q=some o->role q=1/\w.heap[q]?=some o
theorem Prt.of[Inhabited uQ](h:Prt w role)(e:∀q,q<w.heap.size->role q=1->w'.heap[q]?=w.heap[q]?)(r:∀q,q<w.heap.size->role q=1->role' q=1):Prt w' role':=by grind [Prt,Ext.trans,uX.trans]
def dK(w:World)(B:Nat)(x:Hp)(vr vc vg:Value):Prop:=
 w.cell? ⟨B,0,none⟩=some (iv x.M)/\w.cell? ⟨B,1,none⟩=some (iv x.K)/\w.cell? ⟨B,2,none⟩=some (iv x.born)/\w.cell? ⟨B,3,none⟩=some vr/\w.cell? ⟨B,4,none⟩=some vc/\w.cell? ⟨B,5,none⟩=some (iv x.E)/\w.cell? ⟨B,6,none⟩=some (iv x.I)/\w.cell? ⟨B,7,none⟩=some (iv x.sub)/\w.cell? ⟨B,8,none⟩=some vg/\w.cell? ⟨B,9,none⟩=some (iv x.per)/\w.cell? ⟨B,10,none⟩=some (iv x.V)/\w.cell? ⟨B,11,none⟩=some (iv x.Q)/\w.cell? ⟨B,12,none⟩=some (iv x.S)
theorem dK.ext{x:Hp}(h:dK w B x vr vc vg)(e:Ext w w'):dK w' B x vr vc vg:=by
 obtain⟨o,n,i,d,j,m,k,g,l,f,b,c,a⟩:=h;exact⟨e.keep o,e.keep n,e.keep i,e.keep d,e.keep j,e.keep m,e.keep k,e.keep g,e.keep l,e.keep f,e.keep b,e.keep c,e.keep a⟩
theorem dK.new(w:World)(x:Hp)(vr b a:Value)(t:TypeId):dK (w.alloc (.cells #[iv x.M,iv x.K,iv x.born,vr,b,iv x.E,iv x.I,iv x.sub,a,iv x.per,iv x.V,iv x.Q,iv x.S] t)) w.heap.size x vr b a:=by
 refine⟨?_,?_,?_,?_,?_,?_,?_,?_,?_,?_,?_,?_,?_⟩ <;> simp [go_sem]
theorem dK.of{B':Nat}{x:Hp}(h:dK w B x vr vc vg)(e:∀o,o<13->w'.cell? (aA B' o)=w.cell? (aA B o)):dK w' B' x vr vc vg:=by grind [dK,HAt.cell,Ext.trans,uX.trans]
theorem dK.only{x:Hp}(h:dK w B x vr vc vg)(e:uX S w w')(a:¬S B):dK w' B x vr vc vg:=
 h.of λo _=>e.A B (uL h.1) a o
theorem dK.block{x:Hp}(h:dK w B x vr vc vg)(e:w'.heap[B]?=w.heap[B]?):dK w' B x vr vc vg:=
 h.of λo _=>World.cell?_of_block (a:=(aA B o)) e
theorem dK.far{x:Hp}(h:dK w B x vr vc vg)(b o:Nat)(u:Value)(d:b≠B\/13<=o):dK (w.setCell (aA b o) u) B x vr vc vg:=
 h.of λa c=>uC _ (by omega)
theorem dK.set3{x:Hp}(h:dK w B x vr vc vg)(u:Value):dK (w.setCell (aA B 3) u) B x u vc vg:=by
 obtain⟨n,m,g,d,i,l,j,f,k,e,b,c,a⟩:=h;refine⟨?_,?_,?_,?_,?_,?_,?_,?_,?_,?_,?_,?_,?_⟩ <;> first | exact(uC _ (by omega)).trans (by assumption) | exact World.cell?_setCell_same _ _ _ (by assumption)
theorem dK.set4{x:Hp}(h:dK w B x vr vc vg)(u:Value):dK (w.setCell (aA B 4) u) B x vr u vg:=by
 obtain⟨n,m,g,d,i,l,j,f,k,e,b,c,a⟩:=h;refine⟨?_,?_,?_,?_,?_,?_,?_,?_,?_,?_,?_,?_,?_⟩ <;> first | exact(uC _ (by omega)).trans (by assumption) | exact World.cell?_setCell_same _ _ _ (by assumption)
theorem dK.set8{x:Hp}(h:dK w B x vr vc vg)(u:Value):dK (w.setCell (aA B 8) u) B x vr vc u:=by
 obtain⟨n,m,g,d,i,l,j,f,k,e,b,c,a⟩:=h;refine⟨?_,?_,?_,?_,?_,?_,?_,?_,?_,?_,?_,?_,?_⟩ <;> first | exact(uC _ (by omega)).trans (by assumption) | exact World.cell?_setCell_same _ _ _ (by assumption)
theorem dK.set1{x:Hp}(h:dK w B x vr vc vg)(u:Int):dK (w.setCell (aA B 1) (iv u)) B { x with K:=u } vr vc vg:=by
 obtain⟨n,m,g,d,i,l,j,f,k,e,b,c,a⟩:=h;refine⟨?_,?_,?_,?_,?_,?_,?_,?_,?_,?_,?_,?_,?_⟩ <;> first | exact(uC _ (by omega)).trans (by assumption) | exact World.cell?_setCell_same _ _ _ (by assumption)
theorem dK.set2{x:Hp}(h:dK w B x vr vc vg)(u:Int):dK (w.setCell (aA B 2) (iv u)) B { x with born:=u } vr vc vg:=by
 obtain⟨n,m,g,d,i,l,j,f,k,e,b,c,a⟩:=h;refine⟨?_,?_,?_,?_,?_,?_,?_,?_,?_,?_,?_,?_,?_⟩ <;> first | exact(uC _ (by omega)).trans (by assumption) | exact World.cell?_setCell_same _ _ _ (by assumption)
theorem dK.set5{x:Hp}(h:dK w B x vr vc vg)(u:Int):dK (w.setCell (aA B 5) (iv u)) B { x with E:=u } vr vc vg:=by
 obtain⟨n,m,g,d,i,l,j,f,k,e,b,c,a⟩:=h;refine⟨?_,?_,?_,?_,?_,?_,?_,?_,?_,?_,?_,?_,?_⟩ <;> first | exact(uC _ (by omega)).trans (by assumption) | exact World.cell?_setCell_same _ _ _ (by assumption)
theorem dK.set6{x:Hp}(h:dK w B x vr vc vg)(u:Int):dK (w.setCell (aA B 6) (iv u)) B { x with I:=u } vr vc vg:=by
 obtain⟨n,m,g,d,i,l,j,f,k,e,b,c,a⟩:=h;refine⟨?_,?_,?_,?_,?_,?_,?_,?_,?_,?_,?_,?_,?_⟩ <;> first | exact(uC _ (by omega)).trans (by assumption) | exact World.cell?_setCell_same _ _ _ (by assumption)
theorem dK.set7{x:Hp}(h:dK w B x vr vc vg)(u:Int):dK (w.setCell (aA B 7) (iv u)) B { x with sub:=u } vr vc vg:=by
 obtain⟨n,m,g,d,i,l,j,f,k,e,b,c,a⟩:=h;refine⟨?_,?_,?_,?_,?_,?_,?_,?_,?_,?_,?_,?_,?_⟩ <;> first | exact(uC _ (by omega)).trans (by assumption) | exact World.cell?_setCell_same _ _ _ (by assumption)
theorem dK.set11{x:Hp}(h:dK w B x vr vc vg)(u:Int):dK (w.setCell (aA B 11) (iv u)) B { x with Q:=u } vr vc vg:=by
 obtain⟨n,m,g,d,i,l,j,f,k,e,b,c,a⟩:=h;refine⟨?_,?_,?_,?_,?_,?_,?_,?_,?_,?_,?_,?_,?_⟩ <;> first | exact(uC _ (by omega)).trans (by assumption) | exact World.cell?_setCell_same _ _ _ (by assumption)
theorem dK.set12{x:Hp}(h:dK w B x vr vc vg)(u:Int):dK (w.setCell (aA B 12) (iv u)) B { x with S:=u } vr vc vg:=by
 obtain⟨n,m,g,d,i,l,j,f,k,e,b,c,a⟩:=h;refine⟨?_,?_,?_,?_,?_,?_,?_,?_,?_,?_,?_,?_,?_⟩ <;> first | exact(uC _ (by omega)).trans (by assumption) | exact World.cell?_setCell_same _ _ _ (by assumption)
def Grw(w:World)(B:Nat)(v:Value)(G:List Int):Prop:=
 (v=.slice none 0 0/\G=[])\/∃gb go cap cur,v=.slice (some ⟨gb,go,none⟩) G.length cap/\B<=gb/\w.heap[gb]?=some (.cells cur 3 (0,0))/\G.length<=cap/\go+cap<=cur.size/\(cur.toList.drop go).take G.length=G.map iv
theorem Grw.lt{v:Value}(h:Grw w B v G):∀k,v.ownBlock=some k->B<=k/\k<w.heap.size:=by
 intro k a;rcases h with⟨rfl,_⟩ | ⟨gb,go,cap,cur,rfl,hb,hg,_⟩
 ·simp [Value.ownBlock] at a
 ·simp [Value.ownBlock] at a;subst a;exact⟨hb,(Array.getElem?_eq_some_iff.1 hg).1⟩
theorem Grw.block{v:Value}(h:Grw w B v G)(i:∀k,v.ownBlock=some k->w'.heap[k]?=w.heap[k]?):Grw w' B v G:=by
 rcases h with h | ⟨c,f,a,b,rfl,g,d,e⟩
 ·exact .inl h
 ·exact .inr ⟨c,f,a,b,rfl,g,by rw[i c rfl];exact d,e⟩
theorem Grw.form{v:Value}(h:Grw w B v G):∃a k,v=.slice a G.length k:=by grind [Grw,dW.form]
theorem Grw.at{a:Option Addr}(h:Grw w B (.slice a G.length k) G)(i:Nat)(b:i<G.length):∃gb go,a=some (aA gb go)/\w.cell? (aA gb (go+i))=some (iv G[i])/\B<=gb:=by
 rcases h with⟨_,rfl⟩ | ⟨gb,go,cap,cur,e,hb,hg,hn,hs,ht⟩
 ·simp at b
 ·simp only [Value.slice.injEq] at e;refine⟨gb,go,e.1,?_,hb⟩;rw[cell_of_row w gb (go+i) cur _ _ hg,<-Array.getElem?_toList];have c:((cur.toList.drop go).take G.length)[i]?=(G.map iv)[i]?:=by rw[ht]
  rw[List.getElem?_take_of_lt b,List.getElem?_drop] at c;rw[c];simp [b]
theorem Grw.tail{gb go:Nat}{g:Int}(h:Grw w B (sO gb go (G.length+1) cap) (g::G)):Grw w B (sO gb (go+1) G.length (cap-1)) G:=by
 rcases h with⟨_,e⟩ | ⟨gb',go',cap',cur,e,hb,hg,hn,hs,ht⟩
 ·cases e
 ·simp only [Value.slice.injEq,Option.some.injEq,Addr.mk.injEq] at e;obtain⟨⟨rfl,rfl,_⟩,_,rfl⟩:=e;refine .inr ⟨gb,go+1,cap-1,cur,rfl,hb,hg,by simp at hn;omega,by simp at hn;omega,?_⟩
  have a:((cur.toList.drop go).take (G.length+1)).drop 1=G.map iv:=by
   have:(g::G).length=G.length+1:=rfl;rw[this] at ht;rw[ht];rfl
  rw[List.drop_take,List.drop_drop] at a
  simpa using a
theorem c9z{α:Type}(L:List α)(o n:Nat)(v:α)(xs:List α)(h:(L.drop o).take n=xs)(a:xs.length=n)(b:o+n<L.length):((L.take (o+n)++[v]++L.drop (o+n+1)).drop o).take (n+1)=xs++[v]:=by grind
theorem d0a{P:Program}(w:World)(t D:TypeId)(i:TypeInfo)(z:Value)(B:Nat)(v:Value)(G:List Int)(C:P.underlying t=some (.slice 3))(A:P.info? 3=some i)(J:i.zero=some z)(f:i.size=1)(p:i.bytes=8)(E:z.cells.size=1)(h:Grw w B v G)(ad:Addr)(c:Nat)(x:Int)(L:w.cell? ad=some (iv x))(N:G.length<=1048576)(K:B<=w.heap.size):
  ∃gb go cap w',(Builtin.append_ #[t,t] D #[v,.slice (some ad) 1 c]).run P w=.ok (sO gb go (G.length+1) cap) w'/\Grw w' B (sO gb go (G.length+1) cap) (G++[x])/\w.grownBy w' v.ownBlock/\(v.ownBlock=some gb\/gb=w.heap.size)/\gb<w'.heap.size:=by
 have b:∀j u,[iv x][j]?=some u->w.cell? (ad.add j)=some u:=λj u n=>by
  match j,n with
  | 0,n=>
   simp at n;subst n;have:ad.add 0=ad:=by unfold Addr.add;simp
   rw[this];exact L
 have l:∀(a:Nat),a<G.length+1->Grw (w.drew.alloc (.cells ((G.map iv).toArray ++ #[iv x]++Builtin.zeroCells z.cells (grownCap w (G.length+1) a 3-(G.length+1))) 3)) B (sS w.heap.size (G.length+1) (grownCap w (G.length+1) a 3)) (G++[x])/\∀o,w.grownBy (w.drew.alloc (.cells ((G.map iv).toArray ++ #[iv x]++Builtin.zeroCells z.cells (grownCap w (G.length+1) a 3-(G.length+1))) 3)) o:=by
  intro a M;have r:=grownCap_ge w (G.length+1) a 3;refine⟨.inr ⟨w.heap.size,0,grownCap w (G.length+1) a 3,_,by simp,K,heap_alloc_new w.drew _,by simpa using r,?_,?_⟩,λo=>⟨rfl,rfl,rfl,by simp,λk q _=>Below.heap_alloc w.drew _ k q⟩⟩
  ·simp [size_zeroCells,E];omega
  ·simp;have e:G.length+1=(G.map iv++[iv x]).length:=by simp
   rw[List.append_cons,e,List.take_left]
 rcases h with⟨rfl,rfl⟩ | ⟨gb,go,cap,cur,rfl,hb,hg,hnc,hcs,htake⟩
 ·have y:=run_append_nil (P:=P) w t D 3 i z C A J ad 1 c [iv x] (by simp [f]) b (by omega) (by omega) (by rw[p];omega);have d:=l 0 (by omega);simp only [List.length_nil,Nat.zero_add,List.map_nil] at d;refine⟨_,_,_,_,y,?_,d.2 _,.inr rfl,by simp⟩
  simpa using d.1
 ·by_cases g:G.length+1<=cap
  ·have H:=run_firstCells_some (P:=P) w i.size 1 ad 1 c [iv x] (by simp [f]) b;rw[f] at H;have m:=run_storeCells_at P gb (go+G.length) 3 [iv x] 0 cur w hg (by simp;omega) (by intro v F;simp at F;subst F;rfl);simp only [Nat.add_zero,List.length_cons,List.length_nil,Nat.zero_add] at m;refine⟨gb,go,cap,w.setRow gb (cur.toList.take (go+G.length)++[iv x]++cur.toList.drop (go+G.length+1)).toArray,?_,.inr ⟨gb,go,cap,_,by simp,hb,setRow_heap w gb cur _ 3 _ hg,by simpa using g,?_,?_⟩,⟨rfl,rfl,rfl,by simp,λk _ q=>setRow_other w gb k _ (λe=>q (by simp [Value.ownBlock,e]))⟩,.inl rfl,?_⟩
   ·simp only [List.append_assoc,List.singleton_append] at m ⊢;simp [Builtin.append_,run_underlying C,sizeOf,typeInfo,A,Builtin.lenOf,g,H,Addr.add_lit,m,f]
   ·simp;omega
   ·have:=c9z cur.toList go G.length (iv x) (G.map iv) htake (by simp) (by simp;omega)
    simpa using this
   ·have:=(Array.getElem?_eq_some_iff.1 hg).1
    simpa using this
  ·have y:=run_append_grow (P:=P) w t D 3 i z C A J (aA gb go) G.length cap (G.map iv) (by simp [f]) (λj u n=>by
     have s:j<G.length:=by have:=(List.getElem?_eq_some_iff.1 n).1;simpa using this
     have:((aA gb go):Addr).add j=(aA gb (go+j)):=by unfold Addr.add;split <;> simp_all
     rw[this,cell_of_row w gb (go+j) cur _ _ hg,<-Array.getElem?_toList];have I:((cur.toList.drop go).take G.length)[j]?=(G.map iv)[j]?:=by rw[htake]
     rw[List.getElem?_take_of_lt s,List.getElem?_drop] at I;rw[I];exact n) ad 1 c [iv x] (by simp [f]) b (by omega) (by omega) (growslice_fits (by omega) (by rw[p];omega))
   have d:=l cap (by omega);exact⟨_,_,_,_,y,d.1,d.2 _,.inr rfl,by simp⟩
theorem c6t{P:Program}(w:World){ops:Array Oper}{o:Oper}{a:Act}{K:Act->World->Prop}{Q:Exit->Act->World->Prop}{E:Prop}(d:o.guard=none)(s x:Operand)(t:TypeId)
  (u:o.op=.call { callee:=.builtin .append,args:=#[s,x],argTypes:=#[t,t] }) (i:TypeInfo) (z:Value) (B:Nat) (v:Value) (G:List Int) (D:P.underlying t=some (.slice 3)) (A:P.info? 3=some i) (C:i.zero=some z) (b:i.size=1) (e:i.bytes=8) (f:z.cells.size=1) (H:a.eval s=v) (h:Grw w B v G) (ad:Addr) (c:Nat) (y:Int) (r:a.eval x=.slice (some ad) 1 c) (p:w.cell? ad=some (iv y)) (I:G.length<=1048576) (q:B<=w.heap.size)
  (F:∀gb go cap w',Grw w' B (sO gb go (G.length+1) cap) (G++[y])->w.grownBy w' v.ownBlock->(v.ownBlock=some gb\/gb=w.heap.size)->gb<w'.heap.size->K (a.put o.dst (sO gb go (G.length+1) cap)) w') :
  if Region.wanted o (yielded ops a.tmps)=true then Oper.wp P o a w K Q else E:=by
 have l:Region.wanted o (yielded ops a.tmps)=true:=by simp [Region.wanted,d]
 rw[if_pos l];obtain⟨gb,go,cap,w',n,j,g,k,m⟩:=d0a (P:=P) w t o.type i z B v G D A C b e f h ad c y p I q;unfold Oper.wp execOp;simp only [u,resolve,invoke,builtin,Sem.run_bind,Sem.run_pure,Result.andThen_ok,List.map_toArray,List.map_cons,List.map_nil,H,r,n];exact F gb go cap w' j g k m
theorem c3o(xs:List Wd)(v:Value)(w:World)(h:SlW w v xs)(N:xs.length<=1048576):
  Calls prog 210 #[v] w λe w'=>∃v',e=.returned v'/\w'.ownsRow w.heap.size 152 3 v' xs.length (xs.flatMap fW)/\Ext w w':=by
 obtain⟨K,s,x,r,t⟩:=info_parts b1m;obtain⟨ad,g,rfl,_,z⟩:=h;have m:=uU z;clear z;cases ad with
 | none=>
  have y:xs.length=0:=by
   rcases Nat.eq_zero_or_pos xs.length with h | h
   ·exact h
   ·obtain⟨b,o,e,_⟩:=m 0 h;cases e
  have p:xs=[]:=List.eq_nil_of_length_eq_zero y;subst p;clear m y;have B:∀W,(binOp .eql 30 (.slice none 0 g) (.slice none 0 0)).run prog W=.ok (.bool true) W:=λ_=>by kernel_rfl
  simp only [List.length_nil];go_enter func210,ntmps210;go_wp2_with fail;go_ret;exact⟨_,rfl,World.ownsRow_nil _ _ _ _,Ext.refl _⟩
 | some ad=>
  have A:=uU (show ∀W,Ext w W->∀j u,(xs.flatMap fW)[j]?=some u->W.cell? (ad.add j)=some u from λW e j u f=>by
   rcases Nat.eq_zero_or_pos xs.length with h | h
   ·rw[List.eq_nil_of_length_eq_zero h] at f;simp at f
   ·obtain⟨b,o,F,_⟩:=m 0 h;cases F;refine a8f fW 3 (by omega) (λ_=>rfl) xs b o (λi C j I=>?_) j u f;obtain⟨M,L,G,q⟩:=uH m i C;cases G;have q:=q.ext e;obtain⟨D,J,E⟩:=q
    match j,I with
    | 0,_=>exact D
    | 1,_=>exact J
    | 2,_=>exact E
   )
  have H:=uU (show ∀u,u∈xs.flatMap fW->u.oneCell'=true from c0d fW (λa u f=>by simp [fW] at f;rcases f with e | e | e <;> subst e <;> rfl) xs);have B:∀W n k,(binOp .eql 30 (.slice (some ad) n k) (.slice none 0 0)).run prog W=.ok (.bool false) W:=λ_ _ _=>by kernel_rfl
  go_enter func210,ntmps210;go_wp2_with (at_builtin;refine wpList_append_own_at _ rfl _ _ 30 rfl w.heap.size 152 K (.agg #[iv 0,iv 0,iv 0]) 3 24 underlying30 s x r t rfl (by decide) _ 0 [] rfl (World.ownsRow_made w #[] 0 (Nat.le_refl _) (by unfold maxLen;omega) rfl) ad xs.length g (xs.flatMap fW) rfl (a5b fW 3 (λ_=>rfl) xs) (A _ ((Ext.refl w).alloc _)) H (by unfold maxLen;omega) (by omega) (by simp) ?_);intro v' w' d c _ _;have l:=uU (And.intro d (a2g ((Ext.refl w).alloc _) (World.ownsRow_made (e:=152) (size:=3) w #[] 0 (Nat.le_refl _) (by unfold maxLen;omega) rfl) (Nat.le_refl _) c));clear d c;go_wp2_with fail;go_ret;exact⟨_,rfl,l.1,l.2⟩
theorem c3p(xs:List Pr)(v:Value)(w:World)(h:SlP w v xs)(Q:xs.length<=1048576):
  Calls prog 212 #[v] w λe w'=>∃v',e=.returned v'/\w'.ownsRow w.heap.size 154 6 v' xs.length (xs.flatMap fP)/\Ext w w':=by
 obtain⟨N,s,x,r,t⟩:=info_parts a3v;obtain⟨ad,g,rfl,_,z⟩:=h;have m:=uU z;clear z;cases ad with
 | none=>
  have y:xs.length=0:=by
   rcases Nat.eq_zero_or_pos xs.length with h | h
   ·exact h
   ·obtain⟨b,o,e,_⟩:=m 0 h;cases e
  have p:xs=[]:=List.eq_nil_of_length_eq_zero y;subst p;clear m y;have C:∀W,(binOp .eql 60 (.slice none 0 g) (.slice none 0 0)).run prog W=.ok (.bool true) W:=λ_=>by kernel_rfl
  simp only [List.length_nil];go_enter func212,ntmps212;go_wp2_with fail;go_ret;exact⟨_,rfl,World.ownsRow_nil _ _ _ _,Ext.refl _⟩
 | some ad=>
  have A:=uU (show ∀W,Ext w W->∀j u,(xs.flatMap fP)[j]?=some u->W.cell? (ad.add j)=some u from λW e j u f=>by
   rcases Nat.eq_zero_or_pos xs.length with h | h
   ·rw[List.eq_nil_of_length_eq_zero h] at f;simp at f
   ·obtain⟨b,o,H,_⟩:=m 0 h;cases H;refine a8f fP 6 (by omega) (λ_=>rfl) xs b o (λi D j L=>?_) j u f;obtain⟨P,O,J,q⟩:=uH m i D;cases J;have q:=q.ext e;obtain⟨E,M,F,B,I,G⟩:=q
    match j,L with
    | 0,_=>exact E
    | 1,_=>exact M
    | 2,_=>exact F
    | 3,_=>exact B
    | 4,_=>exact I
    | 5,_=>exact G
   )
  have K:=uU (show ∀u,u∈xs.flatMap fP->u.oneCell'=true from c0d fP (λa u f=>by simp [fP] at f;rcases f with e | e | e | e | e | e <;> subst e <;> rfl) xs);have C:∀W n k,(binOp .eql 60 (.slice (some ad) n k) (.slice none 0 0)).run prog W=.ok (.bool false) W:=λ_ _ _=>by kernel_rfl
  go_enter func212,ntmps212;go_wp2_with (at_builtin;refine wpList_append_own_at _ rfl _ _ 60 rfl w.heap.size 154 N (.agg #[iv 0,iv 0,iv 0,iv 0,iv 0,iv 0]) 6 48 underlying60 s x r t rfl (by decide) _ 0 [] rfl (World.ownsRow_made w #[] 0 (Nat.le_refl _) (by unfold maxLen;omega) rfl) ad xs.length g (xs.flatMap fP) rfl (a5b fP 6 (λ_=>rfl) xs) (A _ ((Ext.refl w).alloc _)) K (by unfold maxLen;omega) (by omega) (by simp) ?_);intro v' w' d c _ _;have l:=uU (And.intro d (a2g ((Ext.refl w).alloc _) (World.ownsRow_made (e:=154) (size:=6) w #[] 0 (Nat.le_refl _) (by unfold maxLen;omega) rfl) (Nat.le_refl _) c));clear d c;go_wp2_with fail;go_ret;exact⟨_,rfl,l.1,l.2⟩
def CvAt(w:World)(b o:Nat)(z:Cl×Value):Prop:=∀j,j<8->w.cell? ⟨b,o+j,none⟩=(fC z)[j]?
theorem c9y{w:World}{v:Value}{xs:List Cl}(h:SlC w v xs):∃L:List (Cl×Value),L.map (·.1)=xs/\tJ (CvAt w) 8 v L/\∀z,z∈L->SlP w z.2 z.1.F:=by
 obtain⟨ad,g,rfl,t,E⟩:=h
 have m:∀i,∃f,∀(d:i<xs.length),∃b o,ad=some (aA b o)/\CvAt w b (o+i*8) (xs[i],f)/\SlP w f xs[i].F:=λi=>by
  by_cases d:i<xs.length
  ·obtain⟨b,o,e,f,C,n,q,x,A,p,u,B,r⟩:=E i d;refine⟨f,λ_=>⟨b,o,e,λj D=>?_,r⟩⟩
   match j,D with
   | 0,_=>exact C
   | 1,_=>exact n
   | 2,_=>exact q
   | 3,_=>exact x
   | 4,_=>exact A
   | 5,_=>exact p
   | 6,_=>exact u
   | 7,_=>exact B
  ·exact⟨.slice none 0 0,λh=>absurd h d⟩
 have l:=λi=>Classical.choose_spec (m i)
 refine⟨(List.range xs.length).map (λi=>(xs.getD i Cl0,Classical.choose (m i))),?_,⟨ad,g,by simp,by simpa using t,λi d=>?_⟩,λz s=>?_⟩
 ·refine List.ext_getElem (by simp) (λi F y=>?_);simp [y]
 ·have a:i<xs.length:=by simpa using d
  obtain⟨b,o,e,c,_⟩:=l i a;refine⟨b,o,e,?_⟩;simp only [List.getElem_map,List.getElem_range];have k:xs.getD i Cl0=xs[i]:=by simp [a]
  rw[k];exact c
 ·obtain⟨i,d,rfl⟩:=List.mem_map.1 s;have a:i<xs.length:=by simpa using d
  obtain⟨b,o,e,_,c⟩:=l i a;have k:xs.getD i Cl0=xs[i]:=by simp [a]
  simp only [k];exact c
theorem slP_one{v:Value}{xs:List Pr}(h:SlP w v xs):v.oneCell'=true:=by obtain⟨ad,a,rfl,_⟩:=h;rfl
theorem c3r(L:List (Cl×Value))(v:Value)(w:World)(h:tJ (CvAt w) 8 v L)(F:∀z,z∈L->z.2.oneCell'=true)(Q:L.length<=1048576):
  Calls prog 211 #[v] w λe w'=>∃v',e=.returned v'/\w'.ownsRow w.heap.size 62 8 v' L.length (L.flatMap fC)/\Ext w w':=by
 obtain⟨N,t,A,s,x⟩:=info_parts b1n;obtain⟨ad,g,rfl,_,E⟩:=h;have m:=uU E
 have C:=uU (show ∀u,u∈L.flatMap fC->u.oneCell'=true from λu d=>by
  obtain⟨a,J,d⟩:=List.mem_flatMap.1 d;simp [fC] at d;rcases d with e | e | e | e | e | e | e | e <;> subst e <;> first | rfl | exact F a J)
 clear E F;cases ad with
 | none=>
  have B:L.length=0:=by
   rcases Nat.eq_zero_or_pos L.length with h | h
   ·exact h
   ·obtain⟨b,o,e,_⟩:=m 0 h;cases e
  have p:L=[]:=List.eq_nil_of_length_eq_zero B;subst p;clear m B C;have H:∀W,(binOp .eql 31 (.slice none 0 g) (.slice none 0 0)).run prog W=.ok (.bool true) W:=λ_=>by kernel_rfl
  simp only [List.length_nil];go_enter func211,ntmps211;go_wp2_with fail;go_ret;exact⟨_,rfl,World.ownsRow_nil _ _ _ _,Ext.refl _⟩
 | some ad=>
  have G:=uU (show ∀W,Ext w W->∀j u,(L.flatMap fC)[j]?=some u->W.cell? (ad.add j)=some u from λW e j u d=>by
   rcases Nat.eq_zero_or_pos L.length with h | h
   ·rw[List.eq_nil_of_length_eq_zero h] at d;simp at d
   ·obtain⟨b,o,K,_⟩:=m 0 h;cases K;refine a8f fC 8 (by omega) (λ_=>rfl) L b o (λi I j D=>?_) j u d;obtain⟨P,O,M,q⟩:=uH m i I;cases M;have:=q j D;rw[<-this];cases r:w.cell? (aA b (o+i*8+j)) with
    | none=>rw[this] at r;match j,D with | 0,_ | 1,_ | 2,_ | 3,_ | 4,_ | 5,_ | 6,_ | 7,_=>simp [fC] at r
    | some y=>exact e.keep r)
  have H:∀W n k,(binOp .eql 31 (.slice (some ad) n k) (.slice none 0 0)).run prog W=.ok (.bool false) W:=λ_ _ _=>by kernel_rfl
  go_enter func211,ntmps211;go_wp2_with (at_builtin;refine wpList_append_own_at _ rfl _ _ 31 rfl w.heap.size 62 N (.agg #[iv 0,iv 0,iv 0,iv 0,iv 0,iv 0,iv 0,.slice none 0 0]) 8 80 underlying31 t A s x rfl (by decide) _ 0 [] rfl (World.ownsRow_made w #[] 0 (Nat.le_refl _) (by unfold maxLen;omega) rfl) ad L.length g (L.flatMap fC) rfl (a5b fC 8 (λ_=>rfl) L) (G _ ((Ext.refl w).alloc _)) C (by unfold maxLen;omega) (by omega) (by simp) ?_);intro v' w' f c _ _;have l:=uU (And.intro f (a2g ((Ext.refl w).alloc _) (World.ownsRow_made (e:=62) (size:=8) w #[] 0 (Nat.le_refl _) (by unfold maxLen;omega) rfl) (Nat.le_refl _) c));clear f c;go_wp2_with fail;go_ret;exact⟨_,rfl,l.1,l.2⟩
def c0i:Value->Option Addr
 | .slice a _ _=>a
 | _=>none
def a5v:Value->Nat
 | .slice _ _ k=>k
 | _=>0
def qJ(v:Value):Nat:=v.ownBlock.getD 0
theorem a1d{c:Nat}{v:Value}(h:w.ownsRow B t c v n xs):v=.slice (c0i v) n (a5v v)/\(0<n->c0i v=some (aA (qJ v) 0)/\v.ownBlock=some (qJ v)):=by
 rcases h.2 with⟨rfl,rfl⟩ | ⟨g,cap,cur,rfl,_⟩
 ·exact⟨rfl,λh=>by omega⟩
 ·exact⟨rfl,λ_=>⟨rfl,rfl⟩⟩
theorem b8k{c:Nat}{v:Value}(h:w.ownsRow B t c v n xs)(f:0<n):Nf1 (qJ v) w/\B<=qJ v:=by
 obtain⟨e,d⟩:=a1d h;obtain⟨b,a⟩:=d f;refine⟨⟨(h.lt _ a).2,λj=>?_⟩,(h.lt _ a).1⟩;rw[e,b] at h;exact World.ownsRow.frozenAt h j
theorem b1o{c:Nat}{v:Value}{α:Type}{f:α->List Value}(p:∀a,(f a).length=c){L:List α}(h:w.ownsRow B t c v L.length (L.flatMap f))(i:Nat)(n:i<L.length)(j:Nat)(o:j<c):w.cell? (aA (qJ v) (i*c+j))=(f L[i])[j]?:=by
 obtain⟨e,d⟩:=a1d h;obtain⟨r,s⟩:=d (by omega);obtain⟨ad,b,l,_,m⟩:=a3u p h;obtain⟨g,k,_,_,q⟩:=m i n;have:qJ v=g:=by rw[l,k];rfl
 rw[this];have:=q j o
 rwa [Nat.zero_add] at this
theorem b8m{t:Nat}{v:Value}(h:w.ownsRow B t sz v n xs):n<=a5v v:=by
 rcases h.2 with⟨rfl,h1⟩ | ⟨g,cap,cur,rfl,_,_,hn,_⟩
 ·omega
 ·exact hn
theorem own_kw{t c:Nat}{v:Value}(h:w.ownsRow B t c v n xs)(d:0<a5v v):c0i v=some (aA (qJ v) 0)/\v.ownBlock=some (qJ v)/\Nf1 (qJ v) w/\(∀j,j<a5v v*c->∃u,w.cell? (aA (qJ v) j)=some u)/\B<=qJ v:=by
 rcases h.2 with⟨rfl,h1⟩ | ⟨g,cap,cur,rfl,hb,hg,hn,_,hs,_⟩
 ·simp [a5v] at d
 ·refine⟨rfl,rfl,⟨(Array.getElem?_eq_some_iff.1 hg).1,λj=>World.ownsRow.frozenAt h j⟩,λj b=>?_,hb⟩;have a:j<cur.size:=by rw[hs];exact b
  exact⟨cur[j],by rw[show qJ (sS g n cap)=g from rfl,cell_of_row w g j cur _ _ hg];exact Array.getElem?_eq_getElem a⟩
theorem b8n{v:Value}(h:w.ownsRow B 154 6 v n xs)(c:0<a5v v):c0i v=some (aA (qJ v) 0)/\v.ownBlock=some (qJ v)/\Nfp (qJ v) (a5v v) w/\B<=qJ v:=by
 rcases h.2 with⟨rfl,h1⟩ | ⟨g,cap,cur,rfl,hb,hg,hn,_,hs,_⟩
 ·simp [a5v] at c
 ·refine⟨rfl,rfl,⟨(Array.getElem?_eq_some_iff.1 hg).1,λj=>?_,λj b=>?_⟩,hb⟩
  ·exact World.ownsRow.frozenAt h j
  ·have a:j<cur.size:=by rw[hs];exact b
   exact⟨cur[j],by rw[show qJ (sS g n cap)=g from rfl,cell_of_row w g j cur _ _ hg];exact Array.getElem?_eq_getElem a⟩
theorem Rws.of{x:Hp}{pv:Nat->Value}(l:w.ownsRow B 152 3 vr x.B.length (x.B.flatMap fW))(F:∀q,q<x.A.length->S7 w bc (q*8) (x.c q))(C:∀q,q<x.A.length->w.cell? (aA bc (q*8+7))=some (pv q))(E:0<x.A.length->Nf1 bc w/\B<=bc)(D:0<x.A.length->qJ vr≠bc)
  (g:∀q,q<x.A.length->w.ownsRow B 154 6 (pv q) (x.c q).F.length ((x.c q).F.flatMap fP)/\∀b,(pv q).ownBlock=some b->b≠qJ vr/\b≠bc) (v:∀q q',q<x.A.length->q'<x.A.length->q≠q'->∀b,(pv q).ownBlock=some b->(pv q').ownBlock≠some b) :
  Rws B w x (qJ vr) bc (λq=>qJ (pv q)) (λq=>c0i (pv q)) (λq=>a5v (pv q)) where
 r:=λi m=>⟨b1o (f:=fW) (λ_=>rfl) l i m 0 (by omega),b1o (f:=fW) (λ_=>rfl) l i m 1 (by omega),b1o (f:=fW) (λ_=>rfl) l i m 2 (by omega)⟩
 s:=F
 p7:=λq a=>by rw[C q a,<-(a1d (g q a).1).1]
 p:=λq a k y=>by
  have:=b1o (f:=fP) (λ_=>rfl) (g q a).1 k y;rw[Cl.p_eq _ _ y] at this;exact⟨this 0 (by omega),this 1 (by omega),this 2 (by omega),this 3 (by omega),this 4 (by omega),this 5 (by omega)⟩
 pl:=λq a j=>by
  obtain⟨t,o,z,A⟩:=b8n (g q a).1 j;exact⟨t,z,(g q a).2 _ o,A⟩
 nr:=λj=>b8k l j
 nc:=E
 d:=D
 dp:=λq q' a h u j n e=>by
  have t:=(b8n (g q a).1 j).2.1;have o:=(b8n (g q' h).1 n).2.1;exact v q q' a h u _ t (by rw[o,e])
 kp:=λq a=>b8m (g q a).1
theorem Hp.c_set(x:Hp)(i:Nat)(c:Cl)(a:i<x.A.length)(q:Nat):({ x with A:=x.A.set i c }:Hp).c q=if q=i then c else x.c q:=by grind [Hp.c,uX.A,qC.set]
def mkB(x:Hp):Bool:=x.E == 1 || x.E == 2
def whB(c:Cl):Bool:=c.st == 1 && c.J == 0
def eQ(x:Hp)(i:Nat):Bool:=mkB x && whB (x.c i)
def tQ(c:Cl):Cl:={ c with J:=1 }
def uD(x:Hp)(i:Nat):Hp:=if eQ x i=true then { x with A:=x.A.set i (tQ (x.c i)),D:=x.D++[(i:Int)] } else x
structure GSep(x:Hp)(role:Nat->Nat)(g br bc:Nat)(pb pk:Nat->Nat)(vg:Value):Prop where
 g:role g=0
 r:0<x.B.length->role br=2
 c:0<x.A.length->role bc=3
 y:∀q,vg.ownBlock=some q->role q=4
 p:∀q,q<x.A.length->0<pk q->role (pb q)=6+q
structure Ccp(B:Nat)(w:World)(ac:Option Addr)(bc kc:Nat)(role:Nat->Nat):Prop where
 ad:ac=some ⟨bc,0,none⟩
 ro:role bc=3
 nf:Nf1 bc w
 cp:∀j,j<kc*8->∃v,w.cell? ⟨bc,j,none⟩=some v
 lo:B<=bc
theorem Ccp.A(h:Ccp B w ac bc kc role)(b:role' bc=role bc)(n:Nf1 bc w')(c:∀j v,j<kc*8->w.cell? (aA bc j)=some v->∃u,w'.cell? (aA bc j)=some u):Ccp B w' ac bc kc role':=
 ⟨h.ad,b.trans h.ro,n,λj a=>let ⟨v,hv⟩:=h.cp j a;c j v a hv,h.lo⟩
theorem Ccp.block(h:Ccp B w ac bc kc role)(d:role' bc=role bc)(b:w'.heap[bc]?=w.heap[bc]?)(e:w.heap.size<=w'.heap.size):Ccp B w' ac bc kc role':=
 h.A d (uJ h.nf b e) (λj v _ c=>⟨v,(World.cell?_of_block (a:=(aA bc j)) b).trans c⟩)
theorem S7.some{c:Cl}(h:S7 w b o c)(j:Nat)(a:j<7):∃v,w.cell? (aA b (o+j))=some v:=by grind [S7,Hp.c,dW.cell,HAt.cell]
structure GAt[Inhabited uQ](B:Nat)(w:World)(g:Nat)(x:Hp)(ar:Option Addr)(kr:Nat)(ac:Option Addr)(kc:Nat)(vg:Value)(br bc:Nat)(pb:Nat->Nat)(pa:Nat->Option Addr)(pk:Nat->Nat)(role:Nat->Nat):Prop where
 bx:dK w g x (.slice ar x.B.length kr) (.slice ac x.A.length kc) vg
 nf:Nf1 g w
 lo:B<=g
 ha:0<x.B.length->ar=some ⟨br,0,none⟩
 hc:0<x.A.length->ac=some ⟨bc,0,none⟩
 rw:Rws B w x br bc pb pa pk
 gr:Grw w B vg x.D
 sp:GSep x role g br bc pb pk vg
 kl:x.A.length<=kc
 pr:Prt w role
 cc:0<kc->Ccp B w ac bc kc role
theorem GAt.ext[Inhabited uQ]{x:Hp}(h:GAt B w g x ar kr ac kc vg br bc pb pa pk role)(e:Ext w w'):GAt B w' g x ar kr ac kc vg br bc pb pa pk role:=
 ⟨h.bx.ext e,h.nf.ext e,h.lo,h.ha,h.hc,h.rw.ext e,h.gr.block (λq a=>e.block q (h.gr.lt q a).2),h.sp,h.kl,h.pr.of (λq a _=>e.block q a) (λ_ _ h=>h),λb=>(h.cc b).block rfl (e.block bc (h.cc b).nf.1) e.size⟩
theorem a5u(cs:List Cl)(k:Nat)(h:k<cs.length):units (cs.take (k+1))=units (cs.take k)+hV cs[k]:=by
 unfold units;rw[List.take_succ_eq_append_getElem h];simp only [List.map_append,List.sum_append,List.map_cons,List.map_nil,List.sum_cons,List.sum_nil,Nat.add_zero]
theorem c0f(x:Hp)(b:Nat)(w:World)(h:HAt w b x ar kr ac kc ag kg)(M:x.A.length<=8000)(t:∀i,i<x.A.length->(x.c i).F.length<=200):
  Calls prog 128 #[pP b] w λe w'=>e=.returned (iv (units x.A))/\Ext w w':=by
 have K:=h.c4;go_enter func128,ntmps128;go_wp2_with fail;go_loopw [3,11] (λn i wr=>∃(k:Nat) (u:Nat),k<=x.A.length/\i=iv k/\n=iv u/\Hid (u=units (x.A.take k))/\u<=201*k/\Ext w wr) (λ_ i _=>x.A.length-(intOf i).toNat)
 case atStart=>exact⟨0,0,Nat.zero_le _,rfl,rfl,by show _=_;simp [units],by omega,Ext.refl _⟩
 case round=>
  obtain⟨k,u,v,rfl,rfl,l,s,a⟩:=hrel;by_cases g:k<x.A.length
  ·obtain⟨L,o,z,E,rfl,J,y,A,F,G,B,D,I,C,P⟩:=(h.ext a).cell k g;have q:=t k g;have r:(0:Int)<=(k:Int):=by omega
   have p:(k:Int)<(x.A.length:Int):=by omega
   have d:=a5u x.A k g;rw[Hp.c_eq] at d;cases m:((x.c k).st == 1)
   ·have f:¬(x.c k).st=1:=by simpa using m
    have H:Hid (u=units (x.A.take (k+1))):=by have:=uH l;show _=_;rw[d,hV,if_neg f];omega
    go_wp2;go_roundw
    case rel=>exact⟨k+1,u,by omega,by go_num,rfl,H,by omega,a.alloc _⟩
    case measure=>simp [intOf];omega
   ·have f:(x.c k).st=1:=by simpa using m
    have H:Hid (u+(1+(x.c k).F.length)=units (x.A.take (k+1))):=by have:=uH l;show _=_;rw[d,hV,if_pos f];omega
    go_wp2;go_roundw
    case rel=>exact⟨k+1,u+(1+(x.c k).F.length),by omega,by go_num,by go_num,H,by omega,a.alloc _⟩
    case measure=>simp [intOf];omega
  ·have j:k=x.A.length:=by omega
   have H:=uU (show u=units x.A by have:=uH l;rw[j,List.take_length] at this;exact this);go_wp2;go_ret;exact⟨by rw[<-uH H];rfl,a⟩
theorem b6v(x:Hp)(b:Nat)(w:World)(h:HAt w b x ar kr ac kc ag kg):
  Calls prog 133 #[pP b] w λe w'=>∃r:Bool,e=.returned (.bool r)/\(r=true↔R8 x)/\Ext w w':=by
 have Q:=h.c4;have T:=h.lc;go_enter func133,ntmps133;go_wp2_with fail;go_loopw [10] (λi wr=>∃(k:Nat),k<=x.A.length/\i=iv k/\(∀j,j<k->¬(x.E=6/\x.I<=j/\(x.c j).st=2))/\Ext w wr) (λi _=>x.A.length-(intOf i).toNat)
 case atStart=>exact⟨0,Nat.zero_le _,rfl,λj v=>by omega,Ext.refl _⟩
 case round=>
  obtain⟨k,z,rfl,l,a⟩:=hrel;have HA:=uU l;by_cases g:k<x.A.length
  ·have m:=h.ext a;obtain⟨R,o,C,I,rfl,O,B,D,J,K,E,H,M,G,P⟩:=m.cell k g;have s:=m.c5;have L:=m.c6;have A:b<wr.heap.size:=uL s;have u:(0:Int)<=(k:Int):=by omega
   have t:(k:Int)<(x.A.length:Int):=by omega
   have d:¬(x.E=6/\x.I<=k/\(x.c k).st=2)->Hid (∀j,j<k+1->¬(x.E=6/\x.I<=j/\(x.c j).st=2)):=λy j v=>by
    by_cases e:j=k
    ·subst e;exact y
    ·exact HA j (by omega)
   cases q:(x.E == 6)
   ·have S:=d (by simp at q;omega);go_wp2;go_roundw
    case rel=>exact⟨k+1,by omega,by go_num,S,a.alloc _⟩
    case measure=>simp [intOf];omega
   ·cases p:decide (x.I<=(k:Int))
    ·have S:=d (by simp at p;omega);go_wp2;go_roundw
     case rel=>exact⟨k+1,by omega,by go_num,S,a.alloc _⟩
     case measure=>simp [intOf];omega
    ·cases n:((x.c k).st == 2)
     ·have S:=d (by simp at n;omega);go_wp2;go_roundw
      case rel=>exact⟨k+1,by omega,by go_num,S,a.alloc _⟩
      case measure=>simp [intOf];omega
     ·have N:=uU (show ¬R8 x from λr=>r k g ⟨by simpa using q,by simpa using p,by simpa using n⟩);go_wp2;go_ret;exact⟨false,rfl,⟨λf=>by simp at f,λr=>(N r).elim⟩,a.alloc _⟩
  ·have Y:=uU (show R8 x from λi F=>uH HA i (by omega));go_wp2;go_ret;exact⟨true,rfl,⟨λ_=>uH Y,λ_=>rfl⟩,a⟩
def eZ(x:Hp)(y:Wd):Wd:=if y.k=2/\(x.c y.a.toNat).st=2 then ⟨2,0,(x.c y.a.toNat).to⟩ else y
end Go.Proofs.YtddkhnclmeikfaaGreat
