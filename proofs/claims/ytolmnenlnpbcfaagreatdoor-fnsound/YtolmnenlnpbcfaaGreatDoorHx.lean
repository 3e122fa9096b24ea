import Derived.Test.YtolmnenlnpbcfaaGreatDoorBase
import Derived.BigQuiet
import Derived.BigRegion
import Derived.Deep.AppendLies
import Derived.Deep.QuietTactic
import Derived.Laws.OwnMore
import Derived.Maps.AppendAt
import Derived.WalkSmall
set_option maxRecDepth 100000
set_option maxHeartbeats 1000000
namespace Go.Proofs.YtolmnenlnpbcfaaGreatDoor
open Go.RowKit Tryz
attribute [local go_sem ↓] Go.wp_at_zero Go.wp_at_succ
variable{w w' W w5:World}{x:Hp}{B base bq oq b n o a br bc g cap k kr kc kg s:Nat}{L M:List Int}{v vr vc vg v' u v2:Value}{pb pk:Nat->Nat}{pa:Nat->Option Addr}{xs:List Value}{S:Nat->Prop}{ar ac ag ad:Option Addr}{t T:TypeId}
theorem obE {α : Type} (a : α) : ∃ b, b = a := ⟨_, rfl⟩
theorem i0N (j : Nat) : (0 : Int) <= (j : Int) := by omega
theorem fNo {R : Prop} (d : ¬ R) : (false = true ↔ R) := ⟨λf => by simp at f, λr => (d r).elim⟩
theorem cLt    (h : w.cell? ⟨b, o, none⟩ = some v) : b < w.heap.size := uZ h
theorem swap_ne(w:World)(d b g a n cap i j:Nat)(f c:Int)(u:w.cell? (aA d b)=some (sO g a n cap))(p:w.cell? (aA g (a+i))=some (iv f))(s:w.cell? (aA g (a+j))=some (iv c))(r:w.frozen? (aA g (a+i))=false)(t:w.frozen? (aA g (a+j))=false)(q:i<n)(v:j<n)(o:i≠j):
  Calls prog 121 #[pQ d b,iv i,iv j] w λe w'=>e=.returned (.tuple #[])/\w'.heap=((w.setCell (aA g (a+i)) (iv c)).setCell (aA g (a+j)) (iv f)).heap/\w'.os=w.os/\w'.tape=w.tape/\w'.output=w.output:=by
 have l:=i0N i;have m:(i:Int)<(n:Int):=by omega
 have k:=i0N j;have h:(j:Int)<(n:Int):=by omega
 go_in;go_wp2;go_region;all_goals go_end0
 all_goals exact⟨rfl,rfl,rfl,rfl,rfl⟩
theorem swap_eq(w:World)(c d g a n cap i:Nat)(b:Int)(j:w.cell? (aA c d)=some (sO g a n cap))(k:w.cell? (aA g (a+i))=some (iv b))(m:w.frozen? (aA g (a+i))=false)(l:i<n):
  Calls prog 121 #[pQ c d,iv i,iv i] w λe w'=>e=.returned (.tuple #[])/\w'.heap=((w.setCell (aA g (a+i)) (iv b)).setCell (aA g (a+i)) (iv b)).heap/\w'.os=w.os/\w'.tape=w.tape/\w'.output=w.output:=by
 have f:=i0N i;have h:(i:Int)<(n:Int):=by omega
 go_in;go_wp2;go_region;all_goals go_end0
 all_goals exact⟨rfl,rfl,rfl,rfl,rfl⟩
theorem a5h(w:World)(a b:Nat)(ad:Option Addr)(cap:Nat)(c:w.cell? (aA a b)=some (.slice ad 0 cap)):
  Calls prog 175 #[pQ a b] w λe w'=>e=.returned (.tuple #[iv 0,.bool false])/\w'=w:=by
 go_in;go_wp2;go_ret2;exact⟨rfl,rfl⟩
theorem a2s(w:World)(b c g d n cap:Nat)(a:Int)(i:0<n)(h:w.cell? (aA b c)=some (sO g d n cap))(j:w.cell? (aA g d)=some (iv a)):
  Calls prog 175 #[pQ b c] w λe w'=>e=.returned (.tuple #[iv a,.bool true])/\w'=w:=by
 have f:((n:Int) == 0)=false:=beq_eq_false_iff_ne.2 (by omega);go_in;go_wp2;go_ret2;exact⟨rfl,rfl⟩
theorem a7y(w:World)(z:Array Value)(m:Nat)(t:TypeId)(j:Nat)(b:j<m):tJ (w.alloc (.cells (madeCells z m) t)) w.heap.size j:=by
 have e:(w.alloc (.cells (madeCells z m) t)).heap[w.heap.size]?=some (.cells (madeCells z m) t):=by show(w.heap.push _)[w.heap.size]?=_;simp
 have a:=size_madeCells z m;refine⟨⟨(madeCells z m)[j]'(by omega),?_⟩,?_⟩;unfold World.cell?;rw[e];simp[a,b];unfold World.frozen?;rw[e];simp
theorem a1f{S:Nat->Prop}{g:Nat}(hg:S g):∀{vs:List Value} {a w1:World} {o:Nat},uQ S a w1->uQ S a (w1.setCells g o vs)
 | [],_,_,_,h=>h
 | _::r,_,_,_,h=>a1f hg (vs:=r) (h.setCell hg _)
theorem yN.mono2{α:Type}{p q:Nat->Nat->α->Prop}{sz:Nat}{xs:List α}(h:yN p sz v xs)(a:∀b o n c,v=sO b o n c->∀o' x,p b o' x->q b o' x):yN q sz v xs:=by grind[yN]
def Nf1(B:Nat)(w:World):Prop:=B<w.heap.size/\∀j,w.frozen? ⟨B,j,none⟩=false
theorem Nf1.ext(h:Nf1 B w)(e:Ext w w'):Nf1 B w':=⟨kF h.1 e.size,λj=>(cX e).2 B j h.1▸h.2 j⟩
theorem Nf1.set(h:Nf1 B w)(p:Addr)(u:Value):Nf1 B (w.setCell p u):=⟨by have:=h.1;simpa[World.setCell]using this,λj=>by rw[kS];exact h.2 j⟩
theorem Nf1.put{B g:Nat}:∀{vs:List Value} {w:World} {o:Nat},Nf1 B w->Nf1 B (w.setCells g o vs)
 | [],_,_,h=>h
 | _::r,_,_,h=>Nf1.put (vs:=r) (h.set _ _)
theorem Nf1.made(w:World)(z:Array Value)(m:Nat)(t:TypeId):Nf1 w.heap.size (w.alloc (.cells (madeCells z m) t)):=by
 refine⟨by simp,λj=>?_⟩;have e:(w.alloc (.cells (madeCells z m) t)).heap[w.heap.size]?=some (.cells (madeCells z m) t):=by show(w.heap.push _)[w.heap.size]?=_;simp
 unfold World.frozen?;rw[e];simp
theorem d1k(h:uQ S w w'){xs:List Pr}(d:∀b o n c,v=sO b o n c->¬S b)(f:SlP w v xs):SlP w' v xs:=
 yN.mono2 f λb o n c e _ _ a=>⟨h.keep (d b o n c e) a.1,h.keep (d b o n c e) a.2.1,h.keep (d b o n c e) a.2.2.1,h.keep (d b o n c e) a.2.2.2.1,h.keep (d b o n c e) a.2.2.2.2.1,h.keep (d b o n c e) a.2.2.2.2.2⟩
theorem b1e:(prog.info? 86).map (λi=>(i.zero,i.size,i.bytes))=some (some (.agg #[iv 0,iv 0,iv 0]),3,24):=by kernel_rfl
theorem a2r:(prog.info? 90).map (λi=>(i.zero,i.size,i.bytes))=some (some (.agg #[iv 0,iv 0,iv 0,iv 0,iv 0,iv 0]),6,48):=by kernel_rfl
theorem a9t:(prog.info? 3).map (λi=>(i.zero,i.size,i.bytes))=some (some (iv 0),1,8):=by kernel_rfl
theorem mkInts(n:Nat)(f:n<=1048576)(w:World):∃z,(Instr.makeSlice 25 (iv n) (iv n)).run prog w=.ok (sS w.heap.size n n) (w.alloc (.cells (madeCells z (n*1)) 3)):=by
 have⟨e,d,a,c,b⟩:=info_parts a9t;have h:=run_make (P:=prog) w 25 3 e _ underlying25 d a .i64 .i64 n n (by omega) (mx _) (by rw[b];omega) (by omega);rw[c]at h;simp only[Int.toNat_natCast]at h;exact⟨_,h⟩
theorem a7z:(prog.info? 70).map (λi=>(i.zero,i.size,i.bytes))=some (some (.agg #[iv 0,iv 0,iv 0,iv 0,iv 0,iv 0,iv 0,.slice none 0 0]),8,80):=by kernel_rfl
theorem mkCells(n:Nat)(f:n<=1048576)(w:World):∃z,(Instr.makeSlice 24 (iv n) (iv n)).run prog w=.ok (sS w.heap.size n n) (w.alloc (.cells (madeCells z (n*8)) 70)):=by
 have⟨e,d,a,c,b⟩:=info_parts a7z;have h:=run_make (P:=prog) w 24 70 e _ underlying24 d a .i64 .i64 n n (by omega) (mx _) (by rw[b];omega) (by omega);rw[c]at h;simp only[Int.toNat_natCast]at h;exact⟨_,h⟩
def Cl0:Cl:=⟨0,0,0,0,0,0,0,[]⟩
def Hp.c(x:Hp)(i:Nat):Cl:=x.A.getD i Cl0
theorem Hp.c_eq(x:Hp)(i:Nat)(h:i<x.A.length):x.A[i]=x.c i:=by simp[Hp.c,h]
structure R1(x:Hp):Prop where
 M:1<=x.M/\x.M<=4000
 B:x.B.length=16
 A:(x.A.length:Int)<=2*x.M
 D:x.D.length<=x.A.length
 born:0<=x.born/\x.born<=1000000000
 Q:0<=x.Q/\x.Q<=1000000000
 S:0<=x.S/\x.S<=1000000000
 per:0<=x.per/\x.per<=64
 V:0<=x.V/\x.V<=4000
 E:0<=x.E/\x.E<=6
 I:0<=x.I/\x.I<=x.A.length
 sub:0<=x.sub/\x.sub<=200
def a5g(c:Cl):Prop:=c.kind=0/\c.T=0/\c.U=0/\c.born=0/\c.J=0/\c.F.length=0
def a2q(x:Hp)(c:Cl):Prop:=
 (0<=c.kind/\c.kind<=255)/\(0<=c.T/\c.T<=3)/\(0<=c.U/\c.U<=3)/\(1<=c.born/\c.born<=x.born)/\(0<=c.J/\c.J<=2)/\c.to=0/\c.F.length<=200
def qL(x:Hp)(i:Nat)(c:Cl):Prop:=
 a5g c/\4<=x.E/\0<=c.to/\c.to<i/\(x.c c.to.toNat).st=1/\(x.E=4->∀k:Nat,(k:Int)<c.to->(x.c k).st≠0)
def cZ(x:Hp)(i:Nat):Prop:=
 ((x.c i).st=0/\a5g (x.c i)/\(x.c i).to=0)\/((x.c i).st=2/\qL x i (x.c i))\/((x.c i).st=1/\a2q x (x.c i))
def b7j(x:Hp):Prop:=
 ∀i,i<x.A.length->(x.c i).st≠0->∀k,k<i->¬((x.c k).st=(x.c i).st/\(x.c k).born=(x.c i).born/\(x.c k).to=(x.c i).to)
def R2(x:Hp):Prop:=(∀i,i<x.A.length->cZ x i)/\b7j x
def cL(c:Cl):Nat:=if c.st=1 then 1+c.F.length else 0
def dH(cs:List Cl):Nat:=(cs.map cL).sum
def R3(x:Hp):Prop:=x.K=dH x.A/\x.K<=x.M
def uJ(w:Wd)(n:Nat):Prop:=(w.k=0/\w.n=0/\w.a=0)\/(w.k=1/\w.a=0)\/(w.k=2/\w.n=0/\0<=w.a/\w.a<n)
def uW(x:Hp)(i:Nat):Prop:=x.E=3/\x.I<=i/\(x.c i).st=1/\(x.c i).J=0
def hE(x:Hp)(w:Wd)(moved:Prop):Prop:=
 uJ w x.A.length/\(w.k=2->((x.c w.a.toNat).st=2/\moved)\/((x.c w.a.toNat).st=1/\¬uW x w.a.toNat))
def cN(x:Hp)(i k:Nat):Prop:=x.E≠4/\(x.E=5->(i:Int)<x.I\/((i:Int)=x.I/\(k:Int)<x.sub))
def a3f(x:Hp)(i k:Nat)(p:Pr):Prop:=
 (uW x i->uJ p.key x.A.length/\uJ p.val x.A.length)/\(¬uW x i->hE x p.key (¬cN x i k)/\hE x p.val (¬cN x i k))
def Pr0:Pr:=⟨⟨0,0,0⟩,⟨0,0,0⟩⟩
def Cl.p(c:Cl)(k:Nat):Pr:=c.F.getD k Pr0
theorem Cl.p_eq(c:Cl)(k:Nat)(h:k<c.F.length):c.F[k]=c.p k:=by simp[Cl.p,h]
def cK(c:Cl):Prop:=c.U=1\/c.U=2
def R4(x:Hp):Prop:=
 (∀i (h:i<x.B.length),hE x x.B[i] False)/\
 (∀i,i<x.A.length->¬(uW x i/\cK (x.c i))/\∀k,k<(x.c i).F.length->a3f x i k ((x.c i).p k))
def uD(x:Hp):Prop:=x.E=1\/x.E=2
def cnt(g:List Int)(i:Nat):Nat:=g.count (i:Int)
def a0n(x:Hp)(i:Nat):Prop:=
 ((x.c i).J=1->cnt x.D i=1)/\((x.c i).J≠1->cnt x.D i=0)/\((x.c i).J=2->uD x\/(x.E=3/\x.I<=i))
def R5(x:Hp):Prop:=
 (¬uD x->x.D.length=0)/\(∀i,i<x.A.length->a0n x i)/\(∀g,g∈x.D->0<=g/\g<x.A.length)
def Hp.g0(x:Hp):Nat:=(x.D.getD 0 0).toNat
def R6(x:Hp):Prop:=
 ((x.E=0\/x.E=4)->x.I=0/\x.sub=0)/\
 (x.E=2->x.I=0/\(x.D.length=0->x.sub=0)/\(x.D.length≠0->x.sub<=(x.c x.g0).F.length))/\
 (x.E=5->((x.I=x.A.length\/(x.c x.I.toNat).st≠1)->x.sub=0)/\(x.I≠x.A.length/\(x.c x.I.toNat).st=1->x.sub<=(x.c x.I.toNat).F.length))/\
 ((x.E=1\/x.E=3\/x.E=6)->x.sub=0)
def dJ(x:Hp)(w:Wd):Prop:=w.k=2/\(x.c w.a.toNat).J=0
def eH(x:Hp)(i:Nat):Nat:=
 if (x.c i).J=2 then (x.c i).F.length else if x.E=2/\x.D.length≠0/\x.D.getD 0 0=(i:Int) then x.sub.toNat else 0
def R7(x:Hp):Prop:=
 uD x->∀i,i<x.A.length->¬(cK (x.c i)/\(x.c i).J=0/\(x.E=2\/(i:Int)<x.I))/\∀k,k<eH x i->¬dJ x ((x.c i).p k).key/\¬dJ x ((x.c i).p k).val
def R8(x:Hp):Prop:=∀i,i<x.A.length->¬(x.E=6/\x.I<=i/\(x.c i).st=2)
def qQ(x:Hp)(n:Int):Prop:=
 (¬R1 x/\n=1)\/(R1 x/\¬R2 x/\n=2)\/(R1 x/\R2 x/\¬R3 x/\n=3)\/(R1 x/\R2 x/\R3 x/\¬R4 x/\n=4)\/(R1 x/\R2 x/\R3 x/\R4 x/\¬R5 x/\n=5)\/
 (R1 x/\R2 x/\R3 x/\R4 x/\R5 x/\¬R6 x/\n=6)\/(R1 x/\R2 x/\R3 x/\R4 x/\R5 x/\R6 x/\¬R7 x/\n=7)\/(R1 x/\R2 x/\R3 x/\R4 x/\R5 x/\R6 x/\R7 x/\¬R8 x/\n=8)\/
 (R1 x/\R2 x/\R3 x/\R4 x/\R5 x/\R6 x/\R7 x/\R8 x/\n=0)
theorem qQ.uniq{n m:Int}(h:qQ x n)(k:qQ x m):n=m:=by grind[qQ,R2,R3,R4,R5,R6,R7,R8]
structure HAt(w:World)(b:Nat)(x:Hp)(ar:Option Addr)(kr:Nat)(ac:Option Addr)(kc:Nat)(ag:Option Addr)(kg:Nat):Prop where
 c0:w.cell? ⟨b,0,none⟩=some (iv x.M)
 c1:w.cell? ⟨b,1,none⟩=some (iv x.K)
 c2:w.cell? ⟨b,2,none⟩=some (iv x.born)
 c3:w.cell? ⟨b,3,none⟩=some (.slice ar x.B.length kr)
 c4:w.cell? ⟨b,4,none⟩=some (.slice ac x.A.length kc)
 c5:w.cell? ⟨b,5,none⟩=some (iv x.E)
 c6:w.cell? ⟨b,6,none⟩=some (iv x.I)
 c7:w.cell? ⟨b,7,none⟩=some (iv x.sub)
 c8:w.cell? ⟨b,8,none⟩=some (.slice ag x.D.length kg)
 c9:w.cell? ⟨b,9,none⟩=some (iv x.per)
 c10:w.cell? ⟨b,10,none⟩=some (iv x.V)
 c11:w.cell? ⟨b,11,none⟩=some (iv x.Q)
 c12:w.cell? ⟨b,12,none⟩=some (iv x.S)
 lr:x.B.length<=35184372088832
 lc:x.A.length<=35184372088832
 lg:x.D.length<=35184372088832
 R:∀i (hi:i<x.B.length),∃b' o,ar=some ⟨b',o,none⟩/\yL w b' (o+i*3) x.B[i]
 C:∀i,i<x.A.length->∃b' o,ac=some ⟨b',o,none⟩/\c0k w b' (o+i*8) (x.c i)
 G:∀i (hi:i<x.D.length),∃b' o,ag=some ⟨b',o,none⟩/\a8k w b' (o+i*1) x.D[i]
theorem HAt.ext(h:HAt w b x ar kr ac kc ag kg)(e:Ext w w'):HAt w' b x ar kr ac kc ag kg:=
 ⟨e.keep h.c0,e.keep h.c1,e.keep h.c2,e.keep h.c3,e.keep h.c4,e.keep h.c5,e.keep h.c6,e.keep h.c7,e.keep h.c8,e.keep h.c9,e.keep h.c10,e.keep h.c11,e.keep h.c12,h.lr,h.lc,h.lg,
  λi c=>let ⟨b',o,a,p⟩:=h.R i c;⟨b',o,a,p.ext e⟩,λi c=>let ⟨b',o,a,p⟩:=h.C i c;⟨b',o,a,p.ext e⟩,λi c=>let ⟨b',o,a,p⟩:=h.G i c;⟨b',o,a,p.ext e⟩⟩
structure CAt(w:World)(b o:Nat)(c:Cl)(ap:Option Addr)(kp:Nat):Prop where
 p0:w.cell? ⟨b,o,none⟩=some (iv c.st)
 p1:w.cell? ⟨b,o+1,none⟩=some (iv c.kind)
 p2:w.cell? ⟨b,o+2,none⟩=some (iv c.T)
 p3:w.cell? ⟨b,o+3,none⟩=some (iv c.U)
 p4:w.cell? ⟨b,o+4,none⟩=some (iv c.born)
 p5:w.cell? ⟨b,o+5,none⟩=some (iv c.J)
 p6:w.cell? ⟨b,o+6,none⟩=some (iv c.to)
 p7:w.cell? ⟨b,o+7,none⟩=some (.slice ap c.F.length kp)
 lp:c.F.length<=35184372088832
 P:∀k,k<c.F.length->∃b' o',ap=some ⟨b',o',none⟩/\qC w b' (o'+k*6) (c.p k)
theorem HAt.cell(h:HAt w b x ar kr ac kc ag kg)(i:Nat)(v:i<x.A.length):
  ∃b' o ap kp,ac=some (aA b' o)/\CAt w b' (o+i*8) (x.c i) ap kp:=by
 obtain⟨b',o,e,y,u,d,g,p,r,f,m,t,ap,kp,rfl,j,P⟩:=h.C i v;exact⟨b',o,ap,kp,e,u,d,g,p,r,f,m,t,j,λk a=>by have⟨n,l,s,q⟩:=P k a;rw[Cl.p_eq _ _ a]at q;exact⟨n,l,s,q⟩⟩
theorem CAt.ext{c:Cl}{ap:Option Addr}{kp:Nat}(h:CAt w b o c ap kp)(e:Ext w w'):CAt w' b o c ap kp:=
 ⟨e.keep h.p0,e.keep h.p1,e.keep h.p2,e.keep h.p3,e.keep h.p4,e.keep h.p5,e.keep h.p6,e.keep h.p7,h.lp,λk d=>let ⟨b',o',a,p⟩:=h.P k d;⟨b',o',a,p.ext e⟩⟩
abbrev oHp (x : Hp) (a b c : Value) : Obj := .cells #[iv x.M, iv x.K, iv x.born, a, b, iv x.E, iv x.I, iv x.sub, c, iv x.per, iv x.V, iv x.Q, iv x.S] 27
abbrev oH0 : Obj := .cells #[iv 0, iv 0, iv 0, .slice none 0 0, .slice none 0 0, iv 0, iv 0, iv 0, .slice none 0 0, iv 0, iv 0, iv 0, iv 0] 27
abbrev oCl (c : Cl) (v : Value) : Obj := .cells #[iv c.st, iv c.kind, iv c.T, iv c.U, iv c.born, iv c.J, iv c.to, v] 70
abbrev oPr (p : Pr) : Obj := .cells #[iv p.key.k, iv p.key.n, iv p.key.a, iv p.val.k, iv p.val.n, iv p.val.a] 90
abbrev oWd (y : Wd) : Obj := .cells #[iv y.k, iv y.n, iv y.a] 86
theorem cOb  (b o : Nat) (h : w'.heap[b]? = w.heap[b]?) : w'.cell? ⟨b, o, none⟩ = w.cell? ⟨b, o, none⟩ := kR h
theorem fOb  (b o : Nat) (h : w'.heap[b]? = w.heap[b]?) : w'.frozen? ⟨b, o, none⟩ = w.frozen? ⟨b, o, none⟩ := mL h
theorem Ext.sc {a:World} (h : Ext a w) (b k : Nat) (o : a.heap.size <= b) (v : Value) : Ext a (w.setCell ⟨b, k, none⟩ v) := h.setCell (p := ⟨b, k, none⟩) o v
theorem uQ.sc {S : Nat -> Prop} {a:World} (h : uQ S a w) (b k : Nat) (o : S b) (v : Value) : uQ S a (w.setCell ⟨b, k, none⟩ v) := h.setCell (p := ⟨b, k, none⟩) o v
theorem tE (w : World) (b k : Nat) (v : Value) : uQ (λq => q = b) w (w.setCell ⟨b, k, none⟩ v) := uQ.sc (S := λq => q = b) (uQ.refl _ w) b k rfl v
theorem eDr (w : World) : Ext w w.drew := (hO w).drew
theorem eAl (w : World) (o : Obj) : Ext w (w.alloc o) := (hO w).alloc o
theorem uN{e size:Nat}(h:w.ownsRow base e size v n xs)(j:∀k,v.ownBlock=some k->w'.heap[k]?=w.heap[k]?):w'.ownsRow base e size v n xs:=by
 refine⟨h.1,?_⟩;obtain d|⟨g,a,b,rfl,i,f,c⟩:=h.2;exact .inl d;exact .inr ⟨g,a,b,rfl,i,(j g rfl).trans f,c⟩
def it(L:List Int)(i:Nat):Int:=L.getD i 0
theorem b2s(L:List Int)(i:Nat)(h:i<L.length):L[i]=it L i:=by simp[it,h]
def swp(L:List Int)(i j:Nat):List Int:=(L.set i (it L j)).set j (it L i)
theorem a1x(L:List Int)(i j:Nat):(swp L i j).length=L.length:=by simp[swp]
theorem a8x(L:List Int)(i j k:Nat)(a:i<L.length)(b:j<L.length):it (swp L i j) k=if k=j then it L i else if k=i then it L j else it L k:=by grind[it,swp]
theorem a9v(L:List Int)(i j:Nat)(a:i<L.length)(b:j<L.length):(swp L i j).Perm L:=by grind[swp,b2s]
def Ho(L:List Int):Prop:=∀i,0<i->i<L.length->it L ((i-1) / 2)<=it L i
theorem Ho.root{L:List Int}(h:Ho L):∀i,i<L.length->it L 0<=it L i:=by
 intro i;induction i using Nat.strongRecOn with
 | ind i ih=>
  intro a;by_cases b:i=0;grind[Ho,it];grind[Ho,it]
theorem a3u(L:List Int)(i:Nat)(h:i<L.length):it L i∈L:=by grind[it,b2s]
theorem Ho.least(h:Ho L){x:Int}(b:x∈L):it L 0<=x:=by
 have⟨i,a,e⟩:=mJ b;rw[<-e,b2s L i a];exact h.root i a
theorem Ho.nil:Ho []:=λi _ h=>by simp at h
def kD(L:List Int)(a:Nat):Prop:=
 (∀i,0<i->i<L.length->i≠a->it L ((i-1) / 2)<=it L i)/\(∀i,0<i->i<L.length->(i-1) / 2=a->0<a->it L ((a-1) / 2)<=it L i)
theorem c8b(L:List Int)(x:Int)(i:Nat):it (L++[x]) i=if i<L.length then it L i else if i=L.length then x else 0:=by grind[it]
theorem kD.V(h:Ho L)(x:Int):kD (L++[x]) L.length:=by grind[kD,Ho,c8b]
theorem kD.top(h:kD L 0):Ho L:=by grind[kD,Ho]
theorem kD.done(h:kD L a)(b:it L ((a-1) / 2)<=it L a):Ho L:=by grind[kD,it,Ho]
theorem kD.up{u:Nat}(h:kD L a)(m:0<a)(k:a<L.length)(l:u=(a-1) / 2)(j:it L a<it L u):kD (swp L u a) u:=by
 have c:u<L.length:=by omega
 exact⟨λi d b e=>by grind[a1x,a8x,kD,it,swp],λi d b f g=>by grind[a1x,a8x,kD,it,swp]⟩
def a6g(L:List Int)(a:Nat):Prop:=
 (∀i,0<i->i<L.length->(i-1) / 2≠a->it L ((i-1) / 2)<=it L i)/\(∀i,0<i->i<L.length->(i-1) / 2=a->0<a->it L ((a-1) / 2)<=it L i)
theorem a6g.bottom(h:a6g L a)(b:L.length<=2*a+1):Ho L:=by grind[a6g,Ho]
def a1s(L:List Int)(a s:Nat):Prop:=(s=2*a+1\/s=2*a+2)/\s<L.length/\(∀i,0<i->i<L.length->(i-1) / 2=a->it L s<=it L i)
theorem a1s.right(h:2*a+2<L.length)(b:it L (2*a+2)<it L (2*a+1)):a1s L a (2*a+2):=by grind[a1s,it]
theorem a1s.left(h:2*a+1<L.length)(b:2*a+2<L.length->it L (2*a+1)<=it L (2*a+2)):a1s L a (2*a+1):=by grind[a1s,it]
theorem a6g.done(h:a6g L a)(c:a1s L a s)(b:it L a<=it L s):Ho L:=by grind[a6g,kD.done,a1s,it,Ho]
theorem a6g.down(h:a6g L a)(p:a1s L a s)(r:it L s<it L a):a6g (swp L a s) s:=by
 have⟨m,b,g⟩:=p;have c:a<L.length:=by omega
 refine⟨λi e d j=>?_,λi e d o q=>?_⟩;all_goals
  rw[a1x]at d;rw[a8x L a s _ c b,a8x L a s _ c b]
 rw[if_neg j];by_cases l:i=s
 ·grind[a6g,a1s,it,swp]
 rw[if_neg l];by_cases f:(i-1) / 2=a
 ·rw[if_pos f,if_neg (by omega)];exact g i e d f
 rw[if_neg f];by_cases k:i=a
 ·subst k;rw[if_pos rfl];exact h.2 s (by omega) b (by omega) e
 rw[if_neg k];exact h.1 i e d f;have n:(s-1) / 2=a:=by omega
 rw[n,if_neg (by omega),if_pos rfl,if_neg (by omega),if_neg (by omega)];have:=h.1 i e d (by omega);rw[o]at this;exact this
def b8y(L:List Int):List Int:=(swp L 0 (L.length-1)).take (L.length-1)
theorem d1m(L:List Int):(b8y L).length=L.length-1:=by simp[b8y,a1x]
theorem c6v(L:List Int)(n i:Nat)(h:i<n):it (L.take n) i=it L i:=by simp[it,h]
theorem c8c(L:List Int)(h:0<L.length):(it L 0::b8y L).Perm L:=by
 have b:=a9v L 0 (L.length-1) h (by omega);have c:swp L 0 (L.length-1)=b8y L++[it L 0]:=by
  have a:=List.take_append_getElem (l:=swp L 0 (L.length-1)) (i:=L.length-1) (by rw[a1x];omega);rw[b2s,a8x L 0 _ _ h (by omega),if_pos rfl]at a;have:L.length-1+1=(swp L 0 (L.length-1)).length:=by rw[a1x];omega
  rw[this,kz]at a;exact a.symm
 rw[c]at b;exact(nI _ _).symm.trans b
theorem a6g.V(h:Ho L):a6g (b8y L) 0:=by
 refine⟨λi c b a=>?_,λi c b d e=>by omega⟩;rw[d1m]at b;unfold b8y;rw[c6v _ _ _ (by omega),c6v _ _ _ (by omega),a8x L 0 _ _ (by omega) (by omega),a8x L 0 _ _ (by omega) (by omega),if_neg (by omega),if_neg a,if_neg (by omega),if_neg (by omega)];exact h i c (by omega)
theorem b4d{x:Int}(hp:(x::M).Perm L)(hL:Ho L)(hx:x=it L 0)(hM:Ho M)(hm:M=[]\/it M 0≠x):L.Nodup↔M.Nodup:=by
 rw[<-hp.nodup_iff,List.nodup_cons];refine⟨λh=>h.2,λh=>⟨λhmem=>?_,h⟩⟩;obtain e|e:=hm;rw[e]at hmem;cases hmem;have h1:=hM.least hmem;have hne:M≠[]:=List.ne_nil_of_mem hmem;have h2:it M 0∈M:=a3u M 0 (by cases M with|nil=>exact(hne rfl).elim|cons _ _=>simp);have h3:=hL.least (hp.mem_iff.1 (ma _ h2));omega
theorem c0n{x:Int}(b:(x::M).Perm L)(a:0<M.length)(e:it M 0=x):¬L.Nodup:=by grind[it,a3u]
theorem a9u{α:Type}(f:α->List Value)(c:Nat)(hc:∀a,(f a).length=c):∀(l:List α)(i j:Nat)(hi:i<l.length),j<c->(l.flatMap f)[i*c+j]?=(f l[i])[j]?
 | a::l,0,j,_,hj=>by simp only[List.flatMap_cons,Nat.zero_mul,Nat.zero_add,List.getElem_cons_zero];exact mh (by rw[hc];exact hj)
 | a::l,i+1,j,hi,hj=>by
  simp only[List.flatMap_cons,List.getElem_cons_succ];rw[nS (by rw[hc,Nat.succ_mul];omega),hc,show(i+1)*c+j-c=i*c+j by rw[Nat.succ_mul];omega];exact a9u f c hc l i j (by simpa using hi) hj
theorem b1f{c:Nat}{α:Type}{f:α->List Value}(k:∀a,(f a).length=c){L:List α}(h:w.ownsRow base t c v L.length (L.flatMap f)):∃ad cap,v=.slice ad L.length cap/\(0<L.length->∃g,ad=some (aA g 0))/\∀i (d:i<L.length),∃g,ad=some (aA g 0)/\base<=g/\g<w.heap.size/\∀j,j<c->w.cell? (aA g (0+i*c+j))=(f L[i])[j]?:=by
 obtain⟨h0,h1⟩|⟨g,cap,cur,h0,hb,hg,hr⟩:=h.2;grind;subst h0;refine⟨_,cap,rfl,λ_=>⟨g,rfl⟩,λi d=>⟨g,rfl,(h.lt g rfl).1,(h.lt g rfl).2,λj e=>?_⟩⟩;have b:i*c+j<L.length*c:=by
  have:(i+1)*c<=L.length*c:=Nat.mul_le_mul_right c (by omega);rw[Nat.succ_mul]at this;omega
 rw[kO,nK h (i*c+j) b];exact a9u f c k L i j d e
theorem a4t{a:World}{c:Nat}(f:Ext a W)(d:W.ownsRow base t c v n xs)(h:a.heap.size<=base)(b:W.grownBy w5 v.ownBlock):Ext a w5:=
 mO f ⟨b.os,b.tape,b.output,b.size,λk g=>b.block k (kF g f.size) (λe=>by have:=(d.lt k e.symm).1;omega)⟩
theorem b4b{w3:World}{c n':Nat}{ys:List Value}{bg:Nat}(s:bg<base)(r:Ext w3 W)(j:W.ownsRow base T c v n xs)(p:w3.heap.size<=bg)(h:bg<W.heap.size)(g:W.grownBy w5 v.ownBlock)(i:w5.ownsRow base T c v' n' ys):
  (w5.setCell (aA bg o) u).ownsRow base T c v' n' ys/\Ext w3 (w5.setCell (aA bg o) u)/\(∀o',o'≠o->(w5.setCell (aA bg o) u).cell? (aA bg o')=W.cell? (aA bg o'))/\(∀o',(w5.setCell (aA bg o) u).frozen? (aA bg o')=W.frozen? (aA bg o'))/\(∀y,W.cell? (aA bg o)=some y->(w5.setCell (aA bg o) u).cell? (aA bg o)=some u)/\(∀q,q<W.heap.size->q≠bg->v.ownBlock≠some q->(w5.setCell (aA bg o) u).heap[q]?=W.heap[q]?):=by
 have b:w5.heap[bg]?=W.heap[bg]?:=g.block bg h (λe=>by have:=(j.lt bg e.symm).1;omega);refine⟨uN i (λq d=>kP _ _ _ _ (λe=>by have:=(i.lt q d).1;simp only at e;omega)),(a4t r j (by omega) g).setCell p u,λo' m=>?_,λo'=>?_,λy k=>?_,λq d f l=>?_⟩;rw[uC _ (.inr (λe=>m e.symm))];exact cOb bg o' b;rw[kS];exact fOb bg o' b;exact kM _ _ _ ((cOb bg o b).trans k);exact(kP _ _ _ _ f).trans (g.block q d (λe=>l e.symm))
theorem a3s{b':Nat}{c:Nat}(h:w.ownsRow b T c v n xs)(a:b'<=b):w.ownsRow b' T c v n xs:=
 ⟨h.1,h.2.imp id (λ⟨g,cap,cur,hv,hg,r⟩=>⟨g,cap,cur,hv,kA a hg,r⟩)⟩
theorem a3t{α:Type}(f:α->List Value)(c:Nat)(b:∀a,(f a).length=c)(L:List α):(L.flatMap f).length=L.length*c:=by
 induction L with
 | nil=>simp
 | cons a L ih=>simp[ih,b,Nat.succ_mul];omega
theorem c0m{α:Type}(f:α->List Value)(h:∀a u,u∈f a->u.oneCell'=true)(L:List α):∀u,u∈L.flatMap f->u.oneCell'=true:=by grind
theorem b4c(b o j:Nat):((aA b o):Addr).add j=(aA b (o+j)):=by unfold Addr.add;split <;> simp_all
theorem b1g{α:Type}(f:α->List Value)(c:Nat)(k:0<c)(n:∀a,(f a).length=c)(L:List α)(b o:Nat)(h:∀i (p:i<L.length),∀j,j<c->w.cell? (aA b (o+i*c+j))=(f L[i])[j]?):∀j u,(L.flatMap f)[j]?=some u->w.cell? (((aA b o):Addr).add j)=some u:=λj u m=>by
 have l:j<L.length*c:=by grind[a3t]
 have g:j / c<L.length:=(Nat.div_lt_iff_lt_mul k).2 l;have d:j % c<c:=mN _ k;have e:j / c*c+j % c=j:=Nat.div_add_mod' j c;rw[b4c,<-m];have:=h (j / c) g (j % c) d;rw[Nat.add_assoc,e]at this;rw[this,<-a9u f c n L (j / c) (j % c) g d,e]
structure eU(w:World)(base bq oq:Nat)(v:Value)(L:List Int):Prop where
 hd:w.cell? ⟨bq,oq,none⟩=some v
 hf:w.frozen? ⟨bq,oq,none⟩=false
 own:w.ownsRow base 3 1 v L.length (L.map iv)
 apart:v.ownBlock≠some bq
structure QFr(bq oq:Nat)(v v':Value)(w w':World):Prop where
 os:w'.os=w.os
 tape:w'.tape=w.tape
 output:w'.output=w.output
 size:w.heap.size<=w'.heap.size
 block:∀k,k<w.heap.size->k≠bq->v.ownBlock≠some k->w'.heap[k]?=w.heap[k]?
 hdr:∀o,o≠oq->w'.cell? ⟨bq,o,none⟩=w.cell? ⟨bq,o,none⟩
 hfr:∀o,w'.frozen? ⟨bq,o,none⟩=w.frozen? ⟨bq,o,none⟩
 own:v'.ownBlock=v.ownBlock\/∃g,v'.ownBlock=some g/\w.heap.size<=g
theorem QFr.refl(b a:Nat)(v:Value)(w:World):QFr b a v v w w:=⟨rfl,rfl,rfl,hT _,λ_ _ _ _=>rfl,λ_ _=>rfl,λ_=>rfl,.inl rfl⟩
theorem QFr.trans{v1:Value}{w1 w2:World}(h:QFr bq oq v v1 w w1)(k:QFr bq oq v1 v2 w1 w2):QFr bq oq v v2 w w2:=
 ⟨k.os.trans h.os,k.tape.trans h.tape,k.output.trans h.output,kA h.size k.size,
  λi c b j=>(k.block i (kF c h.size) b (λe=>by
   obtain a|⟨g,a,d⟩:=h.own;grind;rw[a]at e;cases e;omega)).trans (h.block i c b j),
  λo f=>(k.hdr o f).trans (h.hdr o f),λo=>(k.hfr o).trans (h.hfr o),by
   obtain a|⟨g,a,d⟩:=k.own;obtain l|⟨g,l,m⟩:=h.own
   ·grind
   grind;exact .inr ⟨g,a,kA h.size d⟩⟩
theorem QFr.ext{a:World}(h:QFr bq oq v v' w w')(e:Ext a w)(d:a.heap.size<=bq)(c:∀k,v.ownBlock=some k->a.heap.size<=k):Ext a w':=
 mO e ⟨h.os,h.tape,h.output,h.size,λk b=>h.block k (kF b e.size) (by omega) (λq=>by have:=c k q;omega)⟩
theorem QFr.drewN(h:QFr bq oq v v' w w')(n:Nat):QFr bq oq v v' w (w'.drewN n):=⟨h.os,h.tape,h.output,h.size,h.block,h.hdr,h.hfr,h.own⟩
theorem QFr.A(h:QFr bq oq v v' w w')(c:w.cell? (aA b o)=some u)(d:b≠bq)(e:v.ownBlock≠some b):w'.cell? (aA b o)=some u:=
 (kR (w:=w) (w':=w') (a:=(aA b o)) (h.block b (uZ c) d e)).trans c
theorem eU.hlt(h:eU w base bq oq v L):bq<w.heap.size:=uZ h.hd
theorem eU.rlt(h:eU w base bq oq v L):∀k,v.ownBlock=some k->base<=k/\k<w.heap.size:=h.own.lt
theorem eU.ext(h:eU w base bq oq v L)(e:Ext w w'):eU w' base bq oq v L:=
 ⟨e.keep h.hd,(e.frozen (p:=(aA bq oq)) h.hlt)▸h.hf,uN h.own (λk a=>e.block k (h.rlt k a).2),h.apart⟩
theorem eU.other{b2 o2:Nat}(h:eU w base b2 o2 v2 L)(q:QFr bq oq v v' w w')(g:b2≠bq)(i:v.ownBlock≠some b2)(f:v2.ownBlock≠some bq)(d:∀k,v2.ownBlock=some k->v.ownBlock≠some k):eU w' base b2 o2 v2 L:=by
 have b:w'.heap[b2]?=w.heap[b2]?:=q.block b2 h.hlt g i;refine⟨(kR (w:=w) (w':=w') (a:=(aA b2 o2)) b).trans h.hd,(mL (w:=w) (w':=w') (a:=(aA b2 o2)) b).trans h.hf,uN h.own (λk c=>q.block k (h.rlt k c).2 (λe=>f (e ▸ c)) (d k c)),h.apart⟩
theorem eU.nil(b:w.cell? (aA bq oq)=some (.slice none 0 0))(a:w.frozen? (aA bq oq)=false):eU w base bq oq (.slice none 0 0) []:=
 ⟨b,a,ks _ _ _ _,by simp[Value.ownBlock]⟩
theorem eU.form(h:eU w base bq oq v L)(a:0<L.length):∃g cap,v=sS g L.length cap/\g≠bq:=by
 obtain⟨g,cap,rfl,_,_⟩:=h.own.form a;exact⟨g,cap,rfl,λe=>h.apart (by rw[<-e];rfl)⟩
theorem eU.empty(h:eU w base bq oq v L)(a:L.length=0):∃ad cap,v=.slice ad 0 cap:=by
 obtain⟨h1,_⟩|⟨g,cap,cur,h1,_⟩:=h.own.2;grind;grind
theorem eU.cell(h:eU w base bq oq (sS g n cap) L)(i:Nat)(b:i<L.length):w.cell? (aA g i)=some (iv (it L i)):=by
 have⟨c,a⟩:=h.own;obtain⟨h0,_⟩|⟨g',cap',cur,h0,hb,hg,hr⟩:=a
 cases h0
 cases h0;have:=nK (w:=w) (base:=base) (e:=3) (size:=1) (g:=g) (n:=L.length) (cap:=cap) (xs:=L.map iv) h.own i (by omega);rw[this];simp[it,b]
theorem eU.froz(h:eU w base bq oq (sS g n cap) L)(i:Nat):w.frozen? (aA g i)=false:=by
 have⟨b,a⟩:=h.own;obtain⟨h0,_⟩|⟨g',cap',cur,h0,hb,hg,hr⟩:=a
 cases h0
 cases h0;exact nF (w:=w) (base:=base) (e:=3) (size:=1) (g:=g) (n:=L.length) (cap:=cap) (xs:=L.map iv) h.own i
theorem eU.len(h:eU w base bq oq (sS g n cap) L):n=L.length/\n<=cap:=by
 obtain⟨h0,_⟩|⟨g',cap',cur,h0,hb,hg,hr,_⟩:=h.own.2
 cases h0
 grind
theorem eU.store(h:eU w base bq oq (sS g n cap) L)(i:Nat)(x:Int):
  eU (w.setCell (aA g i) (iv x)) base bq oq (sS g n cap) (L.set i x)/\QFr bq oq (sS g n cap) (sS g n cap) w (w.setCell (aA g i) (iv x)):=by
 have a:g≠bq:=λe=>h.apart (by rw[<-e];rfl)
 have⟨j,l⟩:=h.len;subst j;have⟨d,b⟩:=World.ownsRow.stored h.own i (iv x);exact⟨⟨by rw[uC _ (.inl a)];exact h.hd,by rw[kS];exact h.hf,by rw[List.length_set,List.map_set];exact d,h.apart⟩,⟨rfl,rfl,rfl,b.size,λk c m f=>b.block k c (λe=>f e.symm),λo p=>uC _ (.inl a),λo=>by rw[kS],.inl rfl⟩⟩
theorem eU.swap(h:eU w base bq oq (sS g n cap) L)(i j:Nat)
  (d:w'.heap=((w.setCell (aA g i) (iv (it L j))).setCell (aA g j) (iv (it L i))).heap) (s:w'.os=w.os) (r:w'.tape=w.tape) (t:w'.output=w.output) :
  eU w' base bq oq (sS g n cap) (swp L i j)/\QFr bq oq (sS g n cap) (sS g n cap) w w':=by
 have⟨f,l⟩:=h.store i (it L j);have⟨c,p⟩:=f.store j (it L i);have q:=l.trans p;have b:∀k:Nat,w'.heap[k]?=((w.setCell (aA g i) (iv (it L j))).setCell (aA g j) (iv (it L i))).heap[k]?:=λk=>by rw[d]
 refine⟨⟨(cOb bq oq (b bq)).trans c.hd,(fOb bq oq (b bq)).trans c.hf,uN c.own (λk _=>b k),h.apart⟩,
  ⟨s,r,t,d▸q.size,λk e x y=>(b k).trans (q.block k e x y),λo m=>(cOb bq o (b bq)).trans (q.hdr o m),λo=>(fOb bq o (b bq)).trans (q.hfr o),.inl rfl⟩⟩
theorem c6w(w:World)(base b c g n cap i j:Nat)(L:List Int)(h:eU w base b c (sS g n cap) L)(l:i<n)(m:j<n):
  Calls prog 121 #[pQ b c,iv i,iv j] w λe w'=>e=.returned (.tuple #[])/\eU w' base b c (sS g n cap) (swp L i j)/\QFr b c (sS g n cap) (sS g n cap) w w':=by
 have o:=h.len.1;by_cases e:i=j
 ·subst e;refine Calls.mono (swap_eq w b c g 0 n cap i (it L i) h.hd (by simpa using h.cell i (by omega)) (by simpa using h.froz i) l) ?_;intro e w' ⟨r,f,k,d,a⟩;exact⟨r,h.swap i i (by rw[f];simp) k d a⟩
 refine Calls.mono (swap_ne w b c g 0 n cap i j (it L i) (it L j) h.hd (by simpa using h.cell i (by omega)) (by simpa using h.cell j (by omega)) (by simpa using h.froz i) (by simpa using h.froz j) l m e) ?_;intro e w' ⟨r,f,k,d,a⟩;exact⟨r,h.swap i j (by rw[f];simp) k d a⟩
def fW(y:Wd):List Value:=[iv y.k,iv y.n,iv y.a]
def fP(p:Pr):List Value:=[iv p.key.k,iv p.key.n,iv p.key.a,iv p.val.k,iv p.val.n,iv p.val.a]
def fC(z:Cl×Value):List Value:=[iv z.1.st,iv z.1.kind,iv z.1.T,iv z.1.U,iv z.1.born,iv z.1.J,iv z.1.to,z.2]
def S7(w:World)(b o:Nat)(c:Cl):Prop:=
 w.cell? ⟨b,o,none⟩=some (iv c.st)/\w.cell? ⟨b,o+1,none⟩=some (iv c.kind)/\w.cell? ⟨b,o+2,none⟩=some (iv c.T)/\w.cell? ⟨b,o+3,none⟩=some (iv c.U)/\w.cell? ⟨b,o+4,none⟩=some (iv c.born)/\w.cell? ⟨b,o+5,none⟩=some (iv c.J)/\w.cell? ⟨b,o+6,none⟩=some (iv c.to)
theorem S7.of{c:Cl}(h:S7 w b o c)(e:∀j,j<7->w'.cell? (aA b (o+j))=w.cell? (aA b (o+j))):S7 w' b o c:=by
 have⟨f,g,i,a,l,d,k⟩:=h;exact⟨(e 0 (by omega)).trans f,(e 1 (by omega)).trans g,(e 2 (by omega)).trans i,(e 3 (by omega)).trans a,(e 4 (by omega)).trans l,(e 5 (by omega)).trans d,(e 6 (by omega)).trans k⟩
theorem qC.of{p:Pr}(h:qC w b o p)(e:∀j,j<6->w'.cell? (aA b (o+j))=w.cell? (aA b (o+j))):qC w' b o p:=by
 have⟨d,f,g,a,i,c⟩:=h;exact⟨(e 0 (by omega)).trans d,(e 1 (by omega)).trans f,(e 2 (by omega)).trans g,(e 3 (by omega)).trans a,(e 4 (by omega)).trans i,(e 5 (by omega)).trans c⟩
theorem yL.of{y:Wd}(h:yL w b o y)(e:∀j,j<3->w'.cell? (aA b (o+j))=w.cell? (aA b (o+j))):yL w' b o y:=by
 have⟨d,a,c⟩:=h;exact⟨(e 0 (by omega)).trans d,(e 1 (by omega)).trans a,(e 2 (by omega)).trans c⟩
structure Nfp(b k:Nat)(w:World):Prop where
 lt:b<w.heap.size
 nf:∀j,w.frozen? ⟨b,j,none⟩=false
 cp:∀j,j<k*6->∃v,w.cell? ⟨b,j,none⟩=some v
theorem Nfp.n1(h:Nfp b k w):Nf1 b w:=⟨h.1,h.2⟩
theorem dV(h:Nfp b k w)(c:w'.heap[b]?=w.heap[b]?)(e:w.heap.size<=w'.heap.size):Nfp b k w':=
 ⟨kF h.1 e,λj=>(fOb b j c).trans (h.2 j),λj d=>let ⟨v,hv⟩:=h.3 j d;⟨v,(cOb b j c).trans hv⟩⟩
theorem Nfp.ext(h:Nfp b k w)(e:Ext w w'):Nfp b k w':=dV h (e.block b h.1) e.size
theorem Nfp.set(h:Nfp b k w)(p:Addr)(u:Value):Nfp b k (w.setCell p u):=⟨(h.n1.set p u).1,(h.n1.set p u).2,λj a=>let ⟨_,hv⟩:=h.3 j a;cell?_setCell_some hv⟩
theorem Nfp.put{b k g:Nat}:∀{vs:List Value} {w:World} {o:Nat},Nfp b k w->Nfp b k (w.setCells g o vs)
 | [],_,_,h=>h
 | _::r,_,_,h=>Nfp.put (vs:=r) (h.set _ _)
theorem c0o{c:Nat}{p:Pr}(h:Nfp b c w)(n:Nf1 b w')(q:qC w' b (k*6) p)(o:∀j,(j<k*6\/k*6+6<=j)->w'.cell? (aA b j)=w.cell? (aA b j)):Nfp b c w':=
 ⟨n.1,n.2,λj f=>by
  by_cases e:j<k*6\/k*6+6<=j;rw[o j e];exact h.3 j f;have⟨m,l,d,a,g,i⟩:=q;have:j=k*6\/j=k*6+1\/j=k*6+2\/j=k*6+3\/j=k*6+4\/j=k*6+5:=by omega
  obtain rfl|rfl|rfl|rfl|rfl|rfl:=this;exact⟨_,m⟩;exact⟨_,l⟩;exact⟨_,d⟩;exact⟨_,a⟩;exact⟨_,g⟩;exact⟨_,i⟩⟩
structure Rws(B:Nat)(w:World)(x:Hp)(br bc:Nat)(pb:Nat->Nat)(pa:Nat->Option Addr)(pk:Nat->Nat):Prop where
 r:∀i (hi:i<x.B.length),yL w br (i*3) x.B[i]
 s:∀q,q<x.A.length->S7 w bc (q*8) (x.c q)
 p7:∀q,q<x.A.length->w.cell? ⟨bc,q*8+7,none⟩=some (.slice (pa q) (x.c q).F.length (pk q))
 p:∀q,q<x.A.length->∀k,k<(x.c q).F.length->qC w (pb q) (k*6) ((x.c q).p k)
 pl:∀q,q<x.A.length->0<pk q->pa q=some ⟨pb q,0,none⟩/\Nfp (pb q) (pk q) w/\(pb q≠br/\pb q≠bc)/\B<=pb q
 nr:0<x.B.length->Nf1 br w/\B<=br
 nc:0<x.A.length->Nf1 bc w/\B<=bc
 d:0<x.A.length->br≠bc
 dp:∀q q',q<x.A.length->q'<x.A.length->q≠q'->0<pk q->0<pk q'->pb q≠pb q'
 kp:∀q,q<x.A.length->(x.c q).F.length<=pk q
theorem Rws.pw(h:Rws B w x br bc pb pa pk){q:Nat}(b:q<x.A.length)(a:0<(x.c q).F.length):0<pk q:=kF a (h.kp q b)
theorem uY(h:Nf1 b w)(c:w'.heap[b]?=w.heap[b]?)(d:w.heap.size<=w'.heap.size):Nf1 b w':=
 ⟨kF h.1 d,λj=>(fOb b j c).trans (h.2 j)⟩
theorem Rws.same(h:Rws B w x br bc pb pa pk)(l:w.heap.size<=w'.heap.size)
  (n:0<x.B.length->w'.heap[br]?=w.heap[br]?) (g:0<x.A.length->w'.heap[bc]?=w.heap[bc]?) (m:∀q,q<x.A.length->0<pk q->w'.heap[pb q]?=w.heap[pb q]?):Rws B w' x br bc pb pa pk where
 r:=λi o=>(h.r i o).of λj _=>cOb br _ (n (by omega))
 s:=λq f=>(h.s q f).of λj _=>cOb bc _ (g (by omega))
 p7:=λq f=>(cOb bc _ (g (by omega))).trans (h.p7 q f)
 p:=λq f k t=>(h.p q f k t).of λj _=>cOb (pb q) _ (m q f (h.pw f (by omega)))
 pl:=λq f e=>let ⟨a,b,c⟩:=h.pl q f e;⟨a,dV b (m q f e) l,c⟩
 nr:=λe=>⟨uY (h.nr e).1 (n e) l,(h.nr e).2⟩
 nc:=λe=>⟨uY (h.nc e).1 (g e) l,(h.nc e).2⟩
 d:=h.d
 dp:=h.dp
 kp:=h.kp
theorem Rws.ext(h:Rws B w x br bc pb pa pk)(e:Ext w w'):Rws B w' x br bc pb pa pk:=
 h.same e.size (λa=>e.block _ (h.nr a).1.1) (λa=>e.block _ (h.nc a).1.1) (λq b a=>e.block _ (h.pl q b a).2.1.1)
theorem Rws.only(h:Rws B w x br bc pb pa pk)(e:uQ S w w')(f:0<x.B.length->¬S br)(c:0<x.A.length->¬S bc)(d:∀q,q<x.A.length->0<pk q->¬S (pb q)):Rws B w' x br bc pb pa pk:=
 h.same e.size (λa=>e.block _ (h.nr a).1.1 (f a)) (λa=>e.block _ (h.nc a).1.1 (c a)) (λq b a=>e.block _ (h.pl q b a).2.1.1 (d q b a))
theorem Rws.less{C:Nat}(h:Rws B w x br bc pb pa pk)(f:C<=B):Rws C w x br bc pb pa pk:=
 ⟨h.r,h.s,h.p7,h.p,λq g e=>let ⟨a,b,c,d⟩:=h.pl q g e;⟨a,b,c,kA f d⟩,λe=>⟨(h.nr e).1,kA f (h.nr e).2⟩,λe=>⟨(h.nc e).1,kA f (h.nc e).2⟩,h.d,h.dp,h.kp⟩
theorem Rws.slW(h:Rws B w x br bc pb pa pk)(b:Nat)(c:0<x.B.length->ad=some (aA br 0))(d:x.B.length<=1048576):SlW w (.slice ad x.B.length b) x.B:=
 ⟨_,_,rfl,by omega,λi a=>⟨br,0,c (by omega),by rw[kO];exact h.r i a⟩⟩
theorem Rws.slC(h:Rws B w x br bc pb pa pk)(o:Nat)(r:0<x.A.length->ad=some (aA bc 0))(t:x.A.length<=1048576)(n:∀q,q<x.A.length->(x.c q).F.length<=200):SlC w (.slice ad x.A.length o) x.A:=by
 refine⟨_,_,rfl,by omega,λi a=>⟨bc,0,r (by omega),?_⟩⟩;rw[kO,Hp.c_eq x i a];have⟨f,g,j,d,m,e,l⟩:=h.s i a;refine⟨_,f,g,j,d,m,e,l,h.p7 i a,_,_,rfl,by have:=n i a;omega,λk b=>⟨pb i,0,(h.pl i a (h.pw a (by omega))).1,?_⟩⟩;rw[kO,Cl.p_eq _ _ b];exact h.p i a k b
def cY(w:World)(B:Nat)(x:Hp)(vr vc vg:Value):Prop:=
 w.cell? ⟨B,0,none⟩=some (iv x.M)/\w.cell? ⟨B,1,none⟩=some (iv x.K)/\w.cell? ⟨B,2,none⟩=some (iv x.born)/\w.cell? ⟨B,3,none⟩=some vr/\w.cell? ⟨B,4,none⟩=some vc/\w.cell? ⟨B,5,none⟩=some (iv x.E)/\w.cell? ⟨B,6,none⟩=some (iv x.I)/\w.cell? ⟨B,7,none⟩=some (iv x.sub)/\w.cell? ⟨B,8,none⟩=some vg/\w.cell? ⟨B,9,none⟩=some (iv x.per)/\w.cell? ⟨B,10,none⟩=some (iv x.V)/\w.cell? ⟨B,11,none⟩=some (iv x.Q)/\w.cell? ⟨B,12,none⟩=some (iv x.S)
def hbL(x:Hp)(vr vc vg:Value):List Value:=[iv x.M,iv x.K,iv x.born,vr,vc,iv x.E,iv x.I,iv x.sub,vg,iv x.per,iv x.V,iv x.Q,iv x.S]
theorem cY.iff:cY w B x vr vc vg↔∀o v,(hbL x vr vc vg)[o]?=some v->w.cell? (aA B o)=some v:=
 ⟨λ⟨h0,h1,h2,h3,h4,h5,h6,h7,h8,h9,h10,h11,h12⟩ o v q=>by
  obtain _|_|_|_|_|_|_|_|_|_|_|_|_|o:=o <;> simp[hbL]at q <;> rw[<-q] <;> assumption,
  λh=>⟨h 0 _ rfl,h 1 _ rfl,h 2 _ rfl,h 3 _ rfl,h 4 _ rfl,h 5 _ rfl,h 6 _ rfl,h 7 _ rfl,h 8 _ rfl,h 9 _ rfl,h 10 _ rfl,h 11 _ rfl,h 12 _ rfl⟩⟩
theorem cY.ext(h:cY w B x vr vc vg)(e:Ext w w'):cY w' B x vr vc vg:=
 cY.iff.2 λo v q=>e.keep (cY.iff.1 h o v q)
theorem cY.new(w:World)(x:Hp)(vr b a:Value)(t:TypeId):cY (w.alloc (.cells #[iv x.M,iv x.K,iv x.born,vr,b,iv x.E,iv x.I,iv x.sub,a,iv x.per,iv x.V,iv x.Q,iv x.S] t)) w.heap.size x vr b a:=by
 refine⟨?_,?_,?_,?_,?_,?_,?_,?_,?_,?_,?_,?_,?_⟩ <;> simp[go_sem]
theorem cY.of{B':Nat}(h:cY w B x vr vc vg)(e:∀o,o<13->w'.cell? (aA B' o)=w.cell? (aA B o)):cY w' B' x vr vc vg:=
 cY.iff.2 λo v q=>(e o (List.getElem?_eq_some_iff.1 q).1).trans (cY.iff.1 h o v q)
theorem cY.only(h:cY w B x vr vc vg)(e:uQ S w w')(a:¬S B):cY w' B x vr vc vg:=
 h.of λo _=>e.A B (uZ h.1) a o
theorem cY.block(h:cY w B x vr vc vg)(e:w'.heap[B]?=w.heap[B]?):cY w' B x vr vc vg:=
 h.of λo _=>cOb B o e
theorem cY.far(h:cY w B x vr vc vg)(b o:Nat)(u:Value)(d:b≠B\/13<=o):cY (w.setCell (aA b o) u) B x vr vc vg:=
 h.of λa c=>uC _ (by omega)
theorem cY.st(h:cY w B x vr vc vg)(k:Nat)(u:Value){x':Hp}{vr' vc' vg':Value}(e:hbL x' vr' vc' vg'=(hbL x vr vc vg).set k u):cY (w.setCell (aA B k) u) B x' vr' vc' vg':=
 cY.iff.2 λo v q=>by
  rw[e,List.getElem?_set]at q;by_cases c:k=o;subst c;rw[if_pos rfl]at q;by_cases l:k<(hbL x vr vc vg).length
  ·rw[if_pos l]at q;injection q with q;rw[<-q];exact kM _ _ _ (cY.iff.1 h k _ (mV l))
  rw[if_neg l]at q;cases q;rw[if_neg c]at q;exact(uC _ (.inr c)).trans (cY.iff.1 h o v q)
theorem cY.set3(h:cY w B x vr vc vg)(u:Value):cY (w.setCell (aA B 3) u) B x u vc vg:=h.st 3 _ rfl
theorem cY.set4(h:cY w B x vr vc vg)(u:Value):cY (w.setCell (aA B 4) u) B x vr u vg:=h.st 4 _ rfl
theorem cY.set8(h:cY w B x vr vc vg)(u:Value):cY (w.setCell (aA B 8) u) B x vr vc u:=h.st 8 _ rfl
theorem cY.set1(h:cY w B x vr vc vg)(u:Int):cY (w.setCell (aA B 1) (iv u)) B { x with K:=u } vr vc vg:=h.st 1 _ rfl
theorem cY.set2(h:cY w B x vr vc vg)(u:Int):cY (w.setCell (aA B 2) (iv u)) B { x with born:=u } vr vc vg:=h.st 2 _ rfl
theorem cY.set5(h:cY w B x vr vc vg)(u:Int):cY (w.setCell (aA B 5) (iv u)) B { x with E:=u } vr vc vg:=h.st 5 _ rfl
theorem cY.set6(h:cY w B x vr vc vg)(u:Int):cY (w.setCell (aA B 6) (iv u)) B { x with I:=u } vr vc vg:=h.st 6 _ rfl
theorem cY.set7(h:cY w B x vr vc vg)(u:Int):cY (w.setCell (aA B 7) (iv u)) B { x with sub:=u } vr vc vg:=h.st 7 _ rfl
theorem cY.set11(h:cY w B x vr vc vg)(u:Int):cY (w.setCell (aA B 11) (iv u)) B { x with Q:=u } vr vc vg:=h.st 11 _ rfl
theorem cY.set12(h:cY w B x vr vc vg)(u:Int):cY (w.setCell (aA B 12) (iv u)) B { x with S:=u } vr vc vg:=h.st 12 _ rfl
end Go.Proofs.YtolmnenlnpbcfaaGreatDoor
