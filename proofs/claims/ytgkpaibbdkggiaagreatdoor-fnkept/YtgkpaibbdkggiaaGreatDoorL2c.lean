import Derived.Test.YtgkpaibbdkggiaaGreatDoorBase
import Derived.BigQuiet
import Derived.Deep.AppendLies
import Derived.Deep.LoopGhost
set_option maxRecDepth 100000
set_option maxHeartbeats 2000000
namespace Go.Proofs.YtgkpaibbdkggiaaGreatDoor
open Go.RowKit Tryz
attribute [local go_sem ↓] Go.wp_at_zero Go.wp_at_succ
variable{w w' W w1 w2 w5:World}{x:Hp}{L L' M:List Int}{v vr vc vg v' u v2:Value}{B base bq oq b n o a g cap br bc bs kr kc kg k s j:Nat}{pb pk:Nat->Nat}{pa:Nat->Option Addr}{ar ac ag ad:Option Addr}{y:Wd}{xs:List Value}{S:Nat->Prop}{t T:TypeId}{z:Int}
def Cl0:Cl:=⟨0,0,0,0,0,0,0,[]⟩
def Hp.c(x:Hp)(i:Nat):Cl:=x.A.getD i Cl0
theorem Hp.c_eq(x:Hp)(i:Nat)(h:i<x.A.length):x.A[i]=x.c i:=by simp[Hp.c,h]
structure R1(x:Hp):Prop where
 M:1<=x.M/\x.M<=4000
 B:x.B.length=16
 A:(x.A.length:Int)<=2*x.M
 D:x.D.length<=x.A.length
 born:0<=x.born/\x.born<=1000000000
 Q:0<=x.Q/\x.Q<=1000000000
 S:0<=x.S/\x.S<=1000000000
 per:0<=x.per/\x.per<=64
 V:0<=x.V/\x.V<=4000
 E:0<=x.E/\x.E<=6
 I:0<=x.I/\x.I<=x.A.length
 sub:0<=x.sub/\x.sub<=200
def a5d(c:Cl):Prop:=c.kind=0/\c.T=0/\c.U=0/\c.born=0/\c.J=0/\c.F.length=0
def a2m(x:Hp)(c:Cl):Prop:=
 (0<=c.kind/\c.kind<=255)/\(0<=c.T/\c.T<=3)/\(0<=c.U/\c.U<=3)/\(1<=c.born/\c.born<=x.born)/\(0<=c.J/\c.J<=2)/\c.to=0/\c.F.length<=200
def qD(x:Hp)(i:Nat)(c:Cl):Prop:=
 a5d c/\4<=x.E/\0<=c.to/\c.to<i/\(x.c c.to.toNat).st=1/\(x.E=4->∀k:Nat,(k:Int)<c.to->(x.c k).st≠0)
def cQ(x:Hp)(i:Nat):Prop:=
 ((x.c i).st=0/\a5d (x.c i)/\(x.c i).to=0)\/((x.c i).st=2/\qD x i (x.c i))\/((x.c i).st=1/\a2m x (x.c i))
def b7b(x:Hp):Prop:=
 ∀i,i<x.A.length->(x.c i).st≠0->∀k,k<i->¬((x.c k).st=(x.c i).st/\(x.c k).born=(x.c i).born/\(x.c k).to=(x.c i).to)
def R2(x:Hp):Prop:=(∀i,i<x.A.length->cQ x i)/\b7b x
def cL(c:Cl):Nat:=if c.st=1 then 1+c.F.length else 0
def dZ(cs:List Cl):Nat:=(cs.map cL).sum
def R3(x:Hp):Prop:=x.K=dZ x.A/\x.K<=x.M
def uJ(w:Wd)(n:Nat):Prop:=(w.k=0/\w.n=0/\w.a=0)\/(w.k=1/\w.a=0)\/(w.k=2/\w.n=0/\0<=w.a/\w.a<n)
def uW(x:Hp)(i:Nat):Prop:=x.E=3/\x.I<=i/\(x.c i).st=1/\(x.c i).J=0
def hE(x:Hp)(w:Wd)(moved:Prop):Prop:=
 uJ w x.A.length/\(w.k=2->((x.c w.a.toNat).st=2/\moved)\/((x.c w.a.toNat).st=1/\¬uW x w.a.toNat))
def cN(x:Hp)(i k:Nat):Prop:=x.E≠4/\(x.E=5->(i:Int)<x.I\/((i:Int)=x.I/\(k:Int)<x.sub))
def a3d(x:Hp)(i k:Nat)(p:Pr):Prop:=
 (uW x i->uJ p.key x.A.length/\uJ p.val x.A.length)/\(¬uW x i->hE x p.key (¬cN x i k)/\hE x p.val (¬cN x i k))
def Pr0:Pr:=⟨⟨0,0,0⟩,⟨0,0,0⟩⟩
def Cl.p(c:Cl)(k:Nat):Pr:=c.F.getD k Pr0
theorem Cl.p_eq(c:Cl)(k:Nat)(h:k<c.F.length):c.F[k]=c.p k:=by simp[Cl.p,h]
def dH(c:Cl):Prop:=c.U=1\/c.U=2
def R4(x:Hp):Prop:=
 (∀i (h:i<x.B.length),hE x x.B[i] False)/\
 (∀i,i<x.A.length->¬(uW x i/\dH (x.c i))/\∀k,k<(x.c i).F.length->a3d x i k ((x.c i).p k))
def uD(x:Hp):Prop:=x.E=1\/x.E=2
def cnt(g:List Int)(i:Nat):Nat:=g.count (i:Int)
def a0n(x:Hp)(i:Nat):Prop:=
 ((x.c i).J=1->cnt x.D i=1)/\((x.c i).J≠1->cnt x.D i=0)/\((x.c i).J=2->uD x\/(x.E=3/\x.I<=i))
def R5(x:Hp):Prop:=
 (¬uD x->x.D.length=0)/\(∀i,i<x.A.length->a0n x i)/\(∀g,g∈x.D->0<=g/\g<x.A.length)
def Hp.g0(x:Hp):Nat:=(x.D.getD 0 0).toNat
def R6(x:Hp):Prop:=
 ((x.E=0\/x.E=4)->x.I=0/\x.sub=0)/\
 (x.E=2->x.I=0/\(x.D.length=0->x.sub=0)/\(x.D.length≠0->x.sub<=(x.c x.g0).F.length))/\
 (x.E=5->((x.I=x.A.length\/(x.c x.I.toNat).st≠1)->x.sub=0)/\(x.I≠x.A.length/\(x.c x.I.toNat).st=1->x.sub<=(x.c x.I.toNat).F.length))/\
 ((x.E=1\/x.E=3\/x.E=6)->x.sub=0)
def eQ(x:Hp)(w:Wd):Prop:=w.k=2/\(x.c w.a.toNat).J=0
def eZ(x:Hp)(i:Nat):Nat:=
 if (x.c i).J=2 then (x.c i).F.length else if x.E=2/\x.D.length≠0/\x.D.getD 0 0=(i:Int) then x.sub.toNat else 0
def R7(x:Hp):Prop:=
 uD x->∀i,i<x.A.length->¬(dH (x.c i)/\(x.c i).J=0/\(x.E=2\/(i:Int)<x.I))/\∀k,k<eZ x i->¬eQ x ((x.c i).p k).key/\¬eQ x ((x.c i).p k).val
def R8(x:Hp):Prop:=∀i,i<x.A.length->¬(x.E=6/\x.I<=i/\(x.c i).st=2)
def qU(x:Hp)(n:Int):Prop:=
 (¬R1 x/\n=1)\/(R1 x/\¬R2 x/\n=2)\/(R1 x/\R2 x/\¬R3 x/\n=3)\/(R1 x/\R2 x/\R3 x/\¬R4 x/\n=4)\/(R1 x/\R2 x/\R3 x/\R4 x/\¬R5 x/\n=5)\/
 (R1 x/\R2 x/\R3 x/\R4 x/\R5 x/\¬R6 x/\n=6)\/(R1 x/\R2 x/\R3 x/\R4 x/\R5 x/\R6 x/\¬R7 x/\n=7)\/(R1 x/\R2 x/\R3 x/\R4 x/\R5 x/\R6 x/\R7 x/\¬R8 x/\n=8)\/
 (R1 x/\R2 x/\R3 x/\R4 x/\R5 x/\R6 x/\R7 x/\R8 x/\n=0)
theorem qU.uniq{n m:Int}(h:qU x n)(k:qU x m):n=m:=by grind[qU,R2,R3,R4,R5,R6,R7,R8]
structure HAt(w:World)(b:Nat)(x:Hp)(ar:Option Addr)(kr:Nat)(ac:Option Addr)(kc:Nat)(ag:Option Addr)(kg:Nat):Prop where
 c0:w.cell? ⟨b,0,none⟩=some (iv x.M)
 c1:w.cell? ⟨b,1,none⟩=some (iv x.K)
 c2:w.cell? ⟨b,2,none⟩=some (iv x.born)
 c3:w.cell? ⟨b,3,none⟩=some (.slice ar x.B.length kr)
 c4:w.cell? ⟨b,4,none⟩=some (.slice ac x.A.length kc)
 c5:w.cell? ⟨b,5,none⟩=some (iv x.E)
 c6:w.cell? ⟨b,6,none⟩=some (iv x.I)
 c7:w.cell? ⟨b,7,none⟩=some (iv x.sub)
 c8:w.cell? ⟨b,8,none⟩=some (.slice ag x.D.length kg)
 c9:w.cell? ⟨b,9,none⟩=some (iv x.per)
 c10:w.cell? ⟨b,10,none⟩=some (iv x.V)
 c11:w.cell? ⟨b,11,none⟩=some (iv x.Q)
 c12:w.cell? ⟨b,12,none⟩=some (iv x.S)
 lr:x.B.length<=35184372088832
 lc:x.A.length<=35184372088832
 lg:x.D.length<=35184372088832
 R:∀i (hi:i<x.B.length),∃b' o,ar=some ⟨b',o,none⟩/\yD w b' (o+i*3) x.B[i]
 C:∀i,i<x.A.length->∃b' o,ac=some ⟨b',o,none⟩/\b9v w b' (o+i*8) (x.c i)
 G:∀i (hi:i<x.D.length),∃b' o,ag=some ⟨b',o,none⟩/\a8e w b' (o+i*1) x.D[i]
theorem HAt.ext(h:HAt w b x ar kr ac kc ag kg)(e:Ext w w'):HAt w' b x ar kr ac kc ag kg:=
 ⟨e.keep h.c0,e.keep h.c1,e.keep h.c2,e.keep h.c3,e.keep h.c4,e.keep h.c5,e.keep h.c6,e.keep h.c7,e.keep h.c8,e.keep h.c9,e.keep h.c10,e.keep h.c11,e.keep h.c12,h.lr,h.lc,h.lg,
  λi c=>let ⟨b',o,a,p⟩:=h.R i c;⟨b',o,a,p.ext e⟩,λi c=>let ⟨b',o,a,p⟩:=h.C i c;⟨b',o,a,p.ext e⟩,λi c=>let ⟨b',o,a,p⟩:=h.G i c;⟨b',o,a,p.ext e⟩⟩
structure CAt(w:World)(b o:Nat)(c:Cl)(ap:Option Addr)(kp:Nat):Prop where
 p0:w.cell? ⟨b,o,none⟩=some (iv c.st)
 p1:w.cell? ⟨b,o+1,none⟩=some (iv c.kind)
 p2:w.cell? ⟨b,o+2,none⟩=some (iv c.T)
 p3:w.cell? ⟨b,o+3,none⟩=some (iv c.U)
 p4:w.cell? ⟨b,o+4,none⟩=some (iv c.born)
 p5:w.cell? ⟨b,o+5,none⟩=some (iv c.J)
 p6:w.cell? ⟨b,o+6,none⟩=some (iv c.to)
 p7:w.cell? ⟨b,o+7,none⟩=some (.slice ap c.F.length kp)
 lp:c.F.length<=35184372088832
 P:∀k,k<c.F.length->∃b' o',ap=some ⟨b',o',none⟩/\qY w b' (o'+k*6) (c.p k)
theorem HAt.cell(h:HAt w b x ar kr ac kc ag kg)(i:Nat)(v:i<x.A.length):
  ∃b' o ap kp,ac=some (aA b' o)/\CAt w b' (o+i*8) (x.c i) ap kp:=by
 obtain⟨b',o,e,y,u,d,g,p,r,f,m,t,ap,kp,rfl,j,P⟩:=h.C i v;exact⟨b',o,ap,kp,e,u,d,g,p,r,f,m,t,j,λk a=>by have⟨n,l,s,q⟩:=P k a;rw[Cl.p_eq _ _ a]at q;exact⟨n,l,s,q⟩⟩
theorem CAt.ext{c:Cl}{ap:Option Addr}{kp:Nat}(h:CAt w b o c ap kp)(e:Ext w w'):CAt w' b o c ap kp:=
 ⟨e.keep h.p0,e.keep h.p1,e.keep h.p2,e.keep h.p3,e.keep h.p4,e.keep h.p5,e.keep h.p6,e.keep h.p7,h.lp,λk d=>let ⟨b',o',a,p⟩:=h.P k d;⟨b',o',a,p.ext e⟩⟩
theorem b7c(n b a:Int)(w:World)(d:b<=n)(c:n<=a):Calls prog 30 #[.int .i64 n,.int .i64 b,.int .i64 a] w λe w'=>e=.returned (.bool true)/\w'=w:=by
 go_in;go_wp2;go_ret;exact⟨rfl,rfl⟩
theorem c3t(n b a:Int)(w:World)(h:n<b\/a<n):Calls prog 30 #[.int .i64 n,.int .i64 b,.int .i64 a] w λe w'=>e=.returned (.bool false)/\w'=w:=by
 by_cases c:b<=n
 ·have d:a<n:=by omega
  go_in;go_wp2;go_ret;exact⟨by simp;omega,rfl⟩
 go_in;go_wp2;go_ret;exact⟨rfl,rfl⟩
def cH(n lo hi:Int):Bool:=decide (lo<=n/\n<=hi)
theorem a8p(n b a:Int)(w:World):Calls prog 30 #[.int .i64 n,.int .i64 b,.int .i64 a] w λe w'=>e=.returned (.bool (cH n b a))/\w'=w:=by grind[cH,b7c,c3t]
theorem l1in_in(n b a:Int)(w:World)(d:b<=n)(c:n<=a):Calls prog 113 #[.int .i64 n,.int .i64 b,.int .i64 a] w λe w'=>e=.returned (.bool true)/\w'=w:=by
 go_in;go_wp2;go_ret;exact⟨rfl,rfl⟩
theorem d0i(n b a:Int)(w:World)(h:n<b\/a<n):Calls prog 113 #[.int .i64 n,.int .i64 b,.int .i64 a] w λe w'=>e=.returned (.bool false)/\w'=w:=by
 by_cases c:b<=n
 ·have d:a<n:=by omega
  go_in;go_wp2;go_ret;exact⟨by simp;omega,rfl⟩
 go_in;go_wp2;go_ret;exact⟨rfl,rfl⟩
def qL(n lo hi:Int):Bool:=decide (lo<=n/\n<=hi)
theorem a9n(n b a:Int)(w:World):Calls prog 113 #[.int .i64 n,.int .i64 b,.int .i64 a] w λe w'=>e=.returned (.bool (qL n b a))/\w'=w:=by grind[qL,l1in_in,d0i]
theorem Ext.drewN{a:World}(h:Ext a w)(n:Nat):Ext a (w.drewN n):=below_drewN h n
theorem b3p(n b a:Int)(r:Bool)(h:qL n b a=r)(w:World):Calls prog 113 #[iv n,iv b,iv a] w λe w'=>e=.returned (.bool r)/\w'=w:=by grind[qL,a9n]
theorem d0j{P:Program}{f:FuncId}{args:Array Value}(h:Calls P f args (w.drewN (k+n)) λe w'=>e=.returned v/\w'=w.drewN (k+n)):
  Calls P f args (w.drewN (k+n)) λe w''=>e=.returned v/\∃m,w''=w.drewN (k+m):=h.mono λ_ _ ⟨a,b⟩=>⟨a,n,b⟩
theorem c3u{n lo hi:Int}(h:qL n lo hi=true):lo<=n/\n<=hi:=by simpa[qL]using h
theorem a7u(w:World)(z:Array Value)(m:Nat)(t:TypeId)(j:Nat)(b:j<m):yQ (w.alloc (.cells (madeCells z m) t)) w.heap.size j:=by
 have e:(w.alloc (.cells (madeCells z m) t)).heap[w.heap.size]?=some (.cells (madeCells z m) t):=by show(w.heap.push _)[w.heap.size]?=_;simp
 have a:=size_madeCells z m;refine⟨⟨(madeCells z m)[j]'(by omega),?_⟩,?_⟩;unfold World.cell?;rw[e];simp[a,b];unfold World.frozen?;rw[e];simp
theorem a1d{S:Nat->Prop}{g:Nat}(hg:S g):∀{vs:List Value} {a w1:World} {o:Nat},uZ S a w1->uZ S a (w1.setCells g o vs)
 | [],_,_,_,h=>h
 | _::r,_,_,_,h=>a1d hg (vs:=r) (h.setCell hg _)
theorem yH.mono2{α:Type}{p q:Nat->Nat->α->Prop}{sz:Nat}{xs:List α}(h:yH p sz v xs)(a:∀b o n c,v=sO b o n c->∀o' x,p b o' x->q b o' x):yH q sz v xs:=by grind[yH]
def Nf1(B:Nat)(w:World):Prop:=B<w.heap.size/\∀j,w.frozen? ⟨B,j,none⟩=false
theorem Nf1.ext(h:Nf1 B w)(e:Ext w w'):Nf1 B w':=⟨kF h.1 e.size,λj=>(cE e).2 B j h.1▸h.2 j⟩
theorem Nf1.set(h:Nf1 B w)(p:Addr)(u:Value):Nf1 B (w.setCell p u):=⟨by have:=h.1;simpa[World.setCell]using this,λj=>by rw[ki];exact h.2 j⟩
theorem Nf1.put{B g:Nat}:∀{vs:List Value} {w:World} {o:Nat},Nf1 B w->Nf1 B (w.setCells g o vs)
 | [],_,_,h=>h
 | _::r,_,_,h=>Nf1.put (vs:=r) (h.set _ _)
theorem Nf1.made(w:World)(z:Array Value)(m:Nat)(t:TypeId):Nf1 w.heap.size (w.alloc (.cells (madeCells z m) t)):=by
 refine⟨by simp,λj=>?_⟩;have e:(w.alloc (.cells (madeCells z m) t)).heap[w.heap.size]?=some (.cells (madeCells z m) t):=by show(w.heap.push _)[w.heap.size]?=_;simp
 unfold World.frozen?;rw[e];simp
theorem d0k(h:uZ S w w'){xs:List Pr}(d:∀b o n c,v=sO b o n c->¬S b)(f:SlP w v xs):SlP w' v xs:=
 yH.mono2 f λb o n c e _ _ a=>⟨h.keep (d b o n c e) a.1,h.keep (d b o n c e) a.2.1,h.keep (d b o n c e) a.2.2.1,h.keep (d b o n c e) a.2.2.2.1,h.keep (d b o n c e) a.2.2.2.2.1,h.keep (d b o n c e) a.2.2.2.2.2⟩
theorem b0z:(prog.info? 48).map (λi=>(i.zero,i.size,i.bytes))=some (some (.agg #[iv 0,iv 0,iv 0]),3,24):=by kernel_rfl
theorem a2n:(prog.info? 53).map (λi=>(i.zero,i.size,i.bytes))=some (some (.agg #[iv 0,iv 0,iv 0,iv 0,iv 0,iv 0]),6,48):=by kernel_rfl
theorem a6h:(prog.info? 3).map (λi=>(i.zero,i.size,i.bytes))=some (some (iv 0),1,8):=by kernel_rfl
theorem mkInts(n:Nat)(f:n<=1048576)(w:World):∃z,(Instr.makeSlice 25 (iv n) (iv n)).run prog w=.ok (sS w.heap.size n n) (w.alloc (.cells (madeCells z (n*1)) 3)):=by
 have⟨e,d,a,c,b⟩:=info_parts a6h;have h:=run_make (P:=prog) w 25 3 e _ underlying25 d a .i64 .i64 n n (by omega) (nB _) (by rw[b];omega) (by omega);rw[c]at h;simp only[Int.toNat_natCast]at h;exact⟨_,h⟩
theorem a7v:(prog.info? 51).map (λi=>(i.zero,i.size,i.bytes))=some (some (.agg #[iv 0,iv 0,iv 0,iv 0,iv 0,iv 0,iv 0,.slice none 0 0]),8,80):=by kernel_rfl
theorem mkCells(n:Nat)(f:n<=1048576)(w:World):∃z,(Instr.makeSlice 24 (iv n) (iv n)).run prog w=.ok (sS w.heap.size n n) (w.alloc (.cells (madeCells z (n*8)) 51)):=by
 have⟨e,d,a,c,b⟩:=info_parts a7v;have h:=run_make (P:=prog) w 24 51 e _ underlying24 d a .i64 .i64 n n (by omega) (nB _) (by rw[b];omega) (by omega);rw[c]at h;simp only[Int.toNat_natCast]at h;exact⟨_,h⟩
theorem uN{e size:Nat}(h:w.ownsRow base e size v n xs)(j:∀k,v.ownBlock=some k->w'.heap[k]?=w.heap[k]?):w'.ownsRow base e size v n xs:=by
 refine⟨h.1,?_⟩;obtain d|⟨g,a,b,rfl,i,f,c⟩:=h.2;exact .inl d;exact .inr ⟨g,a,b,rfl,i,(j g rfl).trans f,c⟩
abbrev oHp (x : Hp) (a b c : Value) : Obj := .cells #[iv x.M, iv x.K, iv x.born, a, b, iv x.E, iv x.I, iv x.sub, c, iv x.per, iv x.V, iv x.Q, iv x.S] 27
abbrev oH0 : Obj := .cells #[iv 0, iv 0, iv 0, .slice none 0 0, .slice none 0 0, iv 0, iv 0, iv 0, .slice none 0 0, iv 0, iv 0, iv 0, iv 0] 27
abbrev oCl (c : Cl) (v : Value) : Obj := .cells #[iv c.st, iv c.kind, iv c.T, iv c.U, iv c.born, iv c.J, iv c.to, v] 51
abbrev oPr (p : Pr) : Obj := .cells #[iv p.key.k, iv p.key.n, iv p.key.a, iv p.val.k, iv p.val.n, iv p.val.a] 53
abbrev oWd (y : Wd) : Obj := .cells #[iv y.k, iv y.n, iv y.a] 48
theorem cOb  (b o : Nat) (h : w'.heap[b]? = w.heap[b]?) : w'.cell? ⟨b, o, none⟩ = w.cell? ⟨b, o, none⟩ := kT h
theorem fOb  (b o : Nat) (h : w'.heap[b]? = w.heap[b]?) : w'.frozen? ⟨b, o, none⟩ = w.frozen? ⟨b, o, none⟩ := mR h
theorem Ext.sc {a:World} (h : Ext a w) (b k : Nat) (o : a.heap.size <= b) (v : Value) : Ext a (w.setCell ⟨b, k, none⟩ v) := h.setCell (p := ⟨b, k, none⟩) o v
theorem uZ.sc {S : Nat -> Prop} {a:World} (h : uZ S a w) (b k : Nat) (o : S b) (v : Value) : uZ S a (w.setCell ⟨b, k, none⟩ v) := h.setCell (p := ⟨b, k, none⟩) o v
theorem tJ (w : World) (b k : Nat) (v : Value) : uZ (λq => q = b) w (w.setCell ⟨b, k, none⟩ v) := uZ.sc (S := λq => q = b) (uZ.refl _ w) b k rfl v
theorem eDr (w : World) : Ext w w.drew := (hO w).drew
theorem eAl (w : World) (o : Obj) : Ext w (w.alloc o) := (hO w).alloc o
theorem a9o{α:Type}(f:α->List Value)(c:Nat)(hc:∀a,(f a).length=c):∀(l:List α)(i j:Nat)(hi:i<l.length),j<c->(l.flatMap f)[i*c+j]?=(f l[i])[j]?
 | a::l,0,j,_,hj=>by simp only[List.flatMap_cons,Nat.zero_mul,Nat.zero_add,List.getElem_cons_zero];exact ms (by rw[hc];exact hj)
 | a::l,i+1,j,hi,hj=>by
  simp only[List.flatMap_cons,List.getElem_cons_succ];rw[nZ (by rw[hc,Nat.succ_mul];omega),hc,show(i+1)*c+j-c=i*c+j by rw[Nat.succ_mul];omega];exact a9o f c hc l i j (by simpa using hi) hj
theorem b1a{c:Nat}{α:Type}{f:α->List Value}(k:∀a,(f a).length=c){L:List α}(h:w.ownsRow base t c v L.length (L.flatMap f)):∃ad cap,v=.slice ad L.length cap/\(0<L.length->∃g,ad=some (aA g 0))/\∀i (d:i<L.length),∃g,ad=some (aA g 0)/\base<=g/\g<w.heap.size/\∀j,j<c->w.cell? (aA g (0+i*c+j))=(f L[i])[j]?:=by
 obtain⟨h0,h1⟩|⟨g,cap,cur,h0,hb,hg,hr⟩:=h.2;grind;subst h0;refine⟨_,cap,rfl,λ_=>⟨g,rfl⟩,λi d=>⟨g,rfl,(h.lt g rfl).1,(h.lt g rfl).2,λj e=>?_⟩⟩;have b:i*c+j<L.length*c:=by
  have:(i+1)*c<=L.length*c:=Nat.mul_le_mul_right c (by omega);rw[Nat.succ_mul]at this;omega
 rw[kO,nR h (i*c+j) b];exact a9o f c k L i j d e
theorem a4r{a:World}{c:Nat}(f:Ext a W)(d:W.ownsRow base t c v n xs)(h:a.heap.size<=base)(b:W.grownBy w5 v.ownBlock):Ext a w5:=
 mV f ⟨b.os,b.tape,b.output,b.size,λk g=>b.block k (kF g f.size) (λe=>by have:=(d.lt k e.symm).1;omega)⟩
theorem b3u{w3:World}{c n':Nat}{ys:List Value}{bg:Nat}(s:bg<base)(r:Ext w3 W)(j:W.ownsRow base T c v n xs)(p:w3.heap.size<=bg)(h:bg<W.heap.size)(g:W.grownBy w5 v.ownBlock)(i:w5.ownsRow base T c v' n' ys):
  (w5.setCell (aA bg o) u).ownsRow base T c v' n' ys/\Ext w3 (w5.setCell (aA bg o) u)/\(∀o',o'≠o->(w5.setCell (aA bg o) u).cell? (aA bg o')=W.cell? (aA bg o'))/\(∀o',(w5.setCell (aA bg o) u).frozen? (aA bg o')=W.frozen? (aA bg o'))/\(∀y,W.cell? (aA bg o)=some y->(w5.setCell (aA bg o) u).cell? (aA bg o)=some u)/\(∀q,q<W.heap.size->q≠bg->v.ownBlock≠some q->(w5.setCell (aA bg o) u).heap[q]?=W.heap[q]?):=by
 have b:w5.heap[bg]?=W.heap[bg]?:=g.block bg h (λe=>by have:=(j.lt bg e.symm).1;omega);refine⟨uN i (λq d=>kP _ _ _ _ (λe=>by have:=(i.lt q d).1;simp only at e;omega)),(a4r r j (by omega) g).setCell p u,λo' m=>?_,λo'=>?_,λy k=>?_,λq d f l=>?_⟩;rw[uC _ (.inr (λe=>m e.symm))];exact cOb bg o' b;rw[ki];exact fOb bg o' b;exact kM _ _ _ ((cOb bg o b).trans k);exact(kP _ _ _ _ f).trans (g.block q d (λe=>l e.symm))
theorem a3q{b':Nat}{c:Nat}(h:w.ownsRow b T c v n xs)(a:b'<=b):w.ownsRow b' T c v n xs:=
 ⟨h.1,h.2.imp id (λ⟨g,cap,cur,hv,hg,r⟩=>⟨g,cap,cur,hv,kA a hg,r⟩)⟩
theorem a3r{α:Type}(f:α->List Value)(c:Nat)(b:∀a,(f a).length=c)(L:List α):(L.flatMap f).length=L.length*c:=by
 induction L with
 | nil=>simp
 | cons a L ih=>simp[ih,b,Nat.succ_mul];omega
theorem b9w{α:Type}(f:α->List Value)(h:∀a u,u∈f a->u.oneCell'=true)(L:List α):∀u,u∈L.flatMap f->u.oneCell'=true:=by grind
theorem b3v(b o j:Nat):((aA b o):Addr).add j=(aA b (o+j)):=by unfold Addr.add;split <;> simp_all
theorem b1b{α:Type}(f:α->List Value)(c:Nat)(k:0<c)(n:∀a,(f a).length=c)(L:List α)(b o:Nat)(h:∀i (p:i<L.length),∀j,j<c->w.cell? (aA b (o+i*c+j))=(f L[i])[j]?):∀j u,(L.flatMap f)[j]?=some u->w.cell? (((aA b o):Addr).add j)=some u:=λj u m=>by
 have l:j<L.length*c:=by grind[a3r]
 have g:j / c<L.length:=(Nat.div_lt_iff_lt_mul k).2 l;have d:j % c<c:=mT _ k;have e:j / c*c+j % c=j:=Nat.div_add_mod' j c;rw[b3v,<-m];have:=h (j / c) g (j % c) d;rw[Nat.add_assoc,e]at this;rw[this,<-a9o f c n L (j / c) (j % c) g d,e]
def it(L:List Int)(i:Nat):Int:=L.getD i 0
theorem b2m(L:List Int)(i:Nat)(h:i<L.length):L[i]=it L i:=by simp[it,h]
def swp(L:List Int)(i j:Nat):List Int:=(L.set i (it L j)).set j (it L i)
theorem a1s(L:List Int)(i j:Nat):(swp L i j).length=L.length:=by simp[swp]
theorem a8q(L:List Int)(i j k:Nat)(a:i<L.length)(b:j<L.length):it (swp L i j) k=if k=j then it L i else if k=i then it L j else it L k:=by grind[it,swp]
theorem a9p(L:List Int)(i j:Nat)(a:i<L.length)(b:j<L.length):(swp L i j).Perm L:=by grind[swp,b2m]
def Ho(L:List Int):Prop:=∀i,0<i->i<L.length->it L ((i-1) / 2)<=it L i
theorem Ho.root{L:List Int}(h:Ho L):∀i,i<L.length->it L 0<=it L i:=by
 intro i;induction i using Nat.strongRecOn with
 | ind i ih=>
  intro a;by_cases b:i=0;grind[Ho,it];grind[Ho,it]
theorem a3s(L:List Int)(i:Nat)(h:i<L.length):it L i∈L:=by grind[it,b2m]
theorem Ho.least(h:Ho L){x:Int}(b:x∈L):it L 0<=x:=by
 have⟨i,a,e⟩:=mQ b;rw[<-e,b2m L i a];exact h.root i a
theorem Ho.nil:Ho []:=λi _ h=>by simp at h
def kV(L:List Int)(a:Nat):Prop:=
 (∀i,0<i->i<L.length->i≠a->it L ((i-1) / 2)<=it L i)/\(∀i,0<i->i<L.length->(i-1) / 2=a->0<a->it L ((a-1) / 2)<=it L i)
theorem c7f(L:List Int)(x:Int)(i:Nat):it (L++[x]) i=if i<L.length then it L i else if i=L.length then x else 0:=by grind[it]
theorem kV.V(h:Ho L)(x:Int):kV (L++[x]) L.length:=by grind[kV,Ho,c7f]
theorem kV.top(h:kV L 0):Ho L:=by grind[kV,Ho]
theorem kV.done(h:kV L a)(b:it L ((a-1) / 2)<=it L a):Ho L:=by grind[kV,it,Ho]
theorem kV.up{u:Nat}(h:kV L a)(m:0<a)(k:a<L.length)(l:u=(a-1) / 2)(j:it L a<it L u):kV (swp L u a) u:=by
 have c:u<L.length:=by omega
 exact⟨λi d b e=>by grind[a1s,a8q,kV,it,swp],λi d b f g=>by grind[a1s,a8q,kV,it,swp]⟩
def a6d(L:List Int)(a:Nat):Prop:=
 (∀i,0<i->i<L.length->(i-1) / 2≠a->it L ((i-1) / 2)<=it L i)/\(∀i,0<i->i<L.length->(i-1) / 2=a->0<a->it L ((a-1) / 2)<=it L i)
theorem a6d.bottom(h:a6d L a)(b:L.length<=2*a+1):Ho L:=by grind[a6d,Ho]
def a1o(L:List Int)(a s:Nat):Prop:=(s=2*a+1\/s=2*a+2)/\s<L.length/\(∀i,0<i->i<L.length->(i-1) / 2=a->it L s<=it L i)
theorem a1o.right(h:2*a+2<L.length)(b:it L (2*a+2)<it L (2*a+1)):a1o L a (2*a+2):=by grind[a1o,it]
theorem a1o.left(h:2*a+1<L.length)(b:2*a+2<L.length->it L (2*a+1)<=it L (2*a+2)):a1o L a (2*a+1):=by grind[a1o,it]
theorem a6d.done(h:a6d L a)(c:a1o L a s)(b:it L a<=it L s):Ho L:=by grind[a6d,kV.done,a1o,it,Ho]
theorem a6d.down(h:a6d L a)(p:a1o L a s)(r:it L s<it L a):a6d (swp L a s) s:=by
 have⟨m,b,g⟩:=p;have c:a<L.length:=by omega
 refine⟨λi e d j=>?_,λi e d o q=>?_⟩;all_goals
  rw[a1s]at d;rw[a8q L a s _ c b,a8q L a s _ c b]
 rw[if_neg j];by_cases l:i=s
 ·grind[a6d,a1o,it,swp]
 rw[if_neg l];by_cases f:(i-1) / 2=a
 ·rw[if_pos f,if_neg (by omega)];exact g i e d f
 rw[if_neg f];by_cases k:i=a
 ·subst k;rw[if_pos rfl];exact h.2 s (by omega) b (by omega) e
 rw[if_neg k];exact h.1 i e d f;have n:(s-1) / 2=a:=by omega
 rw[n,if_neg (by omega),if_pos rfl,if_neg (by omega),if_neg (by omega)];have:=h.1 i e d (by omega);rw[o]at this;exact this
def b8j(L:List Int):List Int:=(swp L 0 (L.length-1)).take (L.length-1)
theorem d0m(L:List Int):(b8j L).length=L.length-1:=by simp[b8j,a1s]
theorem c5z(L:List Int)(n i:Nat)(h:i<n):it (L.take n) i=it L i:=by simp[it,h]
theorem c7g(L:List Int)(h:0<L.length):(it L 0::b8j L).Perm L:=by
 have b:=a9p L 0 (L.length-1) h (by omega);have c:swp L 0 (L.length-1)=b8j L++[it L 0]:=by
  have a:=List.take_append_getElem (l:=swp L 0 (L.length-1)) (i:=L.length-1) (by rw[a1s];omega);rw[b2m,a8q L 0 _ _ h (by omega),if_pos rfl]at a;have:L.length-1+1=(swp L 0 (L.length-1)).length:=by rw[a1s];omega
  rw[this,mG]at a;exact a.symm
 rw[c]at b;exact(nP _ _).symm.trans b
theorem a6d.V(h:Ho L):a6d (b8j L) 0:=by
 refine⟨λi c b a=>?_,λi c b d e=>by omega⟩;rw[d0m]at b;unfold b8j;rw[c5z _ _ _ (by omega),c5z _ _ _ (by omega),a8q L 0 _ _ (by omega) (by omega),a8q L 0 _ _ (by omega) (by omega),if_neg (by omega),if_neg a,if_neg (by omega),if_neg (by omega)];exact h i c (by omega)
theorem b3w{x:Int}(hp:(x::M).Perm L)(hL:Ho L)(hx:x=it L 0)(hM:Ho M)(hm:M=[]\/it M 0≠x):L.Nodup↔M.Nodup:=by
 rw[<-hp.nodup_iff,List.nodup_cons];refine⟨λh=>h.2,λh=>⟨λhmem=>?_,h⟩⟩;obtain e|e:=hm;rw[e]at hmem;cases hmem;have h1:=hM.least hmem;have hne:M≠[]:=List.ne_nil_of_mem hmem;have h2:it M 0∈M:=a3s M 0 (by cases M with|nil=>exact(hne rfl).elim|cons _ _=>simp);have h3:=hL.least (hp.mem_iff.1 (mm _ h2));omega
theorem b9x{x:Int}(b:(x::M).Perm L)(a:0<M.length)(e:it M 0=x):¬L.Nodup:=by grind[it,a3s]
theorem obE {α : Type} (a : α) : ∃ b, b = a := ⟨_, rfl⟩
theorem i0N (j : Nat) : (0 : Int) <= (j : Int) := by omega
theorem fNo {R : Prop} (d : ¬ R) : (false = true ↔ R) := ⟨λf => by simp at f, λr => (d r).elim⟩
theorem cLt    (h : w.cell? ⟨b, o, none⟩ = some v) : b < w.heap.size := uQ h
theorem swap_ne(w:World)(d b g a n cap i j:Nat)(f c:Int)(u:w.cell? (aA d b)=some (sO g a n cap))(p:w.cell? (aA g (a+i))=some (iv f))(s:w.cell? (aA g (a+j))=some (iv c))(r:w.frozen? (aA g (a+i))=false)(t:w.frozen? (aA g (a+j))=false)(q:i<n)(v:j<n)(o:i≠j):
  Calls prog 151 #[pQ d b,iv i,iv j] w λe w'=>e=.returned (.tuple #[])/\w'.heap=((w.setCell (aA g (a+i)) (iv c)).setCell (aA g (a+j)) (iv f)).heap/\w'.os=w.os/\w'.tape=w.tape/\w'.output=w.output:=by
 have l:=i0N i;have m:(i:Int)<(n:Int):=by omega
 have k:=i0N j;have h:(j:Int)<(n:Int):=by omega
 go_in;go_wp2;go_region;all_goals go_end0
 all_goals exact⟨rfl,rfl,rfl,rfl,rfl⟩
theorem swap_eq(w:World)(c d g a n cap i:Nat)(b:Int)(j:w.cell? (aA c d)=some (sO g a n cap))(k:w.cell? (aA g (a+i))=some (iv b))(m:w.frozen? (aA g (a+i))=false)(l:i<n):
  Calls prog 151 #[pQ c d,iv i,iv i] w λe w'=>e=.returned (.tuple #[])/\w'.heap=((w.setCell (aA g (a+i)) (iv b)).setCell (aA g (a+i)) (iv b)).heap/\w'.os=w.os/\w'.tape=w.tape/\w'.output=w.output:=by
 have f:=i0N i;have h:(i:Int)<(n:Int):=by omega
 go_in;go_wp2;go_region;all_goals go_end0
 all_goals exact⟨rfl,rfl,rfl,rfl,rfl⟩
theorem a5e(w:World)(a b:Nat)(ad:Option Addr)(cap:Nat)(c:w.cell? (aA a b)=some (.slice ad 0 cap)):
  Calls prog 206 #[pQ a b] w λe w'=>e=.returned (.tuple #[iv 0,.bool false])/\w'=w:=by
 go_in;go_wp2;go_ret2;exact⟨rfl,rfl⟩
theorem a2o(w:World)(b c g d n cap:Nat)(a:Int)(i:0<n)(h:w.cell? (aA b c)=some (sO g d n cap))(j:w.cell? (aA g d)=some (iv a)):
  Calls prog 206 #[pQ b c] w λe w'=>e=.returned (.tuple #[iv a,.bool true])/\w'=w:=by
 have f:((n:Int) == 0)=false:=beq_eq_false_iff_ne.2 (by omega);go_in;go_wp2;go_ret2;exact⟨rfl,rfl⟩
structure eX(w:World)(base bq oq:Nat)(v:Value)(L:List Int):Prop where
 hd:w.cell? ⟨bq,oq,none⟩=some v
 hf:w.frozen? ⟨bq,oq,none⟩=false
 own:w.ownsRow base 3 1 v L.length (L.map iv)
 apart:v.ownBlock≠some bq
structure QFr(bq oq:Nat)(v v':Value)(w w':World):Prop where
 os:w'.os=w.os
 tape:w'.tape=w.tape
 output:w'.output=w.output
 size:w.heap.size<=w'.heap.size
 block:∀k,k<w.heap.size->k≠bq->v.ownBlock≠some k->w'.heap[k]?=w.heap[k]?
 hdr:∀o,o≠oq->w'.cell? ⟨bq,o,none⟩=w.cell? ⟨bq,o,none⟩
 hfr:∀o,w'.frozen? ⟨bq,o,none⟩=w.frozen? ⟨bq,o,none⟩
 own:v'.ownBlock=v.ownBlock\/∃g,v'.ownBlock=some g/\w.heap.size<=g
theorem QFr.refl(b a:Nat)(v:Value)(w:World):QFr b a v v w w:=⟨rfl,rfl,rfl,hT _,λ_ _ _ _=>rfl,λ_ _=>rfl,λ_=>rfl,.inl rfl⟩
theorem QFr.trans{v1:Value}(h:QFr bq oq v v1 w w1)(k:QFr bq oq v1 v2 w1 w2):QFr bq oq v v2 w w2:=
 ⟨k.os.trans h.os,k.tape.trans h.tape,k.output.trans h.output,kA h.size k.size,
  λi c b j=>(k.block i (kF c h.size) b (λe=>by
   obtain a|⟨g,a,d⟩:=h.own;grind;rw[a]at e;cases e;omega)).trans (h.block i c b j),
  λo f=>(k.hdr o f).trans (h.hdr o f),λo=>(k.hfr o).trans (h.hfr o),by
   obtain a|⟨g,a,d⟩:=k.own;obtain l|⟨g,l,m⟩:=h.own
   ·grind
   grind;exact .inr ⟨g,a,kA h.size d⟩⟩
theorem QFr.ext{a:World}(h:QFr bq oq v v' w w')(e:Ext a w)(d:a.heap.size<=bq)(c:∀k,v.ownBlock=some k->a.heap.size<=k):Ext a w':=
 mV e ⟨h.os,h.tape,h.output,h.size,λk b=>h.block k (kF b e.size) (by omega) (λq=>by have:=c k q;omega)⟩
theorem QFr.drewN(h:QFr bq oq v v' w w')(n:Nat):QFr bq oq v v' w (w'.drewN n):=⟨h.os,h.tape,h.output,h.size,h.block,h.hdr,h.hfr,h.own⟩
theorem QFr.A(h:QFr bq oq v v' w w')(c:w.cell? (aA b o)=some u)(d:b≠bq)(e:v.ownBlock≠some b):w'.cell? (aA b o)=some u:=
 (kT (w:=w) (w':=w') (a:=(aA b o)) (h.block b (uQ c) d e)).trans c
theorem eX.hlt(h:eX w base bq oq v L):bq<w.heap.size:=uQ h.hd
theorem eX.rlt(h:eX w base bq oq v L):∀k,v.ownBlock=some k->base<=k/\k<w.heap.size:=h.own.lt
theorem eX.ext(h:eX w base bq oq v L)(e:Ext w w'):eX w' base bq oq v L:=
 ⟨e.keep h.hd,(e.frozen (p:=(aA bq oq)) h.hlt)▸h.hf,uN h.own (λk a=>e.block k (h.rlt k a).2),h.apart⟩
theorem eX.other{b2 o2:Nat}(h:eX w base b2 o2 v2 L)(q:QFr bq oq v v' w w')(g:b2≠bq)(i:v.ownBlock≠some b2)(f:v2.ownBlock≠some bq)(d:∀k,v2.ownBlock=some k->v.ownBlock≠some k):eX w' base b2 o2 v2 L:=by
 have b:w'.heap[b2]?=w.heap[b2]?:=q.block b2 h.hlt g i;refine⟨(kT (w:=w) (w':=w') (a:=(aA b2 o2)) b).trans h.hd,(mR (w:=w) (w':=w') (a:=(aA b2 o2)) b).trans h.hf,uN h.own (λk c=>q.block k (h.rlt k c).2 (λe=>f (e ▸ c)) (d k c)),h.apart⟩
theorem eX.nil(b:w.cell? (aA bq oq)=some (.slice none 0 0))(a:w.frozen? (aA bq oq)=false):eX w base bq oq (.slice none 0 0) []:=
 ⟨b,a,mB _ _ _ _,by simp[Value.ownBlock]⟩
theorem eX.form(h:eX w base bq oq v L)(a:0<L.length):∃g cap,v=sS g L.length cap/\g≠bq:=by
 obtain⟨g,cap,rfl,_,_⟩:=h.own.form a;exact⟨g,cap,rfl,λe=>h.apart (by rw[<-e];rfl)⟩
theorem eX.empty(h:eX w base bq oq v L)(a:L.length=0):∃ad cap,v=.slice ad 0 cap:=by
 obtain⟨h1,_⟩|⟨g,cap,cur,h1,_⟩:=h.own.2;grind;grind
theorem eX.cell(h:eX w base bq oq (sS g n cap) L)(i:Nat)(b:i<L.length):w.cell? (aA g i)=some (iv (it L i)):=by
 have⟨c,a⟩:=h.own;obtain⟨h0,_⟩|⟨g',cap',cur,h0,hb,hg,hr⟩:=a
 cases h0
 cases h0;have:=nR (w:=w) (base:=base) (e:=3) (size:=1) (g:=g) (n:=L.length) (cap:=cap) (xs:=L.map iv) h.own i (by omega);rw[this];simp[it,b]
theorem eX.froz(h:eX w base bq oq (sS g n cap) L)(i:Nat):w.frozen? (aA g i)=false:=by
 have⟨b,a⟩:=h.own;obtain⟨h0,_⟩|⟨g',cap',cur,h0,hb,hg,hr⟩:=a
 cases h0
 cases h0;exact nN (w:=w) (base:=base) (e:=3) (size:=1) (g:=g) (n:=L.length) (cap:=cap) (xs:=L.map iv) h.own i
theorem eX.len(h:eX w base bq oq (sS g n cap) L):n=L.length/\n<=cap:=by
 obtain⟨h0,_⟩|⟨g',cap',cur,h0,hb,hg,hr,_⟩:=h.own.2
 cases h0
 grind
theorem eX.store(h:eX w base bq oq (sS g n cap) L)(i:Nat)(x:Int):
  eX (w.setCell (aA g i) (iv x)) base bq oq (sS g n cap) (L.set i x)/\QFr bq oq (sS g n cap) (sS g n cap) w (w.setCell (aA g i) (iv x)):=by
 have a:g≠bq:=λe=>h.apart (by rw[<-e];rfl)
 have⟨j,l⟩:=h.len;subst j;have⟨d,b⟩:=World.ownsRow.stored h.own i (iv x);exact⟨⟨by rw[uC _ (.inl a)];exact h.hd,by rw[ki];exact h.hf,by rw[List.length_set,List.map_set];exact d,h.apart⟩,⟨rfl,rfl,rfl,b.size,λk c m f=>b.block k c (λe=>f e.symm),λo p=>uC _ (.inl a),λo=>by rw[ki],.inl rfl⟩⟩
theorem eX.swap(h:eX w base bq oq (sS g n cap) L)(i j:Nat)
  (d:w'.heap=((w.setCell (aA g i) (iv (it L j))).setCell (aA g j) (iv (it L i))).heap) (s:w'.os=w.os) (r:w'.tape=w.tape) (t:w'.output=w.output) :
  eX w' base bq oq (sS g n cap) (swp L i j)/\QFr bq oq (sS g n cap) (sS g n cap) w w':=by
 have⟨f,l⟩:=h.store i (it L j);have⟨c,p⟩:=f.store j (it L i);have q:=l.trans p;have b:∀k:Nat,w'.heap[k]?=((w.setCell (aA g i) (iv (it L j))).setCell (aA g j) (iv (it L i))).heap[k]?:=λk=>by rw[d]
 refine⟨⟨(cOb bq oq (b bq)).trans c.hd,(fOb bq oq (b bq)).trans c.hf,uN c.own (λk _=>b k),h.apart⟩,
  ⟨s,r,t,d▸q.size,λk e x y=>(b k).trans (q.block k e x y),λo m=>(cOb bq o (b bq)).trans (q.hdr o m),λo=>(fOb bq o (b bq)).trans (q.hfr o),.inl rfl⟩⟩
theorem c6a(w:World)(base b c g n cap i j:Nat)(L:List Int)(h:eX w base b c (sS g n cap) L)(l:i<n)(m:j<n):
  Calls prog 151 #[pQ b c,iv i,iv j] w λe w'=>e=.returned (.tuple #[])/\eX w' base b c (sS g n cap) (swp L i j)/\QFr b c (sS g n cap) (sS g n cap) w w':=by
 have o:=h.len.1;by_cases e:i=j
 ·subst e;refine Calls.mono (swap_eq w b c g 0 n cap i (it L i) h.hd (by simpa using h.cell i (by omega)) (by simpa using h.froz i) l) ?_;intro e w' ⟨r,f,k,d,a⟩;exact⟨r,h.swap i i (by rw[f];simp) k d a⟩
 refine Calls.mono (swap_ne w b c g 0 n cap i j (it L i) (it L j) h.hd (by simpa using h.cell i (by omega)) (by simpa using h.cell j (by omega)) (by simpa using h.froz i) (by simpa using h.froz j) l m e) ?_;intro e w' ⟨r,f,k,d,a⟩;exact⟨r,h.swap i j (by rw[f];simp) k d a⟩
def fW(y:Wd):List Value:=[iv y.k,iv y.n,iv y.a]
def fP(p:Pr):List Value:=[iv p.key.k,iv p.key.n,iv p.key.a,iv p.val.k,iv p.val.n,iv p.val.a]
def fC(z:Cl×Value):List Value:=[iv z.1.st,iv z.1.kind,iv z.1.T,iv z.1.U,iv z.1.born,iv z.1.J,iv z.1.to,z.2]
def S7(w:World)(b o:Nat)(c:Cl):Prop:=
 w.cell? ⟨b,o,none⟩=some (iv c.st)/\w.cell? ⟨b,o+1,none⟩=some (iv c.kind)/\w.cell? ⟨b,o+2,none⟩=some (iv c.T)/\w.cell? ⟨b,o+3,none⟩=some (iv c.U)/\w.cell? ⟨b,o+4,none⟩=some (iv c.born)/\w.cell? ⟨b,o+5,none⟩=some (iv c.J)/\w.cell? ⟨b,o+6,none⟩=some (iv c.to)
theorem S7.of{c:Cl}(h:S7 w b o c)(e:∀j,j<7->w'.cell? (aA b (o+j))=w.cell? (aA b (o+j))):S7 w' b o c:=by
 have⟨f,g,i,a,l,d,k⟩:=h;exact⟨(e 0 (by omega)).trans f,(e 1 (by omega)).trans g,(e 2 (by omega)).trans i,(e 3 (by omega)).trans a,(e 4 (by omega)).trans l,(e 5 (by omega)).trans d,(e 6 (by omega)).trans k⟩
theorem qY.of{p:Pr}(h:qY w b o p)(e:∀j,j<6->w'.cell? (aA b (o+j))=w.cell? (aA b (o+j))):qY w' b o p:=by
 have⟨d,f,g,a,i,c⟩:=h;exact⟨(e 0 (by omega)).trans d,(e 1 (by omega)).trans f,(e 2 (by omega)).trans g,(e 3 (by omega)).trans a,(e 4 (by omega)).trans i,(e 5 (by omega)).trans c⟩
theorem yD.of(h:yD w b o y)(e:∀j,j<3->w'.cell? (aA b (o+j))=w.cell? (aA b (o+j))):yD w' b o y:=by
 have⟨d,a,c⟩:=h;exact⟨(e 0 (by omega)).trans d,(e 1 (by omega)).trans a,(e 2 (by omega)).trans c⟩
structure Nfp(b k:Nat)(w:World):Prop where
 lt:b<w.heap.size
 nf:∀j,w.frozen? ⟨b,j,none⟩=false
 cp:∀j,j<k*6->∃v,w.cell? ⟨b,j,none⟩=some v
theorem Nfp.n1(h:Nfp b k w):Nf1 b w:=⟨h.1,h.2⟩
theorem eN(h:Nfp b k w)(c:w'.heap[b]?=w.heap[b]?)(e:w.heap.size<=w'.heap.size):Nfp b k w':=
 ⟨kF h.1 e,λj=>(fOb b j c).trans (h.2 j),λj d=>let ⟨v,hv⟩:=h.3 j d;⟨v,(cOb b j c).trans hv⟩⟩
theorem Nfp.ext(h:Nfp b k w)(e:Ext w w'):Nfp b k w':=eN h (e.block b h.1) e.size
theorem Nfp.set(h:Nfp b k w)(p:Addr)(u:Value):Nfp b k (w.setCell p u):=⟨(h.n1.set p u).1,(h.n1.set p u).2,λj a=>let ⟨_,hv⟩:=h.3 j a;cell?_setCell_some hv⟩
theorem Nfp.put{b k g:Nat}:∀{vs:List Value} {w:World} {o:Nat},Nfp b k w->Nfp b k (w.setCells g o vs)
 | [],_,_,h=>h
 | _::r,_,_,h=>Nfp.put (vs:=r) (h.set _ _)
theorem b9y{c:Nat}{p:Pr}(h:Nfp b c w)(n:Nf1 b w')(q:qY w' b (k*6) p)(o:∀j,(j<k*6\/k*6+6<=j)->w'.cell? (aA b j)=w.cell? (aA b j)):Nfp b c w':=
 ⟨n.1,n.2,λj f=>by
  by_cases e:j<k*6\/k*6+6<=j;rw[o j e];exact h.3 j f;have⟨m,l,d,a,g,i⟩:=q;have:j=k*6\/j=k*6+1\/j=k*6+2\/j=k*6+3\/j=k*6+4\/j=k*6+5:=by omega
  obtain rfl|rfl|rfl|rfl|rfl|rfl:=this;exact⟨_,m⟩;exact⟨_,l⟩;exact⟨_,d⟩;exact⟨_,a⟩;exact⟨_,g⟩;exact⟨_,i⟩⟩
structure Rws(B:Nat)(w:World)(x:Hp)(br bc:Nat)(pb:Nat->Nat)(pa:Nat->Option Addr)(pk:Nat->Nat):Prop where
 r:∀i (hi:i<x.B.length),yD w br (i*3) x.B[i]
 s:∀q,q<x.A.length->S7 w bc (q*8) (x.c q)
 p7:∀q,q<x.A.length->w.cell? ⟨bc,q*8+7,none⟩=some (.slice (pa q) (x.c q).F.length (pk q))
 p:∀q,q<x.A.length->∀k,k<(x.c q).F.length->qY w (pb q) (k*6) ((x.c q).p k)
 pl:∀q,q<x.A.length->0<pk q->pa q=some ⟨pb q,0,none⟩/\Nfp (pb q) (pk q) w/\(pb q≠br/\pb q≠bc)/\B<=pb q
 nr:0<x.B.length->Nf1 br w/\B<=br
 nc:0<x.A.length->Nf1 bc w/\B<=bc
 d:0<x.A.length->br≠bc
 dp:∀q q',q<x.A.length->q'<x.A.length->q≠q'->0<pk q->0<pk q'->pb q≠pb q'
 kp:∀q,q<x.A.length->(x.c q).F.length<=pk q
theorem Rws.pw(h:Rws B w x br bc pb pa pk){q:Nat}(b:q<x.A.length)(a:0<(x.c q).F.length):0<pk q:=kF a (h.kp q b)
theorem uY(h:Nf1 b w)(c:w'.heap[b]?=w.heap[b]?)(d:w.heap.size<=w'.heap.size):Nf1 b w':=
 ⟨kF h.1 d,λj=>(fOb b j c).trans (h.2 j)⟩
theorem Rws.same(h:Rws B w x br bc pb pa pk)(l:w.heap.size<=w'.heap.size)
  (n:0<x.B.length->w'.heap[br]?=w.heap[br]?) (g:0<x.A.length->w'.heap[bc]?=w.heap[bc]?) (m:∀q,q<x.A.length->0<pk q->w'.heap[pb q]?=w.heap[pb q]?):Rws B w' x br bc pb pa pk where
 r:=λi o=>(h.r i o).of λj _=>cOb br _ (n (by omega))
 s:=λq f=>(h.s q f).of λj _=>cOb bc _ (g (by omega))
 p7:=λq f=>(cOb bc _ (g (by omega))).trans (h.p7 q f)
 p:=λq f k t=>(h.p q f k t).of λj _=>cOb (pb q) _ (m q f (h.pw f (by omega)))
 pl:=λq f e=>let ⟨a,b,c⟩:=h.pl q f e;⟨a,eN b (m q f e) l,c⟩
 nr:=λe=>⟨uY (h.nr e).1 (n e) l,(h.nr e).2⟩
 nc:=λe=>⟨uY (h.nc e).1 (g e) l,(h.nc e).2⟩
 d:=h.d
 dp:=h.dp
 kp:=h.kp
theorem Rws.ext(h:Rws B w x br bc pb pa pk)(e:Ext w w'):Rws B w' x br bc pb pa pk:=
 h.same e.size (λa=>e.block _ (h.nr a).1.1) (λa=>e.block _ (h.nc a).1.1) (λq b a=>e.block _ (h.pl q b a).2.1.1)
theorem Rws.only(h:Rws B w x br bc pb pa pk)(e:uZ S w w')(f:0<x.B.length->¬S br)(c:0<x.A.length->¬S bc)(d:∀q,q<x.A.length->0<pk q->¬S (pb q)):Rws B w' x br bc pb pa pk:=
 h.same e.size (λa=>e.block _ (h.nr a).1.1 (f a)) (λa=>e.block _ (h.nc a).1.1 (c a)) (λq b a=>e.block _ (h.pl q b a).2.1.1 (d q b a))
theorem Rws.less{C:Nat}(h:Rws B w x br bc pb pa pk)(f:C<=B):Rws C w x br bc pb pa pk:=
 ⟨h.r,h.s,h.p7,h.p,λq g e=>let ⟨a,b,c,d⟩:=h.pl q g e;⟨a,b,c,kA f d⟩,λe=>⟨(h.nr e).1,kA f (h.nr e).2⟩,λe=>⟨(h.nc e).1,kA f (h.nc e).2⟩,h.d,h.dp,h.kp⟩
theorem Rws.slW(h:Rws B w x br bc pb pa pk)(b:Nat)(c:0<x.B.length->ad=some (aA br 0))(d:x.B.length<=1048576):SlW w (.slice ad x.B.length b) x.B:=
 ⟨_,_,rfl,by omega,λi a=>⟨br,0,c (by omega),by rw[kO];exact h.r i a⟩⟩
theorem Rws.slC(h:Rws B w x br bc pb pa pk)(o:Nat)(r:0<x.A.length->ad=some (aA bc 0))(t:x.A.length<=1048576)(n:∀q,q<x.A.length->(x.c q).F.length<=200):SlC w (.slice ad x.A.length o) x.A:=by
 refine⟨_,_,rfl,by omega,λi a=>⟨bc,0,r (by omega),?_⟩⟩;rw[kO,Hp.c_eq x i a];have⟨f,g,j,d,m,e,l⟩:=h.s i a;refine⟨_,f,g,j,d,m,e,l,h.p7 i a,_,_,rfl,by have:=n i a;omega,λk b=>⟨pb i,0,(h.pl i a (h.pw a (by omega))).1,?_⟩⟩;rw[kO,Cl.p_eq _ _ b];exact h.p i a k b
def cK(w:World)(B:Nat)(x:Hp)(vr vc vg:Value):Prop:=
 w.cell? ⟨B,0,none⟩=some (iv x.M)/\w.cell? ⟨B,1,none⟩=some (iv x.K)/\w.cell? ⟨B,2,none⟩=some (iv x.born)/\w.cell? ⟨B,3,none⟩=some vr/\w.cell? ⟨B,4,none⟩=some vc/\w.cell? ⟨B,5,none⟩=some (iv x.E)/\w.cell? ⟨B,6,none⟩=some (iv x.I)/\w.cell? ⟨B,7,none⟩=some (iv x.sub)/\w.cell? ⟨B,8,none⟩=some vg/\w.cell? ⟨B,9,none⟩=some (iv x.per)/\w.cell? ⟨B,10,none⟩=some (iv x.V)/\w.cell? ⟨B,11,none⟩=some (iv x.Q)/\w.cell? ⟨B,12,none⟩=some (iv x.S)
def hbL(x:Hp)(vr vc vg:Value):List Value:=[iv x.M,iv x.K,iv x.born,vr,vc,iv x.E,iv x.I,iv x.sub,vg,iv x.per,iv x.V,iv x.Q,iv x.S]
theorem cK.iff:cK w B x vr vc vg↔∀o v,(hbL x vr vc vg)[o]?=some v->w.cell? (aA B o)=some v:=
 ⟨λ⟨h0,h1,h2,h3,h4,h5,h6,h7,h8,h9,h10,h11,h12⟩ o v q=>by
  obtain _|_|_|_|_|_|_|_|_|_|_|_|_|o:=o <;> simp[hbL]at q <;> rw[<-q] <;> assumption,
  λh=>⟨h 0 _ rfl,h 1 _ rfl,h 2 _ rfl,h 3 _ rfl,h 4 _ rfl,h 5 _ rfl,h 6 _ rfl,h 7 _ rfl,h 8 _ rfl,h 9 _ rfl,h 10 _ rfl,h 11 _ rfl,h 12 _ rfl⟩⟩
theorem cK.ext(h:cK w B x vr vc vg)(e:Ext w w'):cK w' B x vr vc vg:=
 cK.iff.2 λo v q=>e.keep (cK.iff.1 h o v q)
theorem cK.new(w:World)(x:Hp)(vr b a:Value)(t:TypeId):cK (w.alloc (.cells #[iv x.M,iv x.K,iv x.born,vr,b,iv x.E,iv x.I,iv x.sub,a,iv x.per,iv x.V,iv x.Q,iv x.S] t)) w.heap.size x vr b a:=by
 refine⟨?_,?_,?_,?_,?_,?_,?_,?_,?_,?_,?_,?_,?_⟩ <;> simp[go_sem]
theorem cK.of{B':Nat}(h:cK w B x vr vc vg)(e:∀o,o<13->w'.cell? (aA B' o)=w.cell? (aA B o)):cK w' B' x vr vc vg:=
 cK.iff.2 λo v q=>(e o (List.getElem?_eq_some_iff.1 q).1).trans (cK.iff.1 h o v q)
theorem cK.only(h:cK w B x vr vc vg)(e:uZ S w w')(a:¬S B):cK w' B x vr vc vg:=
 h.of λo _=>e.A B (uQ h.1) a o
theorem cK.block(h:cK w B x vr vc vg)(e:w'.heap[B]?=w.heap[B]?):cK w' B x vr vc vg:=
 h.of λo _=>cOb B o e
theorem cK.far(h:cK w B x vr vc vg)(b o:Nat)(u:Value)(d:b≠B\/13<=o):cK (w.setCell (aA b o) u) B x vr vc vg:=
 h.of λa c=>uC _ (by omega)
theorem cK.st(h:cK w B x vr vc vg)(k:Nat)(u:Value){x':Hp}{vr' vc' vg':Value}(e:hbL x' vr' vc' vg'=(hbL x vr vc vg).set k u):cK (w.setCell (aA B k) u) B x' vr' vc' vg':=
 cK.iff.2 λo v q=>by
  rw[e,List.getElem?_set]at q;by_cases c:k=o;subst c;rw[if_pos rfl]at q;by_cases l:k<(hbL x vr vc vg).length
  ·rw[if_pos l]at q;injection q with q;rw[<-q];exact kM _ _ _ (cK.iff.1 h k _ (ma l))
  rw[if_neg l]at q;cases q;rw[if_neg c]at q;exact(uC _ (.inr c)).trans (cK.iff.1 h o v q)
theorem cK.set3(h:cK w B x vr vc vg)(u:Value):cK (w.setCell (aA B 3) u) B x u vc vg:=h.st 3 _ rfl
theorem cK.set4(h:cK w B x vr vc vg)(u:Value):cK (w.setCell (aA B 4) u) B x vr u vg:=h.st 4 _ rfl
theorem cK.set8(h:cK w B x vr vc vg)(u:Value):cK (w.setCell (aA B 8) u) B x vr vc u:=h.st 8 _ rfl
theorem cK.set1(h:cK w B x vr vc vg)(u:Int):cK (w.setCell (aA B 1) (iv u)) B { x with K:=u } vr vc vg:=h.st 1 _ rfl
theorem cK.set2(h:cK w B x vr vc vg)(u:Int):cK (w.setCell (aA B 2) (iv u)) B { x with born:=u } vr vc vg:=h.st 2 _ rfl
theorem cK.set5(h:cK w B x vr vc vg)(u:Int):cK (w.setCell (aA B 5) (iv u)) B { x with E:=u } vr vc vg:=h.st 5 _ rfl
theorem cK.set6(h:cK w B x vr vc vg)(u:Int):cK (w.setCell (aA B 6) (iv u)) B { x with I:=u } vr vc vg:=h.st 6 _ rfl
theorem cK.set7(h:cK w B x vr vc vg)(u:Int):cK (w.setCell (aA B 7) (iv u)) B { x with sub:=u } vr vc vg:=h.st 7 _ rfl
theorem cK.set11(h:cK w B x vr vc vg)(u:Int):cK (w.setCell (aA B 11) (iv u)) B { x with Q:=u } vr vc vg:=h.st 11 _ rfl
theorem cK.set12(h:cK w B x vr vc vg)(u:Int):cK (w.setCell (aA B 12) (iv u)) B { x with S:=u } vr vc vg:=h.st 12 _ rfl
abbrev Rw:=Option Tmp×List Tmp×List Nat
def b2r(md:Region.Mode)(ops:Array Oper)(o:Oper):Rw:=(o.dst,o.looksAt ops,(o.after.toList.filter (λe=>Region.binds md e)).map (·.on))
def d0s(x y:Rw):Bool:=
 (match x.1 with
  | some d=>!y.2.1.contains d && y.1 != some d
  | none=>true) &&
 (match y.1 with
  | some d=>!x.2.1.contains d
  | none=>true)
theorem c7k(b:Region.Mode)(a:Array Oper)(x y:Oper):d0s (b2r b a x) (b2r b a y)=x.apart a y:=rfl
def lexR:Nat->List Rw->Bool
 | _,[]=>true
 | k,r::rs=>r.2.2.all (λi=>Nat.blt i k) && rs.all (λs=>s.2.2.contains k || d0s r s) && lexR (k+1) rs
theorem a9t(md:Region.Mode)(ops:Array Oper):∀(l:List Oper)(k:Nat)(listed:Array Bool),k+l.length=ops.size->(∀j,l[j]?=ops[k+j]?)->listed.size=ops.size->(∀j,j<ops.size->listed[j]?=some (decide (j<k)))->
  lexR k (l.map (b2r md ops))=true->Region.lexFrom md ops l.length k listed=true
 | [],k,listed,hk,_,hs,hl,_=>by
  simp at hk;simp only[List.length_nil,Region.lexFrom,List.isEmpty_iff,Region.ready,List.filter_eq_nil_iff,List.mem_range];intro i hi;have:=hl i hi;simp[this,hk,hi]
 | o::l,k,listed,hk,ho,hs,hl,h=>by
  simp at hk;have h0:ops[k]?=some o:=by simpa using (ho 0).symm
  have hkn:k<ops.size:=by omega
  simp only[List.map_cons,lexR,Bool.and_eq_true,List.all_eq_true]at h;have⟨⟨ha,hb⟩,hc⟩:=h;simp only[List.length_cons,Region.lexFrom,Bool.and_eq_true];refine⟨⟨?_,?_⟩,?_⟩;simp only[List.contains_eq_mem,decide_eq_true_eq,Region.ready,List.mem_filter,List.mem_range];refine⟨hkn,?_⟩;simp only[Array.getD_eq_getD_getElem?,hl k hkn,h0];simp only[Nat.lt_irrefl,decide_false,Option.getD_some,Bool.not_false,Option.map_some,Bool.true_and,Array.all_eq_true_iff_forall_mem];intro e he;by_cases hbd:Region.binds md e=true
  ·have:=ha e.on (by simp only[b2r,List.mem_map,List.mem_filter];exact⟨e,⟨by simpa using he,hbd⟩,rfl⟩);have hlt:e.on<k:=Nat.le_of_ble_eq_true this;simp[hl e.on (by omega),hlt]
  simp[hbd];simp only[Region.free,h0,List.all_eq_true,List.mem_range];intro j hj;by_cases e1:j=k
  ·simp[e1]
  by_cases e2:j<k
  ·have:=hl j hj;simp[this,e2]
  have⟨oj,hoj⟩:∃oj,ops[j]?=some oj:=⟨_,nL hj⟩;have hm:oj∈l:=by
   have:=ho (j-k);rw[show k+(j-k)=j by omega,hoj,show j-k=(j-k-1)+1 by omega,List.getElem?_cons_succ]at this;exact qi this
  have:=hb (b2r md ops oj) (List.mem_map_of_mem hm);rw[c7k,Bool.or_eq_true]at this;simp only[hoj,Bool.or_eq_true];obtain h3|h3:=this;refine .inr (.inl ?_);simp only[b2r,List.contains_eq_mem,decide_eq_true_eq,List.mem_map,List.mem_filter]at h3;have⟨e,⟨he,hbd⟩,hon⟩:=h3;rw[Array.any_eq_true'];exact⟨e,by simpa using he,by simp[hbd,hon]⟩;exact .inr (.inr h3);refine a9t md ops l (k+1) _ (by omega) (λj=>?_) (by simpa using hs) (λj hj=>?_) hc
  ·have:=ho (j+1);rw[List.getElem?_cons_succ]at this;rw[this,show k+(j+1)=k+1+j by omega]
  rw[nC];by_cases e:k=j
  ·grind[lexR,b2r]
  rw[if_neg e,hl j hj];congr 1;exact decide_eq_decide.2 (by omega)
theorem b7f(b:Region.Mode)(a:Array Oper)(d:Region.noSelect a=true)(h:lexR 0 (a.toList.map (b2r b a))=true):Region.lexB b a=true:=by
 simp only[Region.lexB,d,Bool.true_and];have:=a9t b a a.toList 0 (Array.replicate a.size false) (by simp) (by simp) (by simp) (λj c=>by simp[c]) h;simpa using this
def third:Option Code->Array Oper
 | some (.seq _ (.seq _ (.seq (.region _ ops _) _)))=>ops
 | _=>#[]
theorem lim_lex:Region.lexB .any (third Tryz.f97.body)=true:=b7f _ _ (by kernel_rfl) (by kernel_rfl)
theorem infoInt:(prog.info? 3).map (λi=>(i.zero,i.size,i.bytes))=some (some (iv 0),1,8):=by kernel_rfl
theorem c7n{x:Int}{o:Obj}(h:eX w base bq oq v L)
  (f:w1.ownsRow base 3 1 (sS g (L.length+1) cap) (L.length+1) (L.map iv++[iv x])) (i:(w.alloc o).grownBy w1 v.ownBlock) (d:v.ownBlock=some g\/g=w.heap.size+1) :
  eX (w1.setCell (aA bq oq) (sS g (L.length+1) cap)) base bq oq (sS g (L.length+1) cap) (L++[x])/\
  QFr bq oq v (sS g (L.length+1) cap) w (w1.setCell (aA bq oq) (sS g (L.length+1) cap))/\w1.cell? (aA bq oq)=some v/\w1.frozen? (aA bq oq)=false:=by
 have l:=h.hlt;have m:g≠bq:=by
  obtain e|e:=d;intro q;exact h.apart (q ▸ e);omega
 have u:w.heap.size+1<=w1.heap.size:=by have:=i.size;simpa using this
 have p:∀k,k<w.heap.size->v.ownBlock≠some k->w1.heap[k]?=w.heap[k]?:=λk c s=>
  (i.block k (by simp;omega) (λe=>s e.symm)).trans (mF w o k c)
 have b:w1.heap[bq]?=w.heap[bq]?:=p bq l h.apart;have r:w1.cell? (aA bq oq)=some v:=(cOb bq oq b).trans h.hd;have n:w1.frozen? (aA bq oq)=false:=(fOb bq oq b).trans h.hf;refine⟨⟨kM _ _ _ r,by rw[ki];exact n,?_,λe=>m (by simpa[Value.ownBlock]using e)⟩,⟨?_,?_,?_,?_,λk c y t=>?_,λj z=>?_,λj=>?_,?_⟩,r,n⟩;refine uN (by simpa using f) (λk c=>kP _ _ _ _ ?_);simp[Value.ownBlock]at c;show k≠bq;omega;exact i.os;exact i.tape;exact i.output;have:(w1.setCell (aA bq oq) (sS g (L.length+1) cap)).heap.size=w1.heap.size:=by simp[World.setCell]
 omega;rw[kP _ _ _ _ (y:k≠bq)];exact p k c t;rw[uC _ (.inr (λe=>z e.symm))];exact cOb bq j b;rw[ki];exact fOb bq j b;obtain e|e:=d
 ·exact .inl e.symm
 exact .inr ⟨g,rfl,by omega⟩
theorem b4h(w:World)(base m n:Nat)(v:Value)(L:List Int)(x:Int)(h:eX w base m n v L)(hb:base<=w.heap.size)(ho:Ho L)(hn:L.length<=1000000000):
  Calls prog 98 #[pQ m n,iv x] w λe w'=>e=.returned (.tuple #[])/\∃v' L',eX w' base m n v' L'/\Ho L'/\L'.Perm (x::L)/\QFr m n v v' w w':=by
 have⟨i0,hi,O,E,J⟩:=info_parts infoInt;have T:=h.hd;have hf:=h.hf;have ab:=h.hlt;have S:=uU (kV.V ho x);clear ho;go_in;go_wp2_with (at_builtin;refine wpList_append_lies _ rfl _ _ 25 rfl base 3 i0 (iv 0) 1 8 underlying25 hi O E J rfl (by decide) v L.length (L.map iv) rfl (h.own.alloc _) (aA w.heap.size 0) 1 1 [iv x] rfl rfl ?c1 ?c2 (by decide) ?c3 ?c4 ?c5 (w.heap.size+1) (by simp) ?_)
 case c1=>
  intro j u t;match j,t with
  | 0,t=>simp at t;subst t;simp[Addr.add]
 case c2=>intro u r;simp at r;subst r;rfl
 case c3=>unfold maxLen;omega
 case c4=>omega
 case c5=>simp;omega
 intro g f w1 d c p aa;have⟨P1,X,P3,P4⟩:=c7n h d c p;have U:=uU P1;have Z:=uU X;clear d c p P1 X T hf;go_wp21;go_loopw [4] (λK wr=>∃(a:Nat)(M:List Int),a<M.length/\K=iv a/\M.length=L.length+1/\eX wr base m n (sS g (L.length+1) f) M/\kV M a/\M.Perm (x::L)/\QFr m n v (sS g (L.length+1) f) w wr) (λK _=>(intOf K).toNat)
 case atStart=>exact⟨L.length,L++[x],by simp,by go_num,by simp,U,S,nP _ _,Z⟩
 case round=>
  clear S h P3 P4 U Z;obtain⟨a,M,F,rfl,hM,b,N,D,B⟩:=hrel;have P:=uU N;have G:=uU B;have T:=b.hd;have⟨H,k⟩:∃z,it M a=z:=⟨_,rfl⟩;have ca:=b.cell a F;rw[k]at ca;by_cases h0:0<a
  ·have⟨u,r⟩:=obE ((a-1) / 2);have o:u<M.length:=by omega
   have⟨y,i⟩:∃z,it M u=z:=⟨_,rfl⟩;have cu:=b.cell u o;rw[i]at cu;have ad:((a:Int)-1).tdiv 2=(u:Int):=by
    rw[Int.tdiv_eq_ediv_of_nonneg (by omega)];omega
   have i0:(0:Int)<(a:Int):=by omega
   have i1:=i0N a;have i2:(a:Int)<(L.length:Int)+1:=by omega
   have i3:=i0N u;have i4:(u:Int)<(L.length:Int)+1:=by omega
   have ac:u<a:=by omega
   have W:=uU r;clear N B r;by_cases A:y<=H
   ·have Y:=kV.done P (by rw[<-uH W,i,k];exact A);go_wp21;go_quiet (fail);go_wp21;try simp only[Exit.inBlock,Exit.then]
    refine bodyPost_ret (results_none rfl _ _ _) rfl ?_;exact⟨rfl,_,M,b.ext ((hO _).drewN _),Y,D,G.drewN _⟩
   have ae:decide (y<=H)=false:=decide_eq_false A;have q:H<y:=by omega
   have R2:=uU (kV.up P h0 F W (by rw[i,k];exact q));clear A q;go_wp21;go_quiet (fail);go_wp21;refine(c6a _ base m n g (L.length+1) f u a M (b.ext ((hO _).drewN _)) (by omega) (by omega)).mono ?_;rintro e w2 ⟨rfl,s,V⟩;have Q:=uU s;have R:=uU ((G.drewN _).trans V);clear s V;go_wp21;go_roundw
   case rel=>exact⟨u,swp M u a,by rw[a1s];omega,by go_num,by rw[a1s];omega,Q,R2,(a9p M u a o F).trans D,R⟩
   simp[intOf];omega
  have C:a=0:=by omega
  subst C;clear N B;go_wp21;go_end0;exact⟨rfl,_,M,b,(kV.top P),D,G⟩
theorem c0m(w:World)(base a b g n cap i j:Nat)(I J:Int)(L:List Int)(k:I=(i:Int))(f:J=(j:Int))(h:eX w base a b (sS g n cap) L)(c:i<n)(d:j<n):
  Calls prog 151 #[pQ a b,iv I,iv J] w λe w'=>e=.returned (.tuple #[])/\eX w' base a b (sS g n cap) (swp L i j)/\QFr a b (sS g n cap) (sS g n cap) w w':=by grind[swp,c6a]
theorem sink_ls(w:World)(base t u g n cap:Nat)(L:List Int)(h:eX w base t u (sS g n cap) L)(S:a6d L 0)(hn:n<=1000000000):
  Calls prog 230 #[pQ t u] w λe w'=>e=.returned (.tuple #[])/\∃L',eX w' base t u (sS g n cap) L'/\Ho L'/\L'.Perm L/\QFr t u (sS g n cap) (sS g n cap) w w':=by
 have R:=h.len.1;have HL:=uU h;have B:=uU S;clear h S;go_in;go_wp21;go_loopw [2] (λP wr=>∃(a:Nat)(M:List Int),a<=n/\P=iv a/\M.length=n/\eX wr base t u (sS g n cap) M/\a6d M a/\M.Perm L/\QFr t u (sS g n cap) (sS g n cap) w wr) (λP _=>n-(intOf P).toNat)
 case atStart=>exact⟨0,L,kB _,rfl,R.symm,HL,B,nE _,QFr.refl _ _ _ _⟩
 case round=>
  clear B HL R;obtain⟨a,M,ha,rfl,hM,b,H,E,D⟩:=hrel;have j:=uU b;have A:=uU H;have y:=uU E;have k:=uU D;have hd:=b.hd;have i0:=i0N a;have i1:(a:Int)<=1000000000:=by omega
  by_cases J:n<=2*a+1
  ·have O:(n:Int)<=2*(a:Int)+1:=by omega
   have Y:=uU (a6d.bottom A (by omega));clear b H E D J;go_wp21;try simp only[Exit.inBlock,Exit.then]
   refine bodyPost_ret (results_none rfl _ _ _) rfl ?_;exact⟨rfl,M,j,Y,y,k⟩
  have O:¬(n:Int)<=2*(a:Int)+1:=by omega
  have U:2*(a:Int)+1<(n:Int):=by omega
  have j0:(0:Int)<=2*(a:Int)+1:=by omega
  have j1:(2*(a:Int)+1).toNat=2*a+1:=by omega
  have j2:(a:Int)<(n:Int):=by omega
  have V:IntKind.i64.wrap (2*(a:Int)+1+1)=2*(a:Int)+2:=by rw[nF];omega
  obtain⟨s,i⟩:∃z,it M a=z:=⟨_,rfl⟩;have T:=b.cell a (by omega);rw[i]at T;obtain⟨x,f⟩:∃z,it M (2*a+1)=z:=⟨_,rfl⟩;have X:=b.cell (2*a+1) (by omega);rw[f]at X;by_cases K:2*a+2<n;focus
   obtain⟨I,m⟩:∃z,it M (2*a+2)=z:=⟨_,rfl⟩;have cr:=b.cell (2*a+2) (by omega);rw[m]at cr;have k0:2*(a:Int)+2<(n:Int):=by omega
   have k1:(0:Int)<=2*(a:Int)+2:=by omega
   have k2:(2*(a:Int)+2).toNat=2*a+2:=by omega
   by_cases N:I<x;focus
    have o:=uU (a1o.right (by omega) (by rw[m,f];exact N):a1o M a (2*a+2));obtain⟨c,F⟩:=obE (2*a+2);rw[<-F]at o m;obtain⟨z,rfl⟩:=nM I
   rotate_left
   focus
    have o:=uU (a1o.left (by omega) (λ_=>by rw[m,f];omega):a1o M a (2*a+1));have W:decide (I<x)=false:=decide_eq_false N;obtain⟨c,F⟩:=obE (2*a+1);rw[<-F]at o f;obtain⟨z,rfl⟩:=nM x;have m:=f;clear N
  rotate_left 2
  focus
   have o:=uU (a1o.left (by omega) (λq=>by omega):a1o M a (2*a+1));have Z:decide (2*(a:Int)+2<(n:Int))=false:=decide_eq_false (by omega);obtain⟨c,F⟩:=obE (2*a+1);rw[<-F]at o f;obtain⟨z,rfl⟩:=nM x;have m:=f;clear K
  all_goals
   have HF:=uU F;clear b H E D J F;by_cases l:s<=z
   ·have Y:=uU (a6d.done A o (by rw[i,m];exact l));go_wp21;go_quiet (fail);go_wp21;go_quiet (fail);go_wp21;try simp only[Exit.inBlock,Exit.then]
    refine bodyPost_ret (results_none rfl _ _ _) rfl ?_;exact⟨rfl,M,j.ext (by first|exact((hO _).drewN _).drewN _|exact(hO _).drewN _),Y,y,by first|exact(k.drewN _).drewN _|exact k.drewN _⟩
   have G:decide (s<=z)=false:=decide_eq_false l;have R2:=uU (a6d.down A o (by rw[i,m];omega));have C:c<M.length:=o.2.1;clear l;go_wp21;go_quiet (fail);go_wp21;go_quiet (fail);go_wp21;refine(c0m _ base t u g n cap a c (a:Int) _ M rfl (by have:=uH HF;omega) (j.ext (by first|exact((hO _).drewN _).drewN _|exact(hO _).drewN _)) (by omega) (by omega)).mono ?_;rintro e Q ⟨rfl,d,v⟩;have p:=uU d;have r:=uU (QFr.trans (by first|exact(k.drewN _).drewN _|exact k.drewN _) v);clear d v;go_wp21;go_roundw
   case rel=>exact⟨c,swp M a c,by omega,by congr 1;have:=uH HF;omega,by rw[a1s];omega,p,R2,(a9p M a c (by omega) C).trans y,r⟩
   have:=uH HF;simp[intOf];omega
theorem a8n(y:Wd)(b:Nat)(w:World)(a:(y.k == 2)=false):
  Calls prog 127 #[pP b,y.v] w λe w'=>e=.returned y.v/\Ext w w':=by
 go_in;go_wp21;go_quiet (fail);go_wp2;refine bodyPost_ret (v:=y.v) (by simp[results,results127,go_sem]) rfl ⟨rfl,?_⟩;repeat (first|exact hO _|refine Ext.drewN ?_ _|refine mJ ?_ _|refine mW ?_ (by show w.heap.size<=w.heap.size+1;omega) _)
theorem b5a(x:Hp)(b i:Nat)(w:World)(h:HAt w b x ar kr ac kc ag kg)(j:i<x.A.length)(q:((x.c i).st == 2)=false):
  Calls prog 127 #[pP b,.agg #[iv 2,iv 0,iv i]] w λe w'=>e=.returned (.agg #[iv 2,iv 0,iv i])/\Ext w w':=by
 obtain⟨d,o,n,k,rfl,C⟩:=h.cell i j;have g:=C.p0;have a:=h.c4;have l:=cLt a;have f:=cLt g;have m:=i0N i;have p:(i:Int)<(x.A.length:Int):=by omega
 go_in;go_wp21;go_quiet (fail);go_wp2;refine bodyPost_ret (v:=.agg #[iv 2,iv 0,iv i]) (by simp[results,results127,go_sem]) rfl ⟨rfl,?_⟩;repeat (first|exact hO _|refine Ext.drewN ?_ _|refine mJ ?_ _|refine mW ?_ (by show w.heap.size<=w.heap.size+1;omega) _)
theorem b3j(x:Hp)(b i:Nat)(w:World)(h:HAt w b x ar kr ac kc ag kg)(j:i<x.A.length)(r:((x.c i).st == 2)=true):
  Calls prog 127 #[pP b,.agg #[iv 2,iv 0,iv i]] w λe w'=>e=.returned (.agg #[iv 2,iv 0,iv (x.c i).to])/\Ext w w':=by
 obtain⟨d,o,p,k,rfl,C⟩:=h.cell i j;have g:=C.p0;have n:=C.p6;have a:=h.c4;have l:=cLt a;have f:=cLt g;have m:=i0N i;have q:(i:Int)<(x.A.length:Int):=by omega
 go_in;go_wp21;go_quiet (fail);go_wp21;go_region;all_goals
  go_wp2;refine bodyPost_ret (v:=.agg #[iv 2,iv 0,iv (x.c i).to]) (by simp[results,results127,go_sem]) rfl ⟨rfl,?_⟩;repeat (first|exact hO _|refine Ext.drewN ?_ _|refine mf ?_|refine mJ ?_ _|refine mW ?_ (by show w.heap.size<=w.heap.size+1;omega) _)
def a2h(x:Hp)(i:Nat):Nat:=if ((x.c i).st == 2)=true then (x.c i).to.toNat else i
structure Sn(w:World)(base bs n:Nat)(v:Value)(L:List Int):Prop where
 hb:base<=bs/\bs<w.heap.size
 s:∀i,i<n->w.cell? ⟨bs,i,none⟩=some (.bool (decide ((i:Int)∈L)))
 f:∀i,i<n->w.frozen? ⟨bs,i,none⟩=false
 own:w.ownsRow base 3 1 v L.length (L.map iv)
 ap:v.ownBlock≠some bs
 nd:L.Nodup
 rg:∀z,z∈L->0<=z/\z<n
theorem Sn.ext(h:Sn w base bs n v L)(e:Ext w w'):Sn w' base bs n v L:=
 ⟨⟨h.hb.1,kF h.hb.2 e.size⟩,λi a=>e.keep (h.s i a),λi a=>(e.frozen (p:=(aA bs i)) h.hb.2)▸h.f i a,uN h.own (λk b=>e.block k (h.own.lt k b).2),h.ap,h.nd,h.rg⟩
theorem Sn.len(h:Sn w base bs n v L):L.length<=n:=by
 have b:∀z,z∈L->z∈(List.range n).map (λi:Nat=>(i:Int)):=λz a=>by
  have:=h.rg z a;exact mg.2 ⟨z.toNat,by simp;omega,by omega⟩
 have:=qm h.nd b;simpa using this
structure Mfr(bs:Nat)(v v':Value)(w w':World):Prop where
 os:w'.os=w.os
 tape:w'.tape=w.tape
 output:w'.output=w.output
 size:w.heap.size<=w'.heap.size
 block:∀k:Nat,k<w.heap.size->k≠bs->v.ownBlock≠some k->w'.heap[k]?=w.heap[k]?
 own:v'.ownBlock=v.ownBlock\/∃g,v'.ownBlock=some g/\w.heap.size<=g
theorem Mfr.of_ext(e:Ext w w'):Mfr bs v v w w':=⟨e.os,e.tape,e.output,e.size,λk a _ _=>e.block k a,.inl rfl⟩
theorem Mfr.after(e:Ext w w1)(q:Mfr bs v v' w1 w2):Mfr bs v v' w w2:=
 ⟨q.os.trans e.os,q.tape.trans e.tape,q.output.trans e.output,kA e.size q.size,λk a d c=>(q.block k (kF a e.size) d c).trans (e.block k a),by
  obtain h|⟨g,h,b⟩:=q.own;exact .inl h;exact .inr ⟨g,h,kA e.size b⟩⟩
theorem Mfr.ext{a:World}(q:Mfr bs v v' w w')(e:Ext a w)(d:a.heap.size<=bs)(c:∀k,v.ownBlock=some k->a.heap.size<=k):Ext a w':=
 mV e ⟨q.os,q.tape,q.output,q.size,λk b=>q.block k (kF b e.size) (by omega) (λh=>by have:=c k h;omega)⟩
theorem Sn.own2(h:Sn w base bs n v L)(b:Ext (w.setCell (aA bs j) (.bool true)) W):W.ownsRow base 3 1 v L.length (L.map iv):=
 uN h.own (λk a=>(b.block k (by simpa using (h.own.lt k a).2)).trans (kP _ _ _ _ (λe=>h.ap (e ▸ a):k≠bs)))
theorem Sn.add(h:Sn w base bs n v L)(H:j<n)(G:¬(j:Int)∈L)(o:Ext (w.setCell (aA bs j) (.bool true)) W)
  (l:w2.ownsRow base 3 1 (sS g (L.length+1) cap) (L.length+1) (L.map iv++[iv j])) (m:W.grownBy w2 v.ownBlock) (p:v.ownBlock=some g\/g=W.heap.size) :
  Sn w2 base bs n (sS g (L.length+1) cap) (L++[(j:Int)])/\Mfr bs v (sS g (L.length+1) cap) w w2:=by
 have D:w.heap.size<=W.heap.size:=by have:=o.size;simpa using this
 have A:W.heap.size<=w2.heap.size:=m.size;have u:g≠bs:=by
  obtain e|e:=p;intro q;exact h.ap (q ▸ e);have:=h.hb.2;omega
 have c:∀k:Nat,k<w.heap.size->v.ownBlock≠some k->w2.heap[k]?=(w.setCell (aA bs j) (.bool true)).heap[k]?:=λk t y=>
  (m.block k (by omega) (λe=>y e.symm)).trans (o.block k (by simpa using t))
 have d:=c bs h.hb.2 h.ap;refine⟨⟨⟨h.hb.1,by have:=h.hb.2;omega⟩,λi r=>?_,λi r=>?_,by simpa using l,λe=>u (by simpa[Value.ownBlock]using e),?_,λz B=>?_⟩,⟨m.os.trans o.os,m.tape.trans o.tape,m.output.trans o.output,by omega,λk t F E=>?_,?_⟩⟩;rw[kT (w:=w.setCell (aA bs j) (.bool true)) (a:=(aA bs i)) d];by_cases e:i=j
 ·subst e;rw[kM _ _ _ (h.s i r)];simp
 rw[uC _ (.inr (λq=>e q.symm)),h.s i r];simp only[List.mem_append,List.mem_singleton];congr 2;exact decide_eq_decide.2 ⟨λq=>.inl q,λq=>by obtain q|q:=q;exact q;omega⟩;rw[mR (w:=w.setCell (aA bs j) (.bool true)) (a:=(aA bs i)) d,ki];exact h.f i r;rw[ny];exact⟨h.nd,by simp,λa C b x=>by simp at x;rw[x];intro e;exact G (e ▸ C)⟩;obtain q|q:=mD.1 B
 ·exact h.rg z q
 simp at q;omega;rw[c k t E,kP _ _ _ _ (F:k≠bs)];obtain e|e:=p
 ·exact .inl (by rw[e];rfl)
 exact .inr ⟨g,rfl,by omega⟩
theorem c1a:(prog.info? 3).map (λi=>(i.zero,i.size,i.bytes))=some (some (iv 0),1,8):=by kernel_rfl
theorem b0a(x:Hp)(b i:Nat)(w:World)(h:HAt w b x ar kr ac kc ag kg)(d:i<x.A.length)(g:(x.c i).st=2->0<=(x.c i).to):
  Calls prog 127 #[pP b,.agg #[iv 2,iv 0,iv i]] w λe w'=>e=.returned (.agg #[iv 2,iv 0,iv (a2h x i)])/\Ext w w':=by
 cases a:((x.c i).st == 2)
 have:a2h x i=i:=by simp only[a2h,a];simp
 rw[this];exact b5a x b i w h d a;have f:(x.c i).st=2:=by simpa using a
 have:((a2h x i:Nat):Int)=(x.c i).to:=by simp only[a2h,a];have:=g f;simp;omega
 rw[this];exact b3j x b i w h d a
theorem c7u(y:Wd)(b base a n:Nat)(v:Value)(L:List Int)(w:World)(j:Sn w base a n v L)(d:(y.k == 2)=false):
  Calls prog 134 #[pP b,sS a n n,v,y.v] w λe w'=>Hid (e=.returned v)/\Sn w' base a n v L/\Ext w w':=by
 have f:(y.k != 2)=true:=by simpa using d
 go_in;go_wp21;refine(a8n y b _ d).mono ?_;rintro e g ⟨rfl,h⟩;have c:Ext w g:=kI (eAl w _) h;go_wp2;go_ret;exact⟨rfl,j.ext (c.alloc _),c.alloc _⟩
theorem c7v(x:Hp)(b i base o:Nat)(v:Value)(L:List Int)(w:World){ar:Option Addr}{kr:Nat}{ac:Option Addr}{kc:Nat}{ag:Option Addr}{kg:Nat}(h:HAt w b x ar kr ac kc ag kg)(U:i<x.A.length)(V:(x.c i).st=2->0<=(x.c i).to)(I:a2h x i<x.A.length)(J:Sn w base o x.A.length v L)(X:base<=w.heap.size)(Y:x.A.length<=8000):
  Calls prog 134 #[pP b,sS o x.A.length x.A.length,v,.agg #[iv 2,iv 0,iv i]] w λe w'=>∃v' L',Hid (e=.returned v')/\Sn w' base o x.A.length v' L'/\Hid (((a2h x i:Int)∈L/\L'=L)\/(¬(a2h x i:Int)∈L/\L'=L++[(a2h x i:Int)]))/\Mfr o v v' w w':=by
 have⟨T,y,A,r,z⟩:=info_parts c1a;have F:=J.len;have⟨j,P⟩:∃j,a2h x i=j:=⟨_,rfl⟩;have G:=λW (e:Ext w W)=>b0a x b i W (h.ext e) U V;rw[P]at G I ⊢;have j0:=i0N j;have j1:(j:Int)<(x.A.length:Int):=by omega
 go_in;go_wp21;refine(G _ (eAl w _)).mono ?_;rintro e B ⟨rfl,M⟩;have q:Ext w B:=kI (eAl w _) M;have d:=J.ext q;have C:=d.s j (by omega);have fj:=d.f j (by omega);have R:o<B.heap.size:=d.hb.2;by_cases l:(j:Int)∈L
 ·have E:decide ((j:Int)∈L)=true:=decide_eq_true l;rw[E]at C;go_wp2;go_ret;exact⟨v,L,rfl,d.ext (eAl B _),.inl ⟨l,rfl⟩,Mfr.of_ext (q.alloc _)⟩
 have E:decide ((j:Int)∈L)=false:=decide_eq_false l;rw[E]at C;go_wp2_with (at_builtin;refine wpList_append_lies _ rfl _ _ 25 rfl base 3 T (iv 0) 1 8 underlying25 y A r z rfl (by decide) v L.length (L.map iv) rfl (Sn.own2 (j:=j) d ((eAl _ _).alloc _)) _ 1 1 [iv j] rfl rfl ?c1 ?c2 (by decide) ?c3 ?c4 ?c5 _ rfl ?_)
 case c1=>
  intro k u p;match k,p with
  | 0,p=>simp at p;subst p;simp[Addr.add,go_sem]
 case c2=>intro u D;simp at D;subst D;rfl
 case c3=>unfold maxLen;omega
 case c4=>omega
 case c5=>have:=q.size;simp;omega
 intro g K Z n a t H;have⟨S,O⟩:=Sn.add d I l ((eAl _ _).alloc _) n a (by simpa using t);have m:=kG S (Mfr.after q O);go_wp2;go_ret;exact⟨_,L++[(j:Int)],rfl,m.1,.inr ⟨l,rfl⟩,m.2⟩
def tgt(x:Hp)(y:Wd):Nat:=a2h x y.a.toNat
def cU(x:Hp)(i:Nat):Prop:=∀P:Nat->Prop,(∀k (h:k<x.B.length),x.B[k].k=2->P (tgt x x.B[k]))->(∀i,i<x.A.length->(x.c i).st=1->dH (x.c i)->P i)->
 (∀j p,P j->p<(x.c j).F.length->((x.c j).p p).key.k=2->P (tgt x ((x.c j).p p).key))->(∀j p,P j->p<(x.c j).F.length->((x.c j).p p).val.k=2->P (tgt x ((x.c j).p p).val))->P i
theorem cU.reg(k:Nat)(h:k<x.B.length)(b:x.B[k].k=2):cU x (tgt x x.B[k]):=λ_ a _ _ _=>a k h b
theorem cU.U(i:Nat)(a:i<x.A.length)(d:(x.c i).st=1)(h:dH (x.c i)):cU x i:=λ_ _ b _ _=>b i a d h
theorem cU.key(j p:Nat)(h:cU x j)(f:p<(x.c j).F.length)(e:((x.c j).p p).key.k=2):cU x (tgt x ((x.c j).p p).key):=λP a b c d=>c j p (h P a b c d) f e
theorem cU.val(j p:Nat)(h:cU x j)(f:p<(x.c j).F.length)(e:((x.c j).p p).val.k=2):cU x (tgt x ((x.c j).p p).val):=λP a b c d=>d j p (h P a b c d) f e
def Good(x:Hp)(i:Nat):Prop:=i<x.A.length/\(x.c i).st=1/\¬uW x i
def a0m(x:Hp)(y:Wd):Prop:=y.k=2->y.n=0/\0<=y.a/\y.a<x.A.length/\((x.c y.a.toNat).st=2->0<=(x.c y.a.toNat).to)/\Good x (tgt x y)
theorem hE.may{m:Prop}(h:hE x y m)(i:R2 x):a0m x y:=λk=>by
 have j:=h.1;unfold uJ at j;have f:y.n=0/\0<=y.a/\y.a<x.A.length:=by omega
 refine⟨f.1,f.2.1,f.2.2,λl=>by have:=i.1 y.a.toNat (by omega);unfold cQ qD at this;omega,?_⟩;obtain⟨h1,_⟩|⟨h1,h3⟩:=h.2 k
 ·have b:=i.1 y.a.toNat (by omega);unfold cQ at b;obtain b|b|b:=b
  ·omega
  have g:=b.2;unfold qD at g;have e:tgt x y=(x.c y.a.toNat).to.toNat:=by unfold tgt a2h;rw[if_pos (by simp[h1])]
  rw[e];exact⟨by omega,g.2.2.2.2.1,λd=>by have:=d.1;omega⟩;omega
 have e:tgt x y=y.a.toNat:=by unfold tgt a2h;rw[if_neg (by simp[h1])]
 rw[e];exact⟨by omega,h1,h3⟩
theorem b0c(b:R2 x)(a:R4 x)(k:Nat)(h:k<x.B.length):a0m x x.B[k]:=(a.1 k h).may b
theorem a4a(b:R2 x)(d:R4 x)(j p:Nat)(a:Good x j)(e:p<(x.c j).F.length):a0m x ((x.c j).p p).key/\a0m x ((x.c j).p p).val:=by
 have:=((d.2 j a.1).2 p e).2 a.2.2;exact⟨this.1.may b,this.2.may b⟩
theorem b1p(b:R4 x)(i:Nat)(a:i<x.A.length)(e:(x.c i).st=1)(h:dH (x.c i)):Good x i:=⟨a,e,λd=>(b.2 i a).1 ⟨d,h⟩⟩
theorem cU.good(e:R2 x)(b:R4 x){i:Nat}(h:cU x i):Good x i:=by
 exact h (Good x) (λk h a=>(b0c e b k h a).2.2.2.2) (λi f g h=>b1p b i f g h) (λj p c d a=>((a4a e b j p c d).1 a).2.2.2.2) (λj p c d a=>((a4a e b j p c d).2 a).2.2.2.2)
def Add(x:Hp)(y:Wd)(L L':List Int):Prop:=(y.k≠2/\L'=L)\/(y.k=2/\(((tgt x y:Int)∈L/\L'=L)\/(¬(tgt x y:Int)∈L/\L'=L++[(tgt x y:Int)])))
theorem Add.pre(h:Add x y L L'):∃R,L'=L++R:=by
 obtain⟨_,e⟩|⟨_,⟨_,e⟩|⟨_,e⟩⟩:=h;exact⟨[],by simp[e]⟩;exact⟨[],by simp[e]⟩;exact⟨_,e⟩
theorem Add.sub(h:Add x y L L')(a:z∈L):z∈L':=by grind[Add,Add.pre]
theorem Add.has(h:Add x y L L')(a:y.k=2):(tgt x y:Int)∈L':=by grind[Add,tgt]
theorem Add.new(h:Add x y L L')(a:z∈L'):z∈L\/(y.k=2/\z=(tgt x y:Int)):=by grind[Add,tgt]
theorem a0y(x:Hp)(y:Wd)(b base d:Nat)(v:Value)(L:List Int)(w:World)(h:HAt w b x ar kr ac kc ag kg)(B:a0m x y)(s:Sn w base d x.A.length v L)(m:base<=w.heap.size)(n:x.A.length<=8000):
  Calls prog 134 #[pP b,sS d x.A.length x.A.length,v,y.v] w λe w'=>∃v' L',Hid (e=.returned v')/\Sn w' base d x.A.length v' L'/\Hid (Add x y L L')/\Mfr d v v' w w':=by
 cases g:(y.k == 2)
 exact(c7u y b base d x.A.length v L w s g).mono λ_ _ ⟨j,c,l⟩=>⟨v,L,j,c,.inl ⟨by simpa using g,rfl⟩,Mfr.of_ext l⟩
 have f:y.k=2:=by simpa using g
 have⟨u,C,D,q,o⟩:=B f;have⟨i,p⟩:∃i:Nat,y.a=(i:Int):=⟨y.a.toNat,by omega⟩;have r:tgt x y=a2h x i:=by unfold tgt;rw[p];simp
 have t:(.agg #[iv 2,iv 0,iv i]:Value)=y.v:=by rw[<-p,<-u,<-f]
 rw[r]at o;have A:y.a.toNat=i:=by omega
 rw[A]at q;have:=c7v x b i base d v L w h (by omega) q o.1 s m n;rw[t]at this;exact this.mono λ_ _ ⟨v',L',j,c,z,l⟩=>⟨v',L',j,c,.inr ⟨f,r▸uH z⟩,l⟩
theorem c4n(l:∀z,z∈L->∃i:Nat,z=(i:Int)/\cU x i)(g:∀k (h:k<x.B.length),x.B[k].k=2->(tgt x x.B[k]:Int)∈L)(f:∀i,i<x.A.length->(x.c i).st=1->dH (x.c i)->(i:Int)∈L)
  (e:∀j:Nat,(j:Int)∈L->∀p,p<(x.c j).F.length->(((x.c j).p p).key.k=2->(tgt x ((x.c j).p p).key:Int)∈L)/\(((x.c j).p p).val.k=2->(tgt x ((x.c j).p p).val:Int)∈L)) (i:Nat):(i:Int)∈L↔cU x i:=by
 constructor;grind[cU,tgt,Hp.c,dH,Cl.p];intro h;exact h (λi=>(i:Int)∈L) g f (λj p a d b=>(e j a p d).1 b) (λj p a d b=>(e j a p d).2 b)
theorem c7x:(prog.info? 4).map (λi=>(i.zero,i.size,i.bytes))=some (some (.bool false),1,1):=by kernel_rfl
theorem c6k(n:Nat)(f:n<=1048576)(w:World):∃z,(Instr.makeSlice 125 (iv n) (iv n)).run prog w=.ok (sS w.heap.size n n) (w.alloc (.cells z 4))/\z=madeCells #[.bool false] n:=by
 have⟨e,d,a,c,b⟩:=info_parts c7x;have h:=run_make (P:=prog) w 125 4 e _ underlying125 d a .i64 .i64 n n (by omega) (nB _) (by rw[b];omega) (by omega);rw[c]at h;simp only[Int.toNat_natCast,Nat.mul_one]at h;exact⟨_,h,rfl⟩
