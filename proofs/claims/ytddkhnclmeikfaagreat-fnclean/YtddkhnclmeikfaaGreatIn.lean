import Derived.Test.YtddkhnclmeikfaaGreatBase
namespace Go.Proofs.YtddkhnclmeikfaaGreat
open Go.RowKit
attribute [local go_sem ↓] Go.wp_at_zero Go.wp_at_succ
variable{x:Hp}{w w':World}{b kr kc kg:Nat}{ar ac ag:Option Addr}
def Cl0:Cl:=⟨0,0,0,0,0,0,0,[]⟩
def Hp.c(x:Hp)(i:Nat):Cl:=x.A.getD i Cl0
theorem Hp.c_eq(x:Hp)(i:Nat)(h:i<x.A.length):x.A[i]=x.c i:=by simp [Hp.c,h]
structure R1(x:Hp):Prop where
 M:1<=x.M/\x.M<=4000
 B:x.B.length=16
 A:(x.A.length:Int)<=2*x.M
 D:x.D.length<=x.A.length
 born:0<=x.born/\x.born<=1000000000
 Q:0<=x.Q/\x.Q<=1000000000
 S:0<=x.S/\x.S<=1000000000
 per:0<=x.per/\x.per<=64
 V:0<=x.V/\x.V<=4000
 E:0<=x.E/\x.E<=6
 I:0<=x.I/\x.I<=x.A.length
 sub:0<=x.sub/\x.sub<=200
def yW(c:Cl):Prop:=c.kind=0/\c.T=0/\c.U=0/\c.born=0/\c.J=0/\c.F.length=0
def a2k(x:Hp)(c:Cl):Prop:=
 (0<=c.kind/\c.kind<=255)/\(0<=c.T/\c.T<=3)/\(0<=c.U/\c.U<=3)/\(1<=c.born/\c.born<=x.born)/\(0<=c.J/\c.J<=2)/\c.to=0/\c.F.length<=200
def eX(x:Hp)(i:Nat)(c:Cl):Prop:=
 yW c/\4<=x.E/\0<=c.to/\c.to<i/\(x.c c.to.toNat).st=1/\(x.E=4->∀k:Nat,(k:Int)<c.to->(x.c k).st≠0)
def cQ(x:Hp)(i:Nat):Prop:=
 ((x.c i).st=0/\yW (x.c i)/\(x.c i).to=0)\/((x.c i).st=2/\eX x i (x.c i))\/((x.c i).st=1/\a2k x (x.c i))
def b7m(x:Hp):Prop:=
 ∀i,i<x.A.length->(x.c i).st≠0->∀k,k<i->¬((x.c k).st=(x.c i).st/\(x.c k).born=(x.c i).born/\(x.c k).to=(x.c i).to)
def R2(x:Hp):Prop:=(∀i,i<x.A.length->cQ x i)/\b7m x
def hE(c:Cl):Nat:=if c.st=1 then 1+c.F.length else 0
def dL(cs:List Cl):Nat:=(cs.map hE).sum
def R3(x:Hp):Prop:=x.K=dL x.A/\x.K<=x.M
def uE(w:Wd)(n:Nat):Prop:=(w.k=0/\w.n=0/\w.a=0)\/(w.k=1/\w.a=0)\/(w.k=2/\w.n=0/\0<=w.a/\w.a<n)
def hY(x:Hp)(i:Nat):Prop:=x.E=3/\x.I<=i/\(x.c i).st=1/\(x.c i).J=0
def cL(x:Hp)(w:Wd)(moved:Prop):Prop:=
 uE w x.A.length/\(w.k=2->((x.c w.a.toNat).st=2/\moved)\/((x.c w.a.toNat).st=1/\¬hY x w.a.toNat))
def cX(x:Hp)(i k:Nat):Prop:=x.E≠4/\(x.E=5->(i:Int)<x.I\/((i:Int)=x.I/\(k:Int)<x.sub))
def a2m(x:Hp)(i k:Nat)(p:Pr):Prop:=
 (hY x i->uE p.key x.A.length/\uE p.val x.A.length)/\(¬hY x i->cL x p.key (¬cX x i k)/\cL x p.val (¬cX x i k))
def Pr0:Pr:=⟨⟨0,0,0⟩,⟨0,0,0⟩⟩
def Cl.p(c:Cl)(k:Nat):Pr:=c.F.getD k Pr0
theorem Cl.p_eq(c:Cl)(k:Nat)(h:k<c.F.length):c.F[k]=c.p k:=by simp [Cl.p,h]
def cU(c:Cl):Prop:=c.U=1\/c.U=2
def R4(x:Hp):Prop:=
 (∀i (h:i<x.B.length),cL x x.B[i] False)/\
 (∀i,i<x.A.length->¬(hY x i/\cU (x.c i))/\∀k,k<(x.c i).F.length->a2m x i k ((x.c i).p k))
def uD(x:Hp):Prop:=x.E=1\/x.E=2
def cnt(g:List Int)(i:Nat):Nat:=g.count (i:Int)
def eV(x:Hp)(i:Nat):Prop:=
 ((x.c i).J=1->cnt x.D i=1)/\((x.c i).J≠1->cnt x.D i=0)/\((x.c i).J=2->uD x\/(x.E=3/\x.I<=i))
def R5(x:Hp):Prop:=
 (¬uD x->x.D.length=0)/\(∀i,i<x.A.length->eV x i)/\(∀g,g∈x.D->0<=g/\g<x.A.length)
def Hp.g0(x:Hp):Nat:=(x.D.getD 0 0).toNat
def R6(x:Hp):Prop:=
 ((x.E=0\/x.E=4)->x.I=0/\x.sub=0)/\
 (x.E=2->x.I=0/\(x.D.length=0->x.sub=0)/\(x.D.length≠0->x.sub<=(x.c x.g0).F.length))/\
 (x.E=5->((x.I=x.A.length\/(x.c x.I.toNat).st≠1)->x.sub=0)/\(x.I≠x.A.length/\(x.c x.I.toNat).st=1->x.sub<=(x.c x.I.toNat).F.length))/\
 ((x.E=1\/x.E=3\/x.E=6)->x.sub=0)
def cZ(x:Hp)(w:Wd):Prop:=w.k=2/\(x.c w.a.toNat).J=0
def cC(x:Hp)(i:Nat):Nat:=
 if (x.c i).J=2 then (x.c i).F.length else if x.E=2/\x.D.length≠0/\x.D.getD 0 0=(i:Int) then x.sub.toNat else 0
def R7(x:Hp):Prop:=
 uD x->∀i,i<x.A.length->¬(cU (x.c i)/\(x.c i).J=0/\(x.E=2\/(i:Int)<x.I))/\∀k,k<cC x i->¬cZ x ((x.c i).p k).key/\¬cZ x ((x.c i).p k).val
def R8(x:Hp):Prop:=∀i,i<x.A.length->¬(x.E=6/\x.I<=i/\(x.c i).st=2)
def eQ(x:Hp)(n:Int):Prop:=
 (¬R1 x/\n=1)\/(R1 x/\¬R2 x/\n=2)\/(R1 x/\R2 x/\¬R3 x/\n=3)\/(R1 x/\R2 x/\R3 x/\¬R4 x/\n=4)\/(R1 x/\R2 x/\R3 x/\R4 x/\¬R5 x/\n=5)\/
 (R1 x/\R2 x/\R3 x/\R4 x/\R5 x/\¬R6 x/\n=6)\/(R1 x/\R2 x/\R3 x/\R4 x/\R5 x/\R6 x/\¬R7 x/\n=7)\/(R1 x/\R2 x/\R3 x/\R4 x/\R5 x/\R6 x/\R7 x/\¬R8 x/\n=8)\/
 (R1 x/\R2 x/\R3 x/\R4 x/\R5 x/\R6 x/\R7 x/\R8 x/\n=0)
theorem eQ.uniq{n m:Int}(h:eQ x n)(k:eQ x m):n=m:=by
 unfold eQ at h k;by_cases h1:R1 x <;> by_cases h2:R2 x <;> by_cases h3:R3 x <;> by_cases h4:R4 x <;> by_cases h5:R5 x <;> by_cases h6:R6 x <;> by_cases h7:R7 x <;> by_cases h8:R8 x <;> simp only [h1,h2,h3,h4,h5,h6,h7,h8,true_and,false_and,not_true_eq_false,not_false_eq_true,false_or,or_false] at h k <;> omega
structure HAt(w:World)(b:Nat)(x:Hp)(ar:Option Addr)(kr:Nat)(ac:Option Addr)(kc:Nat)(ag:Option Addr)(kg:Nat):Prop where
 c0:w.cell? ⟨b,0,none⟩=some (iv x.M)
 c1:w.cell? ⟨b,1,none⟩=some (iv x.K)
 c2:w.cell? ⟨b,2,none⟩=some (iv x.born)
 c3:w.cell? ⟨b,3,none⟩=some (.slice ar x.B.length kr)
 c4:w.cell? ⟨b,4,none⟩=some (.slice ac x.A.length kc)
 c5:w.cell? ⟨b,5,none⟩=some (iv x.E)
 c6:w.cell? ⟨b,6,none⟩=some (iv x.I)
 c7:w.cell? ⟨b,7,none⟩=some (iv x.sub)
 c8:w.cell? ⟨b,8,none⟩=some (.slice ag x.D.length kg)
 c9:w.cell? ⟨b,9,none⟩=some (iv x.per)
 c10:w.cell? ⟨b,10,none⟩=some (iv x.V)
 c11:w.cell? ⟨b,11,none⟩=some (iv x.Q)
 c12:w.cell? ⟨b,12,none⟩=some (iv x.S)
 lr:x.B.length<=35184372088832
 lc:x.A.length<=35184372088832
 lg:x.D.length<=35184372088832
 R:∀i (hi:i<x.B.length),∃b' o,ar=some ⟨b',o,none⟩/\yQ w b' (o+i*3) x.B[i]
 C:∀i,i<x.A.length->∃b' o,ac=some ⟨b',o,none⟩/\b7k w b' (o+i*8) (x.c i)
 G:∀i (hi:i<x.D.length),∃b' o,ag=some ⟨b',o,none⟩/\yD w b' (o+i*1) x.D[i]
theorem HAt.ext(h:HAt w b x ar kr ac kc ag kg)(e:Ext w w'):HAt w' b x ar kr ac kc ag kg:=
 ⟨e.keep h.c0,e.keep h.c1,e.keep h.c2,e.keep h.c3,e.keep h.c4,e.keep h.c5,e.keep h.c6,e.keep h.c7,e.keep h.c8,e.keep h.c9,e.keep h.c10,e.keep h.c11,e.keep h.c12,h.lr,h.lc,h.lg,
  λi hi=>let ⟨b',o,a,p⟩:=h.R i hi;⟨b',o,a,p.ext e⟩,λi hi=>let ⟨b',o,a,p⟩:=h.C i hi;⟨b',o,a,p.ext e⟩,λi hi=>let ⟨b',o,a,p⟩:=h.G i hi;⟨b',o,a,p.ext e⟩⟩
structure CAt(w:World)(b o:Nat)(c:Cl)(ap:Option Addr)(kp:Nat):Prop where
 p0:w.cell? ⟨b,o,none⟩=some (iv c.st)
 p1:w.cell? ⟨b,o+1,none⟩=some (iv c.kind)
 p2:w.cell? ⟨b,o+2,none⟩=some (iv c.T)
 p3:w.cell? ⟨b,o+3,none⟩=some (iv c.U)
 p4:w.cell? ⟨b,o+4,none⟩=some (iv c.born)
 p5:w.cell? ⟨b,o+5,none⟩=some (iv c.J)
 p6:w.cell? ⟨b,o+6,none⟩=some (iv c.to)
 p7:w.cell? ⟨b,o+7,none⟩=some (.slice ap c.F.length kp)
 lp:c.F.length<=35184372088832
 P:∀k,k<c.F.length->∃b' o',ap=some ⟨b',o',none⟩/\tQ w b' (o'+k*6) (c.p k)
theorem HAt.cell(h:HAt w b x ar kr ac kc ag kg)(i:Nat)(hi:i<x.A.length):
  ∃b' o ap kp,ac=some ⟨b',o,none⟩/\CAt w b' (o+i*8) (x.c i) ap kp:=by
 obtain⟨b',o,e,vp,p0,p1,p2,p3,p4,p5,p6,p7,ap,kp,rfl,lp,P⟩:=h.C i hi;exact⟨b',o,ap,kp,e,p0,p1,p2,p3,p4,p5,p6,p7,lp,λk hk=>by obtain⟨b2,o2,e2,q⟩:=P k hk;rw[Cl.p_eq _ _ hk] at q;exact⟨b2,o2,e2,q⟩⟩
theorem CAt.ext{o:Nat}{c:Cl}{ap:Option Addr}{kp:Nat}(h:CAt w b o c ap kp)(e:Ext w w'):CAt w' b o c ap kp:=
 ⟨e.keep h.p0,e.keep h.p1,e.keep h.p2,e.keep h.p3,e.keep h.p4,e.keep h.p5,e.keep h.p6,e.keep h.p7,h.lp,λk hk=>let ⟨b',o',a,p⟩:=h.P k hk;⟨b',o',a,p.ext e⟩⟩
theorem c3n(n lo hi:Int)(w:World)(h1:lo<=n)(h2:n<=hi):Calls Tryz.prog 78 #[.int .i64 n,.int .i64 lo,.int .i64 hi] w λe w'=>e=.returned (.bool true)/\w'=w:=by
 go_enter Tryz.func78,Tryz.ntmps78
 go_wp2
 go_ret;exact⟨rfl,rfl⟩
theorem c0n(n lo hi:Int)(w:World)(h:n<lo\/hi<n):Calls Tryz.prog 78 #[.int .i64 n,.int .i64 lo,.int .i64 hi] w λe w'=>e=.returned (.bool false)/\w'=w:=by
 by_cases h1:lo<=n
 ·have h2:hi<n:=by omega
  go_enter Tryz.func78,Tryz.ntmps78
  go_wp2
  go_ret;exact⟨by simp;omega,rfl⟩
 ·go_enter Tryz.func78,Tryz.ntmps78
  go_wp2
  go_ret;exact⟨rfl,rfl⟩
def uX(n lo hi:Int):Bool:=decide (lo<=n/\n<=hi)
theorem c0o(n lo hi:Int)(w:World):Calls Tryz.prog 78 #[.int .i64 n,.int .i64 lo,.int .i64 hi] w λe w'=>e=.returned (.bool (uX n lo hi))/\w'=w:=by
 by_cases h:lo<=n/\n<=hi
 ·have e:uX n lo hi=true:=by simp [uX,h]
  rw[e];exact c3n n lo hi w h.1 h.2
 ·have e:uX n lo hi=false:=by unfold uX;exact decide_eq_false h
  rw[e];exact c0n n lo hi w (by omega)
theorem l1in_in(n lo hi:Int)(w:World)(h1:lo<=n)(h2:n<=hi):Calls Tryz.prog 60 #[.int .i64 n,.int .i64 lo,.int .i64 hi] w λe w'=>e=.returned (.bool true)/\w'=w:=by
 go_enter Tryz.func60,Tryz.ntmps60
 go_wp2
 go_ret;exact⟨rfl,rfl⟩
theorem c7c(n lo hi:Int)(w:World)(h:n<lo\/hi<n):Calls Tryz.prog 60 #[.int .i64 n,.int .i64 lo,.int .i64 hi] w λe w'=>e=.returned (.bool false)/\w'=w:=by
 by_cases h1:lo<=n
 ·have h2:hi<n:=by omega
  go_enter Tryz.func60,Tryz.ntmps60
  go_wp2
  go_ret;exact⟨by simp;omega,rfl⟩
 ·go_enter Tryz.func60,Tryz.ntmps60
  go_wp2
  go_ret;exact⟨rfl,rfl⟩
def hD(n lo hi:Int):Bool:=decide (lo<=n/\n<=hi)
theorem dK(n lo hi:Int)(w:World):Calls Tryz.prog 60 #[.int .i64 n,.int .i64 lo,.int .i64 hi] w λe w'=>e=.returned (.bool (hD n lo hi))/\w'=w:=by
 by_cases h:lo<=n/\n<=hi
 ·have e:hD n lo hi=true:=by simp [hD,h]
  rw[e];exact l1in_in n lo hi w h.1 h.2
 ·have e:hD n lo hi=false:=by unfold hD;exact decide_eq_false h
  rw[e];exact c7c n lo hi w (by omega)
end Go.Proofs.YtddkhnclmeikfaaGreat
