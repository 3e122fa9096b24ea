import Derived.Test.YtddkhnclmeikfaaGreatLs
import Derived.Maps.AppendAt
namespace Go.Proofs.YtddkhnclmeikfaaGreat
open Go.RowKit
attribute [local go_sem ↓] Go.wp_at_zero Go.wp_at_succ
variable{w w' W w5:World}{x:Hp}{B b br bc o k base n kr kc kg:Nat}{vr vc vg v:Value}{pb pk:Nat->Nat}{pa:Nat->Option Addr}{S:Nat->Prop}{xs:List Value}{ar ac ag ad:Option Addr}{t T:TypeId}
def Cl0:Cl:=⟨0,0,0,0,0,0,0,[]⟩
def Hp.c(x:Hp)(i:Nat):Cl:=x.cells.getD i Cl0
theorem Hp.c_eq(x:Hp)(i:Nat)(h:i<x.cells.length):x.cells[i]=x.c i:=by simp [Hp.c,h]
structure R1(x:Hp):Prop where
 room:1<=x.room/\x.room<=4000
 regs:x.regs.length=16
 cells:(x.cells.length:Int)<=2*x.room
 gray:x.gray.length<=x.cells.length
 born:0<=x.born/\x.born<=1000000000
 rounds:0<=x.rounds/\x.rounds<=1000000000
 forced:0<=x.forced/\x.forced<=1000000000
 per:0<=x.per/\x.per<=64
 start:0<=x.start/\x.start<=4000
 phase:0<=x.phase/\x.phase<=6
 hand:0<=x.hand/\x.hand<=x.cells.length
 sub:0<=x.sub/\x.sub<=200
def a5k(c:Cl):Prop:=c.kind=0/\c.weak=0/\c.last=0/\c.born=0/\c.color=0/\c.prs.length=0
def a3h(x:Hp)(c:Cl):Prop:=
 (0<=c.kind/\c.kind<=255)/\(0<=c.weak/\c.weak<=3)/\(0<=c.last/\c.last<=3)/\(1<=c.born/\c.born<=x.born)/\(0<=c.color/\c.color<=2)/\c.to=0/\c.prs.length<=200
def eV(x:Hp)(i:Nat)(c:Cl):Prop:=
 a5k c/\4<=x.phase/\0<=c.to/\c.to<i/\(x.c c.to.toNat).st=1/\(x.phase=4->∀k:Nat,(k:Int)<c.to->(x.c k).st≠0)
def dN(x:Hp)(i:Nat):Prop:=
 ((x.c i).st=0/\a5k (x.c i)/\(x.c i).to=0)\/((x.c i).st=2/\eV x i (x.c i))\/((x.c i).st=1/\a3h x (x.c i))
def b7q(x:Hp):Prop:=
 ∀i,i<x.cells.length->(x.c i).st≠0->∀k,k<i->¬((x.c k).st=(x.c i).st/\(x.c k).born=(x.c i).born/\(x.c k).to=(x.c i).to)
def R2(x:Hp):Prop:=(∀i,i<x.cells.length->dN x i)/\b7q x
def cH(c:Cl):Nat:=if c.st=1 then 1+c.prs.length else 0
def dQ(cs:List Cl):Nat:=(cs.map cH).sum
def R3(x:Hp):Prop:=x.used=dQ x.cells/\x.used<=x.room
def uJ(w:Wd)(n:Nat):Prop:=(w.k=0/\w.n=0/\w.a=0)\/(w.k=1/\w.a=0)\/(w.k=2/\w.n=0/\0<=w.a/\w.a<n)
def cL(x:Hp)(i:Nat):Prop:=x.phase=3/\x.hand<=i/\(x.c i).st=1/\(x.c i).color=0
def cZ(x:Hp)(w:Wd)(moved:Prop):Prop:=
 uJ w x.cells.length/\(w.k=2->((x.c w.a.toNat).st=2/\moved)\/((x.c w.a.toNat).st=1/\¬cL x w.a.toNat))
def cD(x:Hp)(i k:Nat):Prop:=x.phase≠4/\(x.phase=5->(i:Int)<x.hand\/((i:Int)=x.hand/\(k:Int)<x.sub))
def a2o(x:Hp)(i k:Nat)(p:Pr):Prop:=
 (cL x i->uJ p.key x.cells.length/\uJ p.val x.cells.length)/\(¬cL x i->cZ x p.key (¬cD x i k)/\cZ x p.val (¬cD x i k))
def Pr0:Pr:=⟨⟨0,0,0⟩,⟨0,0,0⟩⟩
def Cl.p(c:Cl)(k:Nat):Pr:=c.prs.getD k Pr0
theorem Cl.p_eq(c:Cl)(k:Nat)(h:k<c.prs.length):c.prs[k]=c.p k:=by simp [Cl.p,h]
def cQ(c:Cl):Prop:=c.last=1\/c.last=2
def R4(x:Hp):Prop:=
 (∀i (h:i<x.regs.length),cZ x x.regs[i] False)/\
 (∀i,i<x.cells.length->¬(cL x i/\cQ (x.c i))/\∀k,k<(x.c i).prs.length->a2o x i k ((x.c i).p k))
def uE(x:Hp):Prop:=x.phase=1\/x.phase=2
def cnt(g:List Int)(i:Nat):Nat:=g.count (i:Int)
def eQ(x:Hp)(i:Nat):Prop:=
 ((x.c i).color=1->cnt x.gray i=1)/\((x.c i).color≠1->cnt x.gray i=0)/\((x.c i).color=2->uE x\/(x.phase=3/\x.hand<=i))
def R5(x:Hp):Prop:=
 (¬uE x->x.gray.length=0)/\(∀i,i<x.cells.length->eQ x i)/\(∀g,g∈x.gray->0<=g/\g<x.cells.length)
def Hp.g0(x:Hp):Nat:=(x.gray.getD 0 0).toNat
def R6(x:Hp):Prop:=
 ((x.phase=0\/x.phase=4)->x.hand=0/\x.sub=0)/\
 (x.phase=2->x.hand=0/\(x.gray.length=0->x.sub=0)/\(x.gray.length≠0->x.sub<=(x.c x.g0).prs.length))/\
 (x.phase=5->((x.hand=x.cells.length\/(x.c x.hand.toNat).st≠1)->x.sub=0)/\(x.hand≠x.cells.length/\(x.c x.hand.toNat).st=1->x.sub<=(x.c x.hand.toNat).prs.length))/\
 ((x.phase=1\/x.phase=3\/x.phase=6)->x.sub=0)
def cX(x:Hp)(w:Wd):Prop:=w.k=2/\(x.c w.a.toNat).color=0
def cN(x:Hp)(i:Nat):Nat:=
 if (x.c i).color=2 then (x.c i).prs.length else if x.phase=2/\x.gray.length≠0/\x.gray.getD 0 0=(i:Int) then x.sub.toNat else 0
def R7(x:Hp):Prop:=
 uE x->∀i,i<x.cells.length->¬(cQ (x.c i)/\(x.c i).color=0/\(x.phase=2\/(i:Int)<x.hand))/\∀k,k<cN x i->¬cX x ((x.c i).p k).key/\¬cX x ((x.c i).p k).val
def R8(x:Hp):Prop:=∀i,i<x.cells.length->¬(x.phase=6/\x.hand<=i/\(x.c i).st=2)
def eU(x:Hp)(n:Int):Prop:=
 (¬R1 x/\n=1)\/(R1 x/\¬R2 x/\n=2)\/(R1 x/\R2 x/\¬R3 x/\n=3)\/(R1 x/\R2 x/\R3 x/\¬R4 x/\n=4)\/(R1 x/\R2 x/\R3 x/\R4 x/\¬R5 x/\n=5)\/
 (R1 x/\R2 x/\R3 x/\R4 x/\R5 x/\¬R6 x/\n=6)\/(R1 x/\R2 x/\R3 x/\R4 x/\R5 x/\R6 x/\¬R7 x/\n=7)\/(R1 x/\R2 x/\R3 x/\R4 x/\R5 x/\R6 x/\R7 x/\¬R8 x/\n=8)\/
 (R1 x/\R2 x/\R3 x/\R4 x/\R5 x/\R6 x/\R7 x/\R8 x/\n=0)
theorem eU.uniq{n m:Int}(h:eU x n)(k:eU x m):n=m:=by
 unfold eU at h k;by_cases h1:R1 x <;> by_cases h2:R2 x <;> by_cases h3:R3 x <;> by_cases h4:R4 x <;> by_cases h5:R5 x <;> by_cases h6:R6 x <;> by_cases h7:R7 x <;> by_cases h8:R8 x <;> simp only [h1,h2,h3,h4,h5,h6,h7,h8,true_and,false_and,not_true_eq_false,not_false_eq_true,false_or,or_false] at h k <;> omega
structure HAt(w:World)(b:Nat)(x:Hp)(ar:Option Addr)(kr:Nat)(ac:Option Addr)(kc:Nat)(ag:Option Addr)(kg:Nat):Prop where
 c0:w.cell? ⟨b,0,none⟩=some (iv x.room)
 c1:w.cell? ⟨b,1,none⟩=some (iv x.used)
 c2:w.cell? ⟨b,2,none⟩=some (iv x.born)
 c3:w.cell? ⟨b,3,none⟩=some (.slice ar x.regs.length kr)
 c4:w.cell? ⟨b,4,none⟩=some (.slice ac x.cells.length kc)
 c5:w.cell? ⟨b,5,none⟩=some (iv x.phase)
 c6:w.cell? ⟨b,6,none⟩=some (iv x.hand)
 c7:w.cell? ⟨b,7,none⟩=some (iv x.sub)
 c8:w.cell? ⟨b,8,none⟩=some (.slice ag x.gray.length kg)
 c9:w.cell? ⟨b,9,none⟩=some (iv x.per)
 c10:w.cell? ⟨b,10,none⟩=some (iv x.start)
 c11:w.cell? ⟨b,11,none⟩=some (iv x.rounds)
 c12:w.cell? ⟨b,12,none⟩=some (iv x.forced)
 lr:x.regs.length<=35184372088832
 lc:x.cells.length<=35184372088832
 lg:x.gray.length<=35184372088832
 R:∀i (hi:i<x.regs.length),∃b' o,ar=some ⟨b',o,none⟩/\yC w b' (o+i*3) x.regs[i]
 C:∀i,i<x.cells.length->∃b' o,ac=some ⟨b',o,none⟩/\b7p w b' (o+i*8) (x.c i)
 G:∀i (hi:i<x.gray.length),∃b' o,ag=some ⟨b',o,none⟩/\yD w b' (o+i*1) x.gray[i]
theorem HAt.ext(h:HAt w b x ar kr ac kc ag kg)(e:Ext w w'):HAt w' b x ar kr ac kc ag kg:=
 ⟨e.keep h.c0,e.keep h.c1,e.keep h.c2,e.keep h.c3,e.keep h.c4,e.keep h.c5,e.keep h.c6,e.keep h.c7,e.keep h.c8,e.keep h.c9,e.keep h.c10,e.keep h.c11,e.keep h.c12,h.lr,h.lc,h.lg,
  λi hi=>let ⟨b',o,a,p⟩:=h.R i hi;⟨b',o,a,p.ext e⟩,λi hi=>let ⟨b',o,a,p⟩:=h.C i hi;⟨b',o,a,p.ext e⟩,λi hi=>let ⟨b',o,a,p⟩:=h.G i hi;⟨b',o,a,p.ext e⟩⟩
structure CAt(w:World)(b o:Nat)(c:Cl)(ap:Option Addr)(kp:Nat):Prop where
 p0:w.cell? ⟨b,o,none⟩=some (iv c.st)
 p1:w.cell? ⟨b,o+1,none⟩=some (iv c.kind)
 p2:w.cell? ⟨b,o+2,none⟩=some (iv c.weak)
 p3:w.cell? ⟨b,o+3,none⟩=some (iv c.last)
 p4:w.cell? ⟨b,o+4,none⟩=some (iv c.born)
 p5:w.cell? ⟨b,o+5,none⟩=some (iv c.color)
 p6:w.cell? ⟨b,o+6,none⟩=some (iv c.to)
 p7:w.cell? ⟨b,o+7,none⟩=some (.slice ap c.prs.length kp)
 lp:c.prs.length<=35184372088832
 P:∀k,k<c.prs.length->∃b' o',ap=some ⟨b',o',none⟩/\zW w b' (o'+k*6) (c.p k)
theorem HAt.cell(h:HAt w b x ar kr ac kc ag kg)(i:Nat)(hi:i<x.cells.length):
  ∃b' o ap kp,ac=some ⟨b',o,none⟩/\CAt w b' (o+i*8) (x.c i) ap kp:=by
 obtain⟨b',o,e,vp,p0,p1,p2,p3,p4,p5,p6,p7,ap,kp,rfl,lp,P⟩:=h.C i hi;exact⟨b',o,ap,kp,e,p0,p1,p2,p3,p4,p5,p6,p7,lp,λk hk=>by obtain⟨b2,o2,e2,q⟩:=P k hk;rw[Cl.p_eq _ _ hk] at q;exact⟨b2,o2,e2,q⟩⟩
theorem CAt.ext{c:Cl}{ap:Option Addr}{kp:Nat}(h:CAt w b o c ap kp)(e:Ext w w'):CAt w' b o c ap kp:=
 ⟨e.keep h.p0,e.keep h.p1,e.keep h.p2,e.keep h.p3,e.keep h.p4,e.keep h.p5,e.keep h.p6,e.keep h.p7,h.lp,λk hk=>let ⟨b',o',a,p⟩:=h.P k hk;⟨b',o',a,p.ext e⟩⟩
theorem c4c(n lo hi:Int)(w:World)(h1:lo<=n)(h2:n<=hi):Calls Tryz.prog 78 #[.int .i64 n,.int .i64 lo,.int .i64 hi] w λe w'=>e=.returned (.bool true)/\w'=w:=by
 go_enter Tryz.func78,Tryz.ntmps78
 go_wp2
 go_ret;exact⟨rfl,rfl⟩
theorem c0x(n lo hi:Int)(w:World)(h:n<lo\/hi<n):Calls Tryz.prog 78 #[.int .i64 n,.int .i64 lo,.int .i64 hi] w λe w'=>e=.returned (.bool false)/\w'=w:=by
 by_cases h1:lo<=n
 ·have h2:hi<n:=by omega
  go_enter Tryz.func78,Tryz.ntmps78
  go_wp2
  go_ret;exact⟨by simp;omega,rfl⟩
 ·go_enter Tryz.func78,Tryz.ntmps78
  go_wp2
  go_ret;exact⟨rfl,rfl⟩
def uQ(n lo hi:Int):Bool:=decide (lo<=n/\n<=hi)
theorem c0y(n lo hi:Int)(w:World):Calls Tryz.prog 78 #[.int .i64 n,.int .i64 lo,.int .i64 hi] w λe w'=>e=.returned (.bool (uQ n lo hi))/\w'=w:=by
 by_cases h:lo<=n/\n<=hi
 ·have e:uQ n lo hi=true:=by simp [uQ,h]
  rw[e];exact c4c n lo hi w h.1 h.2
 ·have e:uQ n lo hi=false:=by unfold uQ;exact decide_eq_false h
  rw[e];exact c0x n lo hi w (by omega)
theorem l1in_in(n lo hi:Int)(w:World)(h1:lo<=n)(h2:n<=hi):Calls Tryz.prog 60 #[.int .i64 n,.int .i64 lo,.int .i64 hi] w λe w'=>e=.returned (.bool true)/\w'=w:=by
 go_enter Tryz.func60,Tryz.ntmps60
 go_wp2
 go_ret;exact⟨rfl,rfl⟩
theorem c7b(n lo hi:Int)(w:World)(h:n<lo\/hi<n):Calls Tryz.prog 60 #[.int .i64 n,.int .i64 lo,.int .i64 hi] w λe w'=>e=.returned (.bool false)/\w'=w:=by
 by_cases h1:lo<=n
 ·have h2:hi<n:=by omega
  go_enter Tryz.func60,Tryz.ntmps60
  go_wp2
  go_ret;exact⟨by simp;omega,rfl⟩
 ·go_enter Tryz.func60,Tryz.ntmps60
  go_wp2
  go_ret;exact⟨rfl,rfl⟩
def uK(n lo hi:Int):Bool:=decide (lo<=n/\n<=hi)
theorem dX(n lo hi:Int)(w:World):Calls Tryz.prog 60 #[.int .i64 n,.int .i64 lo,.int .i64 hi] w λe w'=>e=.returned (.bool (uK n lo hi))/\w'=w:=by
 by_cases h:lo<=n/\n<=hi
 ·have e:uK n lo hi=true:=by simp [uK,h]
  rw[e];exact l1in_in n lo hi w h.1 h.2
 ·have e:uK n lo hi=false:=by unfold uK;exact decide_eq_false h
  rw[e];exact c7b n lo hi w (by omega)
theorem a7o(w:World)(z:Array Value)(m:Nat)(t:TypeId)(j:Nat)(hj:j<m):yZ (w.alloc (.cells (madeCells z m) t)) w.heap.size j:=by
 have e:(w.alloc (.cells (madeCells z m) t)).heap[w.heap.size]?=some (.cells (madeCells z m) t):=by show(w.heap.push _)[w.heap.size]?=_;simp
 have hs:=size_madeCells z m;refine⟨⟨(madeCells z m)[j]'(by omega),?_⟩,?_⟩
 ·unfold World.cell?;rw[e];simp [hs,hj]
 ·unfold World.frozen?;rw[e];simp
theorem a4t{S:Nat->Prop}{g:Nat}(hg:S g):∀{vs:List Value} {a w1:World} {o:Nat},uX S a w1->uX S a (w1.setCells g o vs)
 | [],_,_,_,h=>h
 | _::r,_,_,_,h=>a4t hg (vs:=r) (h.setCell hg _)
theorem yN.mono2{α:Type}{p q:Nat->Nat->α->Prop}{sz:Nat}{xs:List α}(h:yN p sz v xs)(hpq:∀b o n c,v=.slice (some ⟨b,o,none⟩) n c->∀o' x,p b o' x->q b o' x):yN q sz v xs:=by
 obtain⟨ad,cap,hv,hl,hx⟩:=h;exact⟨ad,cap,hv,hl,λi hi=>by obtain⟨b,o,ha,hp⟩:=hx i hi;exact⟨b,o,ha,hpq b o _ _ (by rw[hv,ha]) _ _ hp⟩⟩
def Nf1(B:Nat)(w:World):Prop:=B<w.heap.size/\∀j,w.frozen? ⟨B,j,none⟩=false
theorem Nf1.ext(h:Nf1 B w)(e:Ext w w'):Nf1 B w':=⟨Nat.lt_of_lt_of_le h.1 e.size,λj=>by rw[(dH e).2 B j h.1];exact h.2 j⟩
theorem Nf1.set(h:Nf1 B w)(p:Addr)(u:Value):Nf1 B (w.setCell p u):=⟨by have:=h.1;simpa [World.setCell] using this,λj=>by rw[World.frozen?_setCell];exact h.2 j⟩
theorem Nf1.put{B g:Nat}:∀{vs:List Value} {w:World} {o:Nat},Nf1 B w->Nf1 B (w.setCells g o vs)
 | [],_,_,h=>h
 | _::r,_,_,h=>Nf1.put (vs:=r) (h.set _ _)
theorem Nf1.made(w:World)(z:Array Value)(m:Nat)(t:TypeId):Nf1 w.heap.size (w.alloc (.cells (madeCells z m) t)):=by
 refine⟨by simp,λj=>?_⟩;have e:(w.alloc (.cells (madeCells z m) t)).heap[w.heap.size]?=some (.cells (madeCells z m) t):=by show(w.heap.push _)[w.heap.size]?=_;simp
 unfold World.frozen?;rw[e];simp
theorem c7c(h:uX S w w'){xs:List Pr}(hv:∀b o n c,v=.slice (some ⟨b,o,none⟩) n c->¬S b)(hx:SlP w v xs):SlP w' v xs:=
 yN.mono2 hx λb o n c e _ _ hp=>⟨h.keep (hv b o n c e) hp.1,h.keep (hv b o n c e) hp.2.1,h.keep (hv b o n c e) hp.2.2.1,h.keep (hv b o n c e) hp.2.2.2.1,h.keep (hv b o n c e) hp.2.2.2.2.1,h.keep (hv b o n c e) hp.2.2.2.2.2⟩
theorem b5f:(Tryz.prog.info? 152).map (λi=>(i.zero,i.size,i.bytes))=some (some (.agg #[iv 0,iv 0,iv 0]),3,24):=by kernel_rfl
theorem a4u:(Tryz.prog.info? 154).map (λi=>(i.zero,i.size,i.bytes))=some (some (.agg #[iv 0,iv 0,iv 0,iv 0,iv 0,iv 0]),6,48):=by kernel_rfl
theorem b2n:(Tryz.prog.info? 3).map (λi=>(i.zero,i.size,i.bytes))=some (some (iv 0),1,8):=by kernel_rfl
theorem mkInts(n:Nat)(hn:n<=1048576)(w:World):∃z,(Instr.makeSlice 32 (.int .i64 n) (.int .i64 n)).run Tryz.prog w=.ok (.slice (some ⟨w.heap.size,0,none⟩) n n) (w.alloc (.cells (madeCells z (n*1)) 3)):=by
 obtain⟨i0,hi,hz0,hz1,hz2⟩:=info_parts b2n;have h:=run_make (P:=Tryz.prog) w 32 3 i0 _ Tryz.underlying32 hi hz0 .i64 .i64 n n (by omega) (Int.le_refl _) (by rw[hz2];omega) (by omega);rw[hz1] at h;simp only [Int.toNat_natCast] at h;exact⟨_,h⟩
theorem a7p:(Tryz.prog.info? 62).map (λi=>(i.zero,i.size,i.bytes))=some (some (.agg #[iv 0,iv 0,iv 0,iv 0,iv 0,iv 0,iv 0,.slice none 0 0]),8,80):=by kernel_rfl
theorem mkCells(n:Nat)(hn:n<=1048576)(w:World):∃z,(Instr.makeSlice 31 (.int .i64 n) (.int .i64 n)).run Tryz.prog w=.ok (.slice (some ⟨w.heap.size,0,none⟩) n n) (w.alloc (.cells (madeCells z (n*8)) 62)):=by
 obtain⟨i0,hi,hz0,hz1,hz2⟩:=info_parts a7p;have h:=run_make (P:=Tryz.prog) w 31 62 i0 _ Tryz.underlying31 hi hz0 .i64 .i64 n n (by omega) (Int.le_refl _) (by rw[hz2];omega) (by omega);rw[hz1] at h;simp only [Int.toNat_natCast] at h;exact⟨_,h⟩
theorem b2o{α:Type}(f:α->List Value)(c:Nat)(hc:∀a,(f a).length=c):∀(l:List α) (i j:Nat) (hi:i<l.length),j<c->(l.flatMap f)[i*c+j]?=(f l[i])[j]?
 | a::l,0,j,_,hj=>by simp only [List.flatMap_cons,Nat.zero_mul,Nat.zero_add,List.getElem_cons_zero];exact List.getElem?_append_left (by rw[hc];exact hj)
 | a::l,i+1,j,hi,hj=>by
  simp only [List.flatMap_cons,List.getElem_cons_succ];rw[List.getElem?_append_right (by rw[hc,Nat.succ_mul];omega),hc,show(i+1)*c+j-c=i*c+j by rw[Nat.succ_mul];omega];exact b2o f c hc l i j (by simpa using hi) hj
theorem b5g{c:Nat}{α:Type}{f:α->List Value}(hc:∀a,(f a).length=c){L:List α}(h:w.ownsRow base t c v L.length (L.flatMap f)):∃ad cap,v=.slice ad L.length cap/\(0<L.length->∃g,ad=some ⟨g,0,none⟩)/\∀i (hi:i<L.length),∃g,ad=some ⟨g,0,none⟩/\base<=g/\g<w.heap.size/\∀j,j<c->w.cell? ⟨g,0+i*c+j,none⟩=(f L[i])[j]?:=by
 rcases h.2 with⟨h0,h1⟩ | ⟨g,cap,cur,h0,hb,hg,hr⟩
 ·exact⟨none,0,by rw[h0,h1],λq=>by omega,λi hi=>by omega⟩
 ·subst h0;refine⟨_,cap,rfl,λ_=>⟨g,rfl⟩,λi hi=>⟨g,rfl,(h.lt g rfl).1,(h.lt g rfl).2,λj hj=>?_⟩⟩
  have hlt:i*c+j<L.length*c:=by
   have:(i+1)*c<=L.length*c:=Nat.mul_le_mul_right c (by omega);rw[Nat.succ_mul] at this;omega
  rw[Nat.zero_add,World.ownsRow.cellAt h (i*c+j) hlt];exact b2o f c hc L i j hi hj
theorem a3u{a:World}{c:Nat}(ea:Ext a W)(hown:W.ownsRow base t c v n xs)(hb:a.heap.size<=base)(hg:W.grownBy w5 v.ownBlock):Ext a w5:=
 Below.trans ea ⟨hg.os,hg.tape,hg.output,hg.size,λk hk=>hg.block k (Nat.lt_of_lt_of_le hk ea.size) (λe=>by have:=(hown.lt k e.symm).1;omega)⟩
theorem b2p{w3:World}{c n':Nat}{ys:List Value}{v' u:Value}{bg:Nat}(hb:bg<base)(ew:Ext w3 W)(hW:W.ownsRow base T c v n xs)(h3:w3.heap.size<=bg)(hlt:bg<W.heap.size)(hg:W.grownBy w5 v.ownBlock)(h5:w5.ownsRow base T c v' n' ys):
  (w5.setCell ⟨bg,o,none⟩ u).ownsRow base T c v' n' ys/\Ext w3 (w5.setCell ⟨bg,o,none⟩ u)/\(∀o',o'≠o->(w5.setCell ⟨bg,o,none⟩ u).cell? ⟨bg,o',none⟩=W.cell? ⟨bg,o',none⟩)/\(∀o',(w5.setCell ⟨bg,o,none⟩ u).frozen? ⟨bg,o',none⟩=W.frozen? ⟨bg,o',none⟩)/\(∀y,W.cell? ⟨bg,o,none⟩=some y->(w5.setCell ⟨bg,o,none⟩ u).cell? ⟨bg,o,none⟩=some u)/\(∀q,q<W.heap.size->q≠bg->v.ownBlock≠some q->(w5.setCell ⟨bg,o,none⟩ u).heap[q]?=W.heap[q]?):=by
 have hblk:w5.heap[bg]?=W.heap[bg]?:=hg.block bg hlt (λe=>by have:=(hW.lt bg e.symm).1;omega);refine⟨uN h5 (λq hq=>Below.heap_setCell _ _ _ _ (λe=>by have:=(h5.lt q hq).1;simp only at e;omega)),(a3u ew hW (by omega) hg).setCell h3 u,λo' ho=>?_,λo'=>?_,λy hy=>?_,λq hq hne hv=>?_⟩
 ·rw[uC _ (.inr (λe=>ho e.symm))];exact World.cell?_of_block (a:=⟨bg,o',none⟩) hblk
 ·rw[World.frozen?_setCell];exact World.frozen?_of_block (a:=⟨bg,o',none⟩) hblk
 ·exact World.cell?_setCell_same _ _ _ ((World.cell?_of_block (a:=⟨bg,o,none⟩) hblk).trans hy)
 ·exact(Below.heap_setCell _ _ _ _ hne).trans (hg.block q hq (λe=>hv e.symm))
theorem a3y{b':Nat}{c:Nat}(h:w.ownsRow b T c v n xs)(hb:b'<=b):w.ownsRow b' T c v n xs:=
 ⟨h.1,h.2.imp id (λ⟨g,cap,cur,hv,hg,r⟩=>⟨g,cap,cur,hv,Nat.le_trans hb hg,r⟩)⟩
theorem a4v{α:Type}(f:α->List Value)(c:Nat)(hc:∀a,(f a).length=c)(L:List α):(L.flatMap f).length=L.length*c:=by
 induction L with
 | nil=>simp
 | cons a L ih=>simp [ih,hc,Nat.succ_mul];omega
theorem b7r{α:Type}(f:α->List Value)(h:∀a u,u∈f a->u.oneCell'=true)(L:List α):∀u,u∈L.flatMap f->u.oneCell'=true:=λu hu=>by
 obtain⟨a,_,h2⟩:=List.mem_flatMap.1 hu;exact h a u h2
theorem b7s(b o j:Nat):(⟨b,o,none⟩:Addr).add j=⟨b,o+j,none⟩:=by unfold Addr.add;split <;> simp_all
theorem a7q{α:Type}(f:α->List Value)(c:Nat)(h0:0<c)(hc:∀a,(f a).length=c)(L:List α)(b o:Nat)(h:∀i (hi:i<L.length),∀j,j<c->w.cell? ⟨b,o+i*c+j,none⟩=(f L[i])[j]?):∀j u,(L.flatMap f)[j]?=some u->w.cell? ((⟨b,o,none⟩:Addr).add j)=some u:=λj u hu=>by
 have hj:j<L.length*c:=by
  have:=(List.getElem?_eq_some_iff.1 hu).1
  rwa [a4v f c hc] at this
 have hq:j / c<L.length:=(Nat.div_lt_iff_lt_mul h0).2 hj;have hm:j % c<c:=Nat.mod_lt _ h0;have e:j / c*c+j % c=j:=Nat.div_add_mod' j c;rw[b7s,<-hu];have:=h (j / c) hq (j % c) hm;rw[Nat.add_assoc,e] at this;rw[this,<-b2o f c hc L (j / c) (j % c) hq hm,e]
def fW(y:Wd):List Value:=[iv y.k,iv y.n,iv y.a]
def fP(p:Pr):List Value:=[iv p.key.k,iv p.key.n,iv p.key.a,iv p.val.k,iv p.val.n,iv p.val.a]
def fC(z:Cl×Value):List Value:=[iv z.1.st,iv z.1.kind,iv z.1.weak,iv z.1.last,iv z.1.born,iv z.1.color,iv z.1.to,z.2]
def S7(w:World)(b o:Nat)(c:Cl):Prop:=
 w.cell? ⟨b,o,none⟩=some (iv c.st)/\w.cell? ⟨b,o+1,none⟩=some (iv c.kind)/\w.cell? ⟨b,o+2,none⟩=some (iv c.weak)/\w.cell? ⟨b,o+3,none⟩=some (iv c.last)/\w.cell? ⟨b,o+4,none⟩=some (iv c.born)/\w.cell? ⟨b,o+5,none⟩=some (iv c.color)/\w.cell? ⟨b,o+6,none⟩=some (iv c.to)
theorem S7.of{c:Cl}(h:S7 w b o c)(e:∀j,j<7->w'.cell? ⟨b,o+j,none⟩=w.cell? ⟨b,o+j,none⟩):S7 w' b o c:=by
 obtain⟨a0,a1,a2,a3,a4,a5,a6⟩:=h;exact⟨(e 0 (by omega)).trans a0,(e 1 (by omega)).trans a1,(e 2 (by omega)).trans a2,(e 3 (by omega)).trans a3,(e 4 (by omega)).trans a4,(e 5 (by omega)).trans a5,(e 6 (by omega)).trans a6⟩
theorem zW.of{p:Pr}(h:zW w b o p)(e:∀j,j<6->w'.cell? ⟨b,o+j,none⟩=w.cell? ⟨b,o+j,none⟩):zW w' b o p:=by
 obtain⟨a0,a1,a2,a3,a4,a5⟩:=h;exact⟨(e 0 (by omega)).trans a0,(e 1 (by omega)).trans a1,(e 2 (by omega)).trans a2,(e 3 (by omega)).trans a3,(e 4 (by omega)).trans a4,(e 5 (by omega)).trans a5⟩
theorem yC.of{y:Wd}(h:yC w b o y)(e:∀j,j<3->w'.cell? ⟨b,o+j,none⟩=w.cell? ⟨b,o+j,none⟩):yC w' b o y:=by
 obtain⟨a0,a1,a2⟩:=h;exact⟨(e 0 (by omega)).trans a0,(e 1 (by omega)).trans a1,(e 2 (by omega)).trans a2⟩
structure Nfp(b k:Nat)(w:World):Prop where
 lt:b<w.heap.size
 nf:∀j,w.frozen? ⟨b,j,none⟩=false
 cp:∀j,j<k*6->∃v,w.cell? ⟨b,j,none⟩=some v
theorem Nfp.n1(h:Nfp b k w):Nf1 b w:=⟨h.1,h.2⟩
theorem a0f(h:Nfp b k w)(hb:w'.heap[b]?=w.heap[b]?)(hs:w.heap.size<=w'.heap.size):Nfp b k w':=
 ⟨Nat.lt_of_lt_of_le h.1 hs,λj=>(World.frozen?_of_block (a:=⟨b,j,none⟩) hb).trans (h.2 j),λj hj=>let ⟨v,hv⟩:=h.3 j hj;⟨v,(World.cell?_of_block (a:=⟨b,j,none⟩) hb).trans hv⟩⟩
theorem Nfp.ext(h:Nfp b k w)(e:Ext w w'):Nfp b k w':=a0f h (e.block b h.1) e.size
theorem Nfp.set(h:Nfp b k w)(p:Addr)(u:Value):Nfp b k (w.setCell p u):=⟨(h.n1.set p u).1,(h.n1.set p u).2,λj hj=>let ⟨_,hv⟩:=h.3 j hj;cell?_setCell_some hv⟩
theorem Nfp.put{b k g:Nat}:∀{vs:List Value} {w:World} {o:Nat},Nfp b k w->Nfp b k (w.setCells g o vs)
 | [],_,_,h=>h
 | _::r,_,_,h=>Nfp.put (vs:=r) (h.set _ _)
theorem c7e{c:Nat}{p:Pr}(h:Nfp b c w)(n:Nf1 b w')(hp:zW w' b (k*6) p)(ho:∀j,(j<k*6\/k*6+6<=j)->w'.cell? ⟨b,j,none⟩=w.cell? ⟨b,j,none⟩):Nfp b c w':=
 ⟨n.1,n.2,λj hj=>by
  by_cases e:j<k*6\/k*6+6<=j
  ·rw[ho j e];exact h.3 j hj
  ·obtain⟨h0,h1,h2,h3,h4,h5⟩:=hp;have:j=k*6\/j=k*6+1\/j=k*6+2\/j=k*6+3\/j=k*6+4\/j=k*6+5:=by omega
   rcases this with rfl | rfl | rfl | rfl | rfl | rfl
   ·exact⟨_,h0⟩
   ·exact⟨_,h1⟩
   ·exact⟨_,h2⟩
   ·exact⟨_,h3⟩
   ·exact⟨_,h4⟩
   ·exact⟨_,h5⟩⟩
structure Rws(B:Nat)(w:World)(x:Hp)(br bc:Nat)(pb:Nat->Nat)(pa:Nat->Option Addr)(pk:Nat->Nat):Prop where
 r:∀i (hi:i<x.regs.length),yC w br (i*3) x.regs[i]
 s:∀q,q<x.cells.length->S7 w bc (q*8) (x.c q)
 p7:∀q,q<x.cells.length->w.cell? ⟨bc,q*8+7,none⟩=some (.slice (pa q) (x.c q).prs.length (pk q))
 p:∀q,q<x.cells.length->∀k,k<(x.c q).prs.length->zW w (pb q) (k*6) ((x.c q).p k)
 pl:∀q,q<x.cells.length->0<pk q->pa q=some ⟨pb q,0,none⟩/\Nfp (pb q) (pk q) w/\(pb q≠br/\pb q≠bc)/\B<=pb q
 nr:0<x.regs.length->Nf1 br w/\B<=br
 nc:0<x.cells.length->Nf1 bc w/\B<=bc
 d:0<x.cells.length->br≠bc
 dp:∀q q',q<x.cells.length->q'<x.cells.length->q≠q'->0<pk q->0<pk q'->pb q≠pb q'
 kp:∀q,q<x.cells.length->(x.c q).prs.length<=pk q
theorem Rws.pw(h:Rws B w x br bc pb pa pk){q:Nat}(hq:q<x.cells.length)(hl:0<(x.c q).prs.length):0<pk q:=Nat.lt_of_lt_of_le hl (h.kp q hq)
theorem cU(h:Nf1 b w)(hb:w'.heap[b]?=w.heap[b]?)(hs:w.heap.size<=w'.heap.size):Nf1 b w':=
 ⟨Nat.lt_of_lt_of_le h.1 hs,λj=>(World.frozen?_of_block (a:=⟨b,j,none⟩) hb).trans (h.2 j)⟩
theorem Rws.same(h:Rws B w x br bc pb pa pk)(hs:w.heap.size<=w'.heap.size)
  (hr:0<x.regs.length->w'.heap[br]?=w.heap[br]?) (hc:0<x.cells.length->w'.heap[bc]?=w.heap[bc]?) (hp:∀q,q<x.cells.length->0<pk q->w'.heap[pb q]?=w.heap[pb q]?):Rws B w' x br bc pb pa pk where
 r:=λi hi=>(h.r i hi).of λj _=>World.cell?_of_block (a:=⟨br,_,none⟩) (hr (by omega))
 s:=λq hq=>(h.s q hq).of λj _=>World.cell?_of_block (a:=⟨bc,_,none⟩) (hc (by omega))
 p7:=λq hq=>(World.cell?_of_block (a:=⟨bc,_,none⟩) (hc (by omega))).trans (h.p7 q hq)
 p:=λq hq k hk=>(h.p q hq k hk).of λj _=>World.cell?_of_block (a:=⟨pb q,_,none⟩) (hp q hq (h.pw hq (by omega)))
 pl:=λq hq hl=>let ⟨a,b,c⟩:=h.pl q hq hl;⟨a,a0f b (hp q hq hl) hs,c⟩
 nr:=λhl=>⟨cU (h.nr hl).1 (hr hl) hs,(h.nr hl).2⟩
 nc:=λhl=>⟨cU (h.nc hl).1 (hc hl) hs,(h.nc hl).2⟩
 d:=h.d
 dp:=h.dp
 kp:=h.kp
theorem Rws.ext(h:Rws B w x br bc pb pa pk)(e:Ext w w'):Rws B w' x br bc pb pa pk:=
 h.same e.size (λhl=>e.block _ (h.nr hl).1.1) (λhl=>e.block _ (h.nc hl).1.1) (λq hq hl=>e.block _ (h.pl q hq hl).2.1.1)
theorem Rws.only(h:Rws B w x br bc pb pa pk)(e:uX S w w')(hr:0<x.regs.length->¬S br)(hc:0<x.cells.length->¬S bc)(hp:∀q,q<x.cells.length->0<pk q->¬S (pb q)):Rws B w' x br bc pb pa pk:=
 h.same e.size (λhl=>e.block _ (h.nr hl).1.1 (hr hl)) (λhl=>e.block _ (h.nc hl).1.1 (hc hl)) (λq hq hl=>e.block _ (h.pl q hq hl).2.1.1 (hp q hq hl))
theorem Rws.less{C:Nat}(h:Rws B w x br bc pb pa pk)(hc:C<=B):Rws C w x br bc pb pa pk:=
 ⟨h.r,h.s,h.p7,h.p,λq hq hl=>let ⟨a,b,c,d⟩:=h.pl q hq hl;⟨a,b,c,Nat.le_trans hc d⟩,λhl=>⟨(h.nr hl).1,Nat.le_trans hc (h.nr hl).2⟩,λhl=>⟨(h.nc hl).1,Nat.le_trans hc (h.nc hl).2⟩,h.d,h.dp,h.kp⟩
theorem Rws.slW(h:Rws B w x br bc pb pa pk)(kr:Nat)(ha:0<x.regs.length->ad=some ⟨br,0,none⟩)(hl:x.regs.length<=1048576):SlW w (.slice ad x.regs.length kr) x.regs:=
 ⟨_,_,rfl,by omega,λi hi=>⟨br,0,ha (by omega),by rw[Nat.zero_add];exact h.r i hi⟩⟩
theorem Rws.slC(h:Rws B w x br bc pb pa pk)(kc:Nat)(ha:0<x.cells.length->ad=some ⟨bc,0,none⟩)(hl:x.cells.length<=1048576)(h2:∀q,q<x.cells.length->(x.c q).prs.length<=200):SlC w (.slice ad x.cells.length kc) x.cells:=by
 refine⟨_,_,rfl,by omega,λi hi=>⟨bc,0,ha (by omega),?_⟩⟩;rw[Nat.zero_add,Hp.c_eq x i hi];obtain⟨a0,a1,a2,a3,a4,a5,a6⟩:=h.s i hi;refine⟨_,a0,a1,a2,a3,a4,a5,a6,h.p7 i hi,_,_,rfl,by have:=h2 i hi;omega,λk hk=>⟨pb i,0,(h.pl i hi (h.pw hi (by omega))).1,?_⟩⟩;rw[Nat.zero_add,Cl.p_eq _ _ hk];exact h.p i hi k hk
def dY(w:World)(B:Nat)(x:Hp)(vr vc vg:Value):Prop:=
 w.cell? ⟨B,0,none⟩=some (iv x.room)/\w.cell? ⟨B,1,none⟩=some (iv x.used)/\w.cell? ⟨B,2,none⟩=some (iv x.born)/\w.cell? ⟨B,3,none⟩=some vr/\w.cell? ⟨B,4,none⟩=some vc/\w.cell? ⟨B,5,none⟩=some (iv x.phase)/\w.cell? ⟨B,6,none⟩=some (iv x.hand)/\w.cell? ⟨B,7,none⟩=some (iv x.sub)/\w.cell? ⟨B,8,none⟩=some vg/\w.cell? ⟨B,9,none⟩=some (iv x.per)/\w.cell? ⟨B,10,none⟩=some (iv x.start)/\w.cell? ⟨B,11,none⟩=some (iv x.rounds)/\w.cell? ⟨B,12,none⟩=some (iv x.forced)
theorem dY.ext(h:dY w B x vr vc vg)(e:Ext w w'):dY w' B x vr vc vg:=by
 obtain⟨h0,h1,h2,h3,h4,h5,h6,h7,h8,h9,h10,h11,h12⟩:=h;exact⟨e.keep h0,e.keep h1,e.keep h2,e.keep h3,e.keep h4,e.keep h5,e.keep h6,e.keep h7,e.keep h8,e.keep h9,e.keep h10,e.keep h11,e.keep h12⟩
theorem dY.new(w:World)(x:Hp)(vr vc vg:Value)(t:TypeId):dY (w.alloc (.cells #[iv x.room,iv x.used,iv x.born,vr,vc,iv x.phase,iv x.hand,iv x.sub,vg,iv x.per,iv x.start,iv x.rounds,iv x.forced] t)) w.heap.size x vr vc vg:=by
 refine⟨?_,?_,?_,?_,?_,?_,?_,?_,?_,?_,?_,?_,?_⟩ <;> simp [go_sem]
theorem dY.of{B':Nat}(h:dY w B x vr vc vg)(e:∀o,o<13->w'.cell? ⟨B',o,none⟩=w.cell? ⟨B,o,none⟩):dY w' B' x vr vc vg:=by
 obtain⟨h0,h1,h2,h3,h4,h5,h6,h7,h8,h9,h10,h11,h12⟩:=h;exact⟨(e 0 (by omega)).trans h0,(e 1 (by omega)).trans h1,(e 2 (by omega)).trans h2,(e 3 (by omega)).trans h3,(e 4 (by omega)).trans h4,(e 5 (by omega)).trans h5,(e 6 (by omega)).trans h6,(e 7 (by omega)).trans h7,(e 8 (by omega)).trans h8,(e 9 (by omega)).trans h9,(e 10 (by omega)).trans h10,(e 11 (by omega)).trans h11,(e 12 (by omega)).trans h12⟩
theorem dY.only(h:dY w B x vr vc vg)(e:uX S w w')(hs:¬S B):dY w' B x vr vc vg:=
 h.of λo _=>e.cells B (uL h.1) hs o
theorem dY.block(h:dY w B x vr vc vg)(e:w'.heap[B]?=w.heap[B]?):dY w' B x vr vc vg:=
 h.of λo _=>World.cell?_of_block (a:=⟨B,o,none⟩) e
theorem dY.far(h:dY w B x vr vc vg)(b o:Nat)(u:Value)(hb:b≠B\/13<=o):dY (w.setCell ⟨b,o,none⟩ u) B x vr vc vg:=
 h.of λo' ho=>uC _ (by omega)
theorem dY.set3(h:dY w B x vr vc vg)(u:Value):dY (w.setCell ⟨B,3,none⟩ u) B x u vc vg:=by
 obtain⟨h0,h1,h2,h3,h4,h5,h6,h7,h8,h9,h10,h11,h12⟩:=h;exact⟨(uC _ (by omega)).trans h0,(uC _ (by omega)).trans h1,(uC _ (by omega)).trans h2,World.cell?_setCell_same _ _ _ h3,(uC _ (by omega)).trans h4,(uC _ (by omega)).trans h5,(uC _ (by omega)).trans h6,(uC _ (by omega)).trans h7,(uC _ (by omega)).trans h8,(uC _ (by omega)).trans h9,(uC _ (by omega)).trans h10,(uC _ (by omega)).trans h11,(uC _ (by omega)).trans h12⟩
theorem dY.set4(h:dY w B x vr vc vg)(u:Value):dY (w.setCell ⟨B,4,none⟩ u) B x vr u vg:=by
 obtain⟨h0,h1,h2,h3,h4,h5,h6,h7,h8,h9,h10,h11,h12⟩:=h;exact⟨(uC _ (by omega)).trans h0,(uC _ (by omega)).trans h1,(uC _ (by omega)).trans h2,(uC _ (by omega)).trans h3,World.cell?_setCell_same _ _ _ h4,(uC _ (by omega)).trans h5,(uC _ (by omega)).trans h6,(uC _ (by omega)).trans h7,(uC _ (by omega)).trans h8,(uC _ (by omega)).trans h9,(uC _ (by omega)).trans h10,(uC _ (by omega)).trans h11,(uC _ (by omega)).trans h12⟩
theorem dY.set8(h:dY w B x vr vc vg)(u:Value):dY (w.setCell ⟨B,8,none⟩ u) B x vr vc u:=by
 obtain⟨h0,h1,h2,h3,h4,h5,h6,h7,h8,h9,h10,h11,h12⟩:=h;exact⟨(uC _ (by omega)).trans h0,(uC _ (by omega)).trans h1,(uC _ (by omega)).trans h2,(uC _ (by omega)).trans h3,(uC _ (by omega)).trans h4,(uC _ (by omega)).trans h5,(uC _ (by omega)).trans h6,(uC _ (by omega)).trans h7,World.cell?_setCell_same _ _ _ h8,(uC _ (by omega)).trans h9,(uC _ (by omega)).trans h10,(uC _ (by omega)).trans h11,(uC _ (by omega)).trans h12⟩
theorem dY.set1(h:dY w B x vr vc vg)(u:Int):dY (w.setCell ⟨B,1,none⟩ (iv u)) B { x with used:=u } vr vc vg:=by
 obtain⟨h0,h1,h2,h3,h4,h5,h6,h7,h8,h9,h10,h11,h12⟩:=h;exact⟨(uC _ (by omega)).trans h0,World.cell?_setCell_same _ _ _ h1,(uC _ (by omega)).trans h2,(uC _ (by omega)).trans h3,(uC _ (by omega)).trans h4,(uC _ (by omega)).trans h5,(uC _ (by omega)).trans h6,(uC _ (by omega)).trans h7,(uC _ (by omega)).trans h8,(uC _ (by omega)).trans h9,(uC _ (by omega)).trans h10,(uC _ (by omega)).trans h11,(uC _ (by omega)).trans h12⟩
theorem dY.set2(h:dY w B x vr vc vg)(u:Int):dY (w.setCell ⟨B,2,none⟩ (iv u)) B { x with born:=u } vr vc vg:=by
 obtain⟨h0,h1,h2,h3,h4,h5,h6,h7,h8,h9,h10,h11,h12⟩:=h;exact⟨(uC _ (by omega)).trans h0,(uC _ (by omega)).trans h1,World.cell?_setCell_same _ _ _ h2,(uC _ (by omega)).trans h3,(uC _ (by omega)).trans h4,(uC _ (by omega)).trans h5,(uC _ (by omega)).trans h6,(uC _ (by omega)).trans h7,(uC _ (by omega)).trans h8,(uC _ (by omega)).trans h9,(uC _ (by omega)).trans h10,(uC _ (by omega)).trans h11,(uC _ (by omega)).trans h12⟩
theorem dY.set5(h:dY w B x vr vc vg)(u:Int):dY (w.setCell ⟨B,5,none⟩ (iv u)) B { x with phase:=u } vr vc vg:=by
 obtain⟨h0,h1,h2,h3,h4,h5,h6,h7,h8,h9,h10,h11,h12⟩:=h;exact⟨(uC _ (by omega)).trans h0,(uC _ (by omega)).trans h1,(uC _ (by omega)).trans h2,(uC _ (by omega)).trans h3,(uC _ (by omega)).trans h4,World.cell?_setCell_same _ _ _ h5,(uC _ (by omega)).trans h6,(uC _ (by omega)).trans h7,(uC _ (by omega)).trans h8,(uC _ (by omega)).trans h9,(uC _ (by omega)).trans h10,(uC _ (by omega)).trans h11,(uC _ (by omega)).trans h12⟩
theorem dY.set6(h:dY w B x vr vc vg)(u:Int):dY (w.setCell ⟨B,6,none⟩ (iv u)) B { x with hand:=u } vr vc vg:=by
 obtain⟨h0,h1,h2,h3,h4,h5,h6,h7,h8,h9,h10,h11,h12⟩:=h;exact⟨(uC _ (by omega)).trans h0,(uC _ (by omega)).trans h1,(uC _ (by omega)).trans h2,(uC _ (by omega)).trans h3,(uC _ (by omega)).trans h4,(uC _ (by omega)).trans h5,World.cell?_setCell_same _ _ _ h6,(uC _ (by omega)).trans h7,(uC _ (by omega)).trans h8,(uC _ (by omega)).trans h9,(uC _ (by omega)).trans h10,(uC _ (by omega)).trans h11,(uC _ (by omega)).trans h12⟩
theorem dY.set7(h:dY w B x vr vc vg)(u:Int):dY (w.setCell ⟨B,7,none⟩ (iv u)) B { x with sub:=u } vr vc vg:=by
 obtain⟨h0,h1,h2,h3,h4,h5,h6,h7,h8,h9,h10,h11,h12⟩:=h;exact⟨(uC _ (by omega)).trans h0,(uC _ (by omega)).trans h1,(uC _ (by omega)).trans h2,(uC _ (by omega)).trans h3,(uC _ (by omega)).trans h4,(uC _ (by omega)).trans h5,(uC _ (by omega)).trans h6,World.cell?_setCell_same _ _ _ h7,(uC _ (by omega)).trans h8,(uC _ (by omega)).trans h9,(uC _ (by omega)).trans h10,(uC _ (by omega)).trans h11,(uC _ (by omega)).trans h12⟩
theorem dY.set11(h:dY w B x vr vc vg)(u:Int):dY (w.setCell ⟨B,11,none⟩ (iv u)) B { x with rounds:=u } vr vc vg:=by
 obtain⟨h0,h1,h2,h3,h4,h5,h6,h7,h8,h9,h10,h11,h12⟩:=h;exact⟨(uC _ (by omega)).trans h0,(uC _ (by omega)).trans h1,(uC _ (by omega)).trans h2,(uC _ (by omega)).trans h3,(uC _ (by omega)).trans h4,(uC _ (by omega)).trans h5,(uC _ (by omega)).trans h6,(uC _ (by omega)).trans h7,(uC _ (by omega)).trans h8,(uC _ (by omega)).trans h9,(uC _ (by omega)).trans h10,World.cell?_setCell_same _ _ _ h11,(uC _ (by omega)).trans h12⟩
theorem dY.set12(h:dY w B x vr vc vg)(u:Int):dY (w.setCell ⟨B,12,none⟩ (iv u)) B { x with forced:=u } vr vc vg:=by
 obtain⟨h0,h1,h2,h3,h4,h5,h6,h7,h8,h9,h10,h11,h12⟩:=h;exact⟨(uC _ (by omega)).trans h0,(uC _ (by omega)).trans h1,(uC _ (by omega)).trans h2,(uC _ (by omega)).trans h3,(uC _ (by omega)).trans h4,(uC _ (by omega)).trans h5,(uC _ (by omega)).trans h6,(uC _ (by omega)).trans h7,(uC _ (by omega)).trans h8,(uC _ (by omega)).trans h9,(uC _ (by omega)).trans h10,(uC _ (by omega)).trans h11,World.cell?_setCell_same _ _ _ h12⟩
end Go.Proofs.YtddkhnclmeikfaaGreat
