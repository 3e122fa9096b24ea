import Derived.Test.YtddkhnclmeikfaaGreatProg
import Derived.BigQuiet
import Derived.Deep.DrawnRows
import Derived.Deep.QuietTactic
import Derived.Deep.RegionHeld3
import Derived.Outline
import Derived.WalkKit
import Derived.WalkLawsBesides
import Derived.WalkSpells
set_option maxRecDepth 100000
set_option maxHeartbeats 1000000
namespace Go.Proofs.YtddkhnclmeikfaaGreat
open Go.RowKit
attribute [local go_sem ↓] Go.wp_at_zero Go.wp_at_succ
variable{w w' a:World}{b o kr kc kg i sz k:Nat}{ar ac ag:Option Addr}{S:Nat->Prop}{n lo hi:Int}
structure Wd where
 k:Int
 n:Int
 a:Int
structure Pr where
 key:Wd
 val:Wd
structure Cl where
 st:Int
 kind:Int
 weak:Int
 last:Int
 born:Int
 color:Int
 to:Int
 prs:List Pr
structure Hp where
 room:Int
 used:Int
 born:Int
 regs:List Wd
 cells:List Cl
 phase:Int
 hand:Int
 sub:Int
 gray:List Int
 per:Int
 start:Int
 rounds:Int
 forced:Int
abbrev iv(n:Int):Value:=.int .i64 n
abbrev Wd.v(x:Wd):Value:=.agg #[iv x.k,iv x.n,iv x.a]
abbrev Hp.v(x:Hp)(vr vc vg:Value):Value:=.agg #[iv x.room,iv x.used,iv x.born,vr,vc,iv x.phase,iv x.hand,iv x.sub,vg,iv x.per,iv x.start,iv x.rounds,iv x.forced]
theorem uU{p:Prop}(h:p):Hid p:=h
theorem uH{p:Prop}(h:Hid p):p:=h
abbrev Ext(w w':World):Prop:=Below w.heap.size w w'
theorem Ext.refl(w:World):Ext w w:=Below.refl _ _
theorem Ext.trans{b c:World}(h:Ext a b)(k:Ext b c):Ext a c:=Below.trans h (Below.mono k h.size)
theorem Ext.alloc(h:Ext a w)(o:Obj):Ext a (w.alloc o):=Below.alloc h h.size o
theorem Ext.drew(h:Ext a w):Ext a w.drew:=Below.drew h
theorem Ext.setCell(h:Ext a w){p:Addr}(hp:a.heap.size<=p.block)(u:Value):Ext a (w.setCell p u):=Below.setCell h hp u
theorem uL{p:Addr}{v:Value}(h:w.cell? p=some v):p.block<w.heap.size:=by
 unfold World.cell? at h;by_cases hlt:p.block<w.heap.size
 ·exact hlt
 ·rw[Array.getElem?_eq_none (by omega)] at h;simp at h
theorem Ext.keep(h:Ext w w'){v:Value}(hc:w.cell? ⟨b,o,none⟩=some v):w'.cell? ⟨b,o,none⟩=some v:=by
 rw[Below.cell h (p:=⟨b,o,none⟩) (uL hc)];exact hc
theorem cZ{W w1:World}(hb:Ext W w1):(∀b o,b<W.heap.size->w1.cell? ⟨b,o,none⟩=W.cell? ⟨b,o,none⟩)/\(∀b o,b<W.heap.size->w1.frozen? ⟨b,o,none⟩=W.frozen? ⟨b,o,none⟩):=
 ⟨λb o h=>hb.cell (p:=⟨b,o,none⟩) h,λb o h=>hb.frozen (p:=⟨b,o,none⟩) h⟩
def tW(w:World)(b o:Nat)(x:Wd):Prop:=
 w.cell? ⟨b,o,none⟩=some (iv x.k)/\w.cell? ⟨b,o+1,none⟩=some (iv x.n)/\w.cell? ⟨b,o+2,none⟩=some (iv x.a)
def tL(w:World)(b o:Nat)(x:Pr):Prop:=
 w.cell? ⟨b,o,none⟩=some (iv x.key.k)/\w.cell? ⟨b,o+1,none⟩=some (iv x.key.n)/\w.cell? ⟨b,o+2,none⟩=some (iv x.key.a)/\
 w.cell? ⟨b,o+3,none⟩=some (iv x.val.k)/\w.cell? ⟨b,o+4,none⟩=some (iv x.val.n)/\w.cell? ⟨b,o+5,none⟩=some (iv x.val.a)
def yQ(w:World)(b o:Nat)(x:Int):Prop:=w.cell? ⟨b,o,none⟩=some (iv x)
def tV{α:Type}(at_:Nat->Nat->α->Prop)(sz:Nat)(v:Value)(xs:List α):Prop:=
 ∃(ad:Option Addr) (cap:Nat),v=.slice ad xs.length cap/\xs.length<=35184372088832/\∀i (hi:i<xs.length),∃b o,ad=some ⟨b,o,none⟩/\at_ b (o+i*sz) xs[i]
abbrev SlW(w:World)(v:Value)(xs:List Wd):Prop:=tV (tW w) 3 v xs
abbrev SlP(w:World)(v:Value)(xs:List Pr):Prop:=tV (tL w) 6 v xs
abbrev SlI(w:World)(v:Value)(xs:List Int):Prop:=tV (yQ w) 1 v xs
def ClAt(w:World)(b o:Nat)(x:Cl):Prop:=
 ∃vp,w.cell? ⟨b,o,none⟩=some (iv x.st)/\w.cell? ⟨b,o+1,none⟩=some (iv x.kind)/\w.cell? ⟨b,o+2,none⟩=some (iv x.weak)/\
  w.cell? ⟨b,o+3,none⟩=some (iv x.last)/\w.cell? ⟨b,o+4,none⟩=some (iv x.born)/\w.cell? ⟨b,o+5,none⟩=some (iv x.color)/\
  w.cell? ⟨b,o+6,none⟩=some (iv x.to)/\w.cell? ⟨b,o+7,none⟩=some vp/\SlP w vp x.prs
abbrev SlC(w:World)(v:Value)(xs:List Cl):Prop:=tV (ClAt w) 8 v xs
theorem tV.mono{α:Type}{p q:Nat->Nat->α->Prop}{v:Value}{xs:List α}(h:tV p sz v xs)(hpq:∀b o x,p b o x->q b o x):tV q sz v xs:=by
 obtain⟨ad,cap,hv,hl,hx⟩:=h;exact⟨ad,cap,hv,hl,λi hi=>by obtain⟨b,o,ha,hp⟩:=hx i hi;exact⟨b,o,ha,hpq _ _ _ hp⟩⟩
theorem tW.ext(h:Ext w w'){x:Wd}(hx:tW w b o x):tW w' b o x:=⟨h.keep hx.1,h.keep hx.2.1,h.keep hx.2.2⟩
theorem tL.ext(h:Ext w w'){x:Pr}(hx:tL w b o x):tL w' b o x:=
 ⟨h.keep hx.1,h.keep hx.2.1,h.keep hx.2.2.1,h.keep hx.2.2.2.1,h.keep hx.2.2.2.2.1,h.keep hx.2.2.2.2.2⟩
theorem yQ.ext(h:Ext w w'){x:Int}(hx:yQ w b o x):yQ w' b o x:=h.keep hx
theorem SlW.ext(h:Ext w w'){v:Value}{xs:List Wd}(hx:SlW w v xs):SlW w' v xs:=hx.mono λ_ _ _ k=>k.ext h
theorem SlP.ext(h:Ext w w'){v:Value}{xs:List Pr}(hx:SlP w v xs):SlP w' v xs:=hx.mono λ_ _ _ k=>k.ext h
theorem SlI.ext(h:Ext w w'){v:Value}{xs:List Int}(hx:SlI w v xs):SlI w' v xs:=hx.mono λ_ _ _ k=>k.ext h
theorem ClAt.ext(h:Ext w w'){x:Cl}(hx:ClAt w b o x):ClAt w' b o x:=by
 obtain⟨vp,h0,h1,h2,h3,h4,h5,h6,h7,h8⟩:=hx;exact⟨vp,h.keep h0,h.keep h1,h.keep h2,h.keep h3,h.keep h4,h.keep h5,h.keep h6,h.keep h7,SlP.ext h h8⟩
theorem SlC.ext(h:Ext w w'){v:Value}{xs:List Cl}(hx:SlC w v xs):SlC w' v xs:=hx.mono λ_ _ _ k=>k.ext h
theorem tV.nil{α:Type}{p:Nat->Nat->α->Prop}{ad:Option Addr}{cap:Nat}:tV p sz (.slice ad 0 cap) []:=
 ⟨ad,cap,rfl,by simp,λi hi=>by simp at hi⟩
structure uX(S:Nat->Prop)(w w':World):Prop where
 os:w'.os=w.os
 tape:w'.tape=w.tape
 output:w'.output=w.output
 size:w.heap.size<=w'.heap.size
 block:∀k,k<w.heap.size->¬S k->w'.heap[k]?=w.heap[k]?
theorem uX.refl(S:Nat->Prop)(w:World):uX S w w:=⟨rfl,rfl,rfl,Nat.le_refl _,λ_ _ _=>rfl⟩
theorem uX.trans{b c:World}(h:uX S a b)(k:uX S b c):uX S a c:=
 ⟨k.os.trans h.os,k.tape.trans h.tape,k.output.trans h.output,Nat.le_trans h.size k.size,λi hi hs=>(k.block i (Nat.lt_of_lt_of_le hi h.size) hs).trans (h.block i hi hs)⟩
theorem uX.of_ext(h:Ext w w'):uX S w w':=⟨h.os,h.tape,h.output,h.size,λk hk _=>h.block k hk⟩
theorem uX.below(h:uX S w w'){B:Nat}(hB:B<=w.heap.size)(hS:∀k,k<B->¬S k):Below B w w':=
 ⟨h.os,h.tape,h.output,h.size,λk hk=>h.block k (by omega) (hS k hk)⟩
theorem uX.ext(h:uX S w w')(ha:Ext a w)(hS:∀k,k<a.heap.size->¬S k):Ext a w':=
 Below.trans ha (h.below ha.size hS)
theorem uX.setCell(h:uX S a w){p:Addr}(hp:S p.block)(u:Value):uX S a (w.setCell p u):=
 h.trans ⟨rfl,rfl,rfl,by simp [World.setCell],λk _ hk=>Below.heap_setCell _ _ _ _ (λe=>hk (e ▸ hp))⟩
theorem uX.drew(h:uX S a w):uX S a w.drew:=⟨h.os,h.tape,h.output,h.size,h.block⟩
theorem uX.mono{T:Nat->Prop}(h:uX S w w')(hST:∀k,S k->T k):uX T w w':=
 ⟨h.os,h.tape,h.output,h.size,λk hk hn=>h.block k hk (λhs=>hn (hST k hs))⟩
theorem uX.keep(h:uX S w w'){v:Value}(hs:¬S b)(hc:w.cell? ⟨b,o,none⟩=some v):w'.cell? ⟨b,o,none⟩=some v:=by
 have hb:w'.heap[b]?=w.heap[b]?:=h.block b (uL hc) hs;have:=World.cell?_of_block (w:=w) (w':=w') (a:=⟨b,o,none⟩) hb;rw[this];exact hc
theorem uX.cells(h:uX S w w')(b:Nat)(hb:b<w.heap.size)(hs:¬S b):(∀o,w'.cell? ⟨b,o,none⟩=w.cell? ⟨b,o,none⟩):=
 λo=>World.cell?_of_block (w:=w) (w':=w') (a:=⟨b,o,none⟩) (h.block b hb hs)
theorem uX.frozen(h:uX S w w')(hb:b<w.heap.size)(hs:¬S b):w'.frozen? ⟨b,o,none⟩=w.frozen? ⟨b,o,none⟩:=
 World.frozen?_of_block (w:=w) (h.block b hb hs)
def yU(w:World)(b o:Nat):Prop:=(∃v,w.cell? ⟨b,o,none⟩=some v)/\w.frozen? ⟨b,o,none⟩=false
theorem yU.set(h:yU w b o)(p:Addr)(u:Value):yU (w.setCell p u) b o:=
 ⟨by obtain⟨v,hv⟩:=h.1;exact cell?_setCell_some hv,by rw[World.frozen?_setCell];exact h.2⟩
theorem yU.ext(h:yU w b o)(he:Ext w w'):yU w' b o:=by
 obtain⟨⟨v,hv⟩,hf⟩:=h;exact⟨⟨v,he.keep hv⟩,by rw[(cZ he).2 b o (uL hv)];exact hf⟩
theorem yU.same(h:yU w b o)(u:Value):(w.setCell ⟨b,o,none⟩ u).cell? ⟨b,o,none⟩=some u:=by
 obtain⟨v,hv⟩:=h.1;exact World.cell?_setCell_same _ _ _ hv
theorem uC{b' o':Nat}(u:Value)(h:b≠b'\/o≠o'):(w.setCell ⟨b,o,none⟩ u).cell? ⟨b',o',none⟩=w.cell? ⟨b',o',none⟩:=
 World.cell?_setCell_other _ _ _ _ (by intro e;cases e;simp at h)
def Cl0:Cl:=⟨0,0,0,0,0,0,0,[]⟩
def Hp.c(x:Hp)(i:Nat):Cl:=x.cells.getD i Cl0
theorem Hp.c_eq(x:Hp)(i:Nat)(h:i<x.cells.length):x.cells[i]=x.c i:=by simp [Hp.c,h]
structure R1(x:Hp):Prop where
 room:1<=x.room/\x.room<=4000
 regs:x.regs.length=16
 cells:(x.cells.length:Int)<=2*x.room
 gray:x.gray.length<=x.cells.length
 born:0<=x.born/\x.born<=1000000000
 rounds:0<=x.rounds/\x.rounds<=1000000000
 forced:0<=x.forced/\x.forced<=1000000000
 per:0<=x.per/\x.per<=64
 start:0<=x.start/\x.start<=4000
 phase:0<=x.phase/\x.phase<=6
 hand:0<=x.hand/\x.hand<=x.cells.length
 sub:0<=x.sub/\x.sub<=200
def yX(c:Cl):Prop:=c.kind=0/\c.weak=0/\c.last=0/\c.born=0/\c.color=0/\c.prs.length=0
def a2i(x:Hp)(c:Cl):Prop:=
 (0<=c.kind/\c.kind<=255)/\(0<=c.weak/\c.weak<=3)/\(0<=c.last/\c.last<=3)/\(1<=c.born/\c.born<=x.born)/\(0<=c.color/\c.color<=2)/\c.to=0/\c.prs.length<=200
def eD(x:Hp)(i:Nat)(c:Cl):Prop:=
 yX c/\4<=x.phase/\0<=c.to/\c.to<i/\(x.c c.to.toNat).st=1/\(x.phase=4->∀k:Nat,(k:Int)<c.to->(x.c k).st≠0)
def cE(x:Hp)(i:Nat):Prop:=
 ((x.c i).st=0/\yX (x.c i)/\(x.c i).to=0)\/((x.c i).st=2/\eD x i (x.c i))\/((x.c i).st=1/\a2i x (x.c i))
def b6a(x:Hp):Prop:=
 ∀i,i<x.cells.length->(x.c i).st≠0->∀k,k<i->¬((x.c k).st=(x.c i).st/\(x.c k).born=(x.c i).born/\(x.c k).to=(x.c i).to)
def R2(x:Hp):Prop:=(∀i,i<x.cells.length->cE x i)/\b6a x
def cH(c:Cl):Nat:=if c.st=1 then 1+c.prs.length else 0
def dN(cs:List Cl):Nat:=(cs.map cH).sum
def R3(x:Hp):Prop:=x.used=dN x.cells/\x.used<=x.room
def uK(w:Wd)(n:Nat):Prop:=(w.k=0/\w.n=0/\w.a=0)\/(w.k=1/\w.a=0)\/(w.k=2/\w.n=0/\0<=w.a/\w.a<n)
def cU(x:Hp)(i:Nat):Prop:=x.phase=3/\x.hand<=i/\(x.c i).st=1/\(x.c i).color=0
def cN(x:Hp)(w:Wd)(moved:Prop):Prop:=
 uK w x.cells.length/\(w.k=2->((x.c w.a.toNat).st=2/\moved)\/((x.c w.a.toNat).st=1/\¬cU x w.a.toNat))
def cX(x:Hp)(i k:Nat):Prop:=x.phase≠4/\(x.phase=5->(i:Int)<x.hand\/((i:Int)=x.hand/\(k:Int)<x.sub))
def a2j(x:Hp)(i k:Nat)(p:Pr):Prop:=
 (cU x i->uK p.key x.cells.length/\uK p.val x.cells.length)/\(¬cU x i->cN x p.key (¬cX x i k)/\cN x p.val (¬cX x i k))
def Pr0:Pr:=⟨⟨0,0,0⟩,⟨0,0,0⟩⟩
def Cl.p(c:Cl)(k:Nat):Pr:=c.prs.getD k Pr0
theorem Cl.p_eq(c:Cl)(k:Nat)(h:k<c.prs.length):c.prs[k]=c.p k:=by simp [Cl.p,h]
def cY(c:Cl):Prop:=c.last=1\/c.last=2
def R4(x:Hp):Prop:=
 (∀i (h:i<x.regs.length),cN x x.regs[i] False)/\
 (∀i,i<x.cells.length->¬(cU x i/\cY (x.c i))/\∀k,k<(x.c i).prs.length->a2j x i k ((x.c i).p k))
def uE(x:Hp):Prop:=x.phase=1\/x.phase=2
def cnt(g:List Int)(i:Nat):Nat:=g.count (i:Int)
def eE(x:Hp)(i:Nat):Prop:=
 ((x.c i).color=1->cnt x.gray i=1)/\((x.c i).color≠1->cnt x.gray i=0)/\((x.c i).color=2->uE x\/(x.phase=3/\x.hand<=i))
def R5(x:Hp):Prop:=
 (¬uE x->x.gray.length=0)/\(∀i,i<x.cells.length->eE x i)/\(∀g,g∈x.gray->0<=g/\g<x.cells.length)
def Hp.g0(x:Hp):Nat:=(x.gray.getD 0 0).toNat
def R6(x:Hp):Prop:=
 ((x.phase=0\/x.phase=4)->x.hand=0/\x.sub=0)/\
 (x.phase=2->x.hand=0/\(x.gray.length=0->x.sub=0)/\(x.gray.length≠0->x.sub<=(x.c x.g0).prs.length))/\
 (x.phase=5->((x.hand=x.cells.length\/(x.c x.hand.toNat).st≠1)->x.sub=0)/\(x.hand≠x.cells.length/\(x.c x.hand.toNat).st=1->x.sub<=(x.c x.hand.toNat).prs.length))/\
 ((x.phase=1\/x.phase=3\/x.phase=6)->x.sub=0)
def cQ(x:Hp)(w:Wd):Prop:=w.k=2/\(x.c w.a.toNat).color=0
def cC(x:Hp)(i:Nat):Nat:=
 if (x.c i).color=2 then (x.c i).prs.length else if x.phase=2/\x.gray.length≠0/\x.gray.getD 0 0=(i:Int) then x.sub.toNat else 0
def R7(x:Hp):Prop:=
 uE x->∀i,i<x.cells.length->¬(cY (x.c i)/\(x.c i).color=0/\(x.phase=2\/(i:Int)<x.hand))/\∀k,k<cC x i->¬cQ x ((x.c i).p k).key/\¬cQ x ((x.c i).p k).val
def R8(x:Hp):Prop:=∀i,i<x.cells.length->¬(x.phase=6/\x.hand<=i/\(x.c i).st=2)
def eJ(x:Hp)(n:Int):Prop:=
 (¬R1 x/\n=1)\/(R1 x/\¬R2 x/\n=2)\/(R1 x/\R2 x/\¬R3 x/\n=3)\/(R1 x/\R2 x/\R3 x/\¬R4 x/\n=4)\/(R1 x/\R2 x/\R3 x/\R4 x/\¬R5 x/\n=5)\/
 (R1 x/\R2 x/\R3 x/\R4 x/\R5 x/\¬R6 x/\n=6)\/(R1 x/\R2 x/\R3 x/\R4 x/\R5 x/\R6 x/\¬R7 x/\n=7)\/(R1 x/\R2 x/\R3 x/\R4 x/\R5 x/\R6 x/\R7 x/\¬R8 x/\n=8)\/
 (R1 x/\R2 x/\R3 x/\R4 x/\R5 x/\R6 x/\R7 x/\R8 x/\n=0)
theorem eJ.uniq{x:Hp}{m:Int}(h:eJ x n)(k:eJ x m):n=m:=by
 unfold eJ at h k;by_cases h1:R1 x <;> by_cases h2:R2 x <;> by_cases h3:R3 x <;> by_cases h4:R4 x <;> by_cases h5:R5 x <;> by_cases h6:R6 x <;> by_cases h7:R7 x <;> by_cases h8:R8 x <;> simp only [h1,h2,h3,h4,h5,h6,h7,h8,true_and,false_and,not_true_eq_false,not_false_eq_true,false_or,or_false] at h k <;> omega
structure HAt(w:World)(b:Nat)(x:Hp)(ar:Option Addr)(kr:Nat)(ac:Option Addr)(kc:Nat)(ag:Option Addr)(kg:Nat):Prop where
 c0:w.cell? ⟨b,0,none⟩=some (iv x.room)
 c1:w.cell? ⟨b,1,none⟩=some (iv x.used)
 c2:w.cell? ⟨b,2,none⟩=some (iv x.born)
 c3:w.cell? ⟨b,3,none⟩=some (.slice ar x.regs.length kr)
 c4:w.cell? ⟨b,4,none⟩=some (.slice ac x.cells.length kc)
 c5:w.cell? ⟨b,5,none⟩=some (iv x.phase)
 c6:w.cell? ⟨b,6,none⟩=some (iv x.hand)
 c7:w.cell? ⟨b,7,none⟩=some (iv x.sub)
 c8:w.cell? ⟨b,8,none⟩=some (.slice ag x.gray.length kg)
 c9:w.cell? ⟨b,9,none⟩=some (iv x.per)
 c10:w.cell? ⟨b,10,none⟩=some (iv x.start)
 c11:w.cell? ⟨b,11,none⟩=some (iv x.rounds)
 c12:w.cell? ⟨b,12,none⟩=some (iv x.forced)
 lr:x.regs.length<=35184372088832
 lc:x.cells.length<=35184372088832
 lg:x.gray.length<=35184372088832
 R:∀i (hi:i<x.regs.length),∃b' o,ar=some ⟨b',o,none⟩/\tW w b' (o+i*3) x.regs[i]
 C:∀i,i<x.cells.length->∃b' o,ac=some ⟨b',o,none⟩/\ClAt w b' (o+i*8) (x.c i)
 G:∀i (hi:i<x.gray.length),∃b' o,ag=some ⟨b',o,none⟩/\yQ w b' (o+i*1) x.gray[i]
theorem HAt.ext{x:Hp}(h:HAt w b x ar kr ac kc ag kg)(e:Ext w w'):HAt w' b x ar kr ac kc ag kg:=
 ⟨e.keep h.c0,e.keep h.c1,e.keep h.c2,e.keep h.c3,e.keep h.c4,e.keep h.c5,e.keep h.c6,e.keep h.c7,e.keep h.c8,e.keep h.c9,e.keep h.c10,e.keep h.c11,e.keep h.c12,h.lr,h.lc,h.lg,
  λi hi=>let ⟨b',o,a,p⟩:=h.R i hi;⟨b',o,a,p.ext e⟩,λi hi=>let ⟨b',o,a,p⟩:=h.C i hi;⟨b',o,a,p.ext e⟩,λi hi=>let ⟨b',o,a,p⟩:=h.G i hi;⟨b',o,a,p.ext e⟩⟩
structure CAt(w:World)(b o:Nat)(c:Cl)(ap:Option Addr)(kp:Nat):Prop where
 p0:w.cell? ⟨b,o,none⟩=some (iv c.st)
 p1:w.cell? ⟨b,o+1,none⟩=some (iv c.kind)
 p2:w.cell? ⟨b,o+2,none⟩=some (iv c.weak)
 p3:w.cell? ⟨b,o+3,none⟩=some (iv c.last)
 p4:w.cell? ⟨b,o+4,none⟩=some (iv c.born)
 p5:w.cell? ⟨b,o+5,none⟩=some (iv c.color)
 p6:w.cell? ⟨b,o+6,none⟩=some (iv c.to)
 p7:w.cell? ⟨b,o+7,none⟩=some (.slice ap c.prs.length kp)
 lp:c.prs.length<=35184372088832
 P:∀k,k<c.prs.length->∃b' o',ap=some ⟨b',o',none⟩/\tL w b' (o'+k*6) (c.p k)
theorem HAt.cell{x:Hp}(h:HAt w b x ar kr ac kc ag kg)(i:Nat)(hi:i<x.cells.length):
  ∃b' o ap kp,ac=some ⟨b',o,none⟩/\CAt w b' (o+i*8) (x.c i) ap kp:=by
 obtain⟨b',o,e,vp,p0,p1,p2,p3,p4,p5,p6,p7,ap,kp,rfl,lp,P⟩:=h.C i hi;exact⟨b',o,ap,kp,e,p0,p1,p2,p3,p4,p5,p6,p7,lp,λk hk=>by obtain⟨b2,o2,e2,q⟩:=P k hk;rw[Cl.p_eq _ _ hk] at q;exact⟨b2,o2,e2,q⟩⟩
theorem CAt.ext{c:Cl}{ap:Option Addr}{kp:Nat}(h:CAt w b o c ap kp)(e:Ext w w'):CAt w' b o c ap kp:=
 ⟨e.keep h.p0,e.keep h.p1,e.keep h.p2,e.keep h.p3,e.keep h.p4,e.keep h.p5,e.keep h.p6,e.keep h.p7,h.lp,λk hk=>let ⟨b',o',a,p⟩:=h.P k hk;⟨b',o',a,p.ext e⟩⟩
def a7j(x:Hp)(i:Nat):Bool:=(x.c i).st == 1
def eH(w:Wd)(n:Nat):Bool:=if w.k=0 then w.n == 0 && w.a == 0 else if w.k=1 then w.a == 0 else if w.k=2 then w.n == 0 && decide (0<=w.a) && decide (w.a<n) else false
def a0p(x:Hp)(i:Nat):Bool:=(x.phase == 3) && decide (x.hand<=i) && ((x.c i).st == 1) && ((x.c i).color == 0)
def eZ(x:Hp)(i k:Nat):Bool:=if x.phase=4 then false else if x.phase=5 then decide ((i:Int)<x.hand) || ((i:Int) == x.hand && decide ((k:Int)<x.sub)) else true
theorem b3r{x:Hp}:a7j x i=true↔(x.c i).st=1:=by simp [a7j]
theorem a1y{x:Hp}:a0p x i=true↔cU x i:=by simp [a0p,cU,and_assoc]
theorem a0j{w:Wd}{n:Nat}:eH w n=true↔uK w n:=by
 unfold eH uK;by_cases h0:w.k=0
 ·simp [h0]
 ·by_cases h1:w.k=1
  ·simp [h1]
  ·by_cases h2:w.k=2
   ·simp [h2,and_assoc]
   ·simp [h0,h1,h2]
theorem b0j{x:Hp}:eZ x i k=true↔cX x i k:=by
 unfold eZ cX;by_cases h4:x.phase=4
 ·simp [h4]
 ·by_cases h5:x.phase=5
  ·simp [h5]
  ·simp [h4,h5]
theorem a4v(x:Hp)(b:Nat)(a:Int)(w:World)(h:HAt w b x ar kr ac kc ag kg)(h0:0<=a)(h1:a<x.cells.length):
  Calls Tryz.prog 203 #[.pointer (some ⟨b,0,none⟩),.int .i64 a] w λe w'=>e=.returned (.bool (a7j x a.toNat))/\w'=w:=by
 obtain⟨i,rfl⟩:=Int.eq_ofNat_of_zero_le h0;rw[Int.toNat_natCast];obtain⟨b',o,rfl,vp,p0,_⟩:=h.C i (by omega);have c4:=h.c4;have lc:=h.lc;clear h;go_enter Tryz.func203,Tryz.ntmps203
 go_wp2
 go_ret;exact⟨rfl,rfl⟩
theorem a1m(x:Wd)(n:Nat)(w:World):Calls Tryz.prog 207 #[x.v,.int .i64 n] w λe w'=>e=.returned (.bool (eH x n))/\Ext w w':=by
 by_cases h0:x.k=0
 ·have e:eH x n=(x.n == 0 && x.a == 0):=by simp [eH,h0]
  have E:=uU e;clear e;cases q:(x.n == 0)
  all_goals
   go_enter Tryz.func207,Tryz.ntmps207
   go_wp2
   go_ret;exact⟨by rw[uH E];simp [q],(Ext.refl w).alloc _⟩
 ·have k0:(x.k == 0)=false:=by simp [h0]
  by_cases h1:x.k=1
  ·have e:eH x n=(x.a == 0):=by simp [eH,h1]
   have E:=uU e;clear e h0 k0;go_enter Tryz.func207,Tryz.ntmps207
   go_wp2
   go_ret;exact⟨by rw[uH E];simp,(Ext.refl w).alloc _⟩
  ·have k1:(x.k == 1)=false:=by simp [h1]
   by_cases h2:x.k=2
   ·have e:eH x n=(x.n == 0 && decide (0<=x.a) && decide (x.a<n)):=by simp [eH,h2]
    have E:=uU e;clear e h0 k0 h1 k1;cases q:(x.n == 0)
    ·go_enter Tryz.func207,Tryz.ntmps207
     go_wp2
     go_ret;exact⟨by rw[uH E];simp [q],(Ext.refl w).alloc _⟩
    ·by_cases q2:0<=x.a
     ·go_enter Tryz.func207,Tryz.ntmps207
      go_wp2
      go_ret;exact⟨by rw[uH E];simp [q,q2],(Ext.refl w).alloc _⟩
     ·have q3:decide (0<=x.a)=false:=by simp;omega
      go_enter Tryz.func207,Tryz.ntmps207
      go_wp2
      go_ret;exact⟨by rw[uH E,q3];simp,(Ext.refl w).alloc _⟩
   ·have k2:(x.k == 2)=false:=by simp [h2]
    have e:eH x n=false:=by simp [eH,h0,h1,h2]
    have E:=uU e;clear e;go_enter Tryz.func207,Tryz.ntmps207
    go_wp2
    go_ret;exact⟨by rw[uH E];rfl,(Ext.refl w).alloc _⟩
theorem a8f(x:Hp)(b:Nat)(a:Int)(w:World)(h:HAt w b x ar kr ac kc ag kg)(h0:0<=a)(h1:a<x.cells.length):
  Calls Tryz.prog 206 #[.pointer (some ⟨b,0,none⟩),.int .i64 a] w λe w'=>e=.returned (.bool (a0p x a.toNat))/\w'=w:=by
 obtain⟨i,rfl⟩:=Int.eq_ofNat_of_zero_le h0;rw[Int.toNat_natCast];have hu:=a4v x b i w h h0 h1;rw[Int.toNat_natCast] at hu;have HU:=uU hu;clear hu;obtain⟨b',o,rfl,vp,p0,p1,p2,p3,p4,p5,_⟩:=h.C i (by omega);have c4:=h.c4;have c5:=h.c5;have c6:=h.c6;have lc:=h.lc;clear h;cases q1:(x.phase == 3)
 ·go_enter Tryz.func206,Tryz.ntmps206
  go_wp2
  go_ret;exact⟨by simp [a0p,q1],rfl⟩
 ·cases q2:decide (x.hand<=(i:Int))
  ·go_enter Tryz.func206,Tryz.ntmps206
   go_wp2
   go_ret;exact⟨by simp [a0p,q1,q2],rfl⟩
  ·cases q3:a7j x i
   ·go_enter Tryz.func206,Tryz.ntmps206;go_wp2_with (go_at_call 203;refine HU.mono ?_;rintro e w' ⟨rfl,rfl⟩);go_ret;exact⟨by unfold a7j at q3;simp [a0p,q3],rfl⟩
   ·go_enter Tryz.func206,Tryz.ntmps206;go_wp2_with (go_at_call 203;refine HU.mono ?_;rintro e w' ⟨rfl,rfl⟩);go_ret;exact⟨by unfold a7j at q3;simp [a0p,q1,q2,q3],rfl⟩
theorem b4s(x:Hp)(b i k:Nat)(w:World)(h:HAt w b x ar kr ac kc ag kg):
  Calls Tryz.prog 208 #[.pointer (some ⟨b,0,none⟩),.int .i64 i,.int .i64 k] w λe w'=>e=.returned (.bool (eZ x i k))/\w'=w:=by
 have c5:=h.c5;have c6:=h.c6;have c7:=h.c7;clear h;by_cases h4:x.phase=4
 ·have E:=uU (show eZ x i k=false by simp [eZ,h4]);go_enter Tryz.func208,Tryz.ntmps208
  go_wp2
  go_ret;exact⟨by rw[uH E];rfl,rfl⟩
 ·have k4:(x.phase == 4)=false:=by simp [h4]
  by_cases h5:x.phase=5
  ·have E:=uU (show eZ x i k=(decide ((i:Int)<x.hand) || ((i:Int) == x.hand && decide ((k:Int)<x.sub))) by simp [eZ,h5]);clear h4 k4;cases q1:decide ((i:Int)<x.hand)
   ·cases q2:((i:Int) == x.hand)
    ·go_enter Tryz.func208,Tryz.ntmps208
     go_wp2
     go_ret;exact⟨by rw[uH E,q1,q2];simp,rfl⟩
    ·go_enter Tryz.func208,Tryz.ntmps208
     go_wp2
     go_ret;exact⟨by rw[uH E,q1,q2];simp,rfl⟩
   ·go_enter Tryz.func208,Tryz.ntmps208
    go_wp2
    go_ret;exact⟨by rw[uH E,q1];simp,rfl⟩
  ·have k5:(x.phase == 5)=false:=by simp [h5]
   have E:=uU (show eZ x i k=true by simp [eZ,h4,h5]);go_enter Tryz.func208,Tryz.ntmps208
   go_wp2
   go_ret;exact⟨by rw[uH E];rfl,rfl⟩
theorem b3s(n lo hi:Int)(w:World)(h1:lo<=n)(h2:n<=hi):Calls Tryz.prog 78 #[.int .i64 n,.int .i64 lo,.int .i64 hi] w λe w'=>e=.returned (.bool true)/\w'=w:=by
 go_enter Tryz.func78,Tryz.ntmps78
 go_wp2
 go_ret;exact⟨rfl,rfl⟩
theorem b1d(n lo hi:Int)(w:World)(h:n<lo\/hi<n):Calls Tryz.prog 78 #[.int .i64 n,.int .i64 lo,.int .i64 hi] w λe w'=>e=.returned (.bool false)/\w'=w:=by
 by_cases h1:lo<=n
 ·have h2:hi<n:=by omega
  go_enter Tryz.func78,Tryz.ntmps78
  go_wp2
  go_ret;exact⟨by simp;omega,rfl⟩
 ·go_enter Tryz.func78,Tryz.ntmps78
  go_wp2
  go_ret;exact⟨rfl,rfl⟩
def uZ(n lo hi:Int):Bool:=decide (lo<=n/\n<=hi)
theorem b8r(n lo hi:Int)(w:World):Calls Tryz.prog 78 #[.int .i64 n,.int .i64 lo,.int .i64 hi] w λe w'=>e=.returned (.bool (uZ n lo hi))/\w'=w:=by
 by_cases h:lo<=n/\n<=hi
 ·have e:uZ n lo hi=true:=by simp [uZ,h]
  rw[e];exact b3s n lo hi w h.1 h.2
 ·have e:uZ n lo hi=false:=by unfold uZ;exact decide_eq_false h
  rw[e];exact b1d n lo hi w (by omega)
theorem l1in_in(n lo hi:Int)(w:World)(h1:lo<=n)(h2:n<=hi):Calls Tryz.prog 60 #[.int .i64 n,.int .i64 lo,.int .i64 hi] w λe w'=>e=.returned (.bool true)/\w'=w:=by
 go_enter Tryz.func60,Tryz.ntmps60
 go_wp2
 go_ret;exact⟨rfl,rfl⟩
theorem c5a(n lo hi:Int)(w:World)(h:n<lo\/hi<n):Calls Tryz.prog 60 #[.int .i64 n,.int .i64 lo,.int .i64 hi] w λe w'=>e=.returned (.bool false)/\w'=w:=by
 by_cases h1:lo<=n
 ·have h2:hi<n:=by omega
  go_enter Tryz.func60,Tryz.ntmps60
  go_wp2
  go_ret;exact⟨by simp;omega,rfl⟩
 ·go_enter Tryz.func60,Tryz.ntmps60
  go_wp2
  go_ret;exact⟨rfl,rfl⟩
def hD(n lo hi:Int):Bool:=decide (lo<=n/\n<=hi)
theorem dY(n lo hi:Int)(w:World):Calls Tryz.prog 60 #[.int .i64 n,.int .i64 lo,.int .i64 hi] w λe w'=>e=.returned (.bool (hD n lo hi))/\w'=w:=by
 by_cases h:lo<=n/\n<=hi
 ·have e:hD n lo hi=true:=by simp [hD,h]
  rw[e];exact l1in_in n lo hi w h.1 h.2
 ·have e:hD n lo hi=false:=by unfold hD;exact decide_eq_false h
  rw[e];exact c5a n lo hi w (by omega)
theorem Ext.drewN(h:Ext a w)(n:Nat):Ext a (w.drewN n):=below_drewN h n
theorem eN(n lo hi:Int)(r:Bool)(h:hD n lo hi=r)(w:World):Calls Tryz.prog 60 #[.int .i64 n,.int .i64 lo,.int .i64 hi] w λe w'=>e=.returned (.bool r)/\w'=w:=by
 rw[<-h];exact dY n lo hi w
theorem a3a{P:Program}{f:FuncId}{args:Array Value}{n:Nat}{v:Value}(h:Calls P f args (w.drewN (k+n)) λe w'=>e=.returned v/\w'=w.drewN (k+n)):
  Calls P f args (w.drewN (k+n)) λe w''=>e=.returned v/\∃m,w''=w.drewN (k+m):=h.mono λ_ _ ⟨he,hm⟩=>⟨he,n,hm⟩
theorem cJ(h:hD n lo hi=true):lo<=n/\n<=hi:=by simpa [hD] using h
theorem a0d(h:hD n lo hi=false):¬(lo<=n/\n<=hi):=by unfold hD at h;exact of_decide_eq_false h
theorem c1m(x:Hp)(b:Nat)(w:World)(h:HAt w b x ar kr ac kc ag kg)(q0:hD x.room 1 4000=false):
  Calls Tryz.prog 126 #[.pointer (some ⟨b,0,none⟩)] w λe w'=>e=.returned (.bool false)/\Ext w w':=by
 obtain⟨c0,c1,c2,c3,c4,c5,c6,c7,c8,c9,c10,c11,c12,lr,lc,lg,R,C,G⟩:=h;clear R C G;go_enter Tryz.func126,Tryz.ntmps126;go_wp2_with fail;go_quiet ((go_at_call 60;exact Calls.quiet_of_same (dY _ _ _ _)));go_wp2_with fail;go_ret;exact⟨rfl,by repeat (first | exact Ext.refl _ | refine Ext.drewN ?_ _)⟩
theorem c1n(x:Hp)(b:Nat)(w:World)(h:HAt w b x ar kr ac kc ag kg)(q0:hD x.room 1 4000=true)(q1:((x.regs.length:Int) != 16)=true):
  Calls Tryz.prog 126 #[.pointer (some ⟨b,0,none⟩)] w λe w'=>e=.returned (.bool false)/\Ext w w':=by
 obtain⟨c0,c1,c2,c3,c4,c5,c6,c7,c8,c9,c10,c11,c12,lr,lc,lg,R,C,G⟩:=h;clear R C G;have p0:=cJ q0;go_enter Tryz.func126,Tryz.ntmps126;go_wp2_with fail;go_quiet ((go_at_call 60;exact Calls.quiet_of_same (dY _ _ _ _)));go_wp2_with fail;go_ret;exact⟨rfl,by repeat (first | exact Ext.refl _ | refine Ext.drewN ?_ _)⟩
theorem c1o(x:Hp)(b:Nat)(w:World)(h:HAt w b x ar kr ac kc ag kg)(q0:hD x.room 1 4000=true)(q1:((x.regs.length:Int) != 16)=false)(q2:decide (2*x.room<(x.cells.length:Int))=true):
  Calls Tryz.prog 126 #[.pointer (some ⟨b,0,none⟩)] w λe w'=>e=.returned (.bool false)/\Ext w w':=by
 obtain⟨c0,c1,c2,c3,c4,c5,c6,c7,c8,c9,c10,c11,c12,lr,lc,lg,R,C,G⟩:=h;clear R C G;have p0:=cJ q0;go_enter Tryz.func126,Tryz.ntmps126;go_wp2_with fail;go_quiet ((go_at_call 60;exact Calls.quiet_of_same (dY _ _ _ _)));go_wp2_with fail;go_ret;exact⟨rfl,by repeat (first | exact Ext.refl _ | refine Ext.drewN ?_ _)⟩
theorem c1p(x:Hp)(b:Nat)(w:World)(h:HAt w b x ar kr ac kc ag kg)(q0:hD x.room 1 4000=true)(q1:((x.regs.length:Int) != 16)=false)(q2:decide (2*x.room<(x.cells.length:Int))=false)(q3:decide (x.cells.length<x.gray.length)=true):
  Calls Tryz.prog 126 #[.pointer (some ⟨b,0,none⟩)] w λe w'=>e=.returned (.bool false)/\Ext w w':=by
 obtain⟨c0,c1,c2,c3,c4,c5,c6,c7,c8,c9,c10,c11,c12,lr,lc,lg,R,C,G⟩:=h;clear R C G;have p0:=cJ q0;go_enter Tryz.func126,Tryz.ntmps126;go_wp2_with fail;go_quiet ((go_at_call 60;exact Calls.quiet_of_same (dY _ _ _ _)));go_wp2_with fail;go_ret;exact⟨rfl,by repeat (first | exact Ext.refl _ | refine Ext.drewN ?_ _)⟩
theorem c1q(x:Hp)(b:Nat)(w:World)(h:HAt w b x ar kr ac kc ag kg)(q0:hD x.room 1 4000=true)(q1:((x.regs.length:Int) != 16)=false)(q2:decide (2*x.room<(x.cells.length:Int))=false)(q3:decide (x.cells.length<x.gray.length)=false)(q4:hD x.born 0 1000000000=false):
  Calls Tryz.prog 126 #[.pointer (some ⟨b,0,none⟩)] w λe w'=>e=.returned (.bool false)/\Ext w w':=by
 obtain⟨c0,c1,c2,c3,c4,c5,c6,c7,c8,c9,c10,c11,c12,lr,lc,lg,R,C,G⟩:=h;clear R C G;have p0:=cJ q0;go_enter Tryz.func126,Tryz.ntmps126;go_wp2_with fail;go_quiet ((go_at_call 60;exact Calls.quiet_of_same (dY _ _ _ _)));go_wp2_with (go_at_call 60;refine(dY _ _ _ _).mono ?_;rintro e w' ⟨rfl,rfl⟩);go_ret;exact⟨rfl,by repeat (first | exact Ext.refl _ | refine Ext.drewN ?_ _)⟩
theorem c1r(x:Hp)(b:Nat)(w:World)(h:HAt w b x ar kr ac kc ag kg)(q0:hD x.room 1 4000=true)(q1:((x.regs.length:Int) != 16)=false)(q2:decide (2*x.room<(x.cells.length:Int))=false)(q3:decide (x.cells.length<x.gray.length)=false)(q4:hD x.born 0 1000000000=true)(q5:hD x.rounds 0 1000000000=false):
  Calls Tryz.prog 126 #[.pointer (some ⟨b,0,none⟩)] w λe w'=>e=.returned (.bool false)/\Ext w w':=by
 obtain⟨c0,c1,c2,c3,c4,c5,c6,c7,c8,c9,c10,c11,c12,lr,lc,lg,R,C,G⟩:=h;clear R C G;have p0:=cJ q0;go_enter Tryz.func126,Tryz.ntmps126;go_wp2_with fail;go_quiet ((go_at_call 60;exact Calls.quiet_of_same (dY _ _ _ _)));go_wp2_with (go_at_call 60;refine(dY _ _ _ _).mono ?_;rintro e w' ⟨rfl,rfl⟩);go_ret;exact⟨rfl,by repeat (first | exact Ext.refl _ | refine Ext.drewN ?_ _)⟩
theorem c1s(x:Hp)(b:Nat)(w:World)(h:HAt w b x ar kr ac kc ag kg)(q0:hD x.room 1 4000=true)(q1:((x.regs.length:Int) != 16)=false)(q2:decide (2*x.room<(x.cells.length:Int))=false)(q3:decide (x.cells.length<x.gray.length)=false)(q4:hD x.born 0 1000000000=true)(q5:hD x.rounds 0 1000000000=true)(q6:hD x.forced 0 1000000000=false):
  Calls Tryz.prog 126 #[.pointer (some ⟨b,0,none⟩)] w λe w'=>e=.returned (.bool false)/\Ext w w':=by
 obtain⟨c0,c1,c2,c3,c4,c5,c6,c7,c8,c9,c10,c11,c12,lr,lc,lg,R,C,G⟩:=h;clear R C G;have p0:=cJ q0;go_enter Tryz.func126,Tryz.ntmps126;go_wp2_with fail;go_quiet ((go_at_call 60;exact Calls.quiet_of_same (dY _ _ _ _)));go_wp2_with (go_at_call 60;refine(dY _ _ _ _).mono ?_;rintro e w' ⟨rfl,rfl⟩);go_ret;exact⟨rfl,by repeat (first | exact Ext.refl _ | refine Ext.drewN ?_ _)⟩
end Go.Proofs.YtddkhnclmeikfaaGreat
