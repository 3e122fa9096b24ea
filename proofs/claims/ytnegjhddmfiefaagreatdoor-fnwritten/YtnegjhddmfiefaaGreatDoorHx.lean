import Derived.Test.YtnegjhddmfiefaaGreatDoorLs
import Derived.Maps.AppendAt
namespace Go.Proofs.YtnegjhddmfiefaaGreatDoor
open Go.RowKit
attribute [local go_sem ↓] Go.wp_at_zero Go.wp_at_succ
def Cl0:Cl:=⟨0,0,0,0,0,0,0,[]⟩
def Hp.c(x:Hp)(i:Nat):Cl:=x.cells.getD i Cl0
theorem Hp.c_eq(x:Hp)(i:Nat)(h:i<x.cells.length):x.cells[i]=x.c i:=by simp [Hp.c,h]
structure R1(x:Hp):Prop where
 room:1≤x.room∧x.room≤4000
 regs:x.regs.length=16
 cells:(x.cells.length:Int)≤2*x.room
 gray:x.gray.length≤x.cells.length
 born:0≤x.born∧x.born≤1000000000
 rounds:0≤x.rounds∧x.rounds≤1000000000
 forced:0≤x.forced∧x.forced≤1000000000
 per:0≤x.per∧x.per≤64
 start:0≤x.start∧x.start≤4000
 phase:0≤x.phase∧x.phase≤6
 hand:0≤x.hand∧x.hand≤x.cells.length
 sub:0≤x.sub∧x.sub≤200
def Bare(c:Cl):Prop:=c.kind=0∧c.weak=0∧c.last=0∧c.born=0∧c.color=0∧c.prs.length=0
def UsedOk(x:Hp)(c:Cl):Prop:=
 (0≤c.kind∧c.kind≤255)∧(0≤c.weak∧c.weak≤3)∧(0≤c.last∧c.last≤3)∧(1≤c.born∧c.born≤x.born)∧(0≤c.color∧c.color≤2)∧c.to=0∧c.prs.length≤200
def MovedOk(x:Hp)(i:Nat)(c:Cl):Prop:=
 Bare c∧4≤x.phase∧0≤c.to∧c.to<i∧(x.c c.to.toNat).st=1∧(x.phase=4→∀k:Nat,(k:Int)<c.to→(x.c k).st≠0)
def CellOk(x:Hp)(i:Nat):Prop:=
 ((x.c i).st=0∧Bare (x.c i)∧(x.c i).to=0)∨((x.c i).st=2∧MovedOk x i (x.c i))∨((x.c i).st=1∧UsedOk x (x.c i))
def Apart(x:Hp):Prop:=
 ∀i,i<x.cells.length→(x.c i).st≠0→∀k,k<i→¬((x.c k).st=(x.c i).st∧(x.c k).born=(x.c i).born∧(x.c k).to=(x.c i).to)
def R2(x:Hp):Prop:=(∀i,i<x.cells.length→CellOk x i)∧Apart x
def unitsOf(c:Cl):Nat:=if c.st=1 then 1+c.prs.length else 0
def units(cs:List Cl):Nat:=(cs.map unitsOf).sum
def R3(x:Hp):Prop:=x.used=units x.cells∧x.used≤x.room
def Formed(w:Wd)(n:Nat):Prop:=(w.k=0∧w.n=0∧w.a=0)∨(w.k=1∧w.a=0)∨(w.k=2∧w.n=0∧0≤w.a∧w.a<n)
def Doomed(x:Hp)(i:Nat):Prop:=x.phase=3∧x.hand≤i∧(x.c i).st=1∧(x.c i).color=0
def Leads(x:Hp)(w:Wd)(moved:Prop):Prop:=
 Formed w x.cells.length∧(w.k=2→((x.c w.a.toNat).st=2∧moved)∨((x.c w.a.toNat).st=1∧¬Doomed x w.a.toNat))
def Mended(x:Hp)(i k:Nat):Prop:=x.phase≠4∧(x.phase=5→(i:Int)<x.hand∨((i:Int)=x.hand∧(k:Int)<x.sub))
def PairOk(x:Hp)(i k:Nat)(p:Pr):Prop:=
 (Doomed x i→Formed p.key x.cells.length∧Formed p.val x.cells.length)∧(¬Doomed x i→Leads x p.key (¬Mended x i k)∧Leads x p.val (¬Mended x i k))
def Pr0:Pr:=⟨⟨0,0,0⟩,⟨0,0,0⟩⟩
def Cl.p(c:Cl)(k:Nat):Pr:=c.prs.getD k Pr0
theorem Cl.p_eq(c:Cl)(k:Nat)(h:k<c.prs.length):c.prs[k]=c.p k:=by simp [Cl.p,h]
def Speaks(c:Cl):Prop:=c.last=1∨c.last=2
def R4(x:Hp):Prop:=
 (∀i (h:i<x.regs.length),Leads x x.regs[i] False)∧
 (∀i,i<x.cells.length→¬(Doomed x i∧Speaks (x.c i))∧∀k,k<(x.c i).prs.length→PairOk x i k ((x.c i).p k))
def Marking(x:Hp):Prop:=x.phase=1∨x.phase=2
def cnt(g:List Int)(i:Nat):Nat:=g.count (i:Int)
def ColorOk(x:Hp)(i:Nat):Prop:=
 ((x.c i).color=1→cnt x.gray i=1)∧((x.c i).color≠1→cnt x.gray i=0)∧((x.c i).color=2→Marking x∨(x.phase=3∧x.hand≤i))
def R5(x:Hp):Prop:=
 (¬Marking x→x.gray.length=0)∧(∀i,i<x.cells.length→ColorOk x i)∧(∀g,g∈x.gray→0≤g∧g<x.cells.length)
def Hp.g0(x:Hp):Nat:=(x.gray.getD 0 0).toNat
def R6(x:Hp):Prop:=
 ((x.phase=0∨x.phase=4)→x.hand=0∧x.sub=0)∧
 (x.phase=2→x.hand=0∧(x.gray.length=0→x.sub=0)∧(x.gray.length≠0→x.sub≤(x.c x.g0).prs.length))∧
 (x.phase=5→((x.hand=x.cells.length∨(x.c x.hand.toNat).st≠1)→x.sub=0)∧(x.hand≠x.cells.length∧(x.c x.hand.toNat).st=1→x.sub≤(x.c x.hand.toNat).prs.length))∧
 ((x.phase=1∨x.phase=3∨x.phase=6)→x.sub=0)
def White(x:Hp)(w:Wd):Prop:=w.k=2∧(x.c w.a.toNat).color=0
def looked(x:Hp)(i:Nat):Nat:=
 if (x.c i).color=2 then (x.c i).prs.length else if x.phase=2∧x.gray.length≠0∧x.gray.getD 0 0=(i:Int) then x.sub.toNat else 0
def R7(x:Hp):Prop:=
 Marking x→∀i,i<x.cells.length→¬(Speaks (x.c i)∧(x.c i).color=0∧(x.phase=2∨(i:Int)<x.hand))∧∀k,k<looked x i→¬White x ((x.c i).p k).key∧¬White x ((x.c i).p k).val
def R8(x:Hp):Prop:=∀i,i<x.cells.length→¬(x.phase=6∧x.hand≤i∧(x.c i).st=2)
def OkIs(x:Hp)(n:Int):Prop:=
 (¬R1 x∧n=1)∨(R1 x∧¬R2 x∧n=2)∨(R1 x∧R2 x∧¬R3 x∧n=3)∨(R1 x∧R2 x∧R3 x∧¬R4 x∧n=4)∨(R1 x∧R2 x∧R3 x∧R4 x∧¬R5 x∧n=5)∨
 (R1 x∧R2 x∧R3 x∧R4 x∧R5 x∧¬R6 x∧n=6)∨(R1 x∧R2 x∧R3 x∧R4 x∧R5 x∧R6 x∧¬R7 x∧n=7)∨(R1 x∧R2 x∧R3 x∧R4 x∧R5 x∧R6 x∧R7 x∧¬R8 x∧n=8)∨
 (R1 x∧R2 x∧R3 x∧R4 x∧R5 x∧R6 x∧R7 x∧R8 x∧n=0)
structure HAt(w:World)(b:Nat)(x:Hp)(ar:Option Addr)(kr:Nat)(ac:Option Addr)(kc:Nat)(ag:Option Addr)(kg:Nat):Prop where
 c0:w.cell? ⟨b,0,none⟩=some (iv x.room)
 c1:w.cell? ⟨b,1,none⟩=some (iv x.used)
 c2:w.cell? ⟨b,2,none⟩=some (iv x.born)
 c3:w.cell? ⟨b,3,none⟩=some (.slice ar x.regs.length kr)
 c4:w.cell? ⟨b,4,none⟩=some (.slice ac x.cells.length kc)
 c5:w.cell? ⟨b,5,none⟩=some (iv x.phase)
 c6:w.cell? ⟨b,6,none⟩=some (iv x.hand)
 c7:w.cell? ⟨b,7,none⟩=some (iv x.sub)
 c8:w.cell? ⟨b,8,none⟩=some (.slice ag x.gray.length kg)
 c9:w.cell? ⟨b,9,none⟩=some (iv x.per)
 c10:w.cell? ⟨b,10,none⟩=some (iv x.start)
 c11:w.cell? ⟨b,11,none⟩=some (iv x.rounds)
 c12:w.cell? ⟨b,12,none⟩=some (iv x.forced)
 lr:x.regs.length≤35184372088832
 lc:x.cells.length≤35184372088832
 lg:x.gray.length≤35184372088832
 R:∀i (hi:i<x.regs.length),∃b' o,ar=some ⟨b',o,none⟩∧WdAt w b' (o+i*3) x.regs[i]
 C:∀i,i<x.cells.length→∃b' o,ac=some ⟨b',o,none⟩∧ClAt w b' (o+i*8) (x.c i)
 G:∀i (hi:i<x.gray.length),∃b' o,ag=some ⟨b',o,none⟩∧InAt w b' (o+i*1) x.gray[i]
theorem HAt.ext{w w':World}{b:Nat}{x:Hp}{ar:Option Addr}{kr:Nat}{ac:Option Addr}{kc:Nat}{ag:Option Addr}{kg:Nat}(h:HAt w b x ar kr ac kc ag kg)(e:Ext w w'):HAt w' b x ar kr ac kc ag kg:=
 ⟨e.keep h.c0,e.keep h.c1,e.keep h.c2,e.keep h.c3,e.keep h.c4,e.keep h.c5,e.keep h.c6,e.keep h.c7,e.keep h.c8,e.keep h.c9,e.keep h.c10,e.keep h.c11,e.keep h.c12,h.lr,h.lc,h.lg,
  fun i hi=>let ⟨b',o,a,p⟩:=h.R i hi;⟨b',o,a,p.ext e⟩,fun i hi=>let ⟨b',o,a,p⟩:=h.C i hi;⟨b',o,a,p.ext e⟩,fun i hi=>let ⟨b',o,a,p⟩:=h.G i hi;⟨b',o,a,p.ext e⟩⟩
structure CAt(w:World)(b o:Nat)(c:Cl)(ap:Option Addr)(kp:Nat):Prop where
 p0:w.cell? ⟨b,o,none⟩=some (iv c.st)
 p1:w.cell? ⟨b,o+1,none⟩=some (iv c.kind)
 p2:w.cell? ⟨b,o+2,none⟩=some (iv c.weak)
 p3:w.cell? ⟨b,o+3,none⟩=some (iv c.last)
 p4:w.cell? ⟨b,o+4,none⟩=some (iv c.born)
 p5:w.cell? ⟨b,o+5,none⟩=some (iv c.color)
 p6:w.cell? ⟨b,o+6,none⟩=some (iv c.to)
 p7:w.cell? ⟨b,o+7,none⟩=some (.slice ap c.prs.length kp)
 lp:c.prs.length≤35184372088832
 P:∀k,k<c.prs.length→∃b' o',ap=some ⟨b',o',none⟩∧PrAt w b' (o'+k*6) (c.p k)
theorem HAt.cell{w:World}{b:Nat}{x:Hp}{ar:Option Addr}{kr:Nat}{ac:Option Addr}{kc:Nat}{ag:Option Addr}{kg:Nat}(h:HAt w b x ar kr ac kc ag kg)(i:Nat)(hi:i<x.cells.length):
  ∃b' o ap kp,ac=some ⟨b',o,none⟩∧CAt w b' (o+i*8) (x.c i) ap kp:=by
 obtain⟨b',o,e,vp,p0,p1,p2,p3,p4,p5,p6,p7,ap,kp,rfl,lp,P⟩:=h.C i hi;exact⟨b',o,ap,kp,e,p0,p1,p2,p3,p4,p5,p6,p7,lp,fun k hk=>by obtain⟨b2,o2,e2,q⟩:=P k hk;rw[Cl.p_eq _ _ hk] at q;exact⟨b2,o2,e2,q⟩⟩
theorem CAt.ext{w w':World}{b o:Nat}{c:Cl}{ap:Option Addr}{kp:Nat}(h:CAt w b o c ap kp)(e:Ext w w'):CAt w' b o c ap kp:=
 ⟨e.keep h.p0,e.keep h.p1,e.keep h.p2,e.keep h.p3,e.keep h.p4,e.keep h.p5,e.keep h.p6,e.keep h.p7,h.lp,fun k hk=>let ⟨b',o',a,p⟩:=h.P k hk;⟨b',o',a,p.ext e⟩⟩
theorem within_in(n lo hi:Int)(w:World)(h1:lo≤n)(h2:n≤hi):Calls Tryz.prog 32 #[.int .i64 n,.int .i64 lo,.int .i64 hi] w fun e w'=>e=.returned (.bool true)∧w'=w:=by
 go_enter Tryz.func32,Tryz.ntmps32
 go_wp2
 go_ret;exact⟨rfl,rfl⟩
theorem within_out(n lo hi:Int)(w:World)(h:n<lo∨hi<n):Calls Tryz.prog 32 #[.int .i64 n,.int .i64 lo,.int .i64 hi] w fun e w'=>e=.returned (.bool false)∧w'=w:=by
 by_cases h1:lo≤n
 ·have h2:hi<n:=by omega
  go_enter Tryz.func32,Tryz.ntmps32
  go_wp2
  go_ret;exact⟨by simp;omega,rfl⟩
 ·go_enter Tryz.func32,Tryz.ntmps32
  go_wp2
  go_ret;exact⟨rfl,rfl⟩
def withinB(n lo hi:Int):Bool:=decide (lo≤n∧n≤hi)
theorem within_any(n lo hi:Int)(w:World):Calls Tryz.prog 32 #[.int .i64 n,.int .i64 lo,.int .i64 hi] w fun e w'=>e=.returned (.bool (withinB n lo hi))∧w'=w:=by
 by_cases h:lo≤n∧n≤hi
 ·have e:withinB n lo hi=true:=by simp [withinB,h]
  rw[e];exact within_in n lo hi w h.1 h.2
 ·have e:withinB n lo hi=false:=by unfold withinB;exact decide_eq_false h
  rw[e];exact within_out n lo hi w (by omega)
theorem l1in_in(n lo hi:Int)(w:World)(h1:lo≤n)(h2:n≤hi):Calls Tryz.prog 19 #[.int .i64 n,.int .i64 lo,.int .i64 hi] w fun e w'=>e=.returned (.bool true)∧w'=w:=by
 go_enter Tryz.func19,Tryz.ntmps19
 go_wp2
 go_ret;exact⟨rfl,rfl⟩
theorem l1in_out(n lo hi:Int)(w:World)(h:n<lo∨hi<n):Calls Tryz.prog 19 #[.int .i64 n,.int .i64 lo,.int .i64 hi] w fun e w'=>e=.returned (.bool false)∧w'=w:=by
 by_cases h1:lo≤n
 ·have h2:hi<n:=by omega
  go_enter Tryz.func19,Tryz.ntmps19
  go_wp2
  go_ret;exact⟨by simp;omega,rfl⟩
 ·go_enter Tryz.func19,Tryz.ntmps19
  go_wp2
  go_ret;exact⟨rfl,rfl⟩
def l1inB(n lo hi:Int):Bool:=decide (lo≤n∧n≤hi)
theorem l1in_any(n lo hi:Int)(w:World):Calls Tryz.prog 19 #[.int .i64 n,.int .i64 lo,.int .i64 hi] w fun e w'=>e=.returned (.bool (l1inB n lo hi))∧w'=w:=by
 by_cases h:lo≤n∧n≤hi
 ·have e:l1inB n lo hi=true:=by simp [l1inB,h]
  rw[e];exact l1in_in n lo hi w h.1 h.2
 ·have e:l1inB n lo hi=false:=by unfold l1inB;exact decide_eq_false h
  rw[e];exact l1in_out n lo hi w (by omega)
theorem made_open(w:World)(z:Array Value)(m:Nat)(t:TypeId)(j:Nat)(hj:j<m):Open (w.alloc (.cells (madeCells z m) t)) w.heap.size j:=by
 have e:(w.alloc (.cells (madeCells z m) t)).heap[w.heap.size]?=some (.cells (madeCells z m) t):=by show(w.heap.push _)[w.heap.size]?=_;simp
 have hs:=size_madeCells z m;refine⟨⟨(madeCells z m)[j]'(by omega),?_⟩,?_⟩
 ·unfold World.cell?;rw[e];simp [hs,hj]
 ·unfold World.frozen?;rw[e];simp
theorem put_only{S:Nat→Prop}{g:Nat}(hg:S g):∀{vs:List Value} {a w1:World} {o:Nat},Only S a w1→Only S a (w1.setCells g o vs)
 | [],_,_,_,h=>h
 | _::r,_,_,_,h=>put_only hg (vs:=r) (h.setCell hg _)
def From(B:Nat)(v:Value):Prop:=∀b o n c,v=.slice (some ⟨b,o,none⟩) n c→B≤b∧n≤c
theorem From.mono{B C:Nat}{v:Value}(h:From B v)(hc:C≤B):From C v:=fun b o n c e=>⟨Nat.le_trans hc (h b o n c e).1,(h b o n c e).2⟩
def Nfz(w:World)(v:Value):Prop:=∀b o n c,v=.slice (some ⟨b,o,none⟩) n c→b<w.heap.size∧∀j,w.frozen? ⟨b,j,none⟩=false
def Fn0(B:Nat)(w:World)(v:Value):Prop:=From B v∧Nfz w v
theorem Fn0.mono{B C:Nat}{w:World}{v:Value}(h:Fn0 B w v)(hc:C≤B):Fn0 C w v:=⟨h.1.mono hc,h.2⟩
theorem Fn0.ext{B:Nat}{w w':World}{v:Value}(h:Fn0 B w v)(e:Ext w w'):Fn0 B w' v:=
 ⟨h.1,fun b o n c hv=>⟨Nat.lt_of_lt_of_le (h.2 b o n c hv).1 e.size,fun j=>by rw[(bcell e).2 b j (h.2 b o n c hv).1];exact(h.2 b o n c hv).2 j⟩⟩
theorem Fn0.only{S:Nat→Prop}{B:Nat}{w w':World}{v:Value}(h:Fn0 B w v)(ho:Only S w w')(hS:∀q,S q→q<B):Fn0 B w' v:=
 ⟨h.1,fun b o n c hv=>⟨Nat.lt_of_lt_of_le (h.2 b o n c hv).1 ho.size,fun j=>by rw[ho.frozen (h.2 b o n c hv).1 (fun s=>by have:=hS b s;have:=(h.1 b o n c hv).1;omega)];exact(h.2 b o n c hv).2 j⟩⟩
def Nf1(B:Nat)(w:World):Prop:=B<w.heap.size∧∀j,w.frozen? ⟨B,j,none⟩=false
theorem Nf1.ext{B:Nat}{w w':World}(h:Nf1 B w)(e:Ext w w'):Nf1 B w':=⟨Nat.lt_of_lt_of_le h.1 e.size,fun j=>by rw[(bcell e).2 B j h.1];exact h.2 j⟩
theorem Nf1.set{B:Nat}{w:World}(h:Nf1 B w)(p:Addr)(u:Value):Nf1 B (w.setCell p u):=⟨by have:=h.1;simpa [World.setCell] using this,fun j=>by rw[World.frozen?_setCell];exact h.2 j⟩
theorem Nf1.put{B g:Nat}:∀{vs:List Value} {w:World} {o:Nat},Nf1 B w→Nf1 B (w.setCells g o vs)
 | [],_,_,h=>h
 | _::r,_,_,h=>Nf1.put (vs:=r) (h.set _ _)
theorem Nf1.made(w:World)(z:Array Value)(m:Nat)(t:TypeId):Nf1 w.heap.size (w.alloc (.cells (madeCells z m) t)):=by
 refine⟨by simp,fun j=>?_⟩;have e:(w.alloc (.cells (madeCells z m) t)).heap[w.heap.size]?=some (.cells (madeCells z m) t):=by show(w.heap.push _)[w.heap.size]?=_;simp
 unfold World.frozen?;rw[e];simp
theorem Nf1.fn{B n:Nat}{w:World}(h:Nf1 B w):Fn0 B w (.slice (some ⟨B,0,none⟩) n n):=⟨fun b o n c e=>by simp at e;omega,fun b o n c e=>by simp at e;obtain⟨⟨e1,_⟩,_⟩:=e;subst e1;exact h⟩
theorem infoPairs:(Tryz.prog.info? 178).map (fun i=>(i.zero,i.size,i.bytes))=some (some (.agg #[iv 0,iv 0,iv 0,iv 0,iv 0,iv 0]),6,48):=by kernel_rfl
theorem infoInts:(Tryz.prog.info? 3).map (fun i=>(i.zero,i.size,i.bytes))=some (some (iv 0),1,8):=by kernel_rfl
theorem infoCells:(Tryz.prog.info? 134).map (fun i=>(i.zero,i.size,i.bytes))=some (some (.agg #[iv 0,iv 0,iv 0,iv 0,iv 0,iv 0,iv 0,.slice none 0 0]),8,80):=by kernel_rfl
theorem flat_get{α:Type}(f:α→List Value)(c:Nat)(hc:∀a,(f a).length=c):∀(l:List α) (i j:Nat) (hi:i<l.length),j<c→(l.flatMap f)[i*c+j]?=(f l[i])[j]?
 | a::l,0,j,_,hj=>by simp only [List.flatMap_cons,Nat.zero_mul,Nat.zero_add,List.getElem_cons_zero];exact List.getElem?_append_left (by rw[hc];exact hj)
 | a::l,i+1,j,hi,hj=>by
  simp only [List.flatMap_cons,List.getElem_cons_succ];rw[List.getElem?_append_right (by rw[hc,Nat.succ_mul];omega),hc,show(i+1)*c+j-c=i*c+j by rw[Nat.succ_mul];omega];exact flat_get f c hc l i j (by simpa using hi) hj
theorem own_cells{w:World}{base:Nat}{t:TypeId}{c:Nat}{v:Value}{α:Type}{f:α→List Value}(hc:∀a,(f a).length=c){L:List α}(h:w.ownsRow base t c v L.length (L.flatMap f)):∃ad cap,v=.slice ad L.length cap∧(0<L.length→∃g,ad=some ⟨g,0,none⟩)∧∀i (hi:i<L.length),∃g,ad=some ⟨g,0,none⟩∧base≤g∧g<w.heap.size∧∀j,j<c→w.cell? ⟨g,0+i*c+j,none⟩=(f L[i])[j]?:=by
 rcases h.2 with⟨h0,h1⟩ | ⟨g,cap,cur,h0,hb,hg,hr⟩
 ·exact⟨none,0,by rw[h0,h1],fun q=>by omega,fun i hi=>by omega⟩
 ·subst h0;refine⟨_,cap,rfl,fun _=>⟨g,rfl⟩,fun i hi=>⟨g,rfl,(h.lt g rfl).1,(h.lt g rfl).2,fun j hj=>?_⟩⟩
  have hlt:i*c+j<L.length*c:=by
   have:(i+1)*c≤L.length*c:=Nat.mul_le_mul_right c (by omega);rw[Nat.succ_mul] at this;omega
  rw[Nat.zero_add,World.ownsRow.cellAt h (i*c+j) hlt];exact flat_get f c hc L i j hi hj
theorem grown_ext{a W w5:World}{v:Value}{base:Nat}{t:TypeId}{c n:Nat}{xs:List Value}(ea:Ext a W)(hown:W.ownsRow base t c v n xs)(hb:a.heap.size≤base)(hg:W.grownBy w5 v.ownBlock):Ext a w5:=
 Below.trans ea ⟨hg.os,hg.tape,hg.output,hg.size,fun k hk=>hg.block k (Nat.lt_of_lt_of_le hk ea.size) (fun e=>by have:=(hown.lt k e.symm).1;omega)⟩
theorem box_push{w3 W w5:World}{T:TypeId}{c n n':Nat}{xs ys:List Value}{v v' u:Value}{base bg o:Nat}(hb:bg<base)(ew:Ext w3 W)(hW:W.ownsRow base T c v n xs)(h3:w3.heap.size≤bg)(hlt:bg<W.heap.size)(hg:W.grownBy w5 v.ownBlock)(h5:w5.ownsRow base T c v' n' ys):
  (w5.setCell ⟨bg,o,none⟩ u).ownsRow base T c v' n' ys∧Ext w3 (w5.setCell ⟨bg,o,none⟩ u)∧(∀o',o'≠o→(w5.setCell ⟨bg,o,none⟩ u).cell? ⟨bg,o',none⟩=W.cell? ⟨bg,o',none⟩)∧(∀o',(w5.setCell ⟨bg,o,none⟩ u).frozen? ⟨bg,o',none⟩=W.frozen? ⟨bg,o',none⟩)∧(∀y,W.cell? ⟨bg,o,none⟩=some y→(w5.setCell ⟨bg,o,none⟩ u).cell? ⟨bg,o,none⟩=some u)∧(∀q,q<W.heap.size→q≠bg→v.ownBlock≠some q→(w5.setCell ⟨bg,o,none⟩ u).heap[q]?=W.heap[q]?):=by
 have hblk:w5.heap[bg]?=W.heap[bg]?:=hg.block bg hlt (fun e=>by have:=(hW.lt bg e.symm).1;omega);refine⟨ownsRow_of_block h5 (fun q hq=>Below.heap_setCell _ _ _ _ (fun e=>by have:=(h5.lt q hq).1;simp only at e;omega)),(grown_ext ew hW (by omega) hg).setCell h3 u,fun o' ho=>?_,fun o'=>?_,fun y hy=>?_,fun q hq hne hv=>?_⟩
 ·rw[cell_other _ (.inr (fun e=>ho e.symm))];exact World.cell?_of_block (a:=⟨bg,o',none⟩) hblk
 ·rw[World.frozen?_setCell];exact World.frozen?_of_block (a:=⟨bg,o',none⟩) hblk
 ·exact World.cell?_setCell_same _ _ _ ((World.cell?_of_block (a:=⟨bg,o,none⟩) hblk).trans hy)
 ·exact(Below.heap_setCell _ _ _ _ hne).trans (hg.block q hq (fun e=>hv e.symm))
theorem own_less{w:World}{b b':Nat}{T:TypeId}{c n:Nat}{v:Value}{xs:List Value}(h:w.ownsRow b T c v n xs)(hb:b'≤b):w.ownsRow b' T c v n xs:=
 ⟨h.1,h.2.imp id (fun⟨g,cap,cur,hv,hg,r⟩=>⟨g,cap,cur,hv,Nat.le_trans hb hg,r⟩)⟩
theorem flat_len{α:Type}(f:α→List Value)(c:Nat)(hc:∀a,(f a).length=c)(L:List α):(L.flatMap f).length=L.length*c:=by
 induction L with
 | nil=>simp
 | cons a L ih=>simp [ih,hc,Nat.succ_mul];omega
theorem addr_add(b o j:Nat):(⟨b,o,none⟩:Addr).add j=⟨b,o+j,none⟩:=by unfold Addr.add;split <;> simp_all
theorem flat_news{α:Type}{w:World}(f:α→List Value)(c:Nat)(h0:0<c)(hc:∀a,(f a).length=c)(L:List α)(b o:Nat)(h:∀i (hi:i<L.length),∀j,j<c→w.cell? ⟨b,o+i*c+j,none⟩=(f L[i])[j]?):∀j u,(L.flatMap f)[j]?=some u→w.cell? ((⟨b,o,none⟩:Addr).add j)=some u:=fun j u hu=>by
 have hj:j<L.length*c:=by
  have:=(List.getElem?_eq_some_iff.1 hu).1
  rwa [flat_len f c hc] at this
 have hq:j / c<L.length:=(Nat.div_lt_iff_lt_mul h0).2 hj;have hm:j % c<c:=Nat.mod_lt _ h0;have e:j / c*c+j % c=j:=Nat.div_add_mod' j c;rw[addr_add,←hu];have:=h (j / c) hq (j % c) hm;rw[Nat.add_assoc,e] at this;rw[this,←flat_get f c hc L (j / c) (j % c) hq hm,e]
def fW(y:Wd):List Value:=[iv y.k,iv y.n,iv y.a]
def fP(p:Pr):List Value:=[iv p.key.k,iv p.key.n,iv p.key.a,iv p.val.k,iv p.val.n,iv p.val.a]
def fC(z:Cl×Value):List Value:=[iv z.1.st,iv z.1.kind,iv z.1.weak,iv z.1.last,iv z.1.born,iv z.1.color,iv z.1.to,z.2]
def S7(w:World)(b o:Nat)(c:Cl):Prop:=
 w.cell? ⟨b,o,none⟩=some (iv c.st)∧w.cell? ⟨b,o+1,none⟩=some (iv c.kind)∧w.cell? ⟨b,o+2,none⟩=some (iv c.weak)∧w.cell? ⟨b,o+3,none⟩=some (iv c.last)∧w.cell? ⟨b,o+4,none⟩=some (iv c.born)∧w.cell? ⟨b,o+5,none⟩=some (iv c.color)∧w.cell? ⟨b,o+6,none⟩=some (iv c.to)
theorem S7.of{w w':World}{b o:Nat}{c:Cl}(h:S7 w b o c)(e:∀j,j<7→w'.cell? ⟨b,o+j,none⟩=w.cell? ⟨b,o+j,none⟩):S7 w' b o c:=by
 obtain⟨a0,a1,a2,a3,a4,a5,a6⟩:=h;exact⟨(e 0 (by omega)).trans a0,(e 1 (by omega)).trans a1,(e 2 (by omega)).trans a2,(e 3 (by omega)).trans a3,(e 4 (by omega)).trans a4,(e 5 (by omega)).trans a5,(e 6 (by omega)).trans a6⟩
theorem PrAt.of{w w':World}{b o:Nat}{p:Pr}(h:PrAt w b o p)(e:∀j,j<6→w'.cell? ⟨b,o+j,none⟩=w.cell? ⟨b,o+j,none⟩):PrAt w' b o p:=by
 obtain⟨a0,a1,a2,a3,a4,a5⟩:=h;exact⟨(e 0 (by omega)).trans a0,(e 1 (by omega)).trans a1,(e 2 (by omega)).trans a2,(e 3 (by omega)).trans a3,(e 4 (by omega)).trans a4,(e 5 (by omega)).trans a5⟩
theorem WdAt.of{w w':World}{b o:Nat}{y:Wd}(h:WdAt w b o y)(e:∀j,j<3→w'.cell? ⟨b,o+j,none⟩=w.cell? ⟨b,o+j,none⟩):WdAt w' b o y:=by
 obtain⟨a0,a1,a2⟩:=h;exact⟨(e 0 (by omega)).trans a0,(e 1 (by omega)).trans a1,(e 2 (by omega)).trans a2⟩
structure Nfp(b k:Nat)(w:World):Prop where
 lt:b<w.heap.size
 nf:∀j,w.frozen? ⟨b,j,none⟩=false
 cp:∀j,j<k*6→∃v,w.cell? ⟨b,j,none⟩=some v
theorem Nfp.n1{b k:Nat}{w:World}(h:Nfp b k w):Nf1 b w:=⟨h.1,h.2⟩
theorem nfp_block{w w':World}{b k:Nat}(h:Nfp b k w)(hb:w'.heap[b]?=w.heap[b]?)(hs:w.heap.size≤w'.heap.size):Nfp b k w':=
 ⟨Nat.lt_of_lt_of_le h.1 hs,fun j=>(World.frozen?_of_block (a:=⟨b,j,none⟩) hb).trans (h.2 j),fun j hj=>let ⟨v,hv⟩:=h.3 j hj;⟨v,(World.cell?_of_block (a:=⟨b,j,none⟩) hb).trans hv⟩⟩
theorem Nfp.ext{b k:Nat}{w w':World}(h:Nfp b k w)(e:Ext w w'):Nfp b k w':=nfp_block h (e.block b h.1) e.size
theorem Nfp.set{b k:Nat}{w:World}(h:Nfp b k w)(p:Addr)(u:Value):Nfp b k (w.setCell p u):=⟨(h.n1.set p u).1,(h.n1.set p u).2,fun j hj=>let ⟨_,hv⟩:=h.3 j hj;cell?_setCell_some hv⟩
theorem Nfp.put{b k g:Nat}:∀{vs:List Value} {w:World} {o:Nat},Nfp b k w→Nfp b k (w.setCells g o vs)
 | [],_,_,h=>h
 | _::r,_,_,h=>Nfp.put (vs:=r) (h.set _ _)
theorem nfp_pair{w w':World}{b c k:Nat}{p:Pr}(h:Nfp b c w)(n:Nf1 b w')(hp:PrAt w' b (k*6) p)(ho:∀j,(j<k*6∨k*6+6≤j)→w'.cell? ⟨b,j,none⟩=w.cell? ⟨b,j,none⟩):Nfp b c w':=
 ⟨n.1,n.2,fun j hj=>by
  by_cases e:j<k*6∨k*6+6≤j
  ·rw[ho j e];exact h.3 j hj
  ·obtain⟨h0,h1,h2,h3,h4,h5⟩:=hp;have:j=k*6∨j=k*6+1∨j=k*6+2∨j=k*6+3∨j=k*6+4∨j=k*6+5:=by omega
   rcases this with rfl | rfl | rfl | rfl | rfl | rfl
   ·exact⟨_,h0⟩
   ·exact⟨_,h1⟩
   ·exact⟨_,h2⟩
   ·exact⟨_,h3⟩
   ·exact⟨_,h4⟩
   ·exact⟨_,h5⟩⟩
structure Rws(B:Nat)(w:World)(x:Hp)(br bc:Nat)(pb:Nat→Nat)(pa:Nat→Option Addr)(pk:Nat→Nat):Prop where
 r:∀i (hi:i<x.regs.length),WdAt w br (i*3) x.regs[i]
 s:∀q,q<x.cells.length→S7 w bc (q*8) (x.c q)
 p7:∀q,q<x.cells.length→w.cell? ⟨bc,q*8+7,none⟩=some (.slice (pa q) (x.c q).prs.length (pk q))
 p:∀q,q<x.cells.length→∀k,k<(x.c q).prs.length→PrAt w (pb q) (k*6) ((x.c q).p k)
 pl:∀q,q<x.cells.length→0<pk q→pa q=some ⟨pb q,0,none⟩∧Nfp (pb q) (pk q) w∧(pb q≠br∧pb q≠bc)∧B≤pb q
 nr:0<x.regs.length→Nf1 br w∧B≤br
 nc:0<x.cells.length→Nf1 bc w∧B≤bc
 d:0<x.cells.length→br≠bc
 dp:∀q q',q<x.cells.length→q'<x.cells.length→q≠q'→0<pk q→0<pk q'→pb q≠pb q'
 kp:∀q,q<x.cells.length→(x.c q).prs.length≤pk q
theorem Rws.pw{B:Nat}{w:World}{x:Hp}{br bc:Nat}{pb:Nat→Nat}{pa:Nat→Option Addr}{pk:Nat→Nat}(h:Rws B w x br bc pb pa pk){q:Nat}(hq:q<x.cells.length)(hl:0<(x.c q).prs.length):0<pk q:=Nat.lt_of_lt_of_le hl (h.kp q hq)
theorem nf1_block{w w':World}{b:Nat}(h:Nf1 b w)(hb:w'.heap[b]?=w.heap[b]?)(hs:w.heap.size≤w'.heap.size):Nf1 b w':=
 ⟨Nat.lt_of_lt_of_le h.1 hs,fun j=>(World.frozen?_of_block (a:=⟨b,j,none⟩) hb).trans (h.2 j)⟩
theorem Rws.same{B:Nat}{w w':World}{x:Hp}{br bc:Nat}{pb:Nat→Nat}{pa:Nat→Option Addr}{pk:Nat→Nat}(h:Rws B w x br bc pb pa pk)(hs:w.heap.size≤w'.heap.size)
  (hr:0<x.regs.length→w'.heap[br]?=w.heap[br]?) (hc:0<x.cells.length→w'.heap[bc]?=w.heap[bc]?) (hp:∀q,q<x.cells.length→0<pk q→w'.heap[pb q]?=w.heap[pb q]?):Rws B w' x br bc pb pa pk where
 r:=fun i hi=>(h.r i hi).of fun j _=>World.cell?_of_block (a:=⟨br,_,none⟩) (hr (by omega))
 s:=fun q hq=>(h.s q hq).of fun j _=>World.cell?_of_block (a:=⟨bc,_,none⟩) (hc (by omega))
 p7:=fun q hq=>(World.cell?_of_block (a:=⟨bc,_,none⟩) (hc (by omega))).trans (h.p7 q hq)
 p:=fun q hq k hk=>(h.p q hq k hk).of fun j _=>World.cell?_of_block (a:=⟨pb q,_,none⟩) (hp q hq (h.pw hq (by omega)))
 pl:=fun q hq hl=>let ⟨a,b,c⟩:=h.pl q hq hl;⟨a,nfp_block b (hp q hq hl) hs,c⟩
 nr:=fun hl=>⟨nf1_block (h.nr hl).1 (hr hl) hs,(h.nr hl).2⟩
 nc:=fun hl=>⟨nf1_block (h.nc hl).1 (hc hl) hs,(h.nc hl).2⟩
 d:=h.d
 dp:=h.dp
 kp:=h.kp
theorem Rws.ext{B:Nat}{w w':World}{x:Hp}{br bc:Nat}{pb:Nat→Nat}{pa:Nat→Option Addr}{pk:Nat→Nat}(h:Rws B w x br bc pb pa pk)(e:Ext w w'):Rws B w' x br bc pb pa pk:=
 h.same e.size (fun hl=>e.block _ (h.nr hl).1.1) (fun hl=>e.block _ (h.nc hl).1.1) (fun q hq hl=>e.block _ (h.pl q hq hl).2.1.1)
theorem Rws.only{S:Nat→Prop}{B:Nat}{w w':World}{x:Hp}{br bc:Nat}{pb:Nat→Nat}{pa:Nat→Option Addr}{pk:Nat→Nat}(h:Rws B w x br bc pb pa pk)(e:Only S w w')(hr:0<x.regs.length→¬S br)(hc:0<x.cells.length→¬S bc)(hp:∀q,q<x.cells.length→0<pk q→¬S (pb q)):Rws B w' x br bc pb pa pk:=
 h.same e.size (fun hl=>e.block _ (h.nr hl).1.1 (hr hl)) (fun hl=>e.block _ (h.nc hl).1.1 (hc hl)) (fun q hq hl=>e.block _ (h.pl q hq hl).2.1.1 (hp q hq hl))
theorem Rws.less{B C:Nat}{w:World}{x:Hp}{br bc:Nat}{pb:Nat→Nat}{pa:Nat→Option Addr}{pk:Nat→Nat}(h:Rws B w x br bc pb pa pk)(hc:C≤B):Rws C w x br bc pb pa pk:=
 ⟨h.r,h.s,h.p7,h.p,fun q hq hl=>let ⟨a,b,c,d⟩:=h.pl q hq hl;⟨a,b,c,Nat.le_trans hc d⟩,fun hl=>⟨(h.nr hl).1,Nat.le_trans hc (h.nr hl).2⟩,fun hl=>⟨(h.nc hl).1,Nat.le_trans hc (h.nc hl).2⟩,h.d,h.dp,h.kp⟩
theorem Rws.slW{B:Nat}{w:World}{x:Hp}{br bc:Nat}{pb:Nat→Nat}{pa:Nat→Option Addr}{pk:Nat→Nat}(h:Rws B w x br bc pb pa pk){ad:Option Addr}(kr:Nat)(ha:0<x.regs.length→ad=some ⟨br,0,none⟩)(hl:x.regs.length≤1048576):SlW w (.slice ad x.regs.length kr) x.regs:=
 ⟨_,_,rfl,by omega,fun i hi=>⟨br,0,ha (by omega),by rw[Nat.zero_add];exact h.r i hi⟩⟩
theorem Rws.slC{B:Nat}{w:World}{x:Hp}{br bc:Nat}{pb:Nat→Nat}{pa:Nat→Option Addr}{pk:Nat→Nat}(h:Rws B w x br bc pb pa pk){ad:Option Addr}(kc:Nat)(ha:0<x.cells.length→ad=some ⟨bc,0,none⟩)(hl:x.cells.length≤1048576)(h2:∀q,q<x.cells.length→(x.c q).prs.length≤200):SlC w (.slice ad x.cells.length kc) x.cells:=by
 refine⟨_,_,rfl,by omega,fun i hi=>⟨bc,0,ha (by omega),?_⟩⟩;rw[Nat.zero_add,Hp.c_eq x i hi];obtain⟨a0,a1,a2,a3,a4,a5,a6⟩:=h.s i hi;refine⟨_,a0,a1,a2,a3,a4,a5,a6,h.p7 i hi,_,_,rfl,by have:=h2 i hi;omega,fun k hk=>⟨pb i,0,(h.pl i hi (h.pw hi (by omega))).1,?_⟩⟩;rw[Nat.zero_add,Cl.p_eq _ _ hk];exact h.p i hi k hk
def HBox(w:World)(B:Nat)(x:Hp)(vr vc vg:Value):Prop:=
 w.cell? ⟨B,0,none⟩=some (iv x.room)∧w.cell? ⟨B,1,none⟩=some (iv x.used)∧w.cell? ⟨B,2,none⟩=some (iv x.born)∧w.cell? ⟨B,3,none⟩=some vr∧w.cell? ⟨B,4,none⟩=some vc∧w.cell? ⟨B,5,none⟩=some (iv x.phase)∧w.cell? ⟨B,6,none⟩=some (iv x.hand)∧w.cell? ⟨B,7,none⟩=some (iv x.sub)∧w.cell? ⟨B,8,none⟩=some vg∧w.cell? ⟨B,9,none⟩=some (iv x.per)∧w.cell? ⟨B,10,none⟩=some (iv x.start)∧w.cell? ⟨B,11,none⟩=some (iv x.rounds)∧w.cell? ⟨B,12,none⟩=some (iv x.forced)
theorem HBox.ext{w w':World}{B:Nat}{x:Hp}{vr vc vg:Value}(h:HBox w B x vr vc vg)(e:Ext w w'):HBox w' B x vr vc vg:=by
 obtain⟨h0,h1,h2,h3,h4,h5,h6,h7,h8,h9,h10,h11,h12⟩:=h;exact⟨e.keep h0,e.keep h1,e.keep h2,e.keep h3,e.keep h4,e.keep h5,e.keep h6,e.keep h7,e.keep h8,e.keep h9,e.keep h10,e.keep h11,e.keep h12⟩
theorem HBox.new(w:World)(x:Hp)(vr vc vg:Value)(t:TypeId):HBox (w.alloc (.cells #[iv x.room,iv x.used,iv x.born,vr,vc,iv x.phase,iv x.hand,iv x.sub,vg,iv x.per,iv x.start,iv x.rounds,iv x.forced] t)) w.heap.size x vr vc vg:=by
 refine⟨?_,?_,?_,?_,?_,?_,?_,?_,?_,?_,?_,?_,?_⟩ <;> simp [go_sem]
theorem HBox.of{w w':World}{B B':Nat}{x:Hp}{vr vc vg:Value}(h:HBox w B x vr vc vg)(e:∀o,o<13→w'.cell? ⟨B',o,none⟩=w.cell? ⟨B,o,none⟩):HBox w' B' x vr vc vg:=by
 obtain⟨h0,h1,h2,h3,h4,h5,h6,h7,h8,h9,h10,h11,h12⟩:=h;exact⟨(e 0 (by omega)).trans h0,(e 1 (by omega)).trans h1,(e 2 (by omega)).trans h2,(e 3 (by omega)).trans h3,(e 4 (by omega)).trans h4,(e 5 (by omega)).trans h5,(e 6 (by omega)).trans h6,(e 7 (by omega)).trans h7,(e 8 (by omega)).trans h8,(e 9 (by omega)).trans h9,(e 10 (by omega)).trans h10,(e 11 (by omega)).trans h11,(e 12 (by omega)).trans h12⟩
theorem HBox.only{S:Nat→Prop}{w w':World}{B:Nat}{x:Hp}{vr vc vg:Value}(h:HBox w B x vr vc vg)(e:Only S w w')(hs:¬S B):HBox w' B x vr vc vg:=
 h.of fun o _=>e.cells B (cell_lt h.1) hs o
theorem HBox.block{w w':World}{B:Nat}{x:Hp}{vr vc vg:Value}(h:HBox w B x vr vc vg)(e:w'.heap[B]?=w.heap[B]?):HBox w' B x vr vc vg:=
 h.of fun o _=>World.cell?_of_block (a:=⟨B,o,none⟩) e
theorem HBox.far{w:World}{B:Nat}{x:Hp}{vr vc vg:Value}(h:HBox w B x vr vc vg)(b o:Nat)(u:Value)(hb:b≠B∨13≤o):HBox (w.setCell ⟨b,o,none⟩ u) B x vr vc vg:=
 h.of fun o' ho=>cell_other _ (by omega)
theorem HBox.set3{w:World}{B:Nat}{x:Hp}{vr vc vg:Value}(h:HBox w B x vr vc vg)(u:Value):HBox (w.setCell ⟨B,3,none⟩ u) B x u vc vg:=by
 obtain⟨h0,h1,h2,h3,h4,h5,h6,h7,h8,h9,h10,h11,h12⟩:=h;refine⟨?_,?_,?_,?_,?_,?_,?_,?_,?_,?_,?_,?_,?_⟩ <;> first | exact(cell_other _ (by omega)).trans (by assumption) | exact World.cell?_setCell_same _ _ _ (by assumption)
theorem HBox.set4{w:World}{B:Nat}{x:Hp}{vr vc vg:Value}(h:HBox w B x vr vc vg)(u:Value):HBox (w.setCell ⟨B,4,none⟩ u) B x vr u vg:=by
 obtain⟨h0,h1,h2,h3,h4,h5,h6,h7,h8,h9,h10,h11,h12⟩:=h;refine⟨?_,?_,?_,?_,?_,?_,?_,?_,?_,?_,?_,?_,?_⟩ <;> first | exact(cell_other _ (by omega)).trans (by assumption) | exact World.cell?_setCell_same _ _ _ (by assumption)
theorem HBox.set8{w:World}{B:Nat}{x:Hp}{vr vc vg:Value}(h:HBox w B x vr vc vg)(u:Value):HBox (w.setCell ⟨B,8,none⟩ u) B x vr vc u:=by
 obtain⟨h0,h1,h2,h3,h4,h5,h6,h7,h8,h9,h10,h11,h12⟩:=h;refine⟨?_,?_,?_,?_,?_,?_,?_,?_,?_,?_,?_,?_,?_⟩ <;> first | exact(cell_other _ (by omega)).trans (by assumption) | exact World.cell?_setCell_same _ _ _ (by assumption)
theorem HBox.set1{w:World}{B:Nat}{x:Hp}{vr vc vg:Value}(h:HBox w B x vr vc vg)(u:Int):HBox (w.setCell ⟨B,1,none⟩ (iv u)) B { x with used:=u } vr vc vg:=by
 obtain⟨h0,h1,h2,h3,h4,h5,h6,h7,h8,h9,h10,h11,h12⟩:=h;refine⟨?_,?_,?_,?_,?_,?_,?_,?_,?_,?_,?_,?_,?_⟩ <;> first | exact(cell_other _ (by omega)).trans (by assumption) | exact World.cell?_setCell_same _ _ _ (by assumption)
theorem HBox.set2{w:World}{B:Nat}{x:Hp}{vr vc vg:Value}(h:HBox w B x vr vc vg)(u:Int):HBox (w.setCell ⟨B,2,none⟩ (iv u)) B { x with born:=u } vr vc vg:=by
 obtain⟨h0,h1,h2,h3,h4,h5,h6,h7,h8,h9,h10,h11,h12⟩:=h;refine⟨?_,?_,?_,?_,?_,?_,?_,?_,?_,?_,?_,?_,?_⟩ <;> first | exact(cell_other _ (by omega)).trans (by assumption) | exact World.cell?_setCell_same _ _ _ (by assumption)
theorem HBox.set5{w:World}{B:Nat}{x:Hp}{vr vc vg:Value}(h:HBox w B x vr vc vg)(u:Int):HBox (w.setCell ⟨B,5,none⟩ (iv u)) B { x with phase:=u } vr vc vg:=by
 obtain⟨h0,h1,h2,h3,h4,h5,h6,h7,h8,h9,h10,h11,h12⟩:=h;refine⟨?_,?_,?_,?_,?_,?_,?_,?_,?_,?_,?_,?_,?_⟩ <;> first | exact(cell_other _ (by omega)).trans (by assumption) | exact World.cell?_setCell_same _ _ _ (by assumption)
theorem HBox.set6{w:World}{B:Nat}{x:Hp}{vr vc vg:Value}(h:HBox w B x vr vc vg)(u:Int):HBox (w.setCell ⟨B,6,none⟩ (iv u)) B { x with hand:=u } vr vc vg:=by
 obtain⟨h0,h1,h2,h3,h4,h5,h6,h7,h8,h9,h10,h11,h12⟩:=h;refine⟨?_,?_,?_,?_,?_,?_,?_,?_,?_,?_,?_,?_,?_⟩ <;> first | exact(cell_other _ (by omega)).trans (by assumption) | exact World.cell?_setCell_same _ _ _ (by assumption)
theorem HBox.set7{w:World}{B:Nat}{x:Hp}{vr vc vg:Value}(h:HBox w B x vr vc vg)(u:Int):HBox (w.setCell ⟨B,7,none⟩ (iv u)) B { x with sub:=u } vr vc vg:=by
 obtain⟨h0,h1,h2,h3,h4,h5,h6,h7,h8,h9,h10,h11,h12⟩:=h;refine⟨?_,?_,?_,?_,?_,?_,?_,?_,?_,?_,?_,?_,?_⟩ <;> first | exact(cell_other _ (by omega)).trans (by assumption) | exact World.cell?_setCell_same _ _ _ (by assumption)
theorem HBox.set11{w:World}{B:Nat}{x:Hp}{vr vc vg:Value}(h:HBox w B x vr vc vg)(u:Int):HBox (w.setCell ⟨B,11,none⟩ (iv u)) B { x with rounds:=u } vr vc vg:=by
 obtain⟨h0,h1,h2,h3,h4,h5,h6,h7,h8,h9,h10,h11,h12⟩:=h;refine⟨?_,?_,?_,?_,?_,?_,?_,?_,?_,?_,?_,?_,?_⟩ <;> first | exact(cell_other _ (by omega)).trans (by assumption) | exact World.cell?_setCell_same _ _ _ (by assumption)
theorem HBox.set12{w:World}{B:Nat}{x:Hp}{vr vc vg:Value}(h:HBox w B x vr vc vg)(u:Int):HBox (w.setCell ⟨B,12,none⟩ (iv u)) B { x with forced:=u } vr vc vg:=by
 obtain⟨h0,h1,h2,h3,h4,h5,h6,h7,h8,h9,h10,h11,h12⟩:=h;refine⟨?_,?_,?_,?_,?_,?_,?_,?_,?_,?_,?_,?_,?_⟩ <;> first | exact(cell_other _ (by omega)).trans (by assumption) | exact World.cell?_setCell_same _ _ _ (by assumption)
end Go.Proofs.YtnegjhddmfiefaaGreatDoor
