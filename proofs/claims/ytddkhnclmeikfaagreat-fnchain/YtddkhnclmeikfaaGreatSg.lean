import Derived.Test.YtddkhnclmeikfaaGreatLr
import Derived.Deep.AppendLies
import Derived.Deep.DeepCutAuto
import Derived.Deep.LoopGhost
import Derived.Deep.RegionLaw
import Derived.Deep.RegionWith
import Derived.Laws.EntriesVeiled
import Derived.Laws.OwnMore
import Derived.Lib.AppendZerosOnto
import Derived.Lib.Walk
import Derived.Maps.AppendAt
import Derived.WalkSmall
namespace Go.Proofs.YtddkhnclmeikfaaGreat
open Go.RowKit
attribute [local go_sem ↓] Go.wp_at_zero Go.wp_at_succ
structure VAt(w:World)(b:Nat)(x:Hp)(ar:Option Addr)(kr:Nat)(ac:Option Addr)(kc:Nat)(ag:Option Addr)(kg:Nat)(an:Option Addr)(kn:Nat):Prop where
 H:HAt w b x ar kr ac kc ag kg
 n13:w.cell? ⟨b,13,none⟩=some (.slice an x.cells.length kn)
 N:∀i,i<x.cells.length→∃bn on bc oc,an=some ⟨bn,on,none⟩∧ac=some ⟨bc,oc,none⟩∧w.cell? ⟨bn,on+i*2,none⟩=some (iv i)∧w.cell? ⟨bn,on+i*2+1,none⟩=some (.pointer (some ⟨bc,oc+i*8,none⟩))
theorem VAt.ext{w w':World}{b:Nat}{x:Hp}{ar:Option Addr}{kr:Nat}{ac:Option Addr}{kc:Nat}{ag:Option Addr}{kg:Nat}{an:Option Addr}{kn:Nat}(h:VAt w b x ar kr ac kc ag kg an kn)(e:Ext w w'):VAt w' b x ar kr ac kc ag kg an kn:=
 ⟨h.H.ext e,e.keep h.n13,fun i hi=>let ⟨bn,on,bc,oc,a,a',p,q⟩:=h.N i hi;⟨bn,on,bc,oc,a,a',e.keep p,e.keep q⟩⟩
theorem units_any(c:Cl)(bn q bc r:Nat)(ap:Option Addr)(kp:Nat)(w:World)(m1:w.cell? ⟨bn,q+1,none⟩=some (.pointer (some ⟨bc,r,none⟩)))(p7:w.cell? ⟨bc,r+7,none⟩=some (.slice ap c.prs.length kp))(lp:c.prs.length≤35184372088832):
  Calls Tryz.prog 119 #[.pointer (some ⟨bn,q,none⟩)] w fun e w'=>e=.returned (.int .i64 (1+(c.prs.length:Int)))∧w'=w:=by
 go_enter Tryz.func119,Tryz.ntmps119
 go_wp2
 go_ret;exact⟨rfl,rfl⟩
theorem OkIs.all{x:Hp}(h:OkIs x 0):R1 x∧R2 x∧R3 x∧R4 x:=by
 unfold OkIs at h;rcases h with h | h | h | h | h | h | h | h | h
 ·omega
 ·omega
 ·omega
 ·omega
 ·omega
 ·omega
 ·omega
 ·omega
 ·exact⟨h.1,h.2.1,h.2.2.1,h.2.2.2.1⟩
theorem OkIs.n8{x:Hp}(h:OkIs x 0):x.cells.length≤8000:=by have:=h.all.1.room;have:=h.all.1.cells;omega
theorem OkIs.p200{x:Hp}(h:OkIs x 0)(i:Nat)(hi:i<x.cells.length):(x.c i).prs.length≤200:=by
 rcases h.all.2.1.1 i hi with c | c | c
 ·have:=c.2.1.2.2.2.2.2;omega
 ·have:=c.2.1.2.2.2.2.2;omega
 ·exact c.2.2.2.2.2.2.2
structure HNt(w:World)(b:Nat)(x:Hp)(ar:Option Addr)(kr:Nat)(ac:Nat→Option Addr):Prop where
 c3:w.cell? ⟨b,3,none⟩=some (.slice ar x.regs.length kr)
 lr:x.regs.length≤35184372088832
 R:∀i (hi:i<x.regs.length),∃b' o,ar=some ⟨b',o,none⟩∧WdAt w b' (o+i*3) x.regs[i]
 C:∀i,i<x.cells.length→∃b' o,ac i=some ⟨b',o,none⟩∧ClAt w b' o (x.c i)
theorem HNt.ext{w w':World}{b:Nat}{x:Hp}{ar:Option Addr}{kr:Nat}{ac:Nat→Option Addr}(h:HNt w b x ar kr ac)(e:Ext w w'):HNt w' b x ar kr ac:=
 ⟨e.keep h.c3,h.lr,fun i hi=>let ⟨b',o,a,p⟩:=h.R i hi;⟨b',o,a,p.ext e⟩,fun i hi=>let ⟨b',o,a,p⟩:=h.C i hi;⟨b',o,a,p.ext e⟩⟩
theorem HNt.cell{w:World}{b:Nat}{x:Hp}{ar:Option Addr}{kr:Nat}{ac:Nat→Option Addr}(h:HNt w b x ar kr ac)(i:Nat)(hi:i<x.cells.length):
  ∃b' o ap kp,ac i=some ⟨b',o,none⟩∧CAt w b' o (x.c i) ap kp:=by
 obtain⟨b',o,e,vp,p0,p1,p2,p3,p4,p5,p6,p7,ap,kp,rfl,lp,P⟩:=h.C i hi;exact⟨b',o,ap,kp,e,p0,p1,p2,p3,p4,p5,p6,p7,lp,fun k hk=>by obtain⟨b2,o2,e2,q⟩:=P k hk;rw[Cl.p_eq _ _ hk] at q;exact⟨b2,o2,e2,q⟩⟩
structure VNt(w:World)(b:Nat)(x:Hp)(ar:Option Addr)(kr:Nat)(ac:Nat→Option Addr)(an:Option Addr)(kn:Nat):Prop where
 H:HNt w b x ar kr ac
 n13:w.cell? ⟨b,13,none⟩=some (.slice an x.cells.length kn)
 N:∀i,i<x.cells.length→∃bn on bc oc,an=some ⟨bn,on,none⟩∧ac i=some ⟨bc,oc,none⟩∧w.cell? ⟨bn,on+i*2,none⟩=some (iv i)∧w.cell? ⟨bn,on+i*2+1,none⟩=some (.pointer (some ⟨bc,oc,none⟩))
theorem VNt.ext{w w':World}{b:Nat}{x:Hp}{ar:Option Addr}{kr:Nat}{ac:Nat→Option Addr}{an:Option Addr}{kn:Nat}(h:VNt w b x ar kr ac an kn)(e:Ext w w'):VNt w' b x ar kr ac an kn:=
 ⟨h.H.ext e,e.keep h.n13,fun i hi=>let ⟨bn,on,bc,oc,a,a',p,q⟩:=h.N i hi;⟨bn,on,bc,oc,a,a',e.keep p,e.keep q⟩⟩
structure FwAt(w:World)(b:Nat)(x:Hp)(ac:Nat→Option Addr)(an:Option Addr)(kn:Nat):Prop where
 n13:w.cell? ⟨b,13,none⟩=some (.slice an x.cells.length kn)
 N:∀i,i<x.cells.length→∃bn on bc oc,an=some ⟨bn,on,none⟩∧ac i=some ⟨bc,oc,none⟩∧w.cell? ⟨bn,on+i*2+1,none⟩=some (.pointer (some ⟨bc,oc,none⟩))∧w.cell? ⟨bc,oc,none⟩=some (iv (x.c i).st)∧w.cell? ⟨bc,oc+6,none⟩=some (iv (x.c i).to)
theorem FwAt.ext{w w':World}{b:Nat}{x:Hp}{ac:Nat→Option Addr}{an:Option Addr}{kn:Nat}(h:FwAt w b x ac an kn)(e:Ext w w'):FwAt w' b x ac an kn:=
 ⟨e.keep h.n13,fun i hi=>let ⟨bn,on,bc,oc,a,a',p,q,r⟩:=h.N i hi;⟨bn,on,bc,oc,a,a',e.keep p,e.keep q,e.keep r⟩⟩
theorem VNt.f{w:World}{b:Nat}{x:Hp}{ar:Option Addr}{kr:Nat}{ac:Nat→Option Addr}{an:Option Addr}{kn:Nat}(h:VNt w b x ar kr ac an kn):FwAt w b x ac an kn:=
 ⟨h.n13,fun i hi=>by
  obtain⟨bn,on,bc,oc,a,a',p,q⟩:=h.N i hi;obtain⟨b2,o2,ap,kp,e,C⟩:=h.H.cell i hi;rw[a'] at e;cases e;exact⟨bn,on,bc,oc,a,a',q,C.p0,C.p6⟩⟩
def acs(ac:Option Addr)(i:Nat):Option Addr:=ac.map fun a=>⟨a.block,a.off+i*8,a.spot⟩
theorem VAt.vn{w:World}{b:Nat}{x:Hp}{ar:Option Addr}{kr:Nat}{ac:Option Addr}{kc:Nat}{ag:Option Addr}{kg:Nat}{an:Option Addr}{kn:Nat}(h:VAt w b x ar kr ac kc ag kg an kn):VNt w b x ar kr (acs ac) an kn:=
 ⟨⟨h.H.c3,h.H.lr,h.H.R,fun i hi=>by
  obtain⟨b',o,e,p⟩:=h.H.C i hi;subst e;exact⟨b',o+i*8,rfl,p⟩⟩,h.n13,fun i hi=>by
  obtain⟨bn,on,bc,oc,e1,e2,p,q⟩:=h.N i hi;subst e2;exact⟨bn,on,bc,oc+i*8,e1,rfl,p,q⟩⟩
theorem zeroStore:Tryz.zeroCells132.size=4018∧Tryz.zeroCells132[4015]?=some (iv 0)∧Tryz.zeroCells132[4016]?=some (iv 0)∧Tryz.zeroCells132[4017]?=some (.slice none 0 0):=⟨by kernel_rfl,by kernel_rfl,by kernel_rfl,by kernel_rfl⟩
abbrev stZ(cs:Array Value)(v0 v1 v2 v3 v4 v5 v6 v7 v8 v9 v10 v11 v12 v13 v14:Value):Array Value:=(((((((((((((((cs.setIfInBounds 0 v0).setIfInBounds 1 v1).setIfInBounds 2 v2).setIfInBounds 3 v3).setIfInBounds 4 v4).setIfInBounds 5 v5).setIfInBounds 6 v6).setIfInBounds 7 v7).setIfInBounds 8 v8).setIfInBounds 9 v9).setIfInBounds 10 v10).setIfInBounds 11 v11).setIfInBounds 12 v12).setIfInBounds 13 v13).setIfInBounds 14 v14)
theorem stZ_at(cs:Array Value)(v0 v1 v2 v3 v4 v5 v6 v7 v8 v9 v10 v11 v12 v13 v14:Value)(s0:cs.size=4018)(s1:cs[4015]?=some (iv 0))(s2:cs[4016]?=some (iv 0))(s3:cs[4017]?=some (.slice none 0 0)):(stZ cs v0 v1 v2 v3 v4 v5 v6 v7 v8 v9 v10 v11 v12 v13 v14).size=4018∧
   ((stZ cs v0 v1 v2 v3 v4 v5 v6 v7 v8 v9 v10 v11 v12 v13 v14)[0]?=some v0∧(stZ cs v0 v1 v2 v3 v4 v5 v6 v7 v8 v9 v10 v11 v12 v13 v14)[1]?=some v1∧(stZ cs v0 v1 v2 v3 v4 v5 v6 v7 v8 v9 v10 v11 v12 v13 v14)[2]?=some v2∧(stZ cs v0 v1 v2 v3 v4 v5 v6 v7 v8 v9 v10 v11 v12 v13 v14)[3]?=some v3∧(stZ cs v0 v1 v2 v3 v4 v5 v6 v7 v8 v9 v10 v11 v12 v13 v14)[4]?=some v4∧(stZ cs v0 v1 v2 v3 v4 v5 v6 v7 v8 v9 v10 v11 v12 v13 v14)[5]?=some v5∧(stZ cs v0 v1 v2 v3 v4 v5 v6 v7 v8 v9 v10 v11 v12 v13 v14)[6]?=some v6∧(stZ cs v0 v1 v2 v3 v4 v5 v6 v7 v8 v9 v10 v11 v12 v13 v14)[7]?=some v7∧(stZ cs v0 v1 v2 v3 v4 v5 v6 v7 v8 v9 v10 v11 v12 v13 v14)[8]?=some v8∧(stZ cs v0 v1 v2 v3 v4 v5 v6 v7 v8 v9 v10 v11 v12 v13 v14)[9]?=some v9∧(stZ cs v0 v1 v2 v3 v4 v5 v6 v7 v8 v9 v10 v11 v12 v13 v14)[10]?=some v10∧(stZ cs v0 v1 v2 v3 v4 v5 v6 v7 v8 v9 v10 v11 v12 v13 v14)[11]?=some v11∧(stZ cs v0 v1 v2 v3 v4 v5 v6 v7 v8 v9 v10 v11 v12 v13 v14)[12]?=some v12∧(stZ cs v0 v1 v2 v3 v4 v5 v6 v7 v8 v9 v10 v11 v12 v13 v14)[13]?=some v13∧(stZ cs v0 v1 v2 v3 v4 v5 v6 v7 v8 v9 v10 v11 v12 v13 v14)[14]?=some v14)∧
   (stZ cs v0 v1 v2 v3 v4 v5 v6 v7 v8 v9 v10 v11 v12 v13 v14)[4015]?=some (iv 0)∧(stZ cs v0 v1 v2 v3 v4 v5 v6 v7 v8 v9 v10 v11 v12 v13 v14)[4016]?=some (iv 0)∧(stZ cs v0 v1 v2 v3 v4 v5 v6 v7 v8 v9 v10 v11 v12 v13 v14)[4017]?=some (.slice none 0 0):=by
 unfold stZ;exact⟨by simp [s0],by simp [s0],by simp [s1],by simp [s2],by simp [s3]⟩
theorem open_only{S:Nat→Prop}{w w':World}{b o:Nat}(h:Open w b o)(k:Only S w w')(hs:¬S b):Open w' b o:=by
 obtain⟨⟨v,hv⟩,hf⟩:=h;exact⟨⟨v,k.keep hs hv⟩,by rw[k.frozen (cell_lt hv) hs];exact hf⟩
def ByAt(w:World)(v:Value):Prop:=∃(ad:Option Addr) (n k:Nat),v=.slice ad n k∧n≤1048576∧∀i,i<n→∃b o z,ad=some ⟨b,o,none⟩∧w.cell? ⟨b,o+i,none⟩=some (.int .u8 z)∧0≤z∧z<256
theorem OkIs.r16{x:Hp}(h:OkIs x 0):0<x.regs.length∧x.regs.length≤100:=by have:=h.all.1.regs;omega
end Go.Proofs.YtddkhnclmeikfaaGreat
