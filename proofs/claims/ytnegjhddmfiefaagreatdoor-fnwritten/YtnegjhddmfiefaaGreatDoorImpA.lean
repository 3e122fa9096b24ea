import Derived.Test.YtnegjhddmfiefaaGreatDoorHx
namespace Go.Proofs.YtnegjhddmfiefaaGreatDoor
open Go.RowKit
attribute [local go_sem ↓] Go.wp_at_zero Go.wp_at_succ
structure VAt(w:World)(b:Nat)(x:Hp)(ar:Option Addr)(kr:Nat)(ac:Option Addr)(kc:Nat)(ag:Option Addr)(kg:Nat)(an:Option Addr)(kn:Nat):Prop where
 H:HAt w b x ar kr ac kc ag kg
 n13:w.cell? ⟨b,13,none⟩=some (.slice an x.cells.length kn)
 N:∀i,i<x.cells.length→∃bn on bc oc,an=some ⟨bn,on,none⟩∧ac=some ⟨bc,oc,none⟩∧w.cell? ⟨bn,on+i*2,none⟩=some (iv i)∧w.cell? ⟨bn,on+i*2+1,none⟩=some (.pointer (some ⟨bc,oc+i*8,none⟩))
theorem VAt.ext{w w':World}{b:Nat}{x:Hp}{ar:Option Addr}{kr:Nat}{ac:Option Addr}{kc:Nat}{ag:Option Addr}{kg:Nat}{an:Option Addr}{kn:Nat}(h:VAt w b x ar kr ac kc ag kg an kn)(e:Ext w w'):VAt w' b x ar kr ac kc ag kg an kn:=
 ⟨h.H.ext e,e.keep h.n13,fun i hi=>let ⟨bn,on,bc,oc,a,a',p,q⟩:=h.N i hi;⟨bn,on,bc,oc,a,a',e.keep p,e.keep q⟩⟩
end Go.Proofs.YtnegjhddmfiefaaGreatDoor
