import Derived.Test.YtddkhnclmeikfaaGreatDd
import Derived.Test.YtddkhnclmeikfaaGreatFr0
import Derived.Carry
import Derived.ChangeSlices
import Derived.OpenShut
import Derived.ProofKit
set_option maxRecDepth 100000
namespace Go.Proofs.YtddkhnclmeikfaaGreat
open Go.RowKit
attribute [local go_sem ↓] Go.wp_at_zero Go.wp_at_succ
def Up(w w':World):Prop:=Ext w w'
theorem Up.ext{w w':World}(h:Up w w'):Ext w w':=h
def fA(y:Ak):List Value:=[iv y.op,iv y.a,iv y.b,iv y.c,iv y.n]
theorem ownA{w:World}{base:Nat}{v:Value}{L:List Ak}(h:w.ownsRow base 39 5 v L.length (L.flatMap fA))(hl:L.length≤1048576):SlA w v L:=by
 obtain⟨ad,cap,e,_,hx⟩:=own_cells (f:=fA) (fun _=>rfl) h;refine⟨ad,cap,e,by omega,fun i hi=>?_⟩;obtain⟨g,ea,_,_,hc⟩:=hx i hi;exact⟨g,0,ea,by have:=hc 0 (by omega);simpa [fA] using this,by have:=hc 1 (by omega);simpa [fA] using this,by have:=hc 2 (by omega);simpa [fA] using this,by have:=hc 3 (by omega);simpa [fA] using this,by have:=hc 4 (by omega);simpa [fA] using this⟩
end Go.Proofs.YtddkhnclmeikfaaGreat
namespace Go.Proofs.YtddkhnclmeikfaaGreat
open Go.ChangeShapes Go.WideShapes Go.ChangeAt Go.RowKit
attribute [local go_sem ↓] Go.wp_at_zero Go.wp_at_succ
def ByL(w:World)(v:Value):Prop:=∃(ad:Option Addr) (n k:Nat),v=.slice ad n k∧n≤9223372036854775807∧∀i,i<n→∃b o z,ad=some ⟨b,o,none⟩∧w.cell? ⟨b,o+i,none⟩=some (.int .u8 z)∧0≤z∧z<256
theorem cells5:Tryz.prog.cellsOf 5=1:=by kernel_rfl
theorem rd_bytes{H:Type}{enc:TypeId×Value→H}{w:World}{base:Nat}{r:Reach}{b0:Nat}{held:Bool}{v:Value}{d:DataW H}{p:List MemPlace}(hok:Value.okWide Tryz.prog w r b0 22 v)(h:DataW.Trod enc Tryz.prog w base (fun _=>true) held 22 v d p):ByL w v:=by
 obtain⟨ad,len,cap,rfl⟩:=okWide_slice Tryz.underlying22 hok;obtain⟨fuel,ht⟩:=h;rcases open_ints Tryz.underlying22 Tryz.underlying5 cells5 ht with⟨hcs,_⟩ | ⟨a,len',cap',zs,hcs,_,hl,hm,hz,_,hcell,hwz⟩
 ·have e:Value.slice ad len cap=.slice none 0 0:=by simpa [Value.cells] using hcs
  cases e;exact⟨none,0,0,rfl,by omega,fun i hi=>by omega⟩
 ·have e:Value.slice ad len cap=.slice (some a) len' cap':=by simpa [Value.cells] using hcs
  cases e;simp only [if_true] at hz;refine⟨some a,len,cap,rfl,by unfold maxLen at hm;omega,fun i hi=>?_⟩;have hc:=hcell i (by omega);obtain⟨b,o,spot⟩:=a
  have hspot:spot=none:=by
   have h0:=hcell 0 (by omega)
   simpa [Addr.add] using World.cell?_spot h0
  subst hspot;rw[addr_add] at hc;obtain⟨z,hz2⟩:∃z,z=zs.getD i 0:=⟨_,rfl⟩
  have hw:=hwz z (by
   have:zs.getD i 0=zs[i]'(by omega):=by simp [show i<zs.length by omega]
   rw[hz2,this];exact List.getElem_mem _)
  rw[←hz2] at hc;refine⟨b,o,z,rfl,hc,?_⟩;have hw:IntKind.u8.min≤z∧z≤IntKind.u8.max:=by simpa [Lit.wf] using hw
  have e1:IntKind.u8.min=0:=by decide
  have e2:IntKind.u8.max=255:=by decide
  omega
end Go.Proofs.YtddkhnclmeikfaaGreat
