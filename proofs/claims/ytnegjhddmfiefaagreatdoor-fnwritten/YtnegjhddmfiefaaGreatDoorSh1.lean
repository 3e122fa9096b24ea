import Derived.Test.YtnegjhddmfiefaaGreatDoorHx
namespace Go.Proofs.YtnegjhddmfiefaaGreatDoor
open Go.RowKit
attribute [local go_sem ↓] Go.wp_at_zero Go.wp_at_succ
def CvAt(w:World)(b o:Nat)(z:Cl×Value):Prop:=∀j,j<8→w.cell? ⟨b,o+j,none⟩=(fC z)[j]?
def vaddr:Value→Option Addr
 | .slice a _ _=>a
 | _=>none
def vcap:Value→Nat
 | .slice _ _ k=>k
 | _=>0
def vblk(v:Value):Nat:=v.ownBlock.getD 0
theorem own_form{w:World}{B:Nat}{t:TypeId}{c n:Nat}{v:Value}{xs:List Value}(h:w.ownsRow B t c v n xs):v=.slice (vaddr v) n (vcap v)∧(0<n→vaddr v=some ⟨vblk v,0,none⟩∧v.ownBlock=some (vblk v)):=by
 rcases h.2 with⟨rfl,rfl⟩ | ⟨g,cap,cur,rfl,_⟩
 ·exact⟨rfl,fun h=>by omega⟩
 ·exact⟨rfl,fun _=>⟨rfl,rfl⟩⟩
theorem own_nf{w:World}{B:Nat}{t:TypeId}{c n:Nat}{v:Value}{xs:List Value}(h:w.ownsRow B t c v n xs)(hn:0<n):Nf1 (vblk v) w∧B≤vblk v:=by
 obtain⟨e,h2⟩:=own_form h;obtain⟨h3,h4⟩:=h2 hn;refine⟨⟨(h.lt _ h4).2,fun j=>?_⟩,(h.lt _ h4).1⟩;rw[e,h3] at h;exact World.ownsRow.frozenAt h j
theorem own_at{w:World}{B:Nat}{t:TypeId}{c:Nat}{v:Value}{α:Type}{f:α→List Value}(hc:∀a,(f a).length=c){L:List α}(h:w.ownsRow B t c v L.length (L.flatMap f))(i:Nat)(hi:i<L.length)(j:Nat)(hj:j<c):w.cell? ⟨vblk v,i*c+j,none⟩=(f L[i])[j]?:=by
 obtain⟨e,h2⟩:=own_form h;obtain⟨h3,h4⟩:=h2 (by omega);obtain⟨ad,cap,e2,_,hx⟩:=own_cells hc h;obtain⟨g,e3,_,_,q⟩:=hx i hi;have:vblk v=g:=by rw[e2,e3];rfl
 rw[this];have:=q j hj
 rwa [Nat.zero_add] at this
theorem own_kp{w:World}{B:Nat}{t sz:Nat}{v:Value}{n:Nat}{xs:List Value}(h:w.ownsRow B t sz v n xs):n≤vcap v:=by
 rcases h.2 with⟨rfl,h1⟩ | ⟨g,cap,cur,rfl,_,_,hn,_⟩
 ·omega
 ·exact hn
theorem own_kw{w:World}{B:Nat}{t c:Nat}{v:Value}{n:Nat}{xs:List Value}(h:w.ownsRow B t c v n xs)(hk:0<vcap v):vaddr v=some ⟨vblk v,0,none⟩∧v.ownBlock=some (vblk v)∧Nf1 (vblk v) w∧(∀j,j<vcap v*c→∃u,w.cell? ⟨vblk v,j,none⟩=some u)∧B≤vblk v:=by
 rcases h.2 with⟨rfl,h1⟩ | ⟨g,cap,cur,rfl,hb,hg,hn,_,hs,_⟩
 ·simp [vcap] at hk
 ·refine⟨rfl,rfl,⟨(Array.getElem?_eq_some_iff.1 hg).1,fun j=>World.ownsRow.frozenAt h j⟩,fun j hj=>?_,hb⟩;have hj':j<cur.size:=by rw[hs];exact hj
  exact⟨cur[j],by rw[show vblk (.slice (some ⟨g,0,none⟩) n cap)=g from rfl,cell_of_row w g j cur _ _ hg];exact Array.getElem?_eq_getElem hj'⟩
theorem own_pw{w:World}{B:Nat}{v:Value}{n:Nat}{xs:List Value}(h:w.ownsRow B 178 6 v n xs)(hk:0<vcap v):vaddr v=some ⟨vblk v,0,none⟩∧v.ownBlock=some (vblk v)∧Nfp (vblk v) (vcap v) w∧B≤vblk v:=by
 rcases h.2 with⟨rfl,h1⟩ | ⟨g,cap,cur,rfl,hb,hg,hn,_,hs,_⟩
 ·simp [vcap] at hk
 ·refine⟨rfl,rfl,⟨(Array.getElem?_eq_some_iff.1 hg).1,fun j=>?_,fun j hj=>?_⟩,hb⟩
  ·exact World.ownsRow.frozenAt h j
  ·have hj':j<cur.size:=by rw[hs];exact hj
   exact⟨cur[j],by rw[show vblk (.slice (some ⟨g,0,none⟩) n cap)=g from rfl,cell_of_row w g j cur _ _ hg];exact Array.getElem?_eq_getElem hj'⟩
theorem Rws.of{B:Nat}{w:World}{x:Hp}{bc:Nat}{vr:Value}{pv:Nat→Value}(hr:w.ownsRow B 139 3 vr x.regs.length (x.regs.flatMap fW))(hs:∀q,q<x.cells.length→S7 w bc (q*8) (x.c q))(h7:∀q,q<x.cells.length→w.cell? ⟨bc,q*8+7,none⟩=some (pv q))(hc:0<x.cells.length→Nf1 bc w∧B≤bc)(hd:0<x.cells.length→vblk vr≠bc)
  (hp:∀q,q<x.cells.length→w.ownsRow B 178 6 (pv q) (x.c q).prs.length ((x.c q).prs.flatMap fP)∧∀b,(pv q).ownBlock=some b→b≠vblk vr∧b≠bc) (hdp:∀q q',q<x.cells.length→q'<x.cells.length→q≠q'→∀b,(pv q).ownBlock=some b→(pv q').ownBlock≠some b) :
  Rws B w x (vblk vr) bc (fun q=>vblk (pv q)) (fun q=>vaddr (pv q)) (fun q=>vcap (pv q)) where
 r:=fun i hi=>⟨own_at (f:=fW) (fun _=>rfl) hr i hi 0 (by omega),own_at (f:=fW) (fun _=>rfl) hr i hi 1 (by omega),own_at (f:=fW) (fun _=>rfl) hr i hi 2 (by omega)⟩
 s:=hs
 p7:=fun q hq=>by rw[h7 q hq,←(own_form (hp q hq).1).1]
 p:=fun q hq k hk=>by
  have:=own_at (f:=fP) (fun _=>rfl) (hp q hq).1 k hk;rw[Cl.p_eq _ _ hk] at this;exact⟨this 0 (by omega),this 1 (by omega),this 2 (by omega),this 3 (by omega),this 4 (by omega),this 5 (by omega)⟩
 pl:=fun q hq hl=>by
  obtain⟨h1,h2,h3,h4⟩:=own_pw (hp q hq).1 hl;exact⟨h1,h3,(hp q hq).2 _ h2,h4⟩
 nr:=fun hl=>own_nf hr hl
 nc:=hc
 d:=hd
 dp:=fun q q' hq hq' hne hl hl' e=>by
  have h1:=(own_pw (hp q hq).1 hl).2.1;have h2:=(own_pw (hp q' hq').1 hl').2.1;exact hdp q q' hq hq' hne _ h1 (by rw[h2,e])
 kp:=fun q hq=>own_kp (hp q hq).1
structure ProtD where
 z:Nat→Option Obj
def Prt[Inhabited ProtD](w:World)(role:Nat→Nat):Prop:=∀q o,(default:ProtD).z q=some o→role q=1∧w.heap[q]?=some o
theorem Prt.of[Inhabited ProtD]{w w':World}{role role':Nat→Nat}(h:Prt w role)(e:∀q,q<w.heap.size→role q=1→w'.heap[q]?=w.heap[q]?)(r:∀q,q<w.heap.size→role q=1→role' q=1):Prt w' role':=fun q o hq=>by
 obtain⟨h1,h2⟩:=h q o hq
 have hl:q<w.heap.size:=by
  rcases Nat.lt_or_ge q w.heap.size with l | l
  ·exact l
  ·rw[Array.getElem?_eq_none l] at h2;cases h2
 exact⟨r q hl h1,(e q hl h1).trans h2⟩
def Hp0:Hp:=⟨0,0,0,[],[],0,0,0,[],0,0,0,0⟩
theorem OkIs.r5{x:Hp}(h:OkIs x 0):R5 x:=by
 unfold OkIs at h;rcases h with h | h | h | h | h | h | h | h | h
 ·have:=h.2;omega
 ·have:=h.2.2;omega
 ·have:=h.2.2.2;omega
 ·have:=h.2.2.2.2;omega
 ·have:=h.2.2.2.2.2;omega
 ·have:=h.2.2.2.2.2.2;omega
 ·have:=h.2.2.2.2.2.2.2;omega
 ·have:=h.2.2.2.2.2.2.2.2;omega
 ·exact h.2.2.2.2.1
theorem gray_nodup{x:Hp}(r5:R5 x):x.gray.Nodup:=by
 rw[List.nodup_iff_count];intro g;by_cases hg:g∈x.gray
 ·obtain⟨h0,h1⟩:=r5.2.2 g hg;have e:((g.toNat:Nat):Int)=g:=by omega
  have hc:=r5.2.1 g.toNat (by omega);by_cases hcol:(x.c g.toNat).color=1
  ·have:=hc.1 hcol;unfold cnt at this;rw[e] at this;omega
  ·have:=hc.2.1 hcol;unfold cnt at this;rw[e] at this;omega
 ·rw[List.count_eq_zero_of_not_mem hg];omega
theorem gray_used{x:Hp}(r2:R2 x)(r5:R5 x)(g:Int)(hg:g∈x.gray):(x.c g.toNat).color=1∧(x.c g.toNat).st=1:=by
 obtain⟨h0,h1⟩:=r5.2.2 g hg;have e:((g.toNat:Nat):Int)=g:=by omega
 have hc:=r5.2.1 g.toNat (by omega)
 have hcol:(x.c g.toNat).color=1:=by
  rcases Int.decEq (x.c g.toNat).color 1 with hn | hy
  ·have:=hc.2.1 hn;unfold cnt at this;rw[e] at this;exact absurd hg (List.count_eq_zero.1 this)
  ·exact hy
 refine⟨hcol,?_⟩;rcases r2.1 g.toNat (by omega) with c | c | c
 ·have:=c.2.1.2.2.2.2.1;omega
 ·have:=c.2.1.2.2.2.2.1;omega
 ·exact c.1
end Go.Proofs.YtnegjhddmfiefaaGreatDoor
