import Derived.Test.YtnegjhddmfiefaaGreatDoorL2d
import Derived.Test.YtnegjhddmfiefaaGreatDoorImpA
namespace Go.Proofs.YtnegjhddmfiefaaGreatDoor
open Go.RowKit
attribute [local go_sem ↓] Go.wp_at_zero Go.wp_at_succ
structure FAt(w:World)(b:Nat)(x:Hp)(base:Nat)(vf:Value)(F:List Int):Prop where
 L:LsAt w base b 14 vf F
 O:Ho F
 P:F.Perm (frees x x.cells.length)
theorem FAt.ext{w w':World}{b:Nat}{x:Hp}{base:Nat}{vf:Value}{F:List Int}(h:FAt w b x base vf F)(e:Ext w w'):FAt w' b x base vf F:=⟨h.L.ext e,h.O,h.P⟩
def CapAt(w:World)(x:Hp)(ac:Option Addr):Prop:=∀i,i<x.cells.length→∀bc oc ad l c,ac=some ⟨bc,oc,none⟩→w.cell? ⟨bc,oc+i*8+7,none⟩=some (.slice ad l c)→l≤c∨l=0
theorem CapAt.ext{w w':World}{x:Hp}{ac:Option Addr}{b:Nat}{ar:Option Addr}{kr kc:Nat}{ag:Option Addr}{kg:Nat}(h:CapAt w x ac)(hh:HAt w b x ar kr ac kc ag kg)(e:Ext w w'):CapAt w' x ac:=fun i hi bc oc ad l c ha hc=>by
 obtain⟨b2,o2,ap,kp,e2,C⟩:=hh.cell i hi;rw[ha] at e2;cases e2;have:=(C.ext e).p7;rw[this] at hc;cases hc;exact h i hi _ _ _ _ _ ha C.p7
theorem speaks_used{x:Hp}(r2:R2 x)(i:Nat)(hi:i<x.cells.length)(h:Speaks (x.c i)):(x.c i).st=1:=by
 have:=r2.1 i hi;unfold Speaks at h;unfold CellOk MovedOk Bare at this;omega
theorem hat_of(x:Hp)(w:World)(b:Nat){ar:Option Addr}{kr:Nat}{ac:Option Addr}{kc:Nat}{ag:Option Addr}{kg:Nat}
  (hc:∀o v,#[iv x.room,iv x.used,iv x.born,.slice ar x.regs.length kr,.slice ac x.cells.length kc,iv x.phase,iv x.hand,iv x.sub,.slice ag x.gray.length kg,iv x.per,iv x.start,iv x.rounds,iv x.forced][o]?=some v→w.cell? ⟨b,o,none⟩=some v)
  (hR:SlW w (.slice ar x.regs.length kr) x.regs) (hC:SlC w (.slice ac x.cells.length kc) x.cells) (hG:SlI w (.slice ag x.gray.length kg) x.gray):HAt w b x ar kr ac kc ag kg:=by
 obtain⟨a1,k1,v1,l1,R⟩:=hR;obtain⟨a2,k2,v2,l2,C⟩:=hC;obtain⟨a3,k3,v3,l3,G⟩:=hG;simp only [Value.slice.injEq] at v1 v2 v3;obtain⟨rfl,_,rfl⟩:=v1;obtain⟨rfl,_,rfl⟩:=v2;obtain⟨rfl,_,rfl⟩:=v3;refine⟨hc 0 _ rfl,hc 1 _ rfl,hc 2 _ rfl,hc 3 _ rfl,hc 4 _ rfl,hc 5 _ rfl,hc 6 _ rfl,hc 7 _ rfl,hc 8 _ rfl,hc 9 _ rfl,hc 10 _ rfl,hc 11 _ rfl,hc 12 _ rfl,l1,l2,l3,R,?_,G⟩;intro i hi;obtain⟨b',o,a,p⟩:=C i hi;rw[Hp.c_eq] at p;exact⟨b',o,a,p⟩
structure Opn(w wr:World)(x:Hp)(bx b bn k j:Nat)(ar:Option Addr)(kr:Nat)(ac:Option Addr)(kc:Nat)(ag:Option Addr)(kg:Nat)(vf:Value)(F:List Int):Prop where
 e:Ext w wr
 hb:w.heap.size≤bx∧bx<b∧b<bn∧bn<wr.heap.size
 x4:wr.cell? ⟨bx,4,none⟩=some (.slice ac x.cells.length kc)
 c:∀o v,#[iv x.room,iv x.used,iv x.born,.slice ar x.regs.length kr,.slice ac x.cells.length kc,iv x.phase,iv x.hand,iv x.sub,.slice ag x.gray.length kg,iv x.per,iv x.start,iv x.rounds,iv x.forced][o]?=some v→wr.cell? ⟨b,o,none⟩=some v
 n13:wr.cell? ⟨b,13,none⟩=some (.slice (some ⟨bn,0,none⟩) x.cells.length x.cells.length)
 n:∀i,i<k→∃bc oc,ac=some ⟨bc,oc,none⟩∧wr.cell? ⟨bn,i*2,none⟩=some (iv i)∧wr.cell? ⟨bn,i*2+1,none⟩=some (.pointer (some ⟨bc,oc+i*8,none⟩))
 o:∀j,j<x.cells.length*2→Open wr bn j
 f:LsAt wr (bn+1) b 14 vf F
 fo:Ho F
 fp:F.Perm (frees x j)
theorem Opn.len{w wr:World}{x:Hp}{bx b bn k j:Nat}{ar:Option Addr}{kr:Nat}{ac:Option Addr}{kc:Nat}{ag:Option Addr}{kg:Nat}{vf:Value}{F:List Int}(h:Opn w wr x bx b bn k j ar kr ac kc ag kg vf F):F.length≤j:=by
 rw[h.fp.length_eq];exact valsTo_len _ _ _
theorem Opn.same{w wr w':World}{x:Hp}{bx b bn k j:Nat}{ar:Option Addr}{kr:Nat}{ac:Option Addr}{kc:Nat}{ag:Option Addr}{kg:Nat}{vf:Value}{F:List Int}(h:Opn w wr x bx b bn k j ar kr ac kc ag kg vf F)(h1:w'.heap=wr.heap)(h2:w'.os=wr.os)(h3:w'.tape=wr.tape)(h4:w'.output=wr.output):
  Opn w w' x bx b bn k j ar kr ac kc ag kg vf F:=by
 have e:Ext wr w':=⟨h2,h3,h4,by rw[h1];exact Nat.le_refl _,fun k _=>by rw[h1]⟩;exact⟨h.e.trans e,⟨h.hb.1,h.hb.2.1,h.hb.2.2.1,by rw[h1];exact h.hb.2.2.2⟩,e.keep h.x4,fun o v q=>e.keep (h.c o v q),e.keep h.n13,fun i hi=>let ⟨bc,oc,a,p,q⟩:=h.n i hi;⟨bc,oc,a,e.keep p,e.keep q⟩,fun j hj=>(h.o j hj).ext e,h.f.ext e,h.fo,h.fp⟩
theorem Opn.put{w wr w':World}{x:Hp}{bx b bn k:Nat}{ar:Option Addr}{kr:Nat}{ac:Option Addr}{kc:Nat}{ag:Option Addr}{kg:Nat}{vf v':Value}{F F':List Int}(h:Opn w wr x bx b bn (k+1) k ar kr ac kc ag kg vf F)(hs:isSt x 0 k=true)
  (l:LsAt w' (bn+1) b 14 v' F') (o:Ho F') (p:F'.Perm ((k:Int)::F)) (q:QFr b 14 vf v' wr w'):Opn w w' x bx b bn (k+1) (k+1) ar kr ac kc ag kg v' F':=by
 obtain⟨hb1,hb2,hb3,hb4⟩:=h.hb;have hv:∀B,B≤bn→vf.ownBlock≠some B:=fun B hB e=>by have:=(h.f.rlt B e).1;omega
 refine⟨q.ext h.e (by omega) (fun B hB=>by have:=(h.f.rlt B hB).1;omega),⟨hb1,hb2,hb3,Nat.lt_of_lt_of_le hb4 q.size⟩,q.cells h.x4 (by omega) (hv _ (by omega)),fun o v hq=>?_,by rw[q.hdr 13 (by omega)];exact h.n13,fun i hi=>?_,fun j hj=>?_,l,o,?_⟩
 ·have ho:o<13:=by
   rcases Nat.lt_or_ge o 13 with h' | h'
   ·exact h'
   ·rw[Array.getElem?_eq_none (by simpa using h')] at hq;cases hq
  rw[q.hdr o (by omega)];exact h.c o v hq
 ·obtain⟨bc,oc,a,p1,p2⟩:=h.n i hi;exact⟨bc,oc,a,q.cells p1 (by omega) (hv _ (by omega)),q.cells p2 (by omega) (hv _ (by omega))⟩
 ·obtain⟨⟨v,h1⟩,h2⟩:=h.o j hj;refine⟨⟨v,q.cells h1 (by omega) (hv _ (by omega))⟩,?_⟩;rw[World.frozen?_of_block (w:=wr) (a:=⟨bn,j,none⟩) (q.block bn hb4 (by omega) (hv _ (by omega)))];exact h2
 ·unfold frees;rw[valsTo_yes _ _ _ hs];exact(p.trans (h.fp.cons _)).trans (List.perm_append_singleton _ _).symm
theorem Opn.done{w wr:World}{x:Hp}{bx b bn:Nat}{ar:Option Addr}{kr:Nat}{ac:Option Addr}{kc:Nat}{ag:Option Addr}{kg:Nat}{vf:Value}{F:List Int}(h:Opn w wr x bx b bn x.cells.length x.cells.length ar kr ac kc ag kg vf F)
  (hR:SlW w (.slice ar x.regs.length kr) x.regs) (hC:SlC w (.slice ac x.cells.length kc) x.cells) (hG:SlI w (.slice ag x.gray.length kg) x.gray) :
  VAt wr b x ar kr ac kc ag kg (some ⟨bn,0,none⟩) x.cells.length∧FAt wr b x (bn+1) vf F:=
 ⟨⟨hat_of x wr b h.c (SlW.ext h.e hR) (SlC.ext h.e hC) (SlI.ext h.e hG),h.n13,fun i hi=>let ⟨bc,oc,a,p,q⟩:=h.n i hi;⟨bn,0,bc,oc,rfl,a,by simpa using p,by simpa using q⟩⟩,h.f,h.fo,h.fp⟩
structure Two(w wr:World)(x:Hp)(k:Nat)(v1 v2:Value)(L1 L2:List Int):Prop where
 e:Ext w wr
 s1:LsAt wr w.heap.size w.heap.size 0 v1 L1
 s2:LsAt wr w.heap.size (w.heap.size+1) 0 v2 L2
 d1:v1.ownBlock≠some (w.heap.size+1)
 d2:v2.ownBlock≠some w.heap.size
 d3:∀k,v2.ownBlock=some k→v1.ownBlock≠some k
 h1:Ho L1
 h2:Ho L2
 p1:L1.Perm (births x k)
 p2:L2.Perm (targets x k)
theorem Two.len{w wr:World}{x:Hp}{k:Nat}{v1 v2:Value}{L1 L2:List Int}(h:Two w wr x k v1 v2 L1 L2):L1.length≤k∧L2.length≤k:=
 ⟨by rw[h.p1.length_eq];exact valsTo_len _ _ _,by rw[h.p2.length_eq];exact valsTo_len _ _ _⟩
theorem Two.ext{w wr w':World}{x:Hp}{k:Nat}{v1 v2:Value}{L1 L2:List Int}(h:Two w wr x k v1 v2 L1 L2)(e:Ext wr w'):Two w w' x k v1 v2 L1 L2:=
 ⟨h.e.trans e,h.s1.ext e,h.s2.ext e,h.d1,h.d2,h.d3,h.h1,h.h2,h.p1,h.p2⟩
end Go.Proofs.YtnegjhddmfiefaaGreatDoor
