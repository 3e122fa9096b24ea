import Derived.Test.YtnegjhddmfiefaaGreatDoorLj
import Derived.Test.YtnegjhddmfiefaaGreatDoorSb
import Derived.Laws.EntriesVeiled
import Derived.Laws.Pointers
namespace Go.Proofs.YtnegjhddmfiefaaGreatDoor
open Go.RowKit
attribute [local go_sem ↓] Go.wp_at_zero Go.wp_at_succ
theorem SAt.setc[Inhabited ProtD]{B:Nat}{w:World}{b:Nat}{x:Hp}{ar:Option Addr}{kr:Nat}{v4 v8:Value}{br bn:Nat}{cB cO:Nat→Nat}{pb:Nat→Nat}{pa:Nat→Option Addr}{pk:Nat→Nat}{kn hd:Nat}{vf:Value}{F:List Int}{vk:Value}{K:List Nat}{role:Nat→Nat}{w':World}{i:Nat}{c':Cl}
  (h:SAt B w b x ar kr v4 v8 br cB cO bn pb pa pk kn hd vf F vk K role) (hi:i<x.cells.length) (hp:c'.prs=(x.c i).prs) (o:Only (fun q=>q=cB i) w w') (hs:S7 w' (cB i) (cO i) c') (ho:∀k,(k<cO i∨cO i+7≤k)→w'.cell? ⟨cB i,k,none⟩=w.cell? ⟨cB i,k,none⟩) (nf:Nf1 (cB i) w') :
  SAt B w' b { x with cells:=x.cells.set i c' } ar kr v4 v8 br cB cO bn pb pa pk kn hd vf F vk K role:=by
 have far:∀q,q<w.heap.size→role q≠3→w'.heap[q]?=w.heap[q]?:=fun q hq hr=>o.block q hq (fun e=>hr (by rw[e];exact h.sp.c i hi))
 have hl:({ x with cells:=x.cells.set i c' }:Hp).cells.length=x.cells.length:=by simp
 have hc:=Hp.c_set x i c' hi
 have hpr:∀q,(({ x with cells:=x.cells.set i c' }:Hp).c q).prs=(x.c q).prs:=fun q=>by
  rw[hc q];by_cases e:q=i
  ·rw[if_pos e,hp,e]
  ·rw[if_neg e]
 have sb:=h.sb.same o.size (far b h.sb.nb.1 (by rw[h.sp.b];omega)) (far bn h.sb.lo.2.2.1 (by rw[h.sp.n];omega)) (fun q hq=>far q (h.sb.fr.own.lt q hq).2 (by rw[h.sp.f q hq];omega)) (fun q hq=>far q (h.sb.kp.lt q hq).2 (by rw[h.sp.k q hq];omega));have pf:∀q,q<x.cells.length→0<pk q→w'.heap[pb q]?=w.heap[pb q]?:=fun q hq hl=>far (pb q) (h.rw.pl q hq hl).2.1.1 (by rw[h.sp.p q hq hl];omega)
 have cf:∀q,q<x.cells.length→cB q≠cB i→w'.heap[cB q]?=w.heap[cB q]?:=fun q hq e=>o.block (cB q) (h.rw.nc q hq).1.1 e
 have ck:∀q,q<x.cells.length→q≠i→∀k,k<8→w'.cell? ⟨cB q,cO q+k,none⟩=w.cell? ⟨cB q,cO q+k,none⟩:=fun q hq e k hk=>by
  by_cases e2:cB q=cB i
  ·rw[e2];rcases h.rw.dc q i hq hi e with d | d | d
   ·exact(d e2).elim
   ·exact ho _ (by omega)
   ·exact ho _ (by omega)
  ·exact World.cell?_of_block (a:=⟨cB q,_,none⟩) (cf q hq e2)
 have cn:∀q,q<x.cells.length→Nf1 (cB q) w':=fun q hq=>by
  by_cases e2:cB q=cB i
  ·rw[e2];exact nf
  ·exact nf1_block (h.rw.nc q hq).1 (cf q hq e2) o.size
 refine⟨⟨sb.bx,sb.ha,by rw[hl];exact sb.n13,fun k hk=>sb.nd k (by rw[hl] at hk;exact hk),sb.fr,sb.rg,sb.k0,sb.kp,sb.nb,sb.lo⟩,⟨fun k hk=>?_,fun q hq=>?_,fun q hq=>?_,fun q hq k hk=>?_,fun q hq hlq=>?_,fun hr=>⟨nf1_block (h.rw.nr hr).1 (far br (h.rw.nr hr).1.1 (by rw[h.sp.r hr];omega)) o.size,(h.rw.nr hr).2⟩,fun q hq=>⟨cn q (by rw[hl] at hq;exact hq),(h.rw.nc q (by rw[hl] at hq;exact hq)).2⟩,fun q hq=>h.rw.d q (by rw[hl] at hq;exact hq),fun q q' hq hq' hne h1 h2=>?_,fun q q' hq hq' hne=>h.rw.dc q q' (by rw[hl] at hq;exact hq) (by rw[hl] at hq';exact hq') hne,fun q hq=>?_⟩,⟨h.sp.b,h.sp.n,h.sp.r,fun q hq=>h.sp.c q (by rw[hl] at hq;exact hq),h.sp.f,h.sp.k,fun q hq hlq=>?_⟩,h.pr.of (fun q hq h1=>far q hq (by rw[h1];omega)) (fun _ _ h=>h)⟩
 ·exact(h.rw.r k hk).of fun j _=>World.cell?_of_block (a:=⟨br,_,none⟩) (far br (h.rw.nr (by have:k<x.regs.length:=hk;omega)).1.1 (by rw[h.sp.r (by have:k<x.regs.length:=hk;omega)];omega))
 ·rw[hl] at hq;rw[hc q];by_cases e:q=i
  ·subst e;rw[if_pos rfl];exact hs
  ·rw[if_neg e];exact(h.rw.s q hq).of fun j hj=>ck q hq e j (by omega)
 ·rw[hl] at hq;rw[hpr q];by_cases e:q=i
  ·subst e;rw[ho _ (by omega)];exact h.rw.p7 q hq
  ·rw[ck q hq e 7 (by omega)];exact h.rw.p7 q hq
 ·rw[hl] at hq;have e2:(({ x with cells:=x.cells.set i c' }:Hp).c q).p k=(x.c q).p k:=by simp only [Cl.p,hpr q]
  rw[hpr q] at hk;rw[e2];exact(h.rw.p q hq k hk).of fun j _=>World.cell?_of_block (a:=⟨pb q,_,none⟩) (pf q hq (h.rw.pw hq (by omega)))
 ·rw[hl] at hq;obtain⟨a1,a2,a3,a4⟩:=h.rw.pl q hq hlq;exact⟨a1,nfp_block a2 (pf q hq hlq) o.size,⟨a3.1,fun j hj=>a3.2 j (by rw[hl] at hj;exact hj)⟩,a4⟩
 ·rw[hl] at hq hq';exact h.rw.dp q q' hq hq' hne h1 h2
 ·rw[hl] at hq;rw[hpr q];exact h.rw.kp q hq
 ·rw[hl] at hq;exact h.sp.p q hq hlq
theorem SAt.boxed[Inhabited ProtD]{B:Nat}{w w':World}{b:Nat}{x x':Hp}{ar:Option Addr}{kr:Nat}{v4 v8:Value}{br bn:Nat}{cB cO:Nat→Nat}{pb:Nat→Nat}{pa:Nat→Option Addr}{pk:Nat→Nat}{kn hd:Nat}{vf:Value}{F:List Int}{vk:Value}{K:List Nat}{role:Nat→Nat}(h:SAt B w b x ar kr v4 v8 br cB cO bn pb pa pk kn hd vf F vk K role)(o:Only (fun q=>q=b) w w')(nf:Nf1 b w')(hr:x'.regs=x.regs)(hc:x'.cells=x.cells)(hg:x'.gray=x.gray)(bx:HBox w' b x' (.slice ar x.regs.length kr) v4 v8)(c:∀k,13≤k→w'.cell? ⟨b,k,none⟩=w.cell? ⟨b,k,none⟩):
  SAt B w' b x' ar kr v4 v8 br cB cO bn pb pa pk kn hd vf F vk K role:=by
 have far:∀q,q<w.heap.size→role q≠0→w'.heap[q]?=w.heap[q]?:=fun q hq hn=>o.block q hq (fun e=>hn (by rw[e];exact h.sp.b))
 have fn:=far bn h.sb.lo.2.2.1 (by rw[h.sp.n];omega);have cc:∀q,x'.c q=x.c q:=fun q=>by simp only [Hp.c,hc]
 have rw2:=h.rw.same o.size (fun hl=>far br (h.rw.nr hl).1.1 (by rw[h.sp.r hl];omega)) (fun q hq=>far (cB q) (h.rw.nc q hq).1.1 (by rw[h.sp.c q hq];omega)) (fun q hq hl=>far (pb q) (h.rw.pl q hq hl).2.1.1 (by rw[h.sp.p q hq hl];omega));refine⟨⟨by rw[hr];exact bx,by rw[hr];exact h.sb.ha,by rw[hc];exact(c 13 (by omega)).trans h.sb.n13,fun k hk=>?_,⟨(c 14 (by omega)).trans h.sb.fr.hd,nf.2 14,ownsRow_of_block h.sb.fr.own (fun q hq=>far q (h.sb.fr.own.lt q hq).2 (by rw[h.sp.f q hq];omega)),h.sb.fr.apart⟩,?_,(c 4017 (by omega)).trans h.sb.k0,ownsRow_of_block h.sb.kp (fun q hq=>far q (h.sb.kp.lt q hq).2 (by rw[h.sp.k q hq];omega)),nf,⟨h.sb.lo.1,h.sb.lo.2.1,h.sb.lo.2.2.of fn o.size⟩⟩,?_,?_,h.pr.of (fun q hq h1=>far q hq (by rw[h1];omega)) (fun _ _ h=>h)⟩
 ·rw[hc] at hk;exact⟨(World.cell?_of_block (a:=⟨bn,_,none⟩) fn).trans (h.sb.nd k hk).1,(World.cell?_of_block (a:=⟨bn,_,none⟩) fn).trans (h.sb.nd k hk).2⟩
 ·rw[hg];exact h.sb.rg.of fun o h1 _=>c o (by omega)
 ·refine⟨fun i hi=>?_,fun q hq=>?_,fun q hq=>?_,fun q hq k hk=>?_,fun q hq hl=>?_,?_,?_,?_,fun q q' hq hq' hne h1 h2=>?_,fun q q' hq hq' hne=>?_,fun q hq=>?_⟩
  ·have hi2:i<x.regs.length:=by rw[←hr];exact hi
   have e2:x'.regs[i]=x.regs[i]:=by simp [hr]
   rw[e2];exact rw2.r i hi2
  ·rw[hc] at hq;rw[cc];exact rw2.s q hq
  ·rw[hc] at hq;rw[cc];exact rw2.p7 q hq
  ·rw[hc] at hq;rw[cc] at hk ⊢;exact rw2.p q hq k hk
  ·rw[hc] at hq ⊢;exact rw2.pl q hq hl
  ·rw[hr];exact rw2.nr
  ·rw[hc];exact rw2.nc
  ·rw[hc];exact rw2.d
  ·rw[hc] at hq hq';exact rw2.dp q q' hq hq' hne h1 h2
  ·rw[hc] at hq hq';exact rw2.dc q q' hq hq' hne
  ·rw[hc] at hq;rw[cc];exact rw2.kp q hq
 ·refine⟨h.sp.b,h.sp.n,by rw[hr];exact h.sp.r,by rw[hc];exact h.sp.c,h.sp.f,h.sp.k,fun q hq hl=>?_⟩;rw[hc] at hq;exact h.sp.p q hq hl
def remU(x:Hp):Nat:=if x.phase=1∨x.phase=2 then 16000 else if x.phase=3 then 8000+(x.cells.length-x.hand.toNat) else if x.phase=4∨x.phase=5 then 8000 else if x.phase=6 then x.hand.toNat else 0
def KOk(x:Hp)(h:Nat)(K:List Nat):Prop:=K.Pairwise (· < ·)∧(∀i,i∈K→i<h∧(x.c i).st=1)∧∀i,i<h→(x.c i).st=1→i ∉ K→∀j,j<x.cells.length→(x.c j).st=0→i<j
structure SInv(C:Nat)(x:Hp)(F:List Int)(K:List Nat):Prop where
 ho:Ho F
 al:∀i,i<x.cells.length→(x.c i).st=0→(i:Int)∈F
 nn:∀v,v∈F→0≤v
 le:F.length+remU x≤C
 k3:x.phase=3→KOk x x.hand.toNat K
 k4:x.phase=4→K.Pairwise (· < ·)∧(∀i,i∈K→i<x.cells.length∧(x.c i).st=1)∧∀i,i<x.cells.length→(x.c i).st=1→i ∉ K→∀j,j<x.cells.length→(x.c j).st=0→i<j
 k0:x.phase≠3→x.phase≠4→K=[]
def SOk[Inhabited ProtD](C B:Nat)(w:World)(b:Nat)(x:Hp):Prop:=∃ar kr v4 v8 br cB cO bn pb pa pk kn hd vf F vk K role,SAt B w b x ar kr v4 v8 br cB cO bn pb pa pk kn hd vf F vk K role∧SInv C x F K
theorem SOk.ext[Inhabited ProtD]{C B:Nat}{w w':World}{b:Nat}{x:Hp}(h:SOk C B w b x)(e:Ext w w'):SOk C B w' b x:=by
 obtain⟨ar,kr,v4,v8,br,cB,cO,bn,pb,pa,pk,kn,hd,vf,F,vk,K,role,h,i⟩:=h;exact⟨ar,kr,v4,v8,br,cB,cO,bn,pb,pa,pk,kn,hd,vf,F,vk,K,role,h.ext e,i⟩
def SameSt(x z:Hp):Prop:=z.cells.length=x.cells.length∧∀q,(z.c q).st=(x.c q).st
theorem SameSt.refl(x:Hp):SameSt x x:=⟨rfl,fun _=>rfl⟩
theorem SameSt.trans{x y z:Hp}(h:SameSt x y)(k:SameSt y z):SameSt x z:=⟨k.1.trans h.1,fun q=>(k.2 q).trans (h.2 q)⟩
theorem SameSt.set(x:Hp)(i:Nat)(c:Cl)(hc:c.st=(x.c i).st){z:Hp}(hz:z.cells=x.cells.set i c):SameSt x z:=by
 refine⟨by rw[hz];simp,fun q=>?_⟩;have e:z.c q=({ x with cells:=x.cells.set i c }:Hp).c q:=by simp only [Hp.c,hz]
 rw[e];rcases Nat.lt_or_ge i x.cells.length with hi | hi
 ·rw[Hp.c_set x i c hi q];by_cases h:q=i
  ·rw[if_pos h,h];exact hc
  ·rw[if_neg h]
 ·rw[List.set_eq_of_length_le hi]
theorem SameSt.cells{x z:Hp}(hz:z.cells=x.cells):SameSt x z:=⟨by rw[hz],fun q=>by simp only [Hp.c,hz]⟩
theorem SAt.drop[Inhabited ProtD]{B:Nat}{w:World}{b:Nat}{x:Hp}{ar:Option Addr}{kr:Nat}{v4 v8:Value}{br bn:Nat}{cB cO:Nat→Nat}{pb:Nat→Nat}{pa:Nat→Option Addr}{pk:Nat→Nat}{kn hd:Nat}{vf:Value}{F:List Int}{vk:Value}{K:List Nat}{role:Nat→Nat}(h:SAt B w b x ar kr v4 v8 br cB cO bn pb pa pk kn hd vf F vk K role)(i:Nat)(hi:i+1=x.cells.length):
  SAt B (w.setCell ⟨b,13,none⟩ (.slice (some ⟨bn,0,none⟩) i kn)) b { x with cells:=x.cells.take i } ar kr v4 v8 br cB cO bn pb pa pk kn hd vf F vk K role:=by
 have far:∀q,q<w.heap.size→role q≠0→(w.setCell ⟨b,13,none⟩ (.slice (some ⟨bn,0,none⟩) i kn)).heap[q]?=w.heap[q]?:=fun q hq hn=>Below.heap_setCell _ _ _ _ (fun e=>hn (by rw[e];exact h.sp.b))
 have hsz:w.heap.size≤(w.setCell ⟨b,13,none⟩ (.slice (some ⟨bn,0,none⟩) i kn)).heap.size:=by simp [World.setCell]
 have rw2:=h.rw.same (w':=w.setCell ⟨b,13,none⟩ (.slice (some ⟨bn,0,none⟩) i kn)) hsz (fun hl=>far br (h.rw.nr hl).1.1 (by rw[h.sp.r hl];omega)) (fun q hq=>far (cB q) (h.rw.nc q hq).1.1 (by rw[h.sp.c q hq];omega)) (fun q hq hl=>far (pb q) (h.rw.pl q hq hl).2.1.1 (by rw[h.sp.p q hq hl];omega));have hl:({ x with cells:=x.cells.take i }:Hp).cells.length=i:=by simp;omega
 have hc:∀q,q<i→({ x with cells:=x.cells.take i }:Hp).c q=x.c q:=fun q hq=>by
  simp only [Hp.c,List.getD_eq_getElem?_getD,List.getElem?_take_of_lt hq]
 have cb:∀o,o≠13→(w.setCell ⟨b,13,none⟩ (.slice (some ⟨bn,0,none⟩) i kn)).cell? ⟨b,o,none⟩=w.cell? ⟨b,o,none⟩:=fun o ho=>cell_other _ (.inr (fun e=>ho e.symm))
 have fn:=far bn h.sb.lo.2.2.1 (by rw[h.sp.n];omega);refine⟨⟨h.sb.bx.of fun o ho=>cb o (by omega),h.sb.ha,?_,fun k hk=>?_,⟨(cb 14 (by omega)).trans h.sb.fr.hd,(h.sb.nb.set _ _).2 14,ownsRow_of_block h.sb.fr.own (fun q hq=>far q (h.sb.fr.own.lt q hq).2 (by rw[h.sp.f q hq];omega)),h.sb.fr.apart⟩,h.sb.rg.of fun o h1 _=>cb o (by omega),(cb 4017 (by omega)).trans h.sb.k0,ownsRow_of_block h.sb.kp (fun q hq=>far q (h.sb.kp.lt q hq).2 (by rw[h.sp.k q hq];omega)),h.sb.nb.set _ _,⟨h.sb.lo.1,h.sb.lo.2.1,h.sb.lo.2.2.of fn hsz⟩⟩,⟨rw2.r,fun q hq=>?_,fun q hq=>?_,fun q hq k hk=>?_,fun q hq hlq=>?_,rw2.nr,fun q hq=>rw2.nc q (by rw[hl] at hq;omega),fun q hq=>rw2.d q (by rw[hl] at hq;omega),fun q q' hq hq' hne h1 h2=>?_,fun q q' hq hq' hne=>rw2.dc q q' (by rw[hl] at hq;omega) (by rw[hl] at hq';omega) hne,fun q hq=>by rw[hl] at hq;rw[hc q hq];exact rw2.kp q (by omega)⟩,⟨h.sp.b,h.sp.n,h.sp.r,fun q hq=>h.sp.c q (by rw[hl] at hq;omega),h.sp.f,h.sp.k,fun q hq hlq=>?_⟩,h.pr.of (fun q hq h1=>far q hq (by rw[h1];omega)) (fun _ _ h=>h)⟩
 ·rw[hl];exact World.cell?_setCell_same _ _ _ h.sb.n13
 ·rw[hl] at hk;exact⟨(World.cell?_of_block (a:=⟨bn,_,none⟩) fn).trans (h.sb.nd k (by omega)).1,(World.cell?_of_block (a:=⟨bn,_,none⟩) fn).trans (h.sb.nd k (by omega)).2⟩
 ·rw[hl] at hq;rw[hc q hq];exact rw2.s q (by omega)
 ·rw[hl] at hq;rw[hc q hq];exact rw2.p7 q (by omega)
 ·rw[hl] at hq;rw[hc q hq] at hk ⊢;exact rw2.p q (by omega) k hk
 ·rw[hl] at hq;have z:=rw2.pl q (by omega) hlq;exact⟨z.1,z.2.1,⟨z.2.2.1.1,fun j hj=>z.2.2.1.2 j (by rw[hl] at hj;omega)⟩,z.2.2.2⟩
 ·rw[hl] at hq hq';exact rw2.dp q q' (by omega) (by omega) hne h1 h2
 ·rw[hl] at hq;exact h.sp.p q (by omega) hlq
theorem SAt.hand[Inhabited ProtD]{B:Nat}{w:World}{b:Nat}{x:Hp}{ar:Option Addr}{kr:Nat}{v4 v8:Value}{br bn:Nat}{cB cO:Nat→Nat}{pb:Nat→Nat}{pa:Nat→Option Addr}{pk:Nat→Nat}{kn hd:Nat}{vf:Value}{F:List Int}{vk:Value}{K:List Nat}{role:Nat→Nat}(h:SAt B w b x ar kr v4 v8 br cB cO bn pb pa pk kn hd vf F vk K role)(hn:Int):
  SAt B (w.setCell ⟨b,6,none⟩ (iv hn)) b { x with hand:=hn } ar kr v4 v8 br cB cO bn pb pa pk kn hd vf F vk K role:=by
 refine h.boxed (x':={ x with hand:=hn }) (Only.setCell (S:=fun q=>q=b) (Only.refl _ w) (p:=⟨b,6,none⟩) rfl _) (h.sb.nb.set _ _) rfl rfl rfl (h.sb.bx.set6 hn) (fun k hk=>cell_other _ (.inr (by omega)))
structure HNt(w:World)(b:Nat)(x:Hp)(ar:Option Addr)(kr:Nat)(ac:Nat→Option Addr):Prop where
 c3:w.cell? ⟨b,3,none⟩=some (.slice ar x.regs.length kr)
 lr:x.regs.length≤35184372088832
 R:∀i (hi:i<x.regs.length),∃b' o,ar=some ⟨b',o,none⟩∧WdAt w b' (o+i*3) x.regs[i]
 C:∀i,i<x.cells.length→∃b' o,ac i=some ⟨b',o,none⟩∧ClAt w b' o (x.c i)
theorem HNt.ext{w w':World}{b:Nat}{x:Hp}{ar:Option Addr}{kr:Nat}{ac:Nat→Option Addr}(h:HNt w b x ar kr ac)(e:Ext w w'):HNt w' b x ar kr ac:=
 ⟨e.keep h.c3,h.lr,fun i hi=>let ⟨b',o,a,p⟩:=h.R i hi;⟨b',o,a,p.ext e⟩,fun i hi=>let ⟨b',o,a,p⟩:=h.C i hi;⟨b',o,a,p.ext e⟩⟩
theorem HNt.cell{w:World}{b:Nat}{x:Hp}{ar:Option Addr}{kr:Nat}{ac:Nat→Option Addr}(h:HNt w b x ar kr ac)(i:Nat)(hi:i<x.cells.length):
  ∃b' o ap kp,ac i=some ⟨b',o,none⟩∧CAt w b' o (x.c i) ap kp:=by
 obtain⟨b',o,e,vp,p0,p1,p2,p3,p4,p5,p6,p7,ap,kp,rfl,lp,P⟩:=h.C i hi;exact⟨b',o,ap,kp,e,p0,p1,p2,p3,p4,p5,p6,p7,lp,fun k hk=>by obtain⟨b2,o2,e2,q⟩:=P k hk;rw[Cl.p_eq _ _ hk] at q;exact⟨b2,o2,e2,q⟩⟩
structure VNt(w:World)(b:Nat)(x:Hp)(ar:Option Addr)(kr:Nat)(ac:Nat→Option Addr)(an:Option Addr)(kn:Nat):Prop where
 H:HNt w b x ar kr ac
 n13:w.cell? ⟨b,13,none⟩=some (.slice an x.cells.length kn)
 N:∀i,i<x.cells.length→∃bn on bc oc,an=some ⟨bn,on,none⟩∧ac i=some ⟨bc,oc,none⟩∧w.cell? ⟨bn,on+i*2,none⟩=some (iv i)∧w.cell? ⟨bn,on+i*2+1,none⟩=some (.pointer (some ⟨bc,oc,none⟩))
theorem VNt.ext{w w':World}{b:Nat}{x:Hp}{ar:Option Addr}{kr:Nat}{ac:Nat→Option Addr}{an:Option Addr}{kn:Nat}(h:VNt w b x ar kr ac an kn)(e:Ext w w'):VNt w' b x ar kr ac an kn:=
 ⟨h.H.ext e,e.keep h.n13,fun i hi=>let ⟨bn,on,bc,oc,a,a',p,q⟩:=h.N i hi;⟨bn,on,bc,oc,a,a',e.keep p,e.keep q⟩⟩
structure FwAt(w:World)(b:Nat)(x:Hp)(ac:Nat→Option Addr)(an:Option Addr)(kn:Nat):Prop where
 n13:w.cell? ⟨b,13,none⟩=some (.slice an x.cells.length kn)
 N:∀i,i<x.cells.length→∃bn on bc oc,an=some ⟨bn,on,none⟩∧ac i=some ⟨bc,oc,none⟩∧w.cell? ⟨bn,on+i*2+1,none⟩=some (.pointer (some ⟨bc,oc,none⟩))∧w.cell? ⟨bc,oc,none⟩=some (iv (x.c i).st)∧w.cell? ⟨bc,oc+6,none⟩=some (iv (x.c i).to)
theorem FwAt.ext{w w':World}{b:Nat}{x:Hp}{ac:Nat→Option Addr}{an:Option Addr}{kn:Nat}(h:FwAt w b x ac an kn)(e:Ext w w'):FwAt w' b x ac an kn:=
 ⟨e.keep h.n13,fun i hi=>let ⟨bn,on,bc,oc,a,a',p,q,r⟩:=h.N i hi;⟨bn,on,bc,oc,a,a',e.keep p,e.keep q,e.keep r⟩⟩
theorem VNt.f{w:World}{b:Nat}{x:Hp}{ar:Option Addr}{kr:Nat}{ac:Nat→Option Addr}{an:Option Addr}{kn:Nat}(h:VNt w b x ar kr ac an kn):FwAt w b x ac an kn:=
 ⟨h.n13,fun i hi=>by
  obtain⟨bn,on,bc,oc,a,a',p,q⟩:=h.N i hi;obtain⟨b2,o2,ap,kp,e,C⟩:=h.H.cell i hi;rw[a'] at e;cases e;exact⟨bn,on,bc,oc,a,a',q,C.p0,C.p6⟩⟩
def W0:Wd:=⟨0,0,0⟩
theorem OkIs.r2{x:Hp}(h:OkIs x 0):R2 x:=by
 unfold OkIs at h;rcases h with h | h | h | h | h | h | h | h | h
 ·omega
 ·omega
 ·omega
 ·omega
 ·omega
 ·omega
 ·omega
 ·omega
 ·exact h.2.1
theorem SAt.black[Inhabited ProtD]{B:Nat}{w:World}{b:Nat}{x:Hp}{ar:Option Addr}{kr:Nat}{v4 v8:Value}{br bn:Nat}{cB cO:Nat→Nat}{pb:Nat→Nat}{pa:Nat→Option Addr}{pk:Nat→Nat}{kn hd:Nat}{vf:Value}{F:List Int}{vk:Value}{K:List Nat}{role:Nat→Nat}(h:SAt B w b x ar kr v4 v8 br cB cO bn pb pa pk kn hd vf F vk K role)(i:Nat)(hi:i<x.cells.length):SAt B (w.setCell ⟨cB i,cO i+5,none⟩ (iv 2)) b { x with cells:=x.cells.set i (blackC (x.c i)) } ar kr v4 v8 br cB cO bn pb pa pk kn hd vf F vk K role:=by
 have hn:0<x.cells.length:=by omega
 refine h.setc hi rfl (Only.setCell (S:=fun q=>q=cB i) (Only.refl _ w) (p:=⟨cB i,cO i+5,none⟩) rfl _) ?_ (fun k hk=>cell_other _ (.inr (by omega))) ((h.rw.nc i hi).1.set _ _);obtain⟨a0,a1,a2,a3,a4,a5,a6⟩:=h.rw.s i hi;refine⟨?_,?_,?_,?_,?_,World.cell?_setCell_same _ _ _ a5,?_⟩
 ·rw[cell_other _ (.inr (by omega))];exact a0
 ·rw[cell_other _ (.inr (by omega))];exact a1
 ·rw[cell_other _ (.inr (by omega))];exact a2
 ·rw[cell_other _ (.inr (by omega))];exact a3
 ·rw[cell_other _ (.inr (by omega))];exact a4
 ·rw[cell_other _ (.inr (by omega))];exact a6
def SOq[Inhabited ProtD](C B:Nat)(w:World)(b:Nat)(x:Hp):Prop:=∃ar kr a4 n4 k4 a8 m8 k8 br cB cO bn pb pa pk kn hd vf F vk K role,SAt B w b x ar kr (.slice a4 n4 k4) (.slice a8 m8 k8) br cB cO bn pb pa pk kn hd vf F vk K role∧SInv C x F K∧2*x.room≤(kn:Int)∧(default:ProtD).z bn=none
theorem SOq.ext[Inhabited ProtD]{C B:Nat}{w w':World}{b:Nat}{x:Hp}(h:SOq C B w b x)(e:Ext w w'):SOq C B w' b x:=by
 obtain⟨ar,kr,a4,n4,k4,a8,m8,k8,br,cB,cO,bn,pb,pa,pk,kn,hd,vf,F,vk,K,role,h,i⟩:=h;exact⟨ar,kr,a4,n4,k4,a8,m8,k8,br,cB,cO,bn,pb,pa,pk,kn,hd,vf,F,vk,K,role,h.ext e,i⟩
theorem shadeW_room(x:Hp)(y:Wd):(shadeW x y).room=x.room:=by
 unfold shadeW
 split
 ·exact(shade_same x _).1
 ·rfl
theorem fold_room:∀(ys:List Wd) (z:Hp),(ys.foldl shadeW z).room=z.room
 | [],_=>rfl
 | y::ys,z=>(fold_room ys (shadeW z y)).trans (shadeW_room z y)
theorem uroom1(x:Hp):(unit1 x).room=x.room:=by
 unfold unit1
 split
 ·rfl
 ·by_cases e:spkB (x.c x.hand.toNat)=true
  ·simp only [if_pos e];exact(shade_same x _).1
  ·simp only [if_neg e]
theorem uroom2(x:Hp):(unit2 x).room=x.room:=by
 unfold unit2
 split
 ·split
  ·exact(shadeW_room _ _).trans (shadeW_room _ _)
  ·rfl
 ·split
  ·exact fold_room x.regs x
  ·exact fold_room x.regs x
theorem uroom3(x:Hp):(unit3 x).room=x.room:=by
 unfold unit3
 split
 ·rfl
 ·split <;> rfl
theorem uroom4(x:Hp):(unit4 x).room=x.room:=by
 unfold unit4
 split <;> rfl
theorem uroom5(x:Hp):(unit5 x).room=x.room:=by
 unfold unit5
 split
 ·rfl
 ·split <;> rfl
theorem uroom6(x:Hp):(unit6 x).room=x.room:=by
 unfold unit6 dropH
 split
 ·rfl
 ·split <;> rfl
end Go.Proofs.YtnegjhddmfiefaaGreatDoor
