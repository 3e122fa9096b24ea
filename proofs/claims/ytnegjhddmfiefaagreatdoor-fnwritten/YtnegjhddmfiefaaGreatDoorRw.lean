import Derived.Test.YtnegjhddmfiefaaGreatDoorSh1
import Derived.Test.YtnegjhddmfiefaaGreatDoorAo
import Derived.Deep.RegionLaw
import Derived.Deep.RegionWith
namespace Go.Proofs.YtnegjhddmfiefaaGreatDoor
open Go.RowKit
attribute [local go_sem ↓] Go.wp_at_zero Go.wp_at_succ
structure CS(x:Hp)(w3 w6 wr:World)(vr vc vg:Value)(k:Nat)(L:List (Cl×Value)):Prop where
 own:wr.ownsRow w6.heap.size 134 8 vc k (L.flatMap fC)
 eq:L.map (·.1)=x.cells.take k
 prs:∀z,z∈L→wr.ownsRow w6.heap.size 178 6 z.2 z.1.prs.length (z.1.prs.flatMap fP)∧∀q,z.2.ownBlock=some q→vc.ownBlock≠some q
 dis:∀i j (hi:i<L.length) (hj:j<L.length),i≠j→∀q,L[i].2.ownBlock=some q→L[j].2.ownBlock≠some q
 bx:HBox wr w3.heap.size x vr vc vg
 fz:∀o,wr.frozen? ⟨w3.heap.size,o,none⟩=false
 on:Only (fun q=>q=w3.heap.size) w6 wr
 ex:Ext w3 wr
 lt:w3.heap.size<w6.heap.size
theorem CS.ext{x:Hp}{w3 w6 wr w':World}{vr vc vg:Value}{k:Nat}{L:List (Cl×Value)}(h:CS x w3 w6 wr vr vc vg k L)(e:Ext wr w'):CS x w3 w6 w' vr vc vg k L where
 own:=ownsRow_of_block h.own (fun q hq=>e.block q (h.own.lt q hq).2)
 eq:=h.eq
 prs:=fun z hz=>⟨ownsRow_of_block (h.prs z hz).1 (fun q hq=>e.block q ((h.prs z hz).1.lt q hq).2),(h.prs z hz).2⟩
 dis:=h.dis
 bx:=h.bx.ext e
 fz:=fun o=>((bcell e).2 _ o (Nat.lt_of_lt_of_le h.lt h.on.size)).trans (h.fz o)
 on:=h.on.trans ⟨e.os,e.tape,e.output,e.size,fun q hq _=>e.block q hq⟩
 ex:=h.ex.trans e
 lt:=h.lt
theorem CS.len{x:Hp}{w3 w6 wr:World}{vr vc vg:Value}{k:Nat}{L:List (Cl×Value)}(h:CS x w3 w6 wr vr vc vg k L)(hk:k≤x.cells.length):L.length=k:=by
 have:=congrArg List.length h.eq
 simpa [Nat.min_eq_left hk] using this
theorem CS.push{x:Hp}{w3 w6 W w5:World}{vr vc vg v':Value}{k B7 g:Nat}{L:List (Cl×Value)}{z:Cl×Value}(h:CS x w3 w6 W vr vc vg k L)(hk:k<x.cells.length)(hz:z.1=x.cells[k])(hg:W.grownBy w5 vc.ownBlock)(h5:w5.ownsRow w6.heap.size 134 8 v' (k+1) (L.flatMap fC++fC z))
  (hv':v'.ownBlock=some g) (hat:vc.ownBlock=some g∨g=W.heap.size) (hp:W.ownsRow B7 178 6 z.2 z.1.prs.length (z.1.prs.flatMap fP)) (h7:w6.heap.size≤B7) (hvn:∀q,vc.ownBlock=some q→q<B7) (hvp:∀y,y∈L→∀q,y.2.ownBlock=some q→q<B7) :
  CS x w3 w6 (w5.setCell ⟨w3.heap.size,4,none⟩ v') vr v' vg (k+1) (L++[z]):=by
 have hbW:w3.heap.size<W.heap.size:=Nat.lt_of_lt_of_le h.lt h.on.size;obtain⟨b1,b2,b3,b4,b5,b6⟩:=box_push (o:=4) (u:=v') (bg:=w3.heap.size) h.lt h.ex h.own (Nat.le_refl _) hbW hg h5
 have key:∀y,y∈L++[z]→W.ownsRow w6.heap.size 178 6 y.2 y.1.prs.length (y.1.prs.flatMap fP)∧∀q,y.2.ownBlock=some q→vc.ownBlock≠some q:=fun y hy=>by
  rcases List.mem_append.1 hy with q | q
  ·exact h.prs y q
  ·rw[List.mem_singleton] at q;subst q;exact⟨own_less hp h7,fun q e e'=>by have:=(hp.lt q e).1;have:=hvn q e';omega⟩
 have hb:HBox w5 w3.heap.size x vr vc vg:=h.bx.block (hg.block w3.heap.size hbW (fun e=>by have:=(h.own.lt _ e.symm).1;have:=h.lt;omega));refine⟨by simpa using b1,?_,fun y hy=>?_,fun i j hi hj hne q e e'=>?_,hb.set4 v',fun o=>(b4 o).trans (h.fz o),?_,b2,h.lt⟩
 ·rw[List.map_append,h.eq,List.take_succ_eq_append_getElem hk];simp [hz]
 ·have kk:=key y hy;refine⟨ownsRow_of_block kk.1 (fun q hq=>b6 q (kk.1.lt q hq).2 (fun e=>by have:=(kk.1.lt q hq).1;have:=h.lt;omega) (kk.2 q hq)),fun q e e'=>?_⟩;rw[hv'] at e'
  injection e' with e'
  subst e';rcases hat with r | r
  ·exact kk.2 g e r
  ·have:=(kk.1.lt g e).2;omega
 ·simp only [List.getElem_append] at e e';simp at hi hj;by_cases hi':i<L.length <;> by_cases hj':j<L.length
  ·simp only [hi',hj',dite_true] at e e';exact h.dis i j hi' hj' hne q e e'
  ·simp only [hi',hj',dite_true,dite_false,List.getElem_singleton] at e e';have:=hvp _ (List.getElem_mem hi') q e;have:=(hp.lt q e').1;omega
  ·simp only [hi',hj',dite_true,dite_false,List.getElem_singleton] at e e';have:=hvp _ (List.getElem_mem hj') q e';have:=(hp.lt q e).1;omega
  ·omega
 ·exact⟨hg.os.trans h.on.os,hg.tape.trans h.on.tape,hg.output.trans h.on.output,by have:=hg.size;have:=h.on.size;simp only [World.setCell,Array.size_modify];omega,fun q hq hne=>(b6 q (Nat.lt_of_lt_of_le hq h.on.size) hne (fun e=>by have:=(h.own.lt q e).1;omega)).trans (h.on.block q hq hne)⟩
structure CB(wr W:World)(c:Cl)(ap:Option Addr)(kp:Nat)(v:Value):Prop where
 p7:W.cell? ⟨wr.heap.size,7,none⟩=some (.slice ap c.prs.length kp)
 n:S7 W (wr.heap.size+1) 0 c
 n7:W.cell? ⟨wr.heap.size+1,7,none⟩=some v
 f:∀o,W.frozen? ⟨wr.heap.size+1,o,none⟩=false
 ex:Ext wr W
theorem CB.ext{wr W W':World}{c:Cl}{ap:Option Addr}{kp:Nat}{v:Value}(h:CB wr W c ap kp v)(e:Ext W W'):CB wr W' c ap kp v:=
 ⟨e.keep h.p7,h.n.of fun _ _=>e.cell (p:=⟨wr.heap.size+1,_,none⟩) (show wr.heap.size+1<W.heap.size from cell_lt h.n7),e.keep h.n7,fun o=>((bcell e).2 _ o (cell_lt h.n7)).trans (h.f o),h.ex.trans e⟩
theorem CB.push{wr W w5:World}{c:Cl}{ap:Option Addr}{kp:Nat}{v v':Value}{B7 n n':Nat}{xs ys:List Value}(h:CB wr W c ap kp v)(hW:W.ownsRow B7 178 6 v n xs)(h7:wr.heap.size+1<B7)(hg:W.grownBy w5 v.ownBlock)(h5:w5.ownsRow B7 178 6 v' n' ys):
  (w5.setCell ⟨wr.heap.size+1,7,none⟩ v').ownsRow B7 178 6 v' n' ys∧CB wr (w5.setCell ⟨wr.heap.size+1,7,none⟩ v') c ap kp v':=by
 obtain⟨b1,b2,b3,b4,b5,b6⟩:=box_push (o:=7) (u:=v') (bg:=wr.heap.size+1) h7 h.ex hW (Nat.le_succ _) (cell_lt h.n7) hg h5;refine⟨b1,?_,h.n.of fun j hj=>b3 _ (by omega),b5 _ h.n7,fun o=>(b4 o).trans (h.f o),b2⟩;exact(World.cell?_of_block (a:=⟨wr.heap.size,7,none⟩) (b6 wr.heap.size (cell_lt h.p7) (by omega) (fun e=>by have:=(hW.lt _ e).1;omega))).trans h.p7
theorem CB.start(wr:World)(c:Cl)(ap:Option Addr)(kp:Nat)(t1 t2:TypeId):CB wr ((wr.alloc (.cells #[iv c.st,iv c.kind,iv c.weak,iv c.last,iv c.born,iv c.color,iv c.to,.slice ap c.prs.length kp] t1)).alloc (.cells #[iv c.st,iv c.kind,iv c.weak,iv c.last,iv c.born,iv c.color,iv c.to,.slice none 0 0] t2)) c ap kp (.slice none 0 0):=
 ⟨by simp [go_sem],⟨by simp [go_sem],by simp [go_sem],by simp [go_sem],by simp [go_sem],by simp [go_sem],by simp [go_sem],by simp [go_sem]⟩,by simp [go_sem],fun o=>by simp [go_sem],((Ext.refl wr).alloc _).alloc _⟩
theorem own_cap{w:World}{B:Nat}{t sz:Nat}{a:Option Addr}{n k:Nat}{xs:List Value}(h:w.ownsRow B t sz (.slice a n k) n xs):n≤k:=by
 rcases h.2 with⟨h0,h1⟩ | ⟨g,cap,cur,h0,_,_,hn,_⟩
 ·omega
 ·simp only [Value.slice.injEq] at h0;omega
structure GSep(x:Hp)(role:Nat→Nat)(g br bc:Nat)(pb pk:Nat→Nat)(vg:Value):Prop where
 g:role g=0
 r:0<x.regs.length→role br=2
 c:0<x.cells.length→role bc=3
 y:∀q,vg.ownBlock=some q→role q=4
 p:∀q,q<x.cells.length→0<pk q→role (pb q)=6+q
structure Ccp(B:Nat)(w:World)(ac:Option Addr)(bc kc:Nat)(role:Nat→Nat):Prop where
 ad:ac=some ⟨bc,0,none⟩
 ro:role bc=3
 nf:Nf1 bc w
 cp:∀j,j<kc*8→∃v,w.cell? ⟨bc,j,none⟩=some v
 lo:B≤bc
theorem Ccp.cells{B:Nat}{w w':World}{ac:Option Addr}{bc kc:Nat}{role role':Nat→Nat}(h:Ccp B w ac bc kc role)(hr:role' bc=role bc)(n:Nf1 bc w')(c:∀j v,j<kc*8→w.cell? ⟨bc,j,none⟩=some v→∃u,w'.cell? ⟨bc,j,none⟩=some u):Ccp B w' ac bc kc role':=
 ⟨h.ad,hr.trans h.ro,n,fun j hj=>let ⟨v,hv⟩:=h.cp j hj;c j v hj hv,h.lo⟩
theorem Ccp.block{B:Nat}{w w':World}{ac:Option Addr}{bc kc:Nat}{role role':Nat→Nat}(h:Ccp B w ac bc kc role)(hr:role' bc=role bc)(hb:w'.heap[bc]?=w.heap[bc]?)(hs:w.heap.size≤w'.heap.size):Ccp B w' ac bc kc role':=
 h.cells hr (nf1_block h.nf hb hs) (fun j v _ hv=>⟨v,(World.cell?_of_block (a:=⟨bc,j,none⟩) hb).trans hv⟩)
theorem S7.some{w:World}{b o:Nat}{c:Cl}(h:S7 w b o c)(j:Nat)(hj:j<7):∃v,w.cell? ⟨b,o+j,none⟩=some v:=by
 obtain⟨h0,h1,h2,h3,h4,h5,h6⟩:=h
 match j,hj with
 | 0,_=>exact⟨_,h0⟩
 | 1,_=>exact⟨_,h1⟩
 | 2,_=>exact⟨_,h2⟩
 | 3,_=>exact⟨_,h3⟩
 | 4,_=>exact⟨_,h4⟩
 | 5,_=>exact⟨_,h5⟩
 | 6,_=>exact⟨_,h6⟩
structure GAt[Inhabited ProtD](B:Nat)(w:World)(g:Nat)(x:Hp)(ar:Option Addr)(kr:Nat)(ac:Option Addr)(kc:Nat)(vg:Value)(br bc:Nat)(pb:Nat→Nat)(pa:Nat→Option Addr)(pk:Nat→Nat)(role:Nat→Nat):Prop where
 bx:HBox w g x (.slice ar x.regs.length kr) (.slice ac x.cells.length kc) vg
 nf:Nf1 g w
 lo:B≤g
 ha:0<x.regs.length→ar=some ⟨br,0,none⟩
 hc:0<x.cells.length→ac=some ⟨bc,0,none⟩
 rw:Rws B w x br bc pb pa pk
 gr:Grw w B vg x.gray
 sp:GSep x role g br bc pb pk vg
 kl:x.cells.length≤kc
 pr:Prt w role
 cc:0<kc→Ccp B w ac bc kc role
theorem GAt.ext[Inhabited ProtD]{B:Nat}{w w':World}{g:Nat}{x:Hp}{ar:Option Addr}{kr:Nat}{ac:Option Addr}{kc:Nat}{vg:Value}{br bc:Nat}{pb:Nat→Nat}{pa:Nat→Option Addr}{pk:Nat→Nat}{role:Nat→Nat}(h:GAt B w g x ar kr ac kc vg br bc pb pa pk role)(e:Ext w w'):GAt B w' g x ar kr ac kc vg br bc pb pa pk role:=
 ⟨h.bx.ext e,h.nf.ext e,h.lo,h.ha,h.hc,h.rw.ext e,h.gr.block (fun q hq=>e.block q (h.gr.lt q hq).2),h.sp,h.kl,h.pr.of (fun q hq _=>e.block q hq) (fun _ _ h=>h),fun hk=>(h.cc hk).block rfl (e.block bc (h.cc hk).nf.1) e.size⟩
theorem GAt.start[Inhabited ProtD](hz:∀q,(default:ProtD).z q=none){x:Hp}{w3 w6 wr w7:World}{B:Nat}{ar:Option Addr}{kr:Nat}{ac:Option Addr}{kc:Nat}{vg0 vg:Value}{L:List (Cl×Value)}(h:CS x w3 w6 wr (.slice ar x.regs.length kr) (.slice ac x.cells.length kc) vg0 x.cells.length L)(hr:wr.ownsRow (w3.heap.size+1) 139 3 (.slice ar x.regs.length kr) x.regs.length (x.regs.flatMap fW))(hr6:∀q,(Value.slice ar x.regs.length kr).ownBlock=some q→q<w6.heap.size)
  (h0:0<x.regs.length) (hB:B≤w3.heap.size) (o7:Only (fun q=>q=w3.heap.size) wr w7) (hb7:HBox w7 w3.heap.size x (.slice ar x.regs.length kr) (.slice ac x.cells.length kc) vg) (f7:Nf1 w3.heap.size w7) (hg:w7.ownsRow wr.heap.size 3 1 vg x.gray.length (x.gray.map iv)) :
  ∃br bc pb pa pk role,GAt B w7 w3.heap.size x ar kr ac kc vg br bc pb pa pk role:=by
 have hll:L.length=x.cells.length:=h.len (Nat.le_refl _);have eL:L.map (·.1)=x.cells:=by rw[h.eq,List.take_length]
 have hlt:=h.lt;have hon:=h.on.size
 have l1:∀q (hq:q<x.cells.length),(L.getD q (Cl0,.slice none 0 0))∈L∧(L.getD q (Cl0,.slice none 0 0)).1=x.c q∧(L.getD q (Cl0,.slice none 0 0))=L[q]'(by omega):=fun q hq=>by
  have e0:L.getD q (Cl0,.slice none 0 0)=L[q]'(by omega):=by simp [hll,hq]
  refine⟨by rw[e0];exact List.getElem_mem _,?_,e0⟩;have e:x.cells[q]=(L.map (·.1))[q]'(by simpa [hll] using hq):=by simp [eL]
  rw[←Hp.c_eq x q hq,e,e0];simp
 have own8:0<x.cells.length→Nf1 (vblk (.slice ac x.cells.length kc)) wr∧w6.heap.size≤vblk (.slice ac x.cells.length kc):=fun hn=>own_nf h.own hn
 have cell8:∀q,q<x.cells.length→∀j,j<8→wr.cell? ⟨vblk (.slice ac x.cells.length kc),q*8+j,none⟩=(fC (L.getD q (Cl0,.slice none 0 0)))[j]?:=fun q hq j hj=>by
  have:=own_at (f:=fC) (fun _=>rfl) (L:=L) (by rw[hll];exact h.own) q (by omega) j hj;rw[this,(l1 q hq).2.2]
 have hbr:=own_nf hr h0;have hbr6:vblk (.slice ar x.regs.length kr)<w6.heap.size:=hr6 _ ((own_form hr).2 h0).2
 have prs:∀q,q<x.cells.length→wr.ownsRow w6.heap.size 178 6 (L.getD q (Cl0,.slice none 0 0)).2 (x.c q).prs.length ((x.c q).prs.flatMap fP)∧∀b,(L.getD q (Cl0,.slice none 0 0)).2.ownBlock=some b→(Value.slice ac x.cells.length kc).ownBlock≠some b:=fun q hq=>by
  have:=h.prs _ (l1 q hq).1;rw[(l1 q hq).2.1] at this;exact this
 have dis:∀q q',q<x.cells.length→q'<x.cells.length→q≠q'→∀b,(L.getD q (Cl0,.slice none 0 0)).2.ownBlock=some b→(L.getD q' (Cl0,.slice none 0 0)).2.ownBlock≠some b:=fun q q' hq hq' hne b hb=>by
  rw[(l1 q hq).2.2] at hb;rw[(l1 q' hq').2.2];exact h.dis q q' (by omega) (by omega) hne b hb
 have RW:=Rws.of (B:=w3.heap.size+1) (w:=wr) (x:=x) (vr:=.slice ar x.regs.length kr) (bc:=vblk (.slice ac x.cells.length kc)) (pv:=fun q=>(L.getD q (Cl0,.slice none 0 0)).2) hr (fun q hq=>by
   rw[←(l1 q hq).2.1];have:=cell8 q hq
   exact⟨this 0 (by omega),this 1 (by omega),this 2 (by omega),this 3 (by omega),this 4 (by omega),this 5 (by omega),this 6 (by omega)⟩) (fun q hq=>cell8 q hq 7 (by omega)) (fun hn=>⟨(own8 hn).1,by have:=(own8 hn).2;omega⟩) (fun hn=>by have:=(own8 hn).2;omega) (fun q hq=>⟨own_less (prs q hq).1 (by omega),fun b hb=>⟨by have:=((prs q hq).1.lt b hb).1;omega,fun e=>by
    have hn:0<x.cells.length:=by omega
    exact(prs q hq).2 b hb (by rw[((own_form h.own).2 hn).2,e])⟩⟩) dis
 have RW7:=RW.only o7 (fun hl e=>by have:=(RW.nr hl).2;omega) (fun hl e=>by have:=(RW.nc hl).2;omega) (fun q hq hl e=>by have:=(RW.pl q hq hl).2.2.2;omega)
 refine⟨_,_,_,_,_,fun q=>if q=w3.heap.size then 0 else if wr.heap.size≤q then 4 else if q=vblk (.slice ar x.regs.length kr) then 2 else if 0<kc∧q=vblk (.slice ac x.cells.length kc) then 3 else
  (open Classical in if h:∃i,i<x.cells.length∧0<vcap (L.getD i (Cl0,.slice none 0 0)).2∧vblk (L.getD i (Cl0,.slice none 0 0)).2=q then 6+Classical.choose h else 5),hb7,f7,hB,fun h=>((own_form hr).2 h).1,fun hn=>((own_form h.own).2 hn).1,RW7.less (by omega),Grw.of (own_less hg (by omega)),⟨if_pos rfl,fun hl=>?_,fun hl=>?_,fun q hq=>?_,fun q hq hl=>?_⟩,own_cap h.own,fun q o h=>(by rw[hz q] at h;cases h),fun hk=>?_⟩
 ·have:=(RW.nr hl).2;have:=(RW.nr hl).1.1;rw[if_neg (by omega),if_neg (by omega),if_pos rfl]
 ·have:=(RW.nc hl).2;have:=(RW.nc hl).1.1;rw[if_neg (by omega),if_neg (by omega),if_neg (fun e=>RW.d hl e.symm),if_pos ⟨Nat.lt_of_lt_of_le hl (own_cap h.own),rfl⟩]
 ·have:=(hg.lt q hq).1;rw[if_neg (by omega),if_pos (by omega)]
 ·have l2:=RW.pl q hq hl;have:=l2.2.2.2;have:=l2.2.1.1;have hex:∃i,i<x.cells.length∧0<vcap (L.getD i (Cl0,.slice none 0 0)).2∧vblk (L.getD i (Cl0,.slice none 0 0)).2=vblk (L.getD q (Cl0,.slice none 0 0)).2:=⟨q,hq,hl,rfl⟩;rw[if_neg (by omega),if_neg (by omega),if_neg l2.2.2.1.1,if_neg (fun e=>l2.2.2.1.2 e.2),dif_pos hex];have sp:=Classical.choose_spec hex
  have:Classical.choose hex=q:=by
   rcases Nat.decEq (Classical.choose hex) q with h | h
   ·exact absurd sp.2.2 (RW.dp _ q sp.1 hq h sp.2.1 hl)
   ·exact h
  rw[this]
 ·have hk2:0<vcap (.slice ac x.cells.length kc):=hk;obtain⟨k1,k2,k3,k4,k5⟩:=own_kw h.own hk2;have e7:=o7.block (vblk (.slice ac x.cells.length kc)) k3.1 (fun e=>by omega);refine⟨k1,?_,nf1_block k3 e7 o7.size,fun j hj=>?_,by omega⟩
  ·have:=k3.1;rw[if_neg (by omega),if_neg (by omega),if_neg (by omega),if_pos ⟨hk,rfl⟩]
  ·obtain⟨u,hu⟩:=k4 j hj;exact⟨u,(World.cell?_of_block (a:=⟨_,j,none⟩) e7).trans hu⟩
theorem Hp.c_set(x:Hp)(i:Nat)(c:Cl)(hi:i<x.cells.length)(q:Nat):({ x with cells:=x.cells.set i c }:Hp).c q=if q=i then c else x.c q:=by
 simp only [Hp.c,List.getD_eq_getElem?_getD,List.getElem?_set];by_cases e:q=i
 ·subst e;simp [hi]
 ·rw[if_neg (fun h=>e h.symm),if_neg e]
def mkB(x:Hp):Bool:=x.phase == 1 || x.phase == 2
def whB(c:Cl):Bool:=c.st == 1 && c.color == 0
def shadeB(x:Hp)(i:Nat):Bool:=mkB x && whB (x.c i)
def grayC(c:Cl):Cl:={ c with color:=1 }
def shadeH(x:Hp)(i:Nat):Hp:=if shadeB x i=true then { x with cells:=x.cells.set i (grayC (x.c i)),gray:=x.gray++[(i:Int)] } else x
def sshB(x:Hp)(y:Wd):Bool:=mkB x && (y.k == 2 && (x.c y.a.toNat).color == 0)
def sshH(x:Hp)(y:Wd):Hp:=if sshB x y=true then { x with cells:=x.cells.set y.a.toNat (grayC (x.c y.a.toNat)),gray:=x.gray++[y.a] } else x
theorem GAt.setc[Inhabited ProtD]{B:Nat}{w w':World}{g:Nat}{x:Hp}{ar:Option Addr}{kr:Nat}{ac:Option Addr}{kc:Nat}{vg:Value}{br bc:Nat}{pb:Nat→Nat}{pa:Nat→Option Addr}{pk:Nat→Nat}{role:Nat→Nat}{i:Nat}{c':Cl}(h:GAt B w g x ar kr ac kc vg br bc pb pa pk role)(hi:i<x.cells.length)(hp:c'.prs=(x.c i).prs)(o:Only (fun q=>q=bc) w w')(hs:S7 w' bc (i*8) c')(ho:∀k,(k<i*8∨i*8+7≤k)→w'.cell? ⟨bc,k,none⟩=w.cell? ⟨bc,k,none⟩)(nf:Nf1 bc w'):
  GAt B w' g { x with cells:=x.cells.set i c' } ar kr ac kc vg br bc pb pa pk role:=by
 have hn:0<x.cells.length:=by omega
 have far:∀q,q<w.heap.size→role q≠3→w'.heap[q]?=w.heap[q]?:=fun q hq hr=>o.block q hq (fun e=>hr (by rw[e];exact h.sp.c hn))
 have hl:({ x with cells:=x.cells.set i c' }:Hp).cells.length=x.cells.length:=by simp
 have hc:=Hp.c_set x i c' hi
 have hpr:∀q,(({ x with cells:=x.cells.set i c' }:Hp).c q).prs=(x.c q).prs:=fun q=>by
  rw[hc q];by_cases e:q=i
  ·rw[if_pos e,hp,e]
  ·rw[if_neg e]
 have fg:=far g h.nf.1 (by rw[h.sp.g];omega);have pf:∀q,q<x.cells.length→0<pk q→w'.heap[pb q]?=w.heap[pb q]?:=fun q hq hl=>far (pb q) (h.rw.pl q hq hl).2.1.1 (by rw[h.sp.p q hq hl];omega)
 refine⟨?_,nf1_block h.nf fg o.size,h.lo,h.ha,fun _=>h.hc hn,⟨fun k hk=>?_,fun q hq=>?_,fun q hq=>?_,fun q hq k hk=>?_,fun q hq hlq=>?_,fun hr=>⟨nf1_block (h.rw.nr hr).1 (far br (h.rw.nr hr).1.1 (by rw[h.sp.r hr];omega)) o.size,(h.rw.nr hr).2⟩,fun _=>⟨nf,(h.rw.nc hn).2⟩,fun _=>h.rw.d hn,fun q q' hq hq' hne h1 h2=>?_,fun q hq=>?_⟩,h.gr.block (fun q hq=>far q (h.gr.lt q hq).2 (by rw[h.sp.y q hq];omega)),⟨h.sp.g,h.sp.r,fun _=>h.sp.c hn,h.sp.y,fun q hq hlq=>?_⟩,by rw[hl];exact h.kl,h.pr.of (fun q hq h1=>far q hq (by rw[h1];omega)) (fun _ _ h=>h),fun hk=>(h.cc hk).cells rfl nf (fun j v _ hv=>?_)⟩
 ·rw[hl];exact(h.bx.block fg)
 ·exact(h.rw.r k hk).of fun j _=>World.cell?_of_block (a:=⟨br,_,none⟩) (far br (h.rw.nr (by have:k<x.regs.length:=hk;omega)).1.1 (by rw[h.sp.r (by have:k<x.regs.length:=hk;omega)];omega))
 ·rw[hl] at hq;rw[hc q];by_cases e:q=i
  ·subst e;rw[if_pos rfl];exact hs
  ·rw[if_neg e];exact(h.rw.s q hq).of fun j hj=>ho _ (by omega)
 ·rw[hl] at hq;rw[hpr q,ho _ (by omega)];exact h.rw.p7 q hq
 ·rw[hl] at hq;have e2:(({ x with cells:=x.cells.set i c' }:Hp).c q).p k=(x.c q).p k:=by simp only [Cl.p,hpr q]
  rw[hpr q] at hk;rw[e2];exact(h.rw.p q hq k hk).of fun j _=>World.cell?_of_block (a:=⟨pb q,_,none⟩) (pf q hq (h.rw.pw hq (by omega)))
 ·rw[hl] at hq;obtain⟨a1,a2,a3⟩:=h.rw.pl q hq hlq;exact⟨a1,nfp_block a2 (pf q hq hlq) o.size,a3⟩
 ·rw[hl] at hq hq';exact h.rw.dp q q' hq hq' hne h1 h2
 ·rw[hl] at hq;rw[hpr q];exact h.rw.kp q hq
 ·rw[hl] at hq;exact h.sp.p q hq hlq
 ·by_cases e:j<i*8∨i*8+7≤j
  ·exact⟨v,(ho j e).trans hv⟩
  ·have:=hs.some (j-i*8) (by omega);rw[show i*8+(j-i*8)=j by omega] at this;exact this
theorem GAt.push[Inhabited ProtD]{B:Nat}{W w5:World}{g:Nat}{x:Hp}{ar:Option Addr}{kr:Nat}{ac:Option Addr}{kc:Nat}{vg:Value}{br bc:Nat}{pb:Nat→Nat}{pa:Nat→Option Addr}{pk:Nat→Nat}{role:Nat→Nat}{i:Int}{gb go cap:Nat}(h:GAt B W g x ar kr ac kc vg br bc pb pa pk role)(hg:W.grownBy w5 vg.ownBlock)(h5:Grw w5 B (.slice (some ⟨gb,go,none⟩) (x.gray.length+1) cap) (x.gray++[i]))(hat:vg.ownBlock=some gb∨gb=W.heap.size):
  GAt B (w5.setCell ⟨g,8,none⟩ (.slice (some ⟨gb,go,none⟩) (x.gray.length+1) cap)) g { x with gray:=x.gray++[i] } ar kr ac kc (.slice (some ⟨gb,go,none⟩) (x.gray.length+1) cap) br bc pb pa pk (fun q=>if q=gb then 4 else role q):=by
 have hgb:∀q,q<W.heap.size→role q≠4→q≠gb:=fun q hq hr e=>by
  rcases hat with a | a
  ·exact hr (by rw[e];exact h.sp.y gb a)
  ·omega
 have far:∀q,q<W.heap.size→role q≠4→w5.heap[q]?=W.heap[q]?:=fun q hq hr=>hg.block q hq (fun e=>hr (h.sp.y q e.symm))
 have hb:=h.nf.1;have rb:role g≠4:=by rw[h.sp.g];omega
 have fb:=far g hb rb;have nbg:=hgb g hb rb;have far2:∀q,q<W.heap.size→role q≠4→q≠g→(w5.setCell ⟨g,8,none⟩ (.slice (some ⟨gb,go,none⟩) (x.gray.length+1) cap)).heap[q]?=W.heap[q]?:=fun q hq hr hne=>(Below.heap_setCell _ _ _ _ hne).trans (far q hq hr)
 have hsz:W.heap.size≤(w5.setCell ⟨g,8,none⟩ (.slice (some ⟨gb,go,none⟩) (x.gray.length+1) cap)).heap.size:=by have:=hg.size;simpa [World.setCell] using this
 have rw2:=h.rw.same hsz (fun hl=>far2 br (h.rw.nr hl).1.1 (by rw[h.sp.r hl];omega) (fun e=>by have h1:=h.sp.r hl;have h2:=h.sp.g;rw[e] at h1;omega)) (fun hl=>far2 bc (h.rw.nc hl).1.1 (by rw[h.sp.c hl];omega) (fun e=>by have h1:=h.sp.c hl;have h2:=h.sp.g;rw[e] at h1;omega)) (fun q hq hl=>far2 (pb q) (h.rw.pl q hq hl).2.1.1 (by rw[h.sp.p q hq hl];omega) (fun e=>by have h1:=h.sp.p q hq hl;have h2:=h.sp.g;rw[e] at h1;omega));refine⟨(h.bx.block fb).set8 _,(nf1_block h.nf fb hg.size).set _ _,h.lo,h.ha,h.hc,⟨rw2.r,rw2.s,rw2.p7,rw2.p,rw2.pl,rw2.nr,rw2.nc,rw2.d,rw2.dp,rw2.kp⟩,?_,⟨?_,fun hl=>?_,fun hl=>?_,fun q hq=>?_,fun q hq hl=>?_⟩,h.kl,h.pr.of (fun q hq h1=>far2 q hq (by rw[h1];omega) (fun e=>by have h2:=h.sp.g;rw[e] at h1;omega)) (fun q hq h1=>by(try dsimp only);rw[if_neg (hgb q hq (by rw[h1];omega))];exact h1),fun hk=>(h.cc hk).block (if_neg (hgb bc (h.cc hk).nf.1 (by rw[(h.cc hk).ro];omega))) (far2 bc (h.cc hk).nf.1 (by rw[(h.cc hk).ro];omega) (fun e=>by have h1:=(h.cc hk).ro;have h2:=h.sp.g;rw[e] at h1;omega)) hsz⟩
 ·exact h5.block (w':=w5.setCell ⟨g,8,none⟩ (.slice (some ⟨gb,go,none⟩) (x.gray.length+1) cap)) (fun q hq=>Below.heap_setCell _ _ _ _ (fun e=>nbg (by simp [Value.ownBlock] at hq;rw[hq];exact e.symm)))
 ·rw[if_neg nbg];exact h.sp.g
 ·rw[if_neg (hgb br (h.rw.nr hl).1.1 (by rw[h.sp.r hl];omega))];exact h.sp.r hl
 ·rw[if_neg (hgb bc (h.rw.nc hl).1.1 (by rw[h.sp.c hl];omega))];exact h.sp.c hl
 ·simp [Value.ownBlock] at hq;rw[if_pos hq.symm]
 ·rw[if_neg (hgb (pb q) (h.rw.pl q hq hl).2.1.1 (by rw[h.sp.p q hq hl];omega))];exact h.sp.p q hq hl
theorem l3marking_any(x:Hp)(b:Nat)(w:World)(c5:w.cell? ⟨b,5,none⟩=some (iv x.phase)):
  Calls Tryz.prog 209 #[.pointer (some ⟨b,0,none⟩)] w fun e w'=>e=.returned (.bool (mkB x))∧w'=w:=by
 cases q:(x.phase == 1)
 ·have E:=hide (show mkB x=(x.phase == 2) by simp [mkB,q]);go_enter Tryz.func209,Tryz.ntmps209;go_wp2_with fail;go_ret;exact⟨by rw[unhide E];rfl,rfl⟩
 ·have E:=hide (show mkB x=true by simp [mkB,q]);go_enter Tryz.func209,Tryz.ntmps209;go_wp2_with fail;go_ret;exact⟨by rw[unhide E];rfl,rfl⟩
def GOk[Inhabited ProtD](B:Nat)(w:World)(g:Nat)(x:Hp):Prop:=∃ar kr ac kc vg br bc pb pa pk role,GAt B w g x ar kr ac kc vg br bc pb pa pk role
theorem GOk.ext[Inhabited ProtD]{B:Nat}{w w':World}{g:Nat}{x:Hp}(h:GOk B w g x)(e:Ext w w'):GOk B w' g x:=by
 obtain⟨ar,kr,ac,kc,vg,br,bc,pb,pa,pk,role,h⟩:=h;exact⟨ar,kr,ac,kc,vg,br,bc,pb,pa,pk,role,h.ext e⟩
theorem GAt.boxed[Inhabited ProtD]{B:Nat}{w w':World}{g:Nat}{x x':Hp}{ar:Option Addr}{kr:Nat}{ac:Option Addr}{kc:Nat}{vg:Value}{br bc:Nat}{pb:Nat→Nat}{pa:Nat→Option Addr}{pk:Nat→Nat}{role:Nat→Nat}(h:GAt B w g x ar kr ac kc vg br bc pb pa pk role)(o:Only (fun q=>q=g) w w')(nf:Nf1 g w')(hr:x'.regs=x.regs)(hc:x'.cells=x.cells)(hg:x'.gray=x.gray)(bx:HBox w' g x' (.slice ar x.regs.length kr) (.slice ac x.cells.length kc) vg):GAt B w' g x' ar kr ac kc vg br bc pb pa pk role:=by
 have far:∀q,q<w.heap.size→role q≠0→w'.heap[q]?=w.heap[q]?:=fun q hq hn=>o.block q hq (fun e=>hn (by rw[e];exact h.sp.g))
 have cc:∀q,x'.c q=x.c q:=fun q=>by simp only [Hp.c,hc]
 have rw2:=h.rw.same o.size (fun hl=>far br (h.rw.nr hl).1.1 (by rw[h.sp.r hl];omega)) (fun hl=>far bc (h.rw.nc hl).1.1 (by rw[h.sp.c hl];omega)) (fun q hq hl=>far (pb q) (h.rw.pl q hq hl).2.1.1 (by rw[h.sp.p q hq hl];omega));refine⟨by rw[hr,hc];exact bx,nf,h.lo,by rw[hr];exact h.ha,by rw[hc];exact h.hc,?_,by rw[hg];exact h.gr.block (fun q hq=>far q (h.gr.lt q hq).2 (by rw[h.sp.y q hq];omega)),?_,by rw[hc];exact h.kl,h.pr.of (fun q hq h1=>far q hq (by rw[h1];omega)) (fun _ _ h=>h),fun hk=>(h.cc hk).block rfl (far bc (h.cc hk).nf.1 (by rw[(h.cc hk).ro];omega)) o.size⟩
 ·refine⟨fun i hi=>?_,fun q hq=>?_,fun q hq=>?_,fun q hq k hk=>?_,fun q hq hl=>?_,?_,?_,?_,fun q q' hq hq' hne h1 h2=>?_,fun q hq=>?_⟩
  ·have hi2:i<x.regs.length:=by rw[←hr];exact hi
   have e2:x'.regs[i]=x.regs[i]:=by simp [hr]
   rw[e2];exact rw2.r i hi2
  ·rw[hc] at hq;rw[cc];exact rw2.s q hq
  ·rw[hc] at hq;rw[cc];exact rw2.p7 q hq
  ·rw[hc] at hq;rw[cc] at hk ⊢;exact rw2.p q hq k hk
  ·rw[hc] at hq;exact rw2.pl q hq hl
  ·rw[hr];exact rw2.nr
  ·rw[hc];exact rw2.nc
  ·rw[hc];exact rw2.d
  ·rw[hc] at hq hq';exact rw2.dp q q' hq hq' hne h1 h2
  ·rw[hc] at hq;rw[cc];exact rw2.kp q hq
 ·refine⟨h.sp.g,by rw[hr];exact h.sp.r,by rw[hc];exact h.sp.c,h.sp.y,fun q hq hl=>?_⟩;rw[hc] at hq;exact h.sp.p q hq hl
theorem GOk.set6[Inhabited ProtD]{B:Nat}{w:World}{g:Nat}{x:Hp}(h:GOk B w g x)(v:Int):GOk B (w.setCell ⟨g,6,none⟩ (iv v)) g { x with hand:=v }:=by
 obtain⟨ar,kr,ac,kc,vg,br,bc,pb,pa,pk,role,h⟩:=h;exact⟨_,_,_,_,_,_,_,_,_,_,_,h.boxed (x':={ x with hand:=v }) (Only.setCell (S:=fun q=>q=g) (Only.refl _ w) (p:=⟨g,6,none⟩) rfl _) (h.nf.set _ _) rfl rfl rfl (h.bx.set6 v)⟩
theorem GOk.set7[Inhabited ProtD]{B:Nat}{w:World}{g:Nat}{x:Hp}(h:GOk B w g x)(v:Int):GOk B (w.setCell ⟨g,7,none⟩ (iv v)) g { x with sub:=v }:=by
 obtain⟨ar,kr,ac,kc,vg,br,bc,pb,pa,pk,role,h⟩:=h;exact⟨_,_,_,_,_,_,_,_,_,_,_,h.boxed (x':={ x with sub:=v }) (Only.setCell (S:=fun q=>q=g) (Only.refl _ w) (p:=⟨g,7,none⟩) rfl _) (h.nf.set _ _) rfl rfl rfl (h.bx.set7 v)⟩
theorem GOk.box[Inhabited ProtD]{B:Nat}{w:World}{g:Nat}{x:Hp}(h:GOk B w g x):w.cell? ⟨g,6,none⟩=some (iv x.hand)∧w.cell? ⟨g,7,none⟩=some (iv x.sub)∧w.cell? ⟨g,5,none⟩=some (iv x.phase)∧(∀o,w.frozen? ⟨g,o,none⟩=false)∧B≤g∧g<w.heap.size:=by
 obtain⟨ar,kr,ac,kc,vg,br,bc,pb,pa,pk,role,h⟩:=h;exact⟨h.bx.2.2.2.2.2.2.1,h.bx.2.2.2.2.2.2.2.1,h.bx.2.2.2.2.2.1,h.nf.2,h.lo,h.nf.1⟩
theorem obj_lt{w:World}{q:Nat}{o:Obj}(h:w.heap[q]?=some o):q<w.heap.size:=by
 rcases Nat.lt_or_ge q w.heap.size with l | l
 ·exact l
 ·rw[Array.getElem?_eq_none l] at h;cases h
theorem GAt.far{z z2:Nat→Option Obj}{B:Nat}{w w':World}{g:Nat}{x:Hp}{ar:Option Addr}{kr:Nat}{ac:Option Addr}{kc:Nat}{vg:Value}{br bc:Nat}{pb:Nat→Nat}{pa:Nat→Option Addr}{pk:Nat→Nat}{role role':Nat→Nat}(h:@GAt ⟨⟨z⟩⟩ B w g x ar kr ac kc vg br bc pb pa pk role)(hs:w.heap.size≤w'.heap.size)(far:∀q,q<w.heap.size→role q≠1→w'.heap[q]?=w.heap[q]?)(hr:∀q,q<w.heap.size→role q≠1→role' q=role q)(hp:∀q o,z2 q=some o→role' q=1∧w'.heap[q]?=some o):@GAt ⟨⟨z2⟩⟩ B w' g x ar kr ac kc vg br bc pb pa pk role':=by
 obtain⟨bx,nf,lo,ha,hc,rs,gr,sp,kl,_,cc⟩:=h;have fg:=far g nf.1 (by rw[sp.g];omega)
 letI:Inhabited ProtD:=⟨⟨z2⟩⟩
 refine⟨bx.block fg,nf1_block nf fg hs,lo,ha,hc,rs.same hs (fun hl=>far br (rs.nr hl).1.1 (by rw[sp.r hl];omega)) (fun hl=>far bc (rs.nc hl).1.1 (by rw[sp.c hl];omega)) (fun q hq hl=>far (pb q) (rs.pl q hq hl).2.1.1 (by rw[sp.p q hq hl];omega)),gr.block (fun q hq=>far q (gr.lt q hq).2 (by rw[sp.y q hq];omega)),⟨?_,fun hl=>?_,fun hl=>?_,fun q hq=>?_,fun q hq hl=>?_⟩,kl,hp,fun hk=>(cc hk).block (hr bc (cc hk).nf.1 (by rw[(cc hk).ro];omega)) (far bc (cc hk).nf.1 (by rw[(cc hk).ro];omega)) hs⟩
 ·rw[hr g nf.1 (by rw[sp.g];omega)];exact sp.g
 ·rw[hr br (rs.nr hl).1.1 (by rw[sp.r hl];omega)];exact sp.r hl
 ·rw[hr bc (rs.nc hl).1.1 (by rw[sp.c hl];omega)];exact sp.c hl
 ·rw[hr q (gr.lt q hq).2 (by rw[sp.y q hq];omega)];exact sp.y q hq
 ·rw[hr (pb q) (rs.pl q hq hl).2.1.1 (by rw[sp.p q hq hl];omega)];exact sp.p q hq hl
theorem GOk.guard{z z2:Nat→Option Obj}{B:Nat}{w0 w:World}{g:Nat}{x:Hp}(h:@GOk ⟨⟨z⟩⟩ B w0 g x)(e:Ext w0 w)(hz:∀q o,z2 q=some o→z q=some o∨(w0.heap.size≤q∧w.heap[q]?=some o)):@GOk ⟨⟨z2⟩⟩ B w g x:=by
 obtain⟨ar,kr,ac,kc,vg,br,bc,pb,pa,pk,role,h⟩:=h;have h0:=h;obtain⟨_,_,_,_,_,_,_,_,_,pr,_⟩:=h0;refine⟨ar,kr,ac,kc,vg,br,bc,pb,pa,pk,fun q=>if w0.heap.size≤q then 1 else role q,GAt.far h e.size (fun q hq _=>e.block q hq) (fun q hq _=>if_neg (by omega)) (fun q o hq=>?_)⟩;rcases hz q o hq with a | ⟨a,b⟩
 ·obtain⟨h1,h2⟩:=pr q o a;have hl:=obj_lt h2;exact⟨by show(if w0.heap.size≤q then 1 else role q)=1;rw[if_neg (by omega)];exact h1,(e.block q hl).trans h2⟩
 ·exact⟨if_pos a,b⟩
theorem GOk.poke{z z2:Nat→Option Obj}{B:Nat}{w w':World}{g:Nat}{x:Hp}(h:@GOk ⟨⟨z⟩⟩ B w g x)(r:Nat)(o:Obj)(hr:z r=some o)(on:Only (fun q=>q=r) w w')(hz:∀q o,z2 q=some o→q≠r∧z q=some o):@GOk ⟨⟨z2⟩⟩ B w' g x:=by
 obtain⟨ar,kr,ac,kc,vg,br,bc,pb,pa,pk,role,h⟩:=h;have h0:=h;obtain⟨_,_,_,_,_,_,_,_,_,pr,_⟩:=h0;obtain⟨hr1,_⟩:=pr r o hr;refine⟨ar,kr,ac,kc,vg,br,bc,pb,pa,pk,role,GAt.far h on.size (fun q hq hn=>on.block q hq (fun e=>hn (by rw[e];exact hr1))) (fun _ _ _=>rfl) (fun q o2 hq=>?_)⟩;obtain⟨a,b⟩:=hz q o2 hq;obtain⟨h1,h2⟩:=pr q o2 b;exact⟨h1,(on.block q (obj_lt h2) a).trans h2⟩
structure Own(p:Inhabited ProtD)(lo hi:Nat)(c:World)(p1:Inhabited ProtD):Prop where
 z:∀q,(@default ProtD p1).z q=if lo≤q∧q<hi then c.heap[q]? else (@default ProtD p).z q
 l:∀q o,(@default ProtD p).z q=some o→q<lo
 h:hi≤c.heap.size
theorem Own.make(p:Inhabited ProtD)(lo hi:Nat)(c:World)(l:∀q o,(@default ProtD p).z q=some o→q<lo)(h:hi≤c.heap.size):∃p1,Own p lo hi c p1:=⟨⟨⟨fun q=>if lo≤q∧q<hi then c.heap[q]? else (@default ProtD p).z q⟩⟩,fun _=>rfl,l,h⟩
theorem obj_some{w:World}{q:Nat}(h:q<w.heap.size):∃o,w.heap[q]?=some o:=⟨_,Array.getElem?_eq_getElem h⟩
theorem GOk.enter{p:Inhabited ProtD}{B:Nat}{w w0:World}{g:Nat}{x:Hp}(h:@GOk p B w g x)(e:Ext w w0):∃p1,Own p w.heap.size w0.heap.size w0 p1∧@GOk p1 B w0 g x:=by
 have h0:=h;obtain⟨ar,kr,ac,kc,vg,br,bc,pb,pa,pk,role,h0⟩:=h0;obtain⟨_,_,_,_,_,_,_,_,_,pr,_⟩:=h0;obtain⟨p1,hp⟩:=Own.make p w.heap.size w0.heap.size w0 (fun q o hq=>obj_lt (pr q o hq).2) (Nat.le_refl _);refine⟨p1,hp,GOk.guard (z:=(@default ProtD p).z) (z2:=(@default ProtD p1).z) h e (fun q o hq=>?_)⟩;rw[hp.z] at hq
 split at hq
 ·rename_i c;exact .inr ⟨c.1,hq⟩
 ·exact .inl hq
theorem GOk.own{p p1:Inhabited ProtD}{lo hi:Nat}{c:World}(o:Own p lo hi c p1){B:Nat}{w:World}{g:Nat}{x:Hp}(h:@GOk p1 B w g x):∀q,lo≤q→q<hi→w.heap[q]?=c.heap[q]?:=fun q h1 h2=>by
 obtain⟨ar,kr,ac,kc,vg,br,bc,pb,pa,pk,role,h⟩:=h;obtain⟨_,_,_,_,_,_,_,_,_,pr,_⟩:=h;obtain⟨ob,hb⟩:=obj_some (w:=c) (q:=q) (by have:=o.h;omega);have:=(pr q ob (by rw[o.z q,if_pos ⟨h1,h2⟩];exact hb)).2;rw[this,hb]
theorem GOk.owns{p p1 p2:Inhabited ProtD}{lo hi:Nat}{c:World}(o:Own p lo hi c p1){B:Nat}{w w':World}{g:Nat}{x:Hp}(h:@GOk p1 B w g x)(on:Only (fun q=>lo≤q∧q<hi) w w')(hz:∀q ob,(@default ProtD p2).z q=some ob→(lo≤q∧q<hi∧w'.heap[q]?=some ob)∨(¬(lo≤q∧q<hi)∧(@default ProtD p).z q=some ob)):@GOk p2 B w' g x:=by
 obtain⟨ar,kr,ac,kc,vg,br,bc,pb,pa,pk,role,h⟩:=h;have h0:=h;obtain⟨_,_,_,_,_,_,_,_,_,pr,_⟩:=h0
 have r1:∀q,lo≤q→q<hi→role q=1:=fun q h1 h2=>by
  obtain⟨ob,hb⟩:=obj_some (w:=c) (q:=q) (by have:=o.h;omega);exact(pr q ob (by rw[o.z q,if_pos ⟨h1,h2⟩];exact hb)).1
 refine⟨ar,kr,ac,kc,vg,br,bc,pb,pa,pk,role,GAt.far (z:=(@default ProtD p1).z) (z2:=(@default ProtD p2).z) h on.size (fun q hq hn=>on.block q hq (fun e=>hn (r1 q e.1 e.2))) (fun _ _ _=>rfl) (fun q o2 hq=>?_)⟩;rcases hz q o2 hq with⟨a,b,d⟩ | ⟨a,d⟩
 ·exact⟨r1 q a b,d⟩
 ·obtain⟨h1,h2⟩:=pr q o2 (by rw[o.z q,if_neg a];exact d);exact⟨h1,(on.block q (obj_lt h2) a).trans h2⟩
theorem GOk.leave{p p1:Inhabited ProtD}{lo hi:Nat}{c:World}(o:Own p lo hi c p1){B:Nat}{w w':World}{g:Nat}{x:Hp}(h:@GOk p1 B w g x)(on:Only (fun q=>lo≤q∧q<hi) w w'):@GOk p B w' g x:=
 GOk.owns o h on (fun q ob hq=>.inr ⟨fun hc=>by have:=o.l q ob hq;omega,hq⟩)
structure Ak where
 op:Int
 a:Int
 b:Int
 c:Int
 n:Int
abbrev Ak.v(x:Ak):Value:=.agg #[iv x.op,iv x.a,iv x.b,iv x.c,iv x.n]
def AkAt(w:World)(b o:Nat)(x:Ak):Prop:=w.cell? ⟨b,o,none⟩=some (iv x.op)∧w.cell? ⟨b,o+1,none⟩=some (iv x.a)∧w.cell? ⟨b,o+2,none⟩=some (iv x.b)∧w.cell? ⟨b,o+3,none⟩=some (iv x.c)∧w.cell? ⟨b,o+4,none⟩=some (iv x.n)
abbrev SlA(w:World)(v:Value)(xs:List Ak):Prop:=SlOf (AkAt w) 5 v xs
theorem AkAt.ext{w w':World}(h:Ext w w'){b o:Nat}{x:Ak}(hx:AkAt w b o x):AkAt w' b o x:=⟨h.keep hx.1,h.keep hx.2.1,h.keep hx.2.2.1,h.keep hx.2.2.2.1,h.keep hx.2.2.2.2⟩
theorem SlA.ext{w w':World}(h:Ext w w'){v:Value}{xs:List Ak}(hx:SlA w v xs):SlA w' v xs:=hx.mono fun _ _ _ k=>k.ext h
theorem infoActs:(Tryz.prog.info? 43).map (fun i=>(i.zero,i.size,i.bytes))=some (some (.agg #[iv 0,iv 0,iv 0,iv 0,iv 0]),5,40):=by kernel_rfl
abbrev Ak.l(x:Ak):List Value:=[iv x.op,iv x.a,iv x.b,iv x.c,iv x.n]
def fA(y:Ak):List Value:=[iv y.op,iv y.a,iv y.b,iv y.c,iv y.n]
theorem ownA{w:World}{base:Nat}{v:Value}{L:List Ak}(h:w.ownsRow base 43 5 v L.length (L.flatMap fA))(hl:L.length≤1048576):SlA w v L:=by
 obtain⟨ad,cap,e,_,hx⟩:=own_cells (f:=fA) (fun _=>rfl) h;refine⟨ad,cap,e,by omega,fun i hi=>?_⟩;obtain⟨g,ea,_,_,hc⟩:=hx i hi;exact⟨g,0,ea,by have:=hc 0 (by omega);simpa [fA] using this,by have:=hc 1 (by omega);simpa [fA] using this,by have:=hc 2 (by omega);simpa [fA] using this,by have:=hc 3 (by omega);simpa [fA] using this,by have:=hc 4 (by omega);simpa [fA] using this⟩
theorem OkIs.all{x:Hp}(h:OkIs x 0):R1 x∧R2 x∧R3 x∧R4 x:=by
 unfold OkIs at h;rcases h with h | h | h | h | h | h | h | h | h
 ·omega
 ·omega
 ·omega
 ·omega
 ·omega
 ·omega
 ·omega
 ·omega
 ·exact⟨h.1,h.2.1,h.2.2.1,h.2.2.2.1⟩
theorem OkIs.n8{x:Hp}(h:OkIs x 0):x.cells.length≤8000:=by have:=h.all.1.room;have:=h.all.1.cells;omega
theorem OkIs.p200{x:Hp}(h:OkIs x 0)(i:Nat)(hi:i<x.cells.length):(x.c i).prs.length≤200:=by
 rcases h.all.2.1.1 i hi with c | c | c
 ·have:=c.2.1.2.2.2.2.2;omega
 ·have:=c.2.1.2.2.2.2.2;omega
 ·exact c.2.2.2.2.2.2.2
def resW(x:Hp)(y:Wd):Wd:=if y.k=2∧(x.c y.a.toNat).st=2 then ⟨2,0,(x.c y.a.toNat).to⟩ else y
end Go.Proofs.YtnegjhddmfiefaaGreatDoor
