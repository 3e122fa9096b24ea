import Derived.Test.YtddkhnclmeikfaaGreatSpecB
import Derived.Test.YtddkhnclmeikfaaGreatPro
import Derived.Test.YtddkhnclmeikfaaGreatAo
import Derived.Deep.LoopGhost
import Derived.Deep.RegionLaw
import Derived.Deep.RegionWith
import Derived.OwnWalk
set_option maxRecDepth 100000
set_option maxHeartbeats 8000000
namespace Go.Proofs.YtddkhnclmeikfaaGreat
open Go.RowKit
attribute [local go_sem ↓] Go.wp_at_zero Go.wp_at_succ
variable{x:Hp}{w w' W wr w3 w6 w5 w2 a:World}{L M L':List Int}{v vg v' vr vc vw:Value}{g B kc base n kr bs bc i cap k br kg j B7 kp:Nat}{ac ar ag ap:Option Addr}{y:Wd}{role pb pk role':Nat->Nat}{pa:Nat->Option Addr}{z:Int}{c:Cl}{xs:List Value}
structure CS(x:Hp)(w3 w6 wr:World)(vr vc vg:Value)(k:Nat)(L:List (Cl×Value)):Prop where
 own:wr.ownsRow w6.heap.size 62 8 vc k (L.flatMap fC)
 eq:L.map (·.1)=x.cells.take k
 prs:∀z,z∈L->wr.ownsRow w6.heap.size 154 6 z.2 z.1.prs.length (z.1.prs.flatMap fP)/\∀q,z.2.ownBlock=some q->vc.ownBlock≠some q
 dis:∀i j (hi:i<L.length) (hj:j<L.length),i≠j->∀q,L[i].2.ownBlock=some q->L[j].2.ownBlock≠some q
 bx:dY wr w3.heap.size x vr vc vg
 fz:∀o,wr.frozen? ⟨w3.heap.size,o,none⟩=false
 on:uX (λq=>q=w3.heap.size) w6 wr
 ex:Ext w3 wr
 lt:w3.heap.size<w6.heap.size
theorem CS.ext{L:List (Cl×Value)}(h:CS x w3 w6 wr vr vc vg k L)(e:Ext wr w'):CS x w3 w6 w' vr vc vg k L where
 own:=uN h.own (λq hq=>e.block q (h.own.lt q hq).2)
 eq:=h.eq
 prs:=λz hz=>⟨uN (h.prs z hz).1 (λq hq=>e.block q ((h.prs z hz).1.lt q hq).2),(h.prs z hz).2⟩
 dis:=h.dis
 bx:=h.bx.ext e
 fz:=λo=>((dH e).2 _ o (Nat.lt_of_lt_of_le h.lt h.on.size)).trans (h.fz o)
 on:=h.on.trans ⟨e.os,e.tape,e.output,e.size,λq hq _=>e.block q hq⟩
 ex:=h.ex.trans e
 lt:=h.lt
theorem CS.len{L:List (Cl×Value)}(h:CS x w3 w6 wr vr vc vg k L)(hk:k<=x.cells.length):L.length=k:=by
 have:=congrArg List.length h.eq
 simpa [Nat.min_eq_left hk] using this
theorem CS.push{L:List (Cl×Value)}{z:Cl×Value}(h:CS x w3 w6 W vr vc vg k L)(hk:k<x.cells.length)(hz:z.1=x.cells[k])(hg:W.grownBy w5 vc.ownBlock)(h5:w5.ownsRow w6.heap.size 62 8 v' (k+1) (L.flatMap fC++fC z))
  (hv':v'.ownBlock=some g) (hat:vc.ownBlock=some g\/g=W.heap.size) (hp:W.ownsRow B7 154 6 z.2 z.1.prs.length (z.1.prs.flatMap fP)) (h7:w6.heap.size<=B7) (hvn:∀q,vc.ownBlock=some q->q<B7) (hvp:∀y,y∈L->∀q,y.2.ownBlock=some q->q<B7) :
  CS x w3 w6 (w5.setCell ⟨w3.heap.size,4,none⟩ v') vr v' vg (k+1) (L++[z]):=by
 have hbW:w3.heap.size<W.heap.size:=Nat.lt_of_lt_of_le h.lt h.on.size;obtain⟨b1,b2,b3,b4,b5,b6⟩:=b2p (o:=4) (u:=v') (bg:=w3.heap.size) h.lt h.ex h.own (Nat.le_refl _) hbW hg h5
 have key:∀y,y∈L++[z]->W.ownsRow w6.heap.size 154 6 y.2 y.1.prs.length (y.1.prs.flatMap fP)/\∀q,y.2.ownBlock=some q->vc.ownBlock≠some q:=λy hy=>by
  rcases List.mem_append.1 hy with q | q
  ·exact h.prs y q
  ·rw[List.mem_singleton] at q;subst q;exact⟨a3y hp h7,λq e e'=>by have:=(hp.lt q e).1;have:=hvn q e';omega⟩
 have hb:dY w5 w3.heap.size x vr vc vg:=h.bx.block (hg.block w3.heap.size hbW (λe=>by have:=(h.own.lt _ e.symm).1;have:=h.lt;omega));refine⟨by simpa using b1,?_,λy hy=>?_,λi j hi hj hne q e e'=>?_,hb.set4 v',λo=>(b4 o).trans (h.fz o),?_,b2,h.lt⟩
 ·rw[List.map_append,h.eq,List.take_succ_eq_append_getElem hk];simp [hz]
 ·have kk:=key y hy;refine⟨uN kk.1 (λq hq=>b6 q (kk.1.lt q hq).2 (λe=>by have:=(kk.1.lt q hq).1;have:=h.lt;omega) (kk.2 q hq)),λq e e'=>?_⟩;rw[hv'] at e'
  injection e' with e'
  subst e';rcases hat with r | r
  ·exact kk.2 g e r
  ·have:=(kk.1.lt g e).2;omega
 ·simp only [List.getElem_append] at e e';simp at hi hj;by_cases hi':i<L.length <;> by_cases hj':j<L.length
  ·simp only [hi',hj',dite_true] at e e';exact h.dis i j hi' hj' hne q e e'
  ·simp only [hi',hj',dite_true,dite_false,List.getElem_singleton] at e e';have:=hvp _ (List.getElem_mem hi') q e;have:=(hp.lt q e').1;omega
  ·simp only [hi',hj',dite_true,dite_false,List.getElem_singleton] at e e';have:=hvp _ (List.getElem_mem hj') q e';have:=(hp.lt q e).1;omega
  ·omega
 ·exact⟨hg.os.trans h.on.os,hg.tape.trans h.on.tape,hg.output.trans h.on.output,by have:=hg.size;have:=h.on.size;simp only [World.setCell,Array.size_modify];omega,λq hq hne=>(b6 q (Nat.lt_of_lt_of_le hq h.on.size) hne (λe=>by have:=(h.own.lt q e).1;omega)).trans (h.on.block q hq hne)⟩
structure CB(wr W:World)(c:Cl)(ap:Option Addr)(kp:Nat)(v:Value):Prop where
 p7:W.cell? ⟨wr.heap.size,7,none⟩=some (.slice ap c.prs.length kp)
 n:S7 W (wr.heap.size+1) 0 c
 n7:W.cell? ⟨wr.heap.size+1,7,none⟩=some v
 f:∀o,W.frozen? ⟨wr.heap.size+1,o,none⟩=false
 ex:Ext wr W
theorem CB.ext{W':World}(h:CB wr W c ap kp v)(e:Ext W W'):CB wr W' c ap kp v:=
 ⟨e.keep h.p7,h.n.of λ_ _=>e.cell (p:=⟨wr.heap.size+1,_,none⟩) (show wr.heap.size+1<W.heap.size from uL h.n7),e.keep h.n7,λo=>((dH e).2 _ o (uL h.n7)).trans (h.f o),h.ex.trans e⟩
theorem CB.push{n':Nat}{ys:List Value}(h:CB wr W c ap kp v)(hW:W.ownsRow B7 154 6 v n xs)(h7:wr.heap.size+1<B7)(hg:W.grownBy w5 v.ownBlock)(h5:w5.ownsRow B7 154 6 v' n' ys):
  (w5.setCell ⟨wr.heap.size+1,7,none⟩ v').ownsRow B7 154 6 v' n' ys/\CB wr (w5.setCell ⟨wr.heap.size+1,7,none⟩ v') c ap kp v':=by
 obtain⟨b1,b2,b3,b4,b5,b6⟩:=b2p (o:=7) (u:=v') (bg:=wr.heap.size+1) h7 h.ex hW (Nat.le_succ _) (uL h.n7) hg h5;refine⟨b1,?_,h.n.of λj hj=>b3 _ (by omega),b5 _ h.n7,λo=>(b4 o).trans (h.f o),b2⟩;exact(World.cell?_of_block (a:=⟨wr.heap.size,7,none⟩) (b6 wr.heap.size (uL h.p7) (by omega) (λe=>by have:=(hW.lt _ e).1;omega))).trans h.p7
theorem CB.start(wr:World)(c:Cl)(ap:Option Addr)(kp:Nat)(t1 t2:TypeId):CB wr ((wr.alloc (.cells #[iv c.st,iv c.kind,iv c.weak,iv c.last,iv c.born,iv c.color,iv c.to,.slice ap c.prs.length kp] t1)).alloc (.cells #[iv c.st,iv c.kind,iv c.weak,iv c.last,iv c.born,iv c.color,iv c.to,.slice none 0 0] t2)) c ap kp (.slice none 0 0):=
 ⟨by simp [go_sem],⟨by simp [go_sem],by simp [go_sem],by simp [go_sem],by simp [go_sem],by simp [go_sem],by simp [go_sem],by simp [go_sem]⟩,by simp [go_sem],λo=>by simp [go_sem],((Ext.refl wr).alloc _).alloc _⟩
theorem c3e{t sz:Nat}{a:Option Addr}(h:w.ownsRow B t sz (.slice a n k) n xs):n<=k:=by
 rcases h.2 with⟨h0,h1⟩ | ⟨g,cap,cur,h0,_,_,hn,_⟩
 ·omega
 ·simp only [Value.slice.injEq] at h0;omega
structure GSep(x:Hp)(role:Nat->Nat)(g br bc:Nat)(pb pk:Nat->Nat)(vg:Value):Prop where
 g:role g=0
 r:0<x.regs.length->role br=2
 c:0<x.cells.length->role bc=3
 y:∀q,vg.ownBlock=some q->role q=4
 p:∀q,q<x.cells.length->0<pk q->role (pb q)=6+q
structure Ccp(B:Nat)(w:World)(ac:Option Addr)(bc kc:Nat)(role:Nat->Nat):Prop where
 ad:ac=some ⟨bc,0,none⟩
 ro:role bc=3
 nf:Nf1 bc w
 cp:∀j,j<kc*8->∃v,w.cell? ⟨bc,j,none⟩=some v
 lo:B<=bc
theorem Ccp.cells(h:Ccp B w ac bc kc role)(hr:role' bc=role bc)(n:Nf1 bc w')(c:∀j v,j<kc*8->w.cell? ⟨bc,j,none⟩=some v->∃u,w'.cell? ⟨bc,j,none⟩=some u):Ccp B w' ac bc kc role':=
 ⟨h.ad,hr.trans h.ro,n,λj hj=>let ⟨v,hv⟩:=h.cp j hj;c j v hj hv,h.lo⟩
theorem Ccp.block(h:Ccp B w ac bc kc role)(hr:role' bc=role bc)(hb:w'.heap[bc]?=w.heap[bc]?)(hs:w.heap.size<=w'.heap.size):Ccp B w' ac bc kc role':=
 h.cells hr (cU h.nf hb hs) (λj v _ hv=>⟨v,(World.cell?_of_block (a:=⟨bc,j,none⟩) hb).trans hv⟩)
theorem S7.some{w:World}{b o:Nat}{c:Cl}(h:S7 w b o c)(j:Nat)(hj:j<7):∃v,w.cell? ⟨b,o+j,none⟩=some v:=by
 obtain⟨h0,h1,h2,h3,h4,h5,h6⟩:=h
 match j,hj with
 | 0,_=>exact⟨_,h0⟩
 | 1,_=>exact⟨_,h1⟩
 | 2,_=>exact⟨_,h2⟩
 | 3,_=>exact⟨_,h3⟩
 | 4,_=>exact⟨_,h4⟩
 | 5,_=>exact⟨_,h5⟩
 | 6,_=>exact⟨_,h6⟩
structure GAt[Inhabited uZ](B:Nat)(w:World)(g:Nat)(x:Hp)(ar:Option Addr)(kr:Nat)(ac:Option Addr)(kc:Nat)(vg:Value)(br bc:Nat)(pb:Nat->Nat)(pa:Nat->Option Addr)(pk:Nat->Nat)(role:Nat->Nat):Prop where
 bx:dY w g x (.slice ar x.regs.length kr) (.slice ac x.cells.length kc) vg
 nf:Nf1 g w
 lo:B<=g
 ha:0<x.regs.length->ar=some ⟨br,0,none⟩
 hc:0<x.cells.length->ac=some ⟨bc,0,none⟩
 rw:Rws B w x br bc pb pa pk
 gr:Grw w B vg x.gray
 sp:GSep x role g br bc pb pk vg
 kl:x.cells.length<=kc
 pr:Prt w role
 cc:0<kc->Ccp B w ac bc kc role
theorem GAt.ext[Inhabited uZ](h:GAt B w g x ar kr ac kc vg br bc pb pa pk role)(e:Ext w w'):GAt B w' g x ar kr ac kc vg br bc pb pa pk role:=
 ⟨h.bx.ext e,h.nf.ext e,h.lo,h.ha,h.hc,h.rw.ext e,h.gr.block (λq hq=>e.block q (h.gr.lt q hq).2),h.sp,h.kl,h.pr.of (λq hq _=>e.block q hq) (λ_ _ h=>h),λhk=>(h.cc hk).block rfl (e.block bc (h.cc hk).nf.1) e.size⟩
theorem GAt.start[Inhabited uZ](hz:∀q,(default:uZ).z q=none){w7:World}{vg0:Value}{L:List (Cl×Value)}(h:CS x w3 w6 wr (.slice ar x.regs.length kr) (.slice ac x.cells.length kc) vg0 x.cells.length L)(hr:wr.ownsRow (w3.heap.size+1) 152 3 (.slice ar x.regs.length kr) x.regs.length (x.regs.flatMap fW))(hr6:∀q,(Value.slice ar x.regs.length kr).ownBlock=some q->q<w6.heap.size)
  (h0:0<x.regs.length) (hB:B<=w3.heap.size) (o7:uX (λq=>q=w3.heap.size) wr w7) (hb7:dY w7 w3.heap.size x (.slice ar x.regs.length kr) (.slice ac x.cells.length kc) vg) (f7:Nf1 w3.heap.size w7) (hg:w7.ownsRow wr.heap.size 3 1 vg x.gray.length (x.gray.map iv)) :
  ∃br bc pb pa pk role,GAt B w7 w3.heap.size x ar kr ac kc vg br bc pb pa pk role:=by
 have hll:L.length=x.cells.length:=h.len (Nat.le_refl _);have eL:L.map (·.1)=x.cells:=by rw[h.eq,List.take_length]
 have hlt:=h.lt;have hon:=h.on.size
 have l1:∀q (hq:q<x.cells.length),(L.getD q (Cl0,.slice none 0 0))∈L/\(L.getD q (Cl0,.slice none 0 0)).1=x.c q/\(L.getD q (Cl0,.slice none 0 0))=L[q]'(by omega):=λq hq=>by
  have e0:L.getD q (Cl0,.slice none 0 0)=L[q]'(by omega):=by simp [hll,hq]
  refine⟨by rw[e0];exact List.getElem_mem _,?_,e0⟩;have e:x.cells[q]=(L.map (·.1))[q]'(by simpa [hll] using hq):=by simp [eL]
  rw[<-Hp.c_eq x q hq,e,e0];simp
 have own8:0<x.cells.length->Nf1 (eJ (.slice ac x.cells.length kc)) wr/\w6.heap.size<=eJ (.slice ac x.cells.length kc):=λhn=>b0j h.own hn
 have cell8:∀q,q<x.cells.length->∀j,j<8->wr.cell? ⟨eJ (.slice ac x.cells.length kc),q*8+j,none⟩=(fC (L.getD q (Cl0,.slice none 0 0)))[j]?:=λq hq j hj=>by
  have:=a8i (f:=fC) (λ_=>rfl) (L:=L) (by rw[hll];exact h.own) q (by omega) j hj;rw[this,(l1 q hq).2.2]
 have hbr:=b0j hr h0;have hbr6:eJ (.slice ar x.regs.length kr)<w6.heap.size:=hr6 _ ((a0n hr).2 h0).2
 have prs:∀q,q<x.cells.length->wr.ownsRow w6.heap.size 154 6 (L.getD q (Cl0,.slice none 0 0)).2 (x.c q).prs.length ((x.c q).prs.flatMap fP)/\∀b,(L.getD q (Cl0,.slice none 0 0)).2.ownBlock=some b->(Value.slice ac x.cells.length kc).ownBlock≠some b:=λq hq=>by
  have:=h.prs _ (l1 q hq).1;rw[(l1 q hq).2.1] at this;exact this
 have dis:∀q q',q<x.cells.length->q'<x.cells.length->q≠q'->∀b,(L.getD q (Cl0,.slice none 0 0)).2.ownBlock=some b->(L.getD q' (Cl0,.slice none 0 0)).2.ownBlock≠some b:=λq q' hq hq' hne b hb=>by
  rw[(l1 q hq).2.2] at hb;rw[(l1 q' hq').2.2];exact h.dis q q' (by omega) (by omega) hne b hb
 have RW:=Rws.of (B:=w3.heap.size+1) (w:=wr) (x:=x) (vr:=.slice ar x.regs.length kr) (bc:=eJ (.slice ac x.cells.length kc)) (pv:=λq=>(L.getD q (Cl0,.slice none 0 0)).2) hr (λq hq=>by
   rw[<-(l1 q hq).2.1];have:=cell8 q hq
   exact⟨this 0 (by omega),this 1 (by omega),this 2 (by omega),this 3 (by omega),this 4 (by omega),this 5 (by omega),this 6 (by omega)⟩) (λq hq=>cell8 q hq 7 (by omega)) (λhn=>⟨(own8 hn).1,by have:=(own8 hn).2;omega⟩) (λhn=>by have:=(own8 hn).2;omega) (λq hq=>⟨a3y (prs q hq).1 (by omega),λb hb=>⟨by have:=((prs q hq).1.lt b hb).1;omega,λe=>by
    have hn:0<x.cells.length:=by omega
    exact(prs q hq).2 b hb (by rw[((a0n h.own).2 hn).2,e])⟩⟩) dis
 have RW7:=RW.only o7 (λhl e=>by have:=(RW.nr hl).2;omega) (λhl e=>by have:=(RW.nc hl).2;omega) (λq hq hl e=>by have:=(RW.pl q hq hl).2.2.2;omega)
 refine⟨_,_,_,_,_,λq=>if q=w3.heap.size then 0 else if wr.heap.size<=q then 4 else if q=eJ (.slice ar x.regs.length kr) then 2 else if 0<kc/\q=eJ (.slice ac x.cells.length kc) then 3 else
  (open Classical in if h:∃i,i<x.cells.length/\0<yY (L.getD i (Cl0,.slice none 0 0)).2/\eJ (L.getD i (Cl0,.slice none 0 0)).2=q then 6+Classical.choose h else 5),hb7,f7,hB,λh=>((a0n hr).2 h).1,λhn=>((a0n h.own).2 hn).1,RW7.less (by omega),Grw.of (a3y hg (by omega)),⟨if_pos rfl,λhl=>?_,λhl=>?_,λq hq=>?_,λq hq hl=>?_⟩,c3e h.own,λq o h=>(by rw[hz q] at h;cases h),λhk=>?_⟩
 ·have:=(RW.nr hl).2;have:=(RW.nr hl).1.1;rw[if_neg (by omega),if_neg (by omega),if_pos rfl]
 ·have:=(RW.nc hl).2;have:=(RW.nc hl).1.1;rw[if_neg (by omega),if_neg (by omega),if_neg (λe=>RW.d hl e.symm),if_pos ⟨Nat.lt_of_lt_of_le hl (c3e h.own),rfl⟩]
 ·have:=(hg.lt q hq).1;rw[if_neg (by omega),if_pos (by omega)]
 ·have l2:=RW.pl q hq hl;have:=l2.2.2.2;have:=l2.2.1.1;have hex:∃i,i<x.cells.length/\0<yY (L.getD i (Cl0,.slice none 0 0)).2/\eJ (L.getD i (Cl0,.slice none 0 0)).2=eJ (L.getD q (Cl0,.slice none 0 0)).2:=⟨q,hq,hl,rfl⟩;rw[if_neg (by omega),if_neg (by omega),if_neg l2.2.2.1.1,if_neg (λe=>l2.2.2.1.2 e.2),dif_pos hex];have sp:=Classical.choose_spec hex
  have:Classical.choose hex=q:=by
   rcases Nat.decEq (Classical.choose hex) q with h | h
   ·exact absurd sp.2.2 (RW.dp _ q sp.1 hq h sp.2.1 hl)
   ·exact h
  rw[this]
 ·have hk2:0<yY (.slice ac x.cells.length kc):=hk;obtain⟨k1,k2,k3,k4,k5⟩:=c7g h.own hk2;have e7:=o7.block (eJ (.slice ac x.cells.length kc)) k3.1 (λe=>by omega);refine⟨k1,?_,cU k3 e7 o7.size,λj hj=>?_,by omega⟩
  ·have:=k3.1;rw[if_neg (by omega),if_neg (by omega),if_neg (by omega),if_pos ⟨hk,rfl⟩]
  ·obtain⟨u,hu⟩:=k4 j hj;exact⟨u,(World.cell?_of_block (a:=⟨_,j,none⟩) e7).trans hu⟩
theorem Hp.c_set(x:Hp)(i:Nat)(c:Cl)(hi:i<x.cells.length)(q:Nat):({ x with cells:=x.cells.set i c }:Hp).c q=if q=i then c else x.c q:=by
 simp only [Hp.c,List.getD_eq_getElem?_getD,List.getElem?_set];by_cases e:q=i
 ·subst e;simp [hi]
 ·rw[if_neg (λh=>e h.symm),if_neg e]
def mkB(x:Hp):Bool:=x.phase == 1 || x.phase == 2
def whB(c:Cl):Bool:=c.st == 1 && c.color == 0
def qD(x:Hp)(i:Nat):Bool:=mkB x && whB (x.c i)
def a2j(c:Cl):Cl:={ c with color:=1 }
def cC(x:Hp)(i:Nat):Hp:=if qD x i=true then { x with cells:=x.cells.set i (a2j (x.c i)),gray:=x.gray++[(i:Int)] } else x
def yE(x:Hp)(y:Wd):Bool:=mkB x && (y.k == 2 && (x.c y.a.toNat).color == 0)
def a5o(x:Hp)(y:Wd):Hp:=if yE x y=true then { x with cells:=x.cells.set y.a.toNat (a2j (x.c y.a.toNat)),gray:=x.gray++[y.a] } else x
theorem GAt.setc[Inhabited uZ]{c':Cl}(h:GAt B w g x ar kr ac kc vg br bc pb pa pk role)(hi:i<x.cells.length)(hp:c'.prs=(x.c i).prs)(o:uX (λq=>q=bc) w w')(hs:S7 w' bc (i*8) c')(ho:∀k,(k<i*8\/i*8+7<=k)->w'.cell? ⟨bc,k,none⟩=w.cell? ⟨bc,k,none⟩)(nf:Nf1 bc w'):
  GAt B w' g { x with cells:=x.cells.set i c' } ar kr ac kc vg br bc pb pa pk role:=by
 have hn:0<x.cells.length:=by omega
 have far:∀q,q<w.heap.size->role q≠3->w'.heap[q]?=w.heap[q]?:=λq hq hr=>o.block q hq (λe=>hr (by rw[e];exact h.sp.c hn))
 have hl:({ x with cells:=x.cells.set i c' }:Hp).cells.length=x.cells.length:=by simp
 have hc:=Hp.c_set x i c' hi
 have hpr:∀q,(({ x with cells:=x.cells.set i c' }:Hp).c q).prs=(x.c q).prs:=λq=>by
  rw[hc q];by_cases e:q=i
  ·rw[if_pos e,hp,e]
  ·rw[if_neg e]
 have fg:=far g h.nf.1 (by rw[h.sp.g];omega);have pf:∀q,q<x.cells.length->0<pk q->w'.heap[pb q]?=w.heap[pb q]?:=λq hq hl=>far (pb q) (h.rw.pl q hq hl).2.1.1 (by rw[h.sp.p q hq hl];omega)
 refine⟨?_,cU h.nf fg o.size,h.lo,h.ha,λ_=>h.hc hn,⟨λk hk=>?_,λq hq=>?_,λq hq=>?_,λq hq k hk=>?_,λq hq hlq=>?_,λhr=>⟨cU (h.rw.nr hr).1 (far br (h.rw.nr hr).1.1 (by rw[h.sp.r hr];omega)) o.size,(h.rw.nr hr).2⟩,λ_=>⟨nf,(h.rw.nc hn).2⟩,λ_=>h.rw.d hn,λq q' hq hq' hne h1 h2=>?_,λq hq=>?_⟩,h.gr.block (λq hq=>far q (h.gr.lt q hq).2 (by rw[h.sp.y q hq];omega)),⟨h.sp.g,h.sp.r,λ_=>h.sp.c hn,h.sp.y,λq hq hlq=>?_⟩,by rw[hl];exact h.kl,h.pr.of (λq hq h1=>far q hq (by rw[h1];omega)) (λ_ _ h=>h),λhk=>(h.cc hk).cells rfl nf (λj v _ hv=>?_)⟩
 ·rw[hl];exact(h.bx.block fg)
 ·exact(h.rw.r k hk).of λj _=>World.cell?_of_block (a:=⟨br,_,none⟩) (far br (h.rw.nr (by have:k<x.regs.length:=hk;omega)).1.1 (by rw[h.sp.r (by have:k<x.regs.length:=hk;omega)];omega))
 ·rw[hl] at hq;rw[hc q];by_cases e:q=i
  ·subst e;rw[if_pos rfl];exact hs
  ·rw[if_neg e];exact(h.rw.s q hq).of λj hj=>ho _ (by omega)
 ·rw[hl] at hq;rw[hpr q,ho _ (by omega)];exact h.rw.p7 q hq
 ·rw[hl] at hq;have e2:(({ x with cells:=x.cells.set i c' }:Hp).c q).p k=(x.c q).p k:=by simp only [Cl.p,hpr q]
  rw[hpr q] at hk;rw[e2];exact(h.rw.p q hq k hk).of λj _=>World.cell?_of_block (a:=⟨pb q,_,none⟩) (pf q hq (h.rw.pw hq (by omega)))
 ·rw[hl] at hq;obtain⟨a1,a2,a3⟩:=h.rw.pl q hq hlq;exact⟨a1,a0f a2 (pf q hq hlq) o.size,a3⟩
 ·rw[hl] at hq hq';exact h.rw.dp q q' hq hq' hne h1 h2
 ·rw[hl] at hq;rw[hpr q];exact h.rw.kp q hq
 ·rw[hl] at hq;exact h.sp.p q hq hlq
 ·by_cases e:j<i*8\/i*8+7<=j
  ·exact⟨v,(ho j e).trans hv⟩
  ·have:=hs.some (j-i*8) (by omega);rw[show i*8+(j-i*8)=j by omega] at this;exact this
theorem GAt.push[Inhabited uZ]{i:Int}{gb go:Nat}(h:GAt B W g x ar kr ac kc vg br bc pb pa pk role)(hg:W.grownBy w5 vg.ownBlock)(h5:Grw w5 B (.slice (some ⟨gb,go,none⟩) (x.gray.length+1) cap) (x.gray++[i]))(hat:vg.ownBlock=some gb\/gb=W.heap.size):
  GAt B (w5.setCell ⟨g,8,none⟩ (.slice (some ⟨gb,go,none⟩) (x.gray.length+1) cap)) g { x with gray:=x.gray++[i] } ar kr ac kc (.slice (some ⟨gb,go,none⟩) (x.gray.length+1) cap) br bc pb pa pk (λq=>if q=gb then 4 else role q):=by
 have hgb:∀q,q<W.heap.size->role q≠4->q≠gb:=λq hq hr e=>by
  rcases hat with a | a
  ·exact hr (by rw[e];exact h.sp.y gb a)
  ·omega
 have far:∀q,q<W.heap.size->role q≠4->w5.heap[q]?=W.heap[q]?:=λq hq hr=>hg.block q hq (λe=>hr (h.sp.y q e.symm))
 have hb:=h.nf.1;have rb:role g≠4:=by rw[h.sp.g];omega
 have fb:=far g hb rb;have nbg:=hgb g hb rb;have far2:∀q,q<W.heap.size->role q≠4->q≠g->(w5.setCell ⟨g,8,none⟩ (.slice (some ⟨gb,go,none⟩) (x.gray.length+1) cap)).heap[q]?=W.heap[q]?:=λq hq hr hne=>(Below.heap_setCell _ _ _ _ hne).trans (far q hq hr)
 have hsz:W.heap.size<=(w5.setCell ⟨g,8,none⟩ (.slice (some ⟨gb,go,none⟩) (x.gray.length+1) cap)).heap.size:=by have:=hg.size;simpa [World.setCell] using this
 have rw2:=h.rw.same hsz (λhl=>far2 br (h.rw.nr hl).1.1 (by rw[h.sp.r hl];omega) (λe=>by have h1:=h.sp.r hl;have h2:=h.sp.g;rw[e] at h1;omega)) (λhl=>far2 bc (h.rw.nc hl).1.1 (by rw[h.sp.c hl];omega) (λe=>by have h1:=h.sp.c hl;have h2:=h.sp.g;rw[e] at h1;omega)) (λq hq hl=>far2 (pb q) (h.rw.pl q hq hl).2.1.1 (by rw[h.sp.p q hq hl];omega) (λe=>by have h1:=h.sp.p q hq hl;have h2:=h.sp.g;rw[e] at h1;omega));refine⟨(h.bx.block fb).set8 _,(cU h.nf fb hg.size).set _ _,h.lo,h.ha,h.hc,⟨rw2.r,rw2.s,rw2.p7,rw2.p,rw2.pl,rw2.nr,rw2.nc,rw2.d,rw2.dp,rw2.kp⟩,?_,⟨?_,λhl=>?_,λhl=>?_,λq hq=>?_,λq hq hl=>?_⟩,h.kl,h.pr.of (λq hq h1=>far2 q hq (by rw[h1];omega) (λe=>by have h2:=h.sp.g;rw[e] at h1;omega)) (λq hq h1=>by(try dsimp only);rw[if_neg (hgb q hq (by rw[h1];omega))];exact h1),λhk=>(h.cc hk).block (if_neg (hgb bc (h.cc hk).nf.1 (by rw[(h.cc hk).ro];omega))) (far2 bc (h.cc hk).nf.1 (by rw[(h.cc hk).ro];omega) (λe=>by have h1:=(h.cc hk).ro;have h2:=h.sp.g;rw[e] at h1;omega)) hsz⟩
 ·exact h5.block (w':=w5.setCell ⟨g,8,none⟩ (.slice (some ⟨gb,go,none⟩) (x.gray.length+1) cap)) (λq hq=>Below.heap_setCell _ _ _ _ (λe=>nbg (by simp [Value.ownBlock] at hq;rw[hq];exact e.symm)))
 ·rw[if_neg nbg];exact h.sp.g
 ·rw[if_neg (hgb br (h.rw.nr hl).1.1 (by rw[h.sp.r hl];omega))];exact h.sp.r hl
 ·rw[if_neg (hgb bc (h.rw.nc hl).1.1 (by rw[h.sp.c hl];omega))];exact h.sp.c hl
 ·simp [Value.ownBlock] at hq;rw[if_pos hq.symm]
 ·rw[if_neg (hgb (pb q) (h.rw.pl q hq hl).2.1.1 (by rw[h.sp.p q hq hl];omega))];exact h.sp.p q hq hl
theorem a8d(x:Hp)(b:Nat)(w:World)(c5:w.cell? ⟨b,5,none⟩=some (iv x.phase)):
  Calls Tryz.prog 250 #[.pointer (some ⟨b,0,none⟩)] w λe w'=>e=.returned (.bool (mkB x))/\w'=w:=by
 cases q:(x.phase == 1)
 ·have E:=uU (show mkB x=(x.phase == 2) by simp [mkB,q]);go_enter Tryz.func250,Tryz.ntmps250;go_wp2_with fail;go_ret;exact⟨by rw[uH E];rfl,rfl⟩
 ·have E:=uU (show mkB x=true by simp [mkB,q]);go_enter Tryz.func250,Tryz.ntmps250;go_wp2_with fail;go_ret;exact⟨by rw[uH E];rfl,rfl⟩
def GOk[Inhabited uZ](B:Nat)(w:World)(g:Nat)(x:Hp):Prop:=∃ar kr ac kc vg br bc pb pa pk role,GAt B w g x ar kr ac kc vg br bc pb pa pk role
theorem GOk.ext[Inhabited uZ](h:GOk B w g x)(e:Ext w w'):GOk B w' g x:=by
 obtain⟨ar,kr,ac,kc,vg,br,bc,pb,pa,pk,role,h⟩:=h;exact⟨ar,kr,ac,kc,vg,br,bc,pb,pa,pk,role,h.ext e⟩
theorem GAt.boxed[Inhabited uZ]{x':Hp}(h:GAt B w g x ar kr ac kc vg br bc pb pa pk role)(o:uX (λq=>q=g) w w')(nf:Nf1 g w')(hr:x'.regs=x.regs)(hc:x'.cells=x.cells)(hg:x'.gray=x.gray)(bx:dY w' g x' (.slice ar x.regs.length kr) (.slice ac x.cells.length kc) vg):GAt B w' g x' ar kr ac kc vg br bc pb pa pk role:=by
 have far:∀q,q<w.heap.size->role q≠0->w'.heap[q]?=w.heap[q]?:=λq hq hn=>o.block q hq (λe=>hn (by rw[e];exact h.sp.g))
 have cc:∀q,x'.c q=x.c q:=λq=>by simp only [Hp.c,hc]
 have rw2:=h.rw.same o.size (λhl=>far br (h.rw.nr hl).1.1 (by rw[h.sp.r hl];omega)) (λhl=>far bc (h.rw.nc hl).1.1 (by rw[h.sp.c hl];omega)) (λq hq hl=>far (pb q) (h.rw.pl q hq hl).2.1.1 (by rw[h.sp.p q hq hl];omega));refine⟨by rw[hr,hc];exact bx,nf,h.lo,by rw[hr];exact h.ha,by rw[hc];exact h.hc,?_,by rw[hg];exact h.gr.block (λq hq=>far q (h.gr.lt q hq).2 (by rw[h.sp.y q hq];omega)),?_,by rw[hc];exact h.kl,h.pr.of (λq hq h1=>far q hq (by rw[h1];omega)) (λ_ _ h=>h),λhk=>(h.cc hk).block rfl (far bc (h.cc hk).nf.1 (by rw[(h.cc hk).ro];omega)) o.size⟩
 ·refine⟨λi hi=>?_,λq hq=>?_,λq hq=>?_,λq hq k hk=>?_,λq hq hl=>?_,?_,?_,?_,λq q' hq hq' hne h1 h2=>?_,λq hq=>?_⟩
  ·have hi2:i<x.regs.length:=by rw[<-hr];exact hi
   have e2:x'.regs[i]=x.regs[i]:=by simp [hr]
   rw[e2];exact rw2.r i hi2
  ·rw[hc] at hq;rw[cc];exact rw2.s q hq
  ·rw[hc] at hq;rw[cc];exact rw2.p7 q hq
  ·rw[hc] at hq;rw[cc] at hk ⊢;exact rw2.p q hq k hk
  ·rw[hc] at hq;exact rw2.pl q hq hl
  ·rw[hr];exact rw2.nr
  ·rw[hc];exact rw2.nc
  ·rw[hc];exact rw2.d
  ·rw[hc] at hq hq';exact rw2.dp q q' hq hq' hne h1 h2
  ·rw[hc] at hq;rw[cc];exact rw2.kp q hq
 ·refine⟨h.sp.g,by rw[hr];exact h.sp.r,by rw[hc];exact h.sp.c,h.sp.y,λq hq hl=>?_⟩;rw[hc] at hq;exact h.sp.p q hq hl
theorem GOk.set6[Inhabited uZ](h:GOk B w g x)(v:Int):GOk B (w.setCell ⟨g,6,none⟩ (iv v)) g { x with hand:=v }:=by
 obtain⟨ar,kr,ac,kc,vg,br,bc,pb,pa,pk,role,h⟩:=h;exact⟨_,_,_,_,_,_,_,_,_,_,_,h.boxed (x':={ x with hand:=v }) (uX.setCell (S:=λq=>q=g) (uX.refl _ w) (p:=⟨g,6,none⟩) rfl _) (h.nf.set _ _) rfl rfl rfl (h.bx.set6 v)⟩
theorem GOk.set7[Inhabited uZ](h:GOk B w g x)(v:Int):GOk B (w.setCell ⟨g,7,none⟩ (iv v)) g { x with sub:=v }:=by
 obtain⟨ar,kr,ac,kc,vg,br,bc,pb,pa,pk,role,h⟩:=h;exact⟨_,_,_,_,_,_,_,_,_,_,_,h.boxed (x':={ x with sub:=v }) (uX.setCell (S:=λq=>q=g) (uX.refl _ w) (p:=⟨g,7,none⟩) rfl _) (h.nf.set _ _) rfl rfl rfl (h.bx.set7 v)⟩
theorem GOk.box[Inhabited uZ](h:GOk B w g x):w.cell? ⟨g,6,none⟩=some (iv x.hand)/\w.cell? ⟨g,7,none⟩=some (iv x.sub)/\w.cell? ⟨g,5,none⟩=some (iv x.phase)/\(∀o,w.frozen? ⟨g,o,none⟩=false)/\B<=g/\g<w.heap.size:=by
 obtain⟨ar,kr,ac,kc,vg,br,bc,pb,pa,pk,role,h⟩:=h;exact⟨h.bx.2.2.2.2.2.2.1,h.bx.2.2.2.2.2.2.2.1,h.bx.2.2.2.2.2.1,h.nf.2,h.lo,h.nf.1⟩
theorem eU.all(h:eU x 0):R1 x/\R2 x/\R3 x/\R4 x:=by
 unfold eU at h;rcases h with h | h | h | h | h | h | h | h | h
 ·omega
 ·omega
 ·omega
 ·omega
 ·omega
 ·omega
 ·omega
 ·omega
 ·exact⟨h.1,h.2.1,h.2.2.1,h.2.2.2.1⟩
theorem eU.n8(h:eU x 0):x.cells.length<=8000:=by have:=h.all.1.room;have:=h.all.1.cells;omega
theorem eU.p200(h:eU x 0)(i:Nat)(hi:i<x.cells.length):(x.c i).prs.length<=200:=by
 rcases h.all.2.1.1 i hi with c | c | c
 ·have:=c.2.1.2.2.2.2.2;omega
 ·have:=c.2.1.2.2.2.2.2;omega
 ·exact c.2.2.2.2.2.2.2
def zU(x:Hp)(y:Wd):Wd:=if y.k=2/\(x.c y.a.toNat).st=2 then ⟨2,0,(x.c y.a.toNat).to⟩ else y
theorem c7j(y:Wd)(b:Nat)(w:World)(k2:(y.k == 2)=false):
  Calls Tryz.prog 138 #[.pointer (some ⟨b,0,none⟩),y.v] w λe w'=>e=.returned y.v/\Ext w w':=by
 go_enter Tryz.func138,Tryz.ntmps138;go_wp2_with fail;go_quiet (fail);go_wp2_with fail;refine bodyPost_ret (v:=y.v) (by simp [results,Tryz.results138,go_sem]) rfl ⟨rfl,?_⟩
 repeat (first | exact Ext.refl _ | refine Ext.drewN ?_ _ | refine Ext.alloc ?_ _ | refine Ext.setCell ?_ (by show w.heap.size<=w.heap.size+1;omega) _)
theorem c4n(b bc n kc i:Nat)(st:Int)(w:World)(c4:w.cell? ⟨b,4,none⟩=some (.slice (some ⟨bc,0,none⟩) n kc))(p0:w.cell? ⟨bc,i*8,none⟩=some (iv st))(hi:i<n)(s2:(st == 2)=false):
  Calls Tryz.prog 138 #[.pointer (some ⟨b,0,none⟩),.agg #[iv 2,iv 0,iv i]] w λe w'=>e=.returned (.agg #[iv 2,iv 0,iv i])/\Ext w w':=by
 have hb:b<w.heap.size:=uL c4;have hb':bc<w.heap.size:=uL p0;have i0:(0:Int)<=(i:Int):=by omega
 have i1:(i:Int)<(n:Int):=by omega
 go_enter Tryz.func138,Tryz.ntmps138;go_wp2_with fail;go_quiet (fail);go_wp2_with fail;refine bodyPost_ret (v:=.agg #[iv 2,iv 0,iv i]) (by simp [results,Tryz.results138,go_sem]) rfl ⟨rfl,?_⟩
 repeat (first | exact Ext.refl _ | refine Ext.drewN ?_ _ | refine Ext.alloc ?_ _ | refine Ext.setCell ?_ (by show w.heap.size<=w.heap.size+1;omega) _)
theorem c1d(b bc n kc i:Nat)(st tv:Int)(w:World)(c4:w.cell? ⟨b,4,none⟩=some (.slice (some ⟨bc,0,none⟩) n kc))(p0:w.cell? ⟨bc,i*8,none⟩=some (iv st))(p6:w.cell? ⟨bc,i*8+6,none⟩=some (iv tv))(hi:i<n)(s2:(st == 2)=true):
  Calls Tryz.prog 138 #[.pointer (some ⟨b,0,none⟩),.agg #[iv 2,iv 0,iv i]] w λe w'=>e=.returned (.agg #[iv 2,iv 0,iv tv])/\Ext w w':=by
 have hb:b<w.heap.size:=uL c4;have hb':bc<w.heap.size:=uL p0;have i0:(0:Int)<=(i:Int):=by omega
 have i1:(i:Int)<(n:Int):=by omega
 go_enter Tryz.func138,Tryz.ntmps138;go_wp2_with fail;go_quiet (fail);go_wp2_with fail
 go_region
 all_goals
  go_wp2_with fail;refine bodyPost_ret (v:=.agg #[iv 2,iv 0,iv tv]) (by simp [results,Tryz.results138,go_sem]) rfl ⟨rfl,?_⟩
  repeat (first | exact Ext.refl _ | refine Ext.drewN ?_ _ | refine Ext.drew ?_ | refine Ext.alloc ?_ _ | refine Ext.setCell ?_ (by show w.heap.size<=w.heap.size+1;omega) _)
theorem a4w[Inhabited uZ](y:Wd)(w:World)(h:GAt B w g x ar kr ac kc vg br bc pb pa pk role)(hy:uJ y x.cells.length):
  Calls Tryz.prog 138 #[.pointer (some ⟨g,0,none⟩),y.v] w λe w'=>e=.returned (zU x y).v/\Ext w w':=by
 cases q:(y.k == 2)
 ·have e:zU x y=y:=by
   unfold zU;rw[if_neg];intro h;simp [h.1] at q
  rw[e];exact c7j y g w q
 ·have hk:y.k=2:=by simpa using q
  obtain⟨k,n,a⟩:=y;simp only at hk;subst hk;unfold uJ at hy;simp only at hy;obtain⟨i,rfl⟩:∃i:Nat,a=(i:Int):=⟨a.toNat,by omega⟩;obtain rfl:n=0:=by omega
  have hi:i<x.cells.length:=by omega
  have hn:0<x.cells.length:=by omega
  have c4:=h.bx.2.2.2.2.1;rw[h.hc hn] at c4;obtain⟨p0,_,_,_,_,_,p6⟩:=h.rw.s i hi;have ei:((i:Int)).toNat=i:=by omega
  cases q2:((x.c i).st == 2)
  ·have e:zU x ⟨2,0,i⟩=⟨2,0,i⟩:=by
    unfold zU;rw[if_neg];intro h;simp only [ei] at h;simp [h.2] at q2
   rw[e];exact c4n g bc _ kc i _ w c4 p0 hi q2
  ·have e:zU x ⟨2,0,i⟩=⟨2,0,(x.c i).to⟩:=by
    unfold zU;simp only [ei];rw[if_pos ⟨trivial,by simpa using q2⟩]
   rw[e];exact c1d g bc _ kc i _ _ w c4 p0 p6 hi q2
theorem a8f(y:Wd)(b:Nat)(w:World)(k2:(y.k == 2)=false):
  Calls Tryz.prog 138 #[.pointer (some ⟨b,0,none⟩),y.v] w λe w'=>e=.returned y.v/\Ext w w':=by
 go_enter Tryz.func138,Tryz.ntmps138;go_wp2_with fail;go_quiet (fail);go_wp2_with fail;refine bodyPost_ret (v:=y.v) (by simp [results,Tryz.results138,go_sem]) rfl ⟨rfl,?_⟩
 repeat (first | exact Ext.refl _ | refine Ext.drewN ?_ _ | refine Ext.alloc ?_ _ | refine Ext.setCell ?_ (by show w.heap.size<=w.heap.size+1;omega) _)
theorem b2s(x:Hp)(b i:Nat)(w:World)(h:HAt w b x ar kr ac kc ag kg)(hi:i<x.cells.length)(s2:((x.c i).st == 2)=false):
  Calls Tryz.prog 138 #[.pointer (some ⟨b,0,none⟩),.agg #[iv 2,iv 0,iv i]] w λe w'=>e=.returned (.agg #[iv 2,iv 0,iv i])/\Ext w w':=by
 obtain⟨b',o,ap,kp,rfl,C⟩:=h.cell i hi;have p0:=C.p0;have c4:=h.c4;have hb:b<w.heap.size:=uL c4;have hb':b'<w.heap.size:=uL p0;have i0:(0:Int)<=(i:Int):=by omega
 have i1:(i:Int)<(x.cells.length:Int):=by omega
 clear C h;go_enter Tryz.func138,Tryz.ntmps138;go_wp2_with fail;go_quiet (fail);go_wp2_with fail;refine bodyPost_ret (v:=.agg #[iv 2,iv 0,iv i]) (by simp [results,Tryz.results138,go_sem]) rfl ⟨rfl,?_⟩
 repeat (first | exact Ext.refl _ | refine Ext.drewN ?_ _ | refine Ext.alloc ?_ _ | refine Ext.setCell ?_ (by show w.heap.size<=w.heap.size+1;omega) _)
theorem b1w(x:Hp)(b i:Nat)(w:World)(h:HAt w b x ar kr ac kc ag kg)(hi:i<x.cells.length)(s2:((x.c i).st == 2)=true):
  Calls Tryz.prog 138 #[.pointer (some ⟨b,0,none⟩),.agg #[iv 2,iv 0,iv i]] w λe w'=>e=.returned (.agg #[iv 2,iv 0,iv (x.c i).to])/\Ext w w':=by
 obtain⟨b',o,ap,kp,rfl,C⟩:=h.cell i hi;have p0:=C.p0;have p6:=C.p6;have c4:=h.c4;have hb:b<w.heap.size:=uL c4;have hb':b'<w.heap.size:=uL p0;have i0:(0:Int)<=(i:Int):=by omega
 have i1:(i:Int)<(x.cells.length:Int):=by omega
 clear C h;go_enter Tryz.func138,Tryz.ntmps138;go_wp2_with fail;go_quiet (fail);go_wp2_with fail
 go_region
 all_goals
  go_wp2_with fail;refine bodyPost_ret (v:=.agg #[iv 2,iv 0,iv (x.c i).to]) (by simp [results,Tryz.results138,go_sem]) rfl ⟨rfl,?_⟩
  repeat (first | exact Ext.refl _ | refine Ext.drewN ?_ _ | refine Ext.drew ?_ | refine Ext.alloc ?_ _ | refine Ext.setCell ?_ (by show w.heap.size<=w.heap.size+1;omega) _)
def tD(x:Hp)(i:Nat):Nat:=if ((x.c i).st == 2)=true then (x.c i).to.toNat else i
structure Sn(w:World)(base bs n:Nat)(v:Value)(L:List Int):Prop where
 hb:base<=bs/\bs<w.heap.size
 s:∀i,i<n->w.cell? ⟨bs,i,none⟩=some (.bool (decide ((i:Int)∈L)))
 f:∀i,i<n->w.frozen? ⟨bs,i,none⟩=false
 own:w.ownsRow base 3 1 v L.length (L.map iv)
 ap:v.ownBlock≠some bs
 nd:L.Nodup
 rg:∀z,z∈L->0<=z/\z<n
theorem Sn.ext(h:Sn w base bs n v L)(e:Ext w w'):Sn w' base bs n v L:=
 ⟨⟨h.hb.1,Nat.lt_of_lt_of_le h.hb.2 e.size⟩,λi hi=>e.keep (h.s i hi),λi hi=>by rw[e.frozen (p:=⟨bs,i,none⟩) h.hb.2];exact h.f i hi,uN h.own (λk hk=>e.block k (h.own.lt k hk).2),h.ap,h.nd,h.rg⟩
theorem Sn.len(h:Sn w base bs n v L):L.length<=n:=by
 have hs:∀z,z∈L->z∈(List.range n).map (λi:Nat=>(i:Int)):=λz hz=>by
  have:=h.rg z hz;exact List.mem_map.2 ⟨z.toNat,by simp;omega,by omega⟩
 have:=List.Nodup.length_le_of_subset h.nd hs
 simpa using this
structure Mfr(bs:Nat)(v v':Value)(w w':World):Prop where
 os:w'.os=w.os
 tape:w'.tape=w.tape
 output:w'.output=w.output
 size:w.heap.size<=w'.heap.size
 block:∀k:Nat,k<w.heap.size->k≠bs->v.ownBlock≠some k->w'.heap[k]?=w.heap[k]?
 own:v'.ownBlock=v.ownBlock\/∃g,v'.ownBlock=some g/\w.heap.size<=g
theorem Mfr.of_ext(e:Ext w w'):Mfr bs v v w w':=⟨e.os,e.tape,e.output,e.size,λk hk _ _=>e.block k hk,.inl rfl⟩
theorem Mfr.after{w1:World}(e:Ext w w1)(q:Mfr bs v v' w1 w2):Mfr bs v v' w w2:=
 ⟨q.os.trans e.os,q.tape.trans e.tape,q.output.trans e.output,Nat.le_trans e.size q.size,λk hk h1 h2=>(q.block k (Nat.lt_of_lt_of_le hk e.size) h1 h2).trans (e.block k hk),by
  rcases q.own with h | ⟨g,h,hg⟩
  ·exact .inl h
  ·exact .inr ⟨g,h,Nat.le_trans e.size hg⟩⟩
theorem Mfr.ext(q:Mfr bs v v' w w')(e:Ext a w)(hb:a.heap.size<=bs)(hv:∀k,v.ownBlock=some k->a.heap.size<=k):Ext a w':=
 Below.trans e ⟨q.os,q.tape,q.output,q.size,λk hk=>q.block k (Nat.lt_of_lt_of_le hk e.size) (by omega) (λh=>by have:=hv k h;omega)⟩
theorem Sn.own2(h:Sn w base bs n v L)(hW:Ext (w.setCell ⟨bs,j,none⟩ (.bool true)) W):W.ownsRow base 3 1 v L.length (L.map iv):=
 uN h.own (λk hk=>(hW.block k (by simpa using (h.own.lt k hk).2)).trans (Below.heap_setCell _ _ _ _ (show k≠bs from λe=>h.ap (e ▸ hk))))
theorem Sn.add(h:Sn w base bs n v L)(hj:j<n)(hn:¬(j:Int)∈L)(hW:Ext (w.setCell ⟨bs,j,none⟩ (.bool true)) W)
  (hown:w2.ownsRow base 3 1 (.slice (some ⟨g,0,none⟩) (L.length+1) cap) (L.length+1) (L.map iv++[iv j])) (hg:W.grownBy w2 v.ownBlock) (hat:v.ownBlock=some g\/g=W.heap.size) :
  Sn w2 base bs n (.slice (some ⟨g,0,none⟩) (L.length+1) cap) (L++[(j:Int)])/\Mfr bs v (.slice (some ⟨g,0,none⟩) (L.length+1) cap) w w2:=by
 have hs0:w.heap.size<=W.heap.size:=by have:=hW.size;simpa using this
 have hs1:W.heap.size<=w2.heap.size:=hg.size
 have hgb:g≠bs:=by
  rcases hat with e | e
  ·intro q;exact h.ap (q ▸ e)
  ·have:=h.hb.2;omega
 have blk:∀k:Nat,k<w.heap.size->v.ownBlock≠some k->w2.heap[k]?=(w.setCell ⟨bs,j,none⟩ (.bool true)).heap[k]?:=λk hk hv=>
  (hg.block k (by omega) (λe=>hv e.symm)).trans (hW.block k (by simpa using hk))
 have hbs:=blk bs h.hb.2 h.ap;refine⟨⟨⟨h.hb.1,by have:=h.hb.2;omega⟩,λi hi=>?_,λi hi=>?_,by simpa using hown,λe=>hgb (by simpa [Value.ownBlock] using e),?_,λz hz=>?_⟩,⟨hg.os.trans hW.os,hg.tape.trans hW.tape,hg.output.trans hW.output,by omega,λk hk h1 h2=>?_,?_⟩⟩
 ·rw[World.cell?_of_block (w:=w.setCell ⟨bs,j,none⟩ (.bool true)) (a:=⟨bs,i,none⟩) hbs];by_cases e:i=j
  ·subst e;rw[World.cell?_setCell_same _ _ _ (h.s i hi)];simp
  ·rw[uC _ (.inr (λq=>e q.symm)),h.s i hi];simp only [List.mem_append,List.mem_singleton]
   congr 2
   exact decide_eq_decide.2 ⟨λq=>.inl q,λq=>by rcases q with q | q;exact q;omega⟩
 ·rw[World.frozen?_of_block (w:=w.setCell ⟨bs,j,none⟩ (.bool true)) (a:=⟨bs,i,none⟩) hbs,World.frozen?_setCell];exact h.f i hi
 ·rw[List.nodup_append];exact⟨h.nd,by simp,λa ha b hb=>by simp at hb;rw[hb];intro e;exact hn (e ▸ ha)⟩
 ·rcases List.mem_append.1 hz with q | q
  ·exact h.rg z q
  ·simp at q;omega
 ·rw[blk k hk h2,Below.heap_setCell _ _ _ _ (show k≠bs from h1)]
 ·rcases hat with e | e
  ·exact .inl (by rw[e];rfl)
  ·exact .inr ⟨g,rfl,by omega⟩
theorem b7x:(Tryz.prog.info? 3).map (λi=>(i.zero,i.size,i.bytes))=some (some (.int .i64 0),1,8):=by kernel_rfl
theorem a9e(x:Hp)(b i:Nat)(w:World)(h:HAt w b x ar kr ac kc ag kg)(hi:i<x.cells.length)(ht:(x.c i).st=2->0<=(x.c i).to):
  Calls Tryz.prog 138 #[.pointer (some ⟨b,0,none⟩),.agg #[iv 2,iv 0,iv i]] w λe w'=>e=.returned (.agg #[iv 2,iv 0,iv (tD x i)])/\Ext w w':=by
 cases s2:((x.c i).st == 2)
 ·have:tD x i=i:=by simp only [tD,s2];simp
  rw[this];exact b2s x b i w h hi s2
 ·have h2:(x.c i).st=2:=by simpa using s2
  have:((tD x i:Nat):Int)=(x.c i).to:=by simp only [tD,s2];have:=ht h2;simp;omega
  rw[this];exact b1w x b i w h hi s2
theorem c4o(y:Wd)(b base bs n:Nat)(v:Value)(L:List Int)(w:World)(hs:Sn w base bs n v L)(k2:(y.k == 2)=false):
  Calls Tryz.prog 137 #[.pointer (some ⟨b,0,none⟩),.slice (some ⟨bs,0,none⟩) n n,v,y.v] w λe w'=>Hid (e=.returned v)/\Sn w' base bs n v L/\Ext w w':=by
 have HS:=uU hs;have k2b:(y.k != 2)=true:=by simpa using k2
 clear hs;go_enter Tryz.func137,Tryz.ntmps137;go_wp2_with fail;refine(a8f y b _ k2).mono ?_;rintro e w1 ⟨rfl,hq⟩;have x1:Ext w w1:=Ext.trans ((Ext.refl w).alloc _) hq;go_wp2_with fail;go_ret;exact⟨rfl,HS.ext (x1.alloc _),x1.alloc _⟩
theorem c4p(x:Hp)(b i base bs:Nat)(v:Value)(L:List Int)(w:World){ar:Option Addr}{kr:Nat}{ac:Option Addr}{kc:Nat}{ag:Option Addr}{kg:Nat}(h:HAt w b x ar kr ac kc ag kg)(hi:i<x.cells.length)(ht:(x.c i).st=2->0<=(x.c i).to)(hj:tD x i<x.cells.length)(hs:Sn w base bs x.cells.length v L)(hbw:base<=w.heap.size)(hn8:x.cells.length<=8000):
  Calls Tryz.prog 137 #[.pointer (some ⟨b,0,none⟩),.slice (some ⟨bs,0,none⟩) x.cells.length x.cells.length,v,.agg #[iv 2,iv 0,iv i]] w λe w'=>∃v' L',Hid (e=.returned v')/\Sn w' base bs x.cells.length v' L'/\Hid (((tD x i:Int)∈L/\L'=L)\/(¬(tD x i:Int)∈L/\L'=L++[(tD x i:Int)]))/\Mfr bs v v' w w':=by
 obtain⟨i0,hi0,hz0,hz1,hz2⟩:=info_parts b7x;have HS:=uU hs;have HH:=uU h;have hlen:=hs.len;clear hs h;obtain⟨j,ej⟩:∃j,tD x i=j:=⟨_,rfl⟩;have LR:=uU (λW (e:Ext w W)=>a9e x b i W (HH.ext e) hi ht);rw[ej] at LR hj ⊢;clear ej;have j0:(0:Int)<=(j:Int):=by omega
 have j1:(j:Int)<(x.cells.length:Int):=by omega
 go_enter Tryz.func137,Tryz.ntmps137;go_wp2_with fail;refine(LR _ ((Ext.refl w).alloc _)).mono ?_;rintro e w1 ⟨rfl,hq⟩;have x1:Ext w w1:=Ext.trans ((Ext.refl w).alloc _) hq;have S1:=uU (HS.ext x1);have cj:=S1.s j (by omega);have fj:=S1.f j (by omega);have hbs:bs<w1.heap.size:=S1.hb.2;clear hq;by_cases hm:(j:Int)∈L
 ·have E:decide ((j:Int)∈L)=true:=decide_eq_true hm;rw[E] at cj;clear E;go_wp2_with fail;go_ret;exact⟨v,L,rfl,S1.ext ((Ext.refl w1).alloc _),.inl ⟨hm,rfl⟩,Mfr.of_ext (x1.alloc _)⟩
 ·have E:decide ((j:Int)∈L)=false:=decide_eq_false hm;rw[E] at cj;clear E;go_wp2_with (at_builtin;refine wpList_append_lies _ rfl _ _ 32 rfl base 3 i0 (.int .i64 0) 1 8 Tryz.underlying32 hi0 hz0 hz1 hz2 rfl (by decide) v L.length (L.map iv) rfl (Sn.own2 (j:=j) S1 (((Ext.refl _).alloc _).alloc _)) _ 1 1 [.int .i64 j] rfl rfl ?c1 ?c2 (by decide) ?c3 ?c4 ?c5 _ rfl ?_)
  case c1=>
   intro k u hk
   match k,hk with
   | 0,hk=>simp at hk;subst hk;simp [Addr.add,go_sem]
  case c2=>intro u hu;simp at hu;subst hu;rfl
  case c3=>unfold maxLen;omega
  case c4=>omega
  case c5=>have:=x1.size;simp;omega
  intro g cap w2 hown hgrow hat hglt;obtain⟨q1,q2⟩:=Sn.add S1 hj hm (((Ext.refl _).alloc _).alloc _) hown hgrow (by simpa using hat);have FIN:=uU (And.intro q1 (Mfr.after x1 q2));clear q1 q2 hown hgrow hat;go_wp2_with fail;go_ret;exact⟨_,L++[(j:Int)],rfl,FIN.1,.inr ⟨hm,rfl⟩,FIN.2⟩
def a1i(p:Nat->Bool)(f:Nat->Int)(k:Nat):List Int:=((List.range k).filter p).map f
theorem a2q(p:Nat->Bool)(f:Nat->Int)(k:Nat)(h:p k=true):a1i p f (k+1)=a1i p f k++[f k]:=by
 simp [a1i,List.range_succ,List.filter_append,h]
theorem a2r(p:Nat->Bool)(f:Nat->Int)(k:Nat)(h:p k=false):a1i p f (k+1)=a1i p f k:=by
 simp [a1i,List.range_succ,List.filter_append,h]
theorem a1a(p:Nat->Bool)(f:Nat->Int)(k:Nat)(z:Int):z∈a1i p f k↔∃i,i<k/\p i=true/\f i=z:=by
 simp [a1i,and_assoc]
theorem a4b(p:Nat->Bool)(f:Nat->Int)(k:Nat):(a1i p f k).length<=k:=by
 unfold a1i;have:=List.length_filter_le p (List.range k)
 simpa using this
theorem a5r(p:Nat->Bool)(f:Nat->Int)(k:Nat):(a1i p f k).Nodup↔∀i j,i<j->j<k->p i=true->p j=true->f i≠f j:=by
 unfold a1i List.Nodup;rw[List.pairwise_map,List.pairwise_filter,List.pairwise_iff_getElem];constructor
 ·intro h i j hij hj pi pj;have:=h i j (by simp;omega) (by simpa using hj) hij;simp at this;exact this pi pj
 ·intro h i j hi hj hij;simp;intro pi pj;exact h i j hij (by simpa using hj) pi pj
def a6t(i:Nat):Int:=(i:Int)
theorem a9f(p:Nat->Bool)(k:Nat):(a1i p a6t k).Nodup:=by
 rw[a5r];intro i j h _ _ _ e;unfold a6t at e;omega
def yW(x:Hp)(s:Int)(i:Nat):Bool:=(x.c i).st == s
def c1e(x:Hp)(i:Nat):Int:=(x.c i).born
def toOf(x:Hp)(i:Nat):Int:=(x.c i).to
def a8j(x:Hp)(k:Nat):List Int:=a1i (yW x 1) (c1e x) k
def a5s(x:Hp)(k:Nat):List Int:=a1i (yW x 2) (toOf x) k
def a9g(x:Hp)(k:Nat):List Int:=a1i (yW x 0) a6t k
theorem c4q(x:Hp)(h:∀i,i<x.cells.length->dN x i):b7q x↔(a8j x x.cells.length).Nodup/\(a5s x x.cells.length).Nodup:=by
 unfold a8j a5s;rw[a5r,a5r];constructor
 ·intro a;refine⟨λi j hij hj pi pj e=>?_,λi j hij hj pi pj e=>?_⟩
  ·simp [yW] at pi pj;unfold c1e at e;refine a j hj (by omega) i hij ⟨by omega,e,?_⟩;have h1:=h i (by omega);have h2:=h j hj;unfold dN a3h at h1 h2;omega
  ·simp [yW] at pi pj;unfold toOf at e;refine a j hj (by omega) i hij ⟨by omega,?_,e⟩;have h1:=h i (by omega);have h2:=h j hj;unfold dN eV a5k at h1 h2;omega
 ·intro⟨hb,ht⟩ i hi hs k hk ⟨e1,e2,e3⟩;have h1:=h i hi;unfold dN at h1;rcases h1 with h1 | h1 | h1
  ·exact hs h1.1
  ·exact ht k i hk hi (by simp [yW];omega) (by simp [yW];omega) e3
  ·exact hb k i hk hi (by simp [yW];omega) (by simp [yW];omega) e2
theorem b7y{A B:List Int}(ha:A.Nodup)(hs:∀z,z∈A->z∈B)(hl:B.length<=A.length):A.Perm B:=by
 induction A generalizing B with
 | nil=>cases B with
  | nil=>exact List.Perm.refl _
  | cons _ _=>simp at hl
 | cons a A ih=>
  rw[List.nodup_cons] at ha;have hm:a∈B:=hs a List.mem_cons_self;have hB:=List.perm_cons_erase hm;have hlen:(B.erase a).length=B.length-1:=List.length_erase_of_mem hm
  have h2:=ih (B:=B.erase a) ha.2 (λz hz=>by
   have:z≠a:=λe=>ha.1 (e ▸ hz)
   exact(List.mem_erase_of_ne this).2 (hs z (List.mem_cons_of_mem _ hz))) (by rw[hlen];simp at hl;omega)
  exact(h2.cons a).trans hB.symm
def a6u(x:Hp)(i:Nat):Bool:=(x.c i).color == 1
def a6h(x:Hp)(k:Nat):List Int:=a1i (a6u x) a6t k
def a4c(x:Hp)(i:Nat):Prop:=uE x\/(x.phase=3/\x.hand<=i)
def R5b(x:Hp):Prop:=
 (∀i,i<x.cells.length->(x.c i).color=2->a4c x i)/\(¬uE x->(a6h x x.cells.length).length=0)/\x.gray.length=(a6h x x.cells.length).length/\
 (∀g,g∈x.gray->(0<=g/\g<x.cells.length)/\(x.c g.toNat).color=1)/\x.gray.Nodup
theorem a8k(x:Hp):R5 x↔R5b x:=by
 constructor
 ·intro⟨h1,h2,h3⟩
  have hc:∀g,g∈x.gray->(0<=g/\g<x.cells.length)/\(x.c g.toNat).color=1:=λg hg=>by
   have hr:=h3 g hg;refine⟨hr,?_⟩;have ho:=h2 g.toNat (by omega);by_cases e:(x.c g.toNat).color=1
   ·exact e
   ·have:=ho.2.1 e;unfold cnt at this;rw[Int.toNat_of_nonneg hr.1] at this;have:=List.count_pos_iff.2 hg;omega
  have hp:x.gray.Perm (a6h x x.cells.length):=by
   rw[List.perm_iff_count];intro z;by_cases hz:z∈x.gray
   ·have hr:=hc z hz;have e1:=(h2 z.toNat (by omega)).1 hr.2;unfold cnt at e1;rw[Int.toNat_of_nonneg hr.1.1] at e1;rw[e1];have hm:z∈a6h x x.cells.length:=(a1a _ _ _ _).2 ⟨z.toNat,by omega,by simp [a6u,hr.2],by unfold a6t;omega⟩;have:=(a9f (a6u x) x.cells.length);rw[List.nodup_iff_count] at this;have h4:=this z;have h5:=List.count_pos_iff.2 hm;unfold a6h at h5 ⊢;omega
   ·rw[List.count_eq_zero.2 hz]
    symm
    rw[List.count_eq_zero];intro hm;obtain⟨i,hi,pi,e⟩:=(a1a _ _ _ _).1 hm;have:=(h2 i hi).1 (by simpa [a6u] using pi);have:=List.count_pos_iff.1 (show 0<List.count (i:Int) x.gray by unfold cnt at this;omega);unfold a6t at e;rw[e] at this;exact hz this
  refine⟨λi hi hb=>(h2 i hi).2.2 hb,λhn=>by rw[<-hp.length_eq];exact h1 hn,hp.length_eq,hc,?_⟩;rw[hp.nodup_iff];exact a9f _ _
 ·intro⟨h1,h2,h3,h4,h5⟩
  have hp:x.gray.Perm (a6h x x.cells.length):=b7y h5 (λz hz=>by
   have hr:=h4 z hz;exact(a1a _ _ _ _).2 ⟨z.toNat,by omega,by simp [a6u,hr.2],by unfold a6t;omega⟩) (by omega)
  refine⟨λhn=>by rw[h3];exact h2 hn,λi hi=>⟨λe=>?_,λe=>?_,λe=>h1 i hi e⟩,λg hg=>(h4 g hg).1⟩
  ·have hm:(i:Int)∈x.gray:=hp.mem_iff.2 ((a1a _ _ _ _).2 ⟨i,hi,by simp [a6u,e],rfl⟩);have h6:=List.count_pos_iff.2 hm;rw[List.nodup_iff_count] at h5;have:=h5 (i:Int);unfold cnt;omega
  ·unfold cnt;rw[List.count_eq_zero];intro hm;have:=(h4 _ hm).2;simp at this;exact e this
def a6i(x:Hp)(i:Nat):Bool:=((x.c i).st == 1) && (((x.c i).last == 1) || ((x.c i).last == 2))
theorem b5j:a6i x i=true↔(x.c i).st=1/\cQ (x.c i):=by simp [a6i,cQ]
def a6j(x:Hp)(k:Nat):List Int:=a1i (a6i x) a6t k
structure Rw1(w:World)(base:Nat)(v:Value)(M:List Int):Prop where
 own:w.ownsRow base 3 1 v M.length (M.map iv)
theorem Rw1.ext(h:Rw1 w base v M)(e:Ext w w'):Rw1 w' base v M:=⟨uN h.own (λk hk=>e.block k (h.own.lt k hk).2)⟩
theorem Rw1.cell(h:Rw1 w base (.slice (some ⟨g,0,none⟩) n cap) M)(i:Nat)(hi:i<M.length):w.cell? ⟨g,i,none⟩=some (iv (it M i))/\w.frozen? ⟨g,i,none⟩=false/\n=M.length:=by
 rcases h.own.2 with⟨h0,_⟩ | ⟨g',cap',cur,h0,hb,hg,hr⟩
 ·cases h0
 ·cases h0;have:=World.ownsRow.cellAt (w:=w) (base:=base) (e:=3) (size:=1) (g:=g) (n:=M.length) (cap:=cap) (xs:=M.map iv) h.own i (by omega);exact⟨by rw[this];simp [it,hi],World.ownsRow.frozenAt (w:=w) (base:=base) (e:=3) (size:=1) (g:=g) (n:=M.length) (cap:=cap) (xs:=M.map iv) h.own i,rfl⟩
theorem Rw1.base_le(h:Rw1 w base (.slice (some ⟨g,0,none⟩) n cap) M):base<=g/\g<w.heap.size:=h.own.lt g rfl
theorem Rw1.swap(h:Rw1 w base (.slice (some ⟨g,0,none⟩) n cap) M)(i j:Nat):
  Rw1 ((w.setCell ⟨g,i,none⟩ (iv (it M j))).setCell ⟨g,j,none⟩ (iv (it M i))) base (.slice (some ⟨g,0,none⟩) n cap) (swp M i j):=by
 have hl:n=M.length:=by
  rcases h.own.2 with⟨h0,_⟩ | ⟨g',cap',cur,h0,_⟩
  ·cases h0
  ·cases h0;rfl
 subst hl;obtain⟨s1,_⟩:=World.ownsRow.stored h.own i (iv (it M j));obtain⟨s2,_⟩:=World.ownsRow.stored s1 j (iv (it M i));refine⟨?_⟩;rw[a0s];unfold swp;rw[List.map_set,List.map_set];exact s2
theorem Rw1.ext_of{o:Obj}(h:Rw1 w base v M)(hW:W=w.alloc o)(hown:w2.ownsRow base 3 1 (.slice (some ⟨g,0,none⟩) (M.length+1) cap) (M.length+1) (M.map iv++[iv z]))(hg:W.grownBy w2 v.ownBlock)(ea:Ext a w)(hb:a.heap.size<=base):
  Rw1 w2 base (.slice (some ⟨g,0,none⟩) (M.length+1) cap) (M++[z])/\Ext a w2/\w.heap.size<=w2.heap.size:=by
 subst hW;have hs:w.heap.size+1<=w2.heap.size:=by have:=hg.size;simpa using this
 refine⟨⟨by simpa using hown⟩,?_,by omega⟩;refine Below.trans ea ⟨hg.os,hg.tape,hg.output,by omega,λk hk=>?_⟩;have hkw:k<w.heap.size:=Nat.lt_of_lt_of_le hk ea.size;rw[hg.block k (by simp;omega) (λe=>by have:=(h.own.lt k e.symm).1;omega),Below.heap_alloc _ o k hkw]
def tgt(x:Hp)(y:Wd):Nat:=tD x y.a.toNat
def cY(x:Hp)(i:Nat):Prop:=∀P:Nat->Prop,(∀k (h:k<x.regs.length),x.regs[k].k=2->P (tgt x x.regs[k]))->(∀i,i<x.cells.length->(x.c i).st=1->cQ (x.c i)->P i)->
 (∀j p,P j->p<(x.c j).prs.length->((x.c j).p p).key.k=2->P (tgt x ((x.c j).p p).key))->(∀j p,P j->p<(x.c j).prs.length->((x.c j).p p).val.k=2->P (tgt x ((x.c j).p p).val))->P i
theorem cY.reg(k:Nat)(h:k<x.regs.length)(hk:x.regs[k].k=2):cY x (tgt x x.regs[k]):=λ_ a _ _ _=>a k h hk
theorem cY.last(i:Nat)(hi:i<x.cells.length)(hs:(x.c i).st=1)(h:cQ (x.c i)):cY x i:=λ_ _ b _ _=>b i hi hs h
theorem cY.key(j p:Nat)(h:cY x j)(hp:p<(x.c j).prs.length)(hk:((x.c j).p p).key.k=2):cY x (tgt x ((x.c j).p p).key):=λP a b c d=>c j p (h P a b c d) hp hk
theorem cY.val(j p:Nat)(h:cY x j)(hp:p<(x.c j).prs.length)(hk:((x.c j).p p).val.k=2):cY x (tgt x ((x.c j).p p).val):=λP a b c d=>d j p (h P a b c d) hp hk
def Good(x:Hp)(i:Nat):Prop:=i<x.cells.length/\(x.c i).st=1/\¬cL x i
def a0p(x:Hp)(y:Wd):Prop:=y.k=2->y.n=0/\0<=y.a/\y.a<x.cells.length/\((x.c y.a.toNat).st=2->0<=(x.c y.a.toNat).to)/\Good x (tgt x y)
theorem cZ.may{m:Prop}(h:cZ x y m)(r2:R2 x):a0p x y:=λhk=>by
 have hf:=h.1;unfold uJ at hf;have hr:y.n=0/\0<=y.a/\y.a<x.cells.length:=by omega
 refine⟨hr.1,hr.2.1,hr.2.2,λh2=>?_,?_⟩
 ·have:=r2.1 y.a.toNat (by omega);unfold dN eV at this;omega
 ·rcases h.2 hk with⟨h1,_⟩ | ⟨h1,h3⟩
  ·have hc:=r2.1 y.a.toNat (by omega);unfold dN at hc;rcases hc with hc | hc | hc
   ·omega
   ·have hm:=hc.2;unfold eV at hm;have e:tgt x y=(x.c y.a.toNat).to.toNat:=by unfold tgt tD;rw[if_pos (by simp [h1])]
    rw[e];exact⟨by omega,hm.2.2.2.2.1,λd=>by have:=d.1;omega⟩
   ·omega
  ·have e:tgt x y=y.a.toNat:=by unfold tgt tD;rw[if_neg (by simp [h1])]
   rw[e];exact⟨by omega,h1,h3⟩
theorem a9h(r2:R2 x)(r4:R4 x)(k:Nat)(h:k<x.regs.length):a0p x x.regs[k]:=(r4.1 k h).may r2
theorem a4d(r2:R2 x)(r4:R4 x)(j p:Nat)(hj:Good x j)(hp:p<(x.c j).prs.length):a0p x ((x.c j).p p).key/\a0p x ((x.c j).p p).val:=by
 have:=((r4.2 j hj.1).2 p hp).2 hj.2.2;exact⟨this.1.may r2,this.2.may r2⟩
theorem b0m(r4:R4 x)(i:Nat)(hi:i<x.cells.length)(hs:(x.c i).st=1)(h:cQ (x.c i)):Good x i:=⟨hi,hs,λd=>(r4.2 i hi).1 ⟨d,h⟩⟩
theorem cY.good(r2:R2 x)(r4:R4 x)(h:cY x i):Good x i:=by
 exact h (Good x) (λk h hk=>(a9h r2 r4 k h hk).2.2.2.2) (λi hi hs h=>b0m r4 i hi hs h) (λj p ih hp hk=>((a4d r2 r4 j p ih hp).1 hk).2.2.2.2) (λj p ih hp hk=>((a4d r2 r4 j p ih hp).2 hk).2.2.2.2)
def Add(x:Hp)(y:Wd)(L L':List Int):Prop:=(y.k≠2/\L'=L)\/(y.k=2/\(((tgt x y:Int)∈L/\L'=L)\/(¬(tgt x y:Int)∈L/\L'=L++[(tgt x y:Int)])))
theorem Add.pre(h:Add x y L L'):∃R,L'=L++R:=by
 rcases h with⟨_,e⟩ | ⟨_,⟨_,e⟩ | ⟨_,e⟩⟩
 ·exact⟨[],by simp [e]⟩
 ·exact⟨[],by simp [e]⟩
 ·exact⟨_,e⟩
theorem Add.sub(h:Add x y L L')(hz:z∈L):z∈L':=by
 obtain⟨R,e⟩:=h.pre;rw[e];exact List.mem_append_left _ hz
theorem Add.has(h:Add x y L L')(hk:y.k=2):(tgt x y:Int)∈L':=by
 rcases h with⟨n,_⟩ | ⟨_,⟨m,e⟩ | ⟨_,e⟩⟩
 ·exact(n hk).elim
 ·rw[e];exact m
 ·rw[e];simp
theorem Add.new(h:Add x y L L')(hz:z∈L'):z∈L\/(y.k=2/\z=(tgt x y:Int)):=by
 rcases h with⟨_,e⟩ | ⟨k,⟨_,e⟩ | ⟨_,e⟩⟩
 ·rw[e] at hz;exact .inl hz
 ·rw[e] at hz;exact .inl hz
 ·rw[e] at hz;rcases List.mem_append.1 hz with q | q
  ·exact .inl q
  ·exact .inr ⟨k,by simpa using q⟩
theorem a0k(x:Hp)(y:Wd)(b base bs:Nat)(v:Value)(L:List Int)(w:World)(h:HAt w b x ar kr ac kc ag kg)(hy:a0p x y)(hs:Sn w base bs x.cells.length v L)(hbw:base<=w.heap.size)(hn8:x.cells.length<=8000):
  Calls Tryz.prog 137 #[.pointer (some ⟨b,0,none⟩),.slice (some ⟨bs,0,none⟩) x.cells.length x.cells.length,v,y.v] w λe w'=>∃v' L',Hid (e=.returned v')/\Sn w' base bs x.cells.length v' L'/\Hid (Add x y L L')/\Mfr bs v v' w w':=by
 cases k2:(y.k == 2)
 ·exact(c4o y b base bs x.cells.length v L w hs k2).mono λ_ _ ⟨he,hs',hx⟩=>⟨v,L,he,hs',.inl ⟨by simpa using k2,rfl⟩,Mfr.of_ext hx⟩
 ·have hk:y.k=2:=by simpa using k2
  obtain⟨n0,a0,a1,ht,hg⟩:=hy hk;obtain⟨i,hi⟩:∃i:Nat,y.a=(i:Int):=⟨y.a.toNat,by omega⟩;have et:tgt x y=tD x i:=by unfold tgt;rw[hi];simp
  have ev:(.agg #[iv 2,iv 0,iv i]:Value)=y.v:=by rw[<-hi,<-n0,<-hk]
  rw[et] at hg;have ei:y.a.toNat=i:=by omega
  rw[ei] at ht;have:=c4p x b i base bs v L w h (by omega) ht hg.1 hs hbw hn8;rw[ev] at this;exact this.mono λ_ _ ⟨v',L',he,hs',ha,hx⟩=>⟨v',L',he,hs',.inr ⟨hk,by rw[et];exact uH ha⟩,hx⟩
theorem c1f(hr:∀z,z∈L->∃i:Nat,z=(i:Int)/\cY x i)(h1:∀k (h:k<x.regs.length),x.regs[k].k=2->(tgt x x.regs[k]:Int)∈L)(h2:∀i,i<x.cells.length->(x.c i).st=1->cQ (x.c i)->(i:Int)∈L)
  (h3:∀j:Nat,(j:Int)∈L->∀p,p<(x.c j).prs.length->(((x.c j).p p).key.k=2->(tgt x ((x.c j).p p).key:Int)∈L)/\(((x.c j).p p).val.k=2->(tgt x ((x.c j).p p).val:Int)∈L)) (i:Nat):(i:Int)∈L↔cY x i:=by
 constructor
 ·intro h;obtain⟨j,e,hj⟩:=hr _ h;have:i=j:=by omega
  rw[this];exact hj
 ·intro h;exact h (λi=>(i:Int)∈L) h1 h2 (λj p ih hp hk=>(h3 j ih p hp).1 hk) (λj p ih hp hk=>(h3 j ih p hp).2 hk)
theorem c4s:(Tryz.prog.info? 4).map (λi=>(i.zero,i.size,i.bytes))=some (some (.bool false),1,1):=by kernel_rfl
theorem b6o(n:Nat)(hn:n<=1048576)(w:World):∃z,(Instr.makeSlice 65 (.int .i64 n) (.int .i64 n)).run Tryz.prog w=.ok (.slice (some ⟨w.heap.size,0,none⟩) n n) (w.alloc (.cells z 4))/\z=madeCells #[.bool false] n:=by
 obtain⟨i0,hi,hz0,hz1,hz2⟩:=info_parts c4s;have h:=run_make (P:=Tryz.prog) w 65 4 i0 _ Tryz.underlying65 hi hz0 .i64 .i64 n n (by omega) (Int.le_refl _) (by rw[hz2];omega) (by omega);rw[hz1] at h;simp only [Int.toNat_natCast,Nat.mul_one] at h;exact⟨_,h,rfl⟩
theorem b7z(x:Hp)(b:Nat)(w:World){ar:Option Addr}{kr:Nat}{ac:Option Addr}{kc:Nat}{ag:Option Addr}{kg:Nat}(h:HAt w b x ar kr ac kc ag kg)(hn8:x.cells.length<=8000):
  Calls Tryz.prog 135 #[.pointer (some ⟨b,0,none⟩)] w λe w'=>∃v M,Hid (e=.returned v)/\Rw1 w' w.heap.size v M/\M.Perm (a6j x x.cells.length)/\Ext w w':=by
 obtain⟨i0,hi0,hz0,hz1,hz2⟩:=info_parts b7x;have c4:=h.c4;have hb:b<w.heap.size:=uL c4;have HH:=uU h;clear h;go_enter Tryz.func135,Tryz.ntmps135;go_wp2_with fail;go_loopw [3,14] (λv i wr=>∃(k:Nat) (M:List Int),k<=x.cells.length/\i=.int .i64 k/\Rw1 wr w.heap.size v M/\Hid (M.Perm (a6j x k))/\Ext w wr) (λ_ i _=>x.cells.length-(intOf i).toNat)
 case atStart=>exact⟨0,[],Nat.zero_le _,rfl,⟨World.ownsRow_nil _ _ _ _⟩,List.Perm.refl _,Ext.refl _⟩
 case round=>
  clear c4;obtain⟨k,M,hk,rfl,hrw,hp,hbl⟩:=hrel;by_cases hlt:k<x.cells.length
  ·have hh:=HH.ext hbl;obtain⟨b',o,ap,kp,rfl,p0,p1,p2,p3,p4,p5,p6,p7,lp,P⟩:=hh.cell k hlt;have hb':b'<wr.heap.size:=uL p0;have HRW:=uU hrw;have hk0:(0:Int)<=(k:Int):=by omega
   have hk1:(k:Int)<(x.cells.length:Int):=by omega
   have xa:=hbl.alloc (.cells #[iv (x.c k).st,iv (x.c k).kind,iv (x.c k).weak,iv (x.c k).last,iv (x.c k).born,iv (x.c k).color,iv (x.c k).to,.slice ap (x.c k).prs.length kp] 62);clear P hh hrw;have hlenM:M.length<=k:=by have:=hp.length_eq;have:=a4b (a6i x) a6t k;unfold a6j at *;omega
   have go_no:a6i x k=false->Hid (M.Perm (a6j x (k+1))):=λq=>by
    have:=uH hp;unfold a6j at *;rw[a2r _ _ _ q];exact this
   have GN:=uU go_no;clear go_no;cases t1:((x.c k).st == 1)
   ·have t1b:((x.c k).st != 1)=true:=by simpa using t1
    have P2:=uH GN (by simp [a6i,t1]);go_wp2_with fail;go_roundw
    case rel=>exact⟨k+1,M,by omega,by go_num,HRW.ext ((Ext.refl wr).alloc _),P2,xa⟩
    case measure=>simp [intOf];omega
   ·have t1b:((x.c k).st != 1)=false:=by simpa using t1
    cases t2:((x.c k).last == 1)
    ·have t2b:((x.c k).last != 1)=true:=by simpa using t2
     cases t3:((x.c k).last == 2)
     ·have t3b:((x.c k).last != 2)=true:=by simpa using t3
      have P2:=uH GN (by simp [a6i,t2,t3]);go_wp2_with fail;go_roundw
      case rel=>exact⟨k+1,M,by omega,by go_num,HRW.ext ((Ext.refl wr).alloc _),P2,xa⟩
      case measure=>simp [intOf];omega
     ·have t3b:((x.c k).last != 2)=false:=by simpa using t3
      have QW:=uU (show a6i x k=true by simp [a6i,t1,t3]);go_wp2_with (at_builtin;refine wpList_append_lies _ rfl _ _ 32 rfl w.heap.size 3 i0 (.int .i64 0) 1 8 Tryz.underlying32 hi0 hz0 hz1 hz2 rfl (by decide) _ M.length (M.map iv) rfl ((HRW.own.alloc _).alloc _) _ 1 1 [.int .i64 k] rfl rfl ?c1 ?c2 (by decide) ?c3 ?c4 ?c5 _ rfl ?_)
      case c1=>
       intro q u hk
       match q,hk with
       | 0,hk=>simp at hk;subst hk;simp [Addr.add,go_sem]
      case c2=>intro u hu;simp at hu;subst hu;rfl
      case c3=>unfold maxLen;omega
      case c4=>omega
      case c5=>have:=hbl.size;simp;omega
      intro g cap w2 hown hgrow hat hglt;obtain⟨R1,E1,S1⟩:=Rw1.ext_of (HRW.ext ((Ext.refl wr).alloc _)) rfl hown hgrow xa (Nat.le_refl _)
      have PW:=uU (show(M++[(k:Int)]).Perm (a6j x (k+1)) by
       have:=uH hp;unfold a6j at *;rw[a2q _ _ _ (uH QW)];exact this.append_right _)
      have Q1:=uU R1;clear R1 hown hgrow hat p0 p1 p2 p3 p4 p5 p6 p7 xa S1 HRW hp GN;go_wp2_with fail;go_loopw [6] (λsk wi=>∃(j:Nat) (N:List Int),j<N.length/\sk=.int .i64 j/\N.length=M.length+1/\Rw1 wi w.heap.size (.slice (some ⟨g,0,none⟩) (M.length+1) cap) N/\Hid (N.Perm (a6j x (k+1)))/\Ext w wi) (λsk _=>(intOf sk).toNat)
      case atStart=>exact⟨M.length,M++[(k:Int)],by simp,by go_num,by simp,Q1,PW,E1⟩
      case round=>
       clear Q1 PW E1 hbl;obtain⟨j,N,hj,rfl,hNl,hrw,hp,hbl⟩:=hrel;have HRW:=uU hrw;have hh:=HH.ext hbl;have d4:=hh.c4;have EXIT:=uU (And.intro HRW (And.intro hp hbl));cases j with
       | zero=>
        clear hrw hh;go_wp2_with fail;go_quiet (fail);go_wp2_with fail;go_roundw
        case rel=>exact⟨k+1,N,by omega,by go_num,(by have q:=uH HRW;rw[<-hNl] at q ⊢;exact q.ext ((Ext.refl _).drewN _)),hp,hbl.drewN _⟩
        case measure=>simp [intOf];omega
       | succ j=>
        obtain⟨a1,a2,a3⟩:=hrw.cell j (by omega);obtain⟨b1,b2,b3⟩:=hrw.cell (j+1) (by omega)
        have rng:∀z,z∈N->∃q:Nat,z=(q:Int)/\q<x.cells.length:=λz hz=>by
         obtain⟨q,hq,_,e⟩:=(a1a _ _ _ _).1 (hp.mem_iff.1 hz);exact⟨q,e.symm,by omega⟩
        obtain⟨ia,ea,hia⟩:=rng _ (a3j N j (by omega));obtain⟨ib,eb,hib⟩:=rng _ (a3j N (j+1) hj);obtain⟨b1',o1,ap1,kp1,e1,CA⟩:=hh.cell ia hia;cases e1;obtain⟨b2',o2,ap2,kp2,e2,CB⟩:=hh.cell ib hib;cases e2;have pa:=CA.p4;have pb:=CB.p4;have SW:=uU (hrw.swap j (j+1));rw[ea,eb] at SW;have hgl:=hrw.base_le;have PSW:=uU ((a4a N j (j+1) (by omega) hj).trans hp);rw[ea] at a1;rw[eb] at b1;have j0:(0:Int)<=(j:Int):=by omega
        have j1:(j:Int)<(M.length:Int)+1:=by omega
        have j2:(j:Int)+1<(M.length:Int)+1:=by omega
        have j3:(0:Int)<=(j:Int)+1:=by omega
        have j4:((j:Int)+1).toNat=j+1:=by omega
        have j5:(0:Int)<(j:Int)+1:=by omega
        have q0:(0:Int)<=(ia:Int):=by omega
        have q1:(ia:Int)<(x.cells.length:Int):=by omega
        have q2:(0:Int)<=(ib:Int):=by omega
        have q3:(ib:Int)<(x.cells.length:Int):=by omega
        have hmk:M.length<=8000:=by omega
        clear hrw hh CA CB rng a3 b3 ea eb;cases tb:decide ((x.c ib).born<(x.c ia).born)
        ·go_wp2_with fail;go_quiet (fail);go_wp2_with fail;go_roundw
         case rel=>exact⟨k+1,N,by omega,by go_num,(by have q:=uH HRW;rw[<-hNl] at q ⊢;exact q.ext ((Ext.refl _).drewN _)),hp,hbl.drewN _⟩
         case measure=>simp [intOf];omega
        ·have tb2:=of_decide_eq_true tb;clear tb;go_wp2_with fail;go_quiet (fail);go_wp2_with fail;go_roundw
         case rel=>exact⟨j,swp N j (j+1),by rw[a0s];omega,by go_num,by rw[a0s];omega,⟨uN SW.own (λq _=>rfl)⟩,PSW,((hbl.drewN _).setCell hgl.1 _).setCell hgl.1 _⟩
         case measure=>simp [intOf]
    ·have t2b:((x.c k).last != 1)=false:=by simpa using t2
     have QW:=uU (show a6i x k=true by simp [a6i,t1,t2]);go_wp2_with (at_builtin;refine wpList_append_lies _ rfl _ _ 32 rfl w.heap.size 3 i0 (.int .i64 0) 1 8 Tryz.underlying32 hi0 hz0 hz1 hz2 rfl (by decide) _ M.length (M.map iv) rfl ((HRW.own.alloc _).alloc _) _ 1 1 [.int .i64 k] rfl rfl ?c1 ?c2 (by decide) ?c3 ?c4 ?c5 _ rfl ?_)
     case c1=>
      intro q u hk
      match q,hk with
      | 0,hk=>simp at hk;subst hk;simp [Addr.add,go_sem]
     case c2=>intro u hu;simp at hu;subst hu;rfl
     case c3=>unfold maxLen;omega
     case c4=>omega
     case c5=>have:=hbl.size;simp;omega
     intro g cap w2 hown hgrow hat hglt;obtain⟨R1,E1,S1⟩:=Rw1.ext_of (HRW.ext ((Ext.refl wr).alloc _)) rfl hown hgrow xa (Nat.le_refl _)
     have PW:=uU (show(M++[(k:Int)]).Perm (a6j x (k+1)) by
      have:=uH hp;unfold a6j at *;rw[a2q _ _ _ (uH QW)];exact this.append_right _)
     have Q1:=uU R1;clear R1 hown hgrow hat p0 p1 p2 p3 p4 p5 p6 p7 xa S1 HRW hp GN;go_wp2_with fail;go_loopw [6] (λsk wi=>∃(j:Nat) (N:List Int),j<N.length/\sk=.int .i64 j/\N.length=M.length+1/\Rw1 wi w.heap.size (.slice (some ⟨g,0,none⟩) (M.length+1) cap) N/\Hid (N.Perm (a6j x (k+1)))/\Ext w wi) (λsk _=>(intOf sk).toNat)
     case atStart=>exact⟨M.length,M++[(k:Int)],by simp,by go_num,by simp,Q1,PW,E1⟩
     case round=>
      clear Q1 PW E1 hbl;obtain⟨j,N,hj,rfl,hNl,hrw,hp,hbl⟩:=hrel;have HRW:=uU hrw;have hh:=HH.ext hbl;have d4:=hh.c4;have EXIT:=uU (And.intro HRW (And.intro hp hbl));cases j with
      | zero=>
       clear hrw hh;go_wp2_with fail;go_quiet (fail);go_wp2_with fail;go_roundw
       case rel=>exact⟨k+1,N,by omega,by go_num,(by have q:=uH HRW;rw[<-hNl] at q ⊢;exact q.ext ((Ext.refl _).drewN _)),hp,hbl.drewN _⟩
       case measure=>simp [intOf];omega
      | succ j=>
       obtain⟨a1,a2,a3⟩:=hrw.cell j (by omega);obtain⟨b1,b2,b3⟩:=hrw.cell (j+1) (by omega)
       have rng:∀z,z∈N->∃q:Nat,z=(q:Int)/\q<x.cells.length:=λz hz=>by
        obtain⟨q,hq,_,e⟩:=(a1a _ _ _ _).1 (hp.mem_iff.1 hz);exact⟨q,e.symm,by omega⟩
       obtain⟨ia,ea,hia⟩:=rng _ (a3j N j (by omega));obtain⟨ib,eb,hib⟩:=rng _ (a3j N (j+1) hj);obtain⟨b1',o1,ap1,kp1,e1,CA⟩:=hh.cell ia hia;cases e1;obtain⟨b2',o2,ap2,kp2,e2,CB⟩:=hh.cell ib hib;cases e2;have pa:=CA.p4;have pb:=CB.p4;have SW:=uU (hrw.swap j (j+1));rw[ea,eb] at SW;have hgl:=hrw.base_le;have PSW:=uU ((a4a N j (j+1) (by omega) hj).trans hp);rw[ea] at a1;rw[eb] at b1;have j0:(0:Int)<=(j:Int):=by omega
       have j1:(j:Int)<(M.length:Int)+1:=by omega
       have j2:(j:Int)+1<(M.length:Int)+1:=by omega
       have j3:(0:Int)<=(j:Int)+1:=by omega
       have j4:((j:Int)+1).toNat=j+1:=by omega
       have j5:(0:Int)<(j:Int)+1:=by omega
       have q0:(0:Int)<=(ia:Int):=by omega
       have q1:(ia:Int)<(x.cells.length:Int):=by omega
       have q2:(0:Int)<=(ib:Int):=by omega
       have q3:(ib:Int)<(x.cells.length:Int):=by omega
       have hmk:M.length<=8000:=by omega
       clear hrw hh CA CB rng a3 b3 ea eb;cases tb:decide ((x.c ib).born<(x.c ia).born)
       ·go_wp2_with fail;go_quiet (fail);go_wp2_with fail;go_roundw
        case rel=>exact⟨k+1,N,by omega,by go_num,(by have q:=uH HRW;rw[<-hNl] at q ⊢;exact q.ext ((Ext.refl _).drewN _)),hp,hbl.drewN _⟩
        case measure=>simp [intOf];omega
       ·have tb2:=of_decide_eq_true tb;clear tb;go_wp2_with fail;go_quiet (fail);go_wp2_with fail;go_roundw
        case rel=>exact⟨j,swp N j (j+1),by rw[a0s];omega,by go_num,by rw[a0s];omega,⟨uN SW.own (λq _=>rfl)⟩,PSW,((hbl.drewN _).setCell hgl.1 _).setCell hgl.1 _⟩
        case measure=>simp [intOf]
  ·have hk2:k=x.cells.length:=by omega
   subst hk2;have HRW:=uU hrw;clear hrw;go_wp2_with fail;go_ret;exact⟨_,M,rfl,HRW,hp,hbl⟩
theorem Sn.start(w:World)(n:Nat)(t:TypeId):Sn (w.alloc (.cells (madeCells #[.bool false] n) t)) w.heap.size w.heap.size n (.slice none 0 0) []:=by
 have e:(w.alloc (.cells (madeCells #[.bool false] n) t)).heap[w.heap.size]?=some (.cells (madeCells #[.bool false] n) t):=heap_alloc_new w _;refine⟨⟨Nat.le_refl _,by simp⟩,λi hi=>?_,λi hi=>(a7o w _ n t i hi).2,World.ownsRow_nil _ _ _ _,by simp [Value.ownBlock],List.nodup_nil,λz hz=>by cases hz⟩;rw[cell_of_row _ w.heap.size i _ _ (0,0) e,<-Array.getElem?_toList,toList_madeCells_one];simp [hi]
def b1m(x:Hp)(L:List Int):Prop:=∀z,z∈L->∃i:Nat,z=(i:Int)/\cY x i
def a4e(x:Hp)(k:Nat)(L:List Int):Prop:=∀j (h:j<x.regs.length),j<k->x.regs[j].k=2->(tgt x x.regs[j]:Int)∈L
def c3f(M:List Int)(k:Nat)(L:List Int):Prop:=∀j,j<k->it M j∈L
def a4k(x:Hp)(j k:Nat)(L:List Int):Prop:=∀p,p<k->(((x.c j).p p).key.k=2->(tgt x ((x.c j).p p).key:Int)∈L)/\(((x.c j).p p).val.k=2->(tgt x ((x.c j).p p).val:Int)∈L)
def a9i(x:Hp)(i:Nat)(L:List Int):Prop:=∀q,q<i->a4k x (it L q).toNat (x.c (it L q).toNat).prs.length L
theorem b1m.add(h:b1m x L)(a:Add x y L L')(hy:y.k=2->cY x (tgt x y)):b1m x L':=λz hz=>by
 rcases a.new hz with q | ⟨k,e⟩
 ·exact h z q
 ·exact⟨_,e,hy k⟩
theorem b0n{R:List Int}{q:Nat}(h:q<L.length):it (L++R) q=it L q:=by unfold it;simp [List.getElem?_append_left h]
theorem a4k.mono(h:a4k x j k L)(s:∀z,z∈L->z∈L'):a4k x j k L':=λp hp=>⟨λe=>s _ ((h p hp).1 e),λe=>s _ ((h p hp).2 e)⟩
theorem a9i.add(h:a9i x i L)(a:Add x y L L')(hi:i<=L.length):a9i x i L':=λq hq=>by
 obtain⟨R,e⟩:=a.pre;have hs:∀z,z∈L->z∈L':=λz hz=>a.sub hz
 have e2:it L' q=it L q:=by rw[e];exact b0n (by omega)
 rw[e2];exact(h q hq).mono hs
def WIn(x:Hp)(L:List Int):Prop:=∀i,i<x.cells.length->(x.c i).st=1->cQ (x.c i)->(i:Int)∈L
structure b0o(x:Hp)(i:Nat)(L:List Int):Prop where
 o:b1m x L
 r:a4e x x.regs.length L
 w:WIn x L
 c:a9i x i L
theorem b0o.add(h:b0o x i L)(a:Add x y L L')(hi:i<=L.length)(hy:y.k=2->cY x (tgt x y)):b0o x i L':=
 ⟨h.o.add a hy,λj hj hk e=>a.sub (h.r j hj hk e),λj hj e1 e2=>a.sub (h.w j hj e1 e2),h.c.add a hi⟩
theorem b0o.done(h:b0o x L.length L):∀i:Nat,(i:Int)∈L↔cY x i:=
 c1f h.o (λk hk e=>h.r k hk hk e) h.w (λj hj=>by
  obtain⟨q,hq,e⟩:=List.getElem_of_mem hj;have:=h.c q hq;rw[<-a9a L q hq,e] at this;have t2:a4k x j (x.c j).prs.length L:=by simpa using this
  exact t2)
theorem b0o.step(h:b0o x i L)(e:it L i=(j:Int))(hp:a4k x j (x.c j).prs.length L):b0o x (i+1) L:=
 ⟨h.o,h.r,h.w,λq hq=>by
  by_cases k:q=i
  ·rw[k,e];simpa using hp
  ·exact h.c q (by omega)⟩
theorem Rw1.form(h:Rw1 w base v M):∃ad cap,v=.slice ad M.length cap/\(0<M.length->∃g,ad=some ⟨g,0,none⟩):=by
 rcases h.own.2 with⟨h1,h2⟩ | ⟨g,cap,cur,h1,_⟩
 ·exact⟨none,0,by rw[h1,h2],λh=>by omega⟩
 ·exact⟨_,_,h1,λ_=>⟨g,rfl⟩⟩
theorem Rw1.mfr(h:Rw1 w base vw M)(q:Mfr bs v v' w w')(h1:vw.ownBlock≠some bs)(h2:∀k,vw.ownBlock=some k->v.ownBlock≠some k):Rw1 w' base vw M:=
 ⟨uN h.own (λk hk=>q.block k (h.own.lt k hk).2 (λe=>h1 (e ▸ hk)) (h2 k hk))⟩
theorem c4t(h:Rw1 w base vw M)(q:Mfr bs v v' w w')(h2:∀k,vw.ownBlock=some k->v.ownBlock≠some k):∀k,vw.ownBlock=some k->v'.ownBlock≠some k:=λk hk=>by
 rcases q.own with e | ⟨g,e,hg⟩
 ·rw[e];exact h2 k hk
 ·rw[e];intro f;cases f;have:=(h.own.lt k hk).2;omega
theorem Sn.mext(h:Sn w a.heap.size bs n v L)(q:Mfr bs v v' w w')(e:Ext a w):Ext a w':=q.ext e h.hb.1 (λk hk=>(h.own.lt k hk).1)
theorem Sn.form(h:Sn w base bs n v L):∃ad cap,v=.slice ad L.length cap/\(0<L.length->∃g,ad=some ⟨g,0,none⟩):=(Rw1.mk h.own).form
theorem b8a(x:Hp)(b:Nat)(w:World)(h:HAt w b x ar kr ac kc ag kg)(r2:R2 x)(r4:R4 x)(hn8:x.cells.length<=8000):
  Calls Tryz.prog 134 #[.pointer (some ⟨b,0,none⟩)] w λe w'=>∃v L,Hid (e=.returned (.tuple #[.slice (some ⟨w.heap.size,0,none⟩) x.cells.length x.cells.length,v]))/\Sn w' w.heap.size w.heap.size x.cells.length v L/\Hid (∀i:Nat,(i:Int)∈L↔cY x i)/\Ext w w':=by
 have c4:=h.c4;have c3:=h.c3;have lr:=h.lr;have hb:b<w.heap.size:=uL c4;have HH:=uU h;have Q2:=uU r2;have Q4:=uU r4;clear h r2 r4;obtain⟨z,hmk,hz⟩:=b6o x.cells.length (by omega) w;have S0:=uU (Sn.start w x.cells.length 4);rw[<-hz] at S0;clear hz;go_enter Tryz.func134,Tryz.ntmps134;go_wp2_with fail;go_loopw [5,24] (λv i wr=>∃(k:Nat) (L:List Int),k<=x.regs.length/\i=.int .i64 k/\Sn wr w.heap.size w.heap.size x.cells.length v L/\Hid (b1m x L/\a4e x k L)/\Ext w wr) (λ_ i _=>x.regs.length-(intOf i).toNat)
 case atStart=>exact⟨0,[],Nat.zero_le _,rfl,S0,⟨(λz hz=>by cases hz),λj _ hj=>by omega⟩,(Ext.refl w).alloc _⟩
 case round=>
  clear S0 hmk c4 c3;obtain⟨k,L,hk,rfl,hs,hinv,hbl⟩:=hrel;have HS:=uU hs;clear hs;by_cases hlt:k<x.regs.length
  ·have hh:=HH.ext hbl;obtain⟨b',o,e1,p0,p1,p2⟩:=hh.R k hlt;have d3:=hh.c3;rw[e1] at d3;have hk0:(0:Int)<=(k:Int):=by omega
   have hk1:(k:Int)<(x.regs.length:Int):=by omega
   have xa:=(Ext.refl wr).alloc (.cells #[iv x.regs[k].k,iv x.regs[k].n,iv x.regs[k].a] 152);subst e1;clear hh;go_wp2_with fail;refine(a0k x x.regs[k] b w.heap.size w.heap.size _ L _ (HH.ext (hbl.trans xa)) (a9h Q2 Q4 k hlt) (HS.ext xa) (hbl.trans xa).size hn8).mono ?_;rintro e w2 ⟨v',L',rfl,hs',ha,hm⟩
   have R:=uU (show Sn w2 w.heap.size w.heap.size x.cells.length v' L'/\(b1m x L'/\a4e x (k+1) L')/\Ext w w2 from
    ⟨hs',⟨hinv.1.add ha (λe=>cY.reg k hlt e),λj hj hjk e=>by
     by_cases q:j=k
     ·subst q;exact ha.has e
     ·exact ha.sub (hinv.2 j hj (by omega) e)⟩,(HS.ext xa).mext hm (hbl.trans xa)⟩)
   clear hs' ha hm xa;go_wp2_with fail;go_roundw
   case rel=>exact⟨k+1,L',by omega,by go_num,R.1,R.2.1,R.2.2⟩
   case measure=>simp [intOf];omega
  ·have hk2:k=x.regs.length:=by omega
   subst hk2;go_wp2_with fail;refine(b7z x b _ (HH.ext hbl) hn8).mono ?_;rintro e w3 ⟨vw,M,rfl,hrw,hpm,hq⟩;have hx3:=hbl.trans hq;obtain⟨BW,hBW⟩:∃n,n=wr.heap.size:=⟨_,rfl⟩;rw[<-hBW] at hrw;obtain⟨adw,capw,rfl,hgw⟩:=hrw.form;have hMl:M.length<=8000:=by have:=hpm.length_eq;have:=a4b (a6i x) a6t x.cells.length;unfold a6j at *;omega
   have WM:=uU (show ∀j,j<M.length->∃q:Nat,it M j=(q:Int)/\q<x.cells.length/\(x.c q).st=1/\cQ (x.c q) from λj hj=>by
    obtain⟨q,hq1,hq2,e⟩:=(a1a _ _ _ _).1 (hpm.mem_iff.1 (a3j M j hj));exact⟨q,e.symm,hq1,b5j.1 hq2⟩)
   have WA:=uU (show ∀i,i<x.cells.length->(x.c i).st=1->cQ (x.c i)->(i:Int)∈M from λi hi h1 h2=>hpm.mem_iff.2 ((a1a _ _ _ _).2 ⟨i,hi,b5j.2 ⟨h1,h2⟩,rfl⟩));have S3:=uU (HS.ext hq)
   have AP:=uU (show ∀q,(Value.slice adw M.length capw).ownBlock=some q->¬(Value.ownBlock (Value.slice adw M.length capw)=some w.heap.size) from λq _ e=>by
    have:=(hrw.own.lt _ e).1;have:=HS.hb.2;omega)
   have AP2:=uU (λq (e:(Value.slice adw M.length capw).ownBlock=some q)=>(show ∀u:Value,Sn wr w.heap.size w.heap.size x.cells.length u L->u.ownBlock≠some q from λu hu f=>by
    have:=(hu.own.lt q f).2;have:=(hrw.own.lt q e).1;omega))
   have APU:=uU (λq e=>uH AP2 q e _ HS);have RW:=uU hrw;have HI:=uU hinv;clear hrw hpm hq hlt hk AP2 hinv HS hBW;go_wp2_with fail;go_loopw [5,37] (λv i wx=>∃(k:Nat) (K:List Int),k<=M.length/\i=.int .i64 k/\Sn wx w.heap.size w.heap.size x.cells.length v K/\Rw1 wx BW (.slice adw M.length capw) M/\Hid (∀q,(Value.slice adw M.length capw).ownBlock=some q->v.ownBlock≠some q)/\Hid (b1m x K/\a4e x x.regs.length K/\c3f M k K)/\Ext w wx) (λ_ i _=>M.length-(intOf i).toNat)
   case atStart=>exact⟨0,L,Nat.zero_le _,rfl,S3,RW,APU,⟨HI.1,HI.2,λj hj=>by omega⟩,hx3⟩
   case round=>
    clear S3 RW APU HI hbl hx3;obtain⟨k,K,hk,rfl,hs,hrw,hap,hinv,hbl⟩:=hrel;have HS:=uU hs;have RW:=uU hrw;by_cases hlt:k<M.length
    ·obtain⟨g,rfl⟩:=hgw (by omega);obtain⟨a1,a2,a3⟩:=hrw.cell k hlt;obtain⟨q,eq,hq1,hq2,hq3⟩:=uH WM k hlt;rw[eq] at a1;have EQ:=uU eq;have hk0:(0:Int)<=(k:Int):=by omega
     have hk1:(k:Int)<(M.length:Int):=by omega
     have et:tgt x ⟨2,0,(q:Int)⟩=q:=by unfold tgt tD;simp [hq2]
     have MY:a0p x ⟨2,0,(q:Int)⟩:=λ_=>⟨rfl,by simp,by simpa using hq1,(λh=>by simp [hq2] at h),by rw[et];exact b0m Q4 q hq1 hq2 hq3⟩
     have MYH:=uU MY;have RQ:=uU (show cY x (tgt x ⟨2,0,(q:Int)⟩) by rw[et];exact cY.last q hq1 hq2 hq3);have ET:=uU et;have hvb:=uU (show(Value.slice (some ⟨g,0,none⟩) M.length capw).ownBlock≠some w.heap.size from λe=>uH AP _ rfl e);clear hs hrw a3 eq et MY hq2 hq3;go_wp2_with fail;refine(a0k x ⟨2,0,(q:Int)⟩ b w.heap.size w.heap.size _ K _ (HH.ext hbl) MYH HS hbl.size hn8).mono ?_;rintro e w2 ⟨v',L',rfl,hs',ha,hm⟩
     have R:=uU (show Sn w2 w.heap.size w.heap.size x.cells.length v' L'/\Rw1 w2 BW (.slice (some ⟨g,0,none⟩) M.length capw) M/\(∀q,(Value.slice (some ⟨g,0,none⟩) M.length capw).ownBlock=some q->v'.ownBlock≠some q)/\(b1m x L'/\a4e x x.regs.length L'/\c3f M (k+1) L')/\Ext w w2 from
      ⟨hs',RW.mfr hm hvb hap,c4t RW hm hap,⟨hinv.1.add ha (λ_=>uH RQ),λj hj hjk e=>ha.sub (hinv.2.1 j hj hjk e),λj hj=>by
       by_cases q2:j=k
       ·rw[q2,uH EQ];have:=ha.has rfl;rw[uH ET] at this;exact this
       ·exact ha.sub (hinv.2.2 j (by omega))⟩,HS.mext hm hbl⟩)
     clear hs' ha hm;go_wp2_with fail;go_roundw
     case rel=>exact⟨k+1,L',by omega,by go_num,R.1,R.2.1,R.2.2.1,R.2.2.2.1,R.2.2.2.2⟩
     case measure=>simp [intOf];omega
    ·have G0:=uU (show b0o x 0 K from⟨hinv.1,hinv.2.1,λi hi h1 h2=>by
      obtain⟨j,hj,e⟩:=List.getElem_of_mem (WA i hi h1 h2);rw[a9a M j hj] at e;rw[<-e];exact hinv.2.2 j (by omega),λq hq=>by omega⟩)
     clear hs hrw RW hap hinv WM WA AP hgw;go_wp2_with fail;go_loopw [5,10] (λv i wy=>∃(c:Nat) (J:List Int),c<=J.length/\i=.int .i64 c/\Sn wy w.heap.size w.heap.size x.cells.length v J/\Hid (b0o x c J)/\Ext w wy) (λ_ i _=>x.cells.length-(intOf i).toNat)
     case atStart=>exact⟨0,K,Nat.zero_le _,rfl,HS,G0,hbl⟩
     case round=>
      clear G0 HS hbl;obtain⟨c,J,hc,rfl,hs,hgo,hbl⟩:=hrel;have HS:=uU hs;obtain⟨ad,cap,rfl,hgl⟩:=hs.form;have hJn:=hs.len;by_cases hlt:c<J.length
      ·obtain⟨g,rfl⟩:=hgl (by omega);obtain⟨a1,a2,a3⟩:=(Rw1.mk hs.own).cell c hlt;obtain⟨j,ej,hrj⟩:=hgo.o _ (a3j J c hlt);rw[ej] at a1;have hgj:=hrj.good Q2 Q4;have hh:=HH.ext hbl;obtain⟨b',o,ap,kp,e1,C⟩:=HH.cell j hgj.1;have d4:=hh.c4;rw[e1] at d4;have p7:=hbl.keep C.p7;have lp:=C.lp;have HP:=uU C.P;have EJ:=uU ej;have RJ:=uU hrj;have GJ:=uU hgj;have hjn:=hgj.1;have c0:(0:Int)<=(c:Int):=by omega
       have c1:(c:Int)<(J.length:Int):=by omega
       have j0:(0:Int)<=(j:Int):=by omega
       have j1:(j:Int)<(x.cells.length:Int):=by omega
       clear hs C hh e1 ej hrj hgj a3 a2;go_wp2_with fail;go_quiet (fail);go_wp2_with fail;go_loopw [5,66] (λv i wz=>∃(p:Nat) (T:List Int),p<=(x.c j).prs.length/\i=.int .i64 p/\Sn wz w.heap.size w.heap.size x.cells.length v T/\Hid (b0o x c T/\it T c=(j:Int)/\c<T.length/\a4k x j p T)/\Ext w wz) (λ_ i _=>(x.c j).prs.length-(intOf i).toNat)
       case atStart=>exact⟨0,J,Nat.zero_le _,rfl,HS.ext ((Ext.refl _).drewN _),⟨hgo,EJ,hlt,λp hp=>by omega⟩,hbl.drewN _⟩
       case round=>
        clear HS hgo a1 d4 p7 hbl;obtain⟨p,T,hp,rfl,hs,hinv,hbl2⟩:=hrel;have HS:=uU hs;have hTn:=hs.len;by_cases hpl:p<(x.c j).prs.length
        ·obtain⟨b2,o2,rfl,q0,q1,q2,q3,q4,q5⟩:=uH HP p hpl;have e0:=hbl2.keep q0;have e1:=hbl2.keep q1;have e2:=hbl2.keep q2;have e3:=hbl2.keep q3;have e4:=hbl2.keep q4;have e5:=hbl2.keep q5;have hb2:b2<wr.heap.size:=uL e0;clear q0 q1 q2 q3 q4 q5 hs;have hp0:(0:Int)<=(p:Int):=by omega
         have hp1:(p:Int)<((x.c j).prs.length:Int):=by omega
         have xa:=(Ext.refl wr).alloc (.cells #[.int .i64 ((x.c j).p p).key.k,.int .i64 ((x.c j).p p).key.n,.int .i64 ((x.c j).p p).key.a,.int .i64 ((x.c j).p p).val.k,.int .i64 ((x.c j).p p).val.n,.int .i64 ((x.c j).p p).val.a] 154);have hMM:=uU (a4d Q2 Q4 j p GJ hpl);have wW:Ext w wr:=hbl2;go_wp2_with fail;refine(a0k x ((x.c j).p p).key b w.heap.size w.heap.size _ T _ (HH.ext (wW.trans xa)) hMM.1 (HS.ext xa) (wW.trans xa).size hn8).mono ?_;rintro e w5 ⟨v5,T5,rfl,hs5,ha5,hm5⟩;have x5:Ext w w5:=(HS.ext xa).mext hm5 (wW.trans xa);have hvl:=(HS.ext xa).own.lt;have u:=λ(o:Nat) (v:Value) (hc:(wr.alloc (.cells #[.int .i64 ((x.c j).p p).key.k,.int .i64 ((x.c j).p p).key.n,.int .i64 ((x.c j).p p).key.a,.int .i64 ((x.c j).p p).val.k,.int .i64 ((x.c j).p p).val.n,.int .i64 ((x.c j).p p).val.a] 154)).cell? ⟨wr.heap.size,o,none⟩=some v)=>(World.cell?_of_block (w':=w5) (a:=⟨wr.heap.size,o,none⟩) (hm5.block wr.heap.size (by simp) (by have:=HS.hb.2;omega) (λf=>by have:=(HS.own.lt _ f).2;omega))).trans hc
         have u3:=u 3 _ (by simp [go_sem];rfl);have u4:=u 4 _ (by simp [go_sem];rfl);have u5:=u 5 _ (by simp [go_sem];rfl);have hb5:wr.heap.size<w5.heap.size:=by have:=hm5.size;simp at this;omega
         have S5:=uU hs5;have A5:=uU ha5;clear u hm5 hs5 ha5 e0 e1 e2 e3 e4 e5 hvl xa;go_wp2_with fail;refine(a0k x ((x.c j).p p).val b w.heap.size w.heap.size _ T5 _ (HH.ext x5) hMM.2 S5 x5.size hn8).mono ?_;rintro e w6 ⟨v6,T6,rfl,hs6,ha6,hm6⟩
         have R:=uU (show Sn w6 w.heap.size w.heap.size x.cells.length v6 T6/\(b0o x c T6/\it T6 c=(j:Int)/\c<T6.length/\a4k x j (p+1) T6)/\Ext w w6 by
          obtain⟨i1,i2,i3,i4⟩:=hinv;obtain⟨R5,r5⟩:=A5.pre;obtain⟨R6,r6⟩:=ha6.pre;have l5:T.length<=T5.length:=by rw[r5];simp
          have l6:T5.length<=T6.length:=by rw[r6];simp
          refine⟨hs6,⟨(i1.add A5 (by omega) (λe=>cY.key j p RJ hpl e)).add ha6 (by omega) (λe=>cY.val j p RJ hpl e),?_,by omega,λq hq=>?_⟩,S5.mext hm6 x5⟩
          ·rw[r6,b0n (by omega),r5,b0n i3];exact i2
          ·by_cases qe:q=p
           ·subst qe;exact⟨λe=>ha6.sub (A5.has e),λe=>ha6.has e⟩
           ·exact((i4.mono (λz hz=>ha6.sub (A5.sub hz))) q (by omega)))
         clear hs6 ha6 hm6;go_wp2_with fail;go_roundw
         case rel=>exact⟨p+1,T6,by omega,by go_num,R.1,R.2.1,R.2.2⟩
         case measure=>simp [intOf];omega
        ·have hpe:p=(x.c j).prs.length:=by omega
         have R:=uU (show b0o x (c+1) T/\c+1<=T.length by
          obtain⟨i1,i2,i3,i4⟩:=hinv;rw[hpe] at i4;exact⟨i1.step i2 i4,i3⟩)
         clear hs hpe;go_wp2_with fail;go_roundw
         case rel=>exact⟨c+1,T,R.2,by go_num,HS,R.1,hbl2⟩
         case measure=>simp [intOf];omega
      ·have hce:c=J.length:=by omega
       have D:=uU (show ∀i:Nat,(i:Int)∈J↔cY x i by have:=uH hgo;rw[hce] at this;exact this.done);clear hs hce;go_wp2_with fail;go_ret2;exact⟨_,J,rfl,HS,D,hbl⟩
end Go.Proofs.YtddkhnclmeikfaaGreat
