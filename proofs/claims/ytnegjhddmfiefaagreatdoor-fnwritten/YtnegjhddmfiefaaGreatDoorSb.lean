import Derived.Test.YtnegjhddmfiefaaGreatDoorRw
import Derived.Test.YtnegjhddmfiefaaGreatDoorImpP
import Derived.Test.YtnegjhddmfiefaaGreatDoorSpecF
import Derived.Deep.DeepCutAuto
namespace Go.Proofs.YtnegjhddmfiefaaGreatDoor
open Go.RowKit
attribute [local go_sem ↓] Go.wp_at_zero Go.wp_at_succ
def HRd(w:World)(y:Hp)(ar:Option Addr)(kr:Nat)(ac:Option Addr)(kc:Nat)(ag:Option Addr)(kg:Nat):Prop:=SlW w (.slice ar y.regs.length kr) y.regs∧SlC w (.slice ac y.cells.length kc) y.cells∧SlI w (.slice ag y.gray.length kg) y.gray
theorem HRd.ext{w w':World}{y:Hp}{ar:Option Addr}{kr:Nat}{ac:Option Addr}{kc:Nat}{ag:Option Addr}{kg:Nat}(h:HRd w y ar kr ac kc ag kg)(e:Ext w w'):HRd w' y ar kr ac kc ag kg:=⟨SlW.ext e h.1,SlC.ext e h.2.1,SlI.ext e h.2.2⟩
theorem HRd.zero(w:World):HRd w Hp0 none 0 none 0 none 0:=⟨SlOf.nil,SlOf.nil,SlOf.nil⟩
theorem GAt.rd[Inhabited ProtD]{B:Nat}{w:World}{g:Nat}{x:Hp}{ar:Option Addr}{kr:Nat}{ac:Option Addr}{kc:Nat}{ag:Option Addr}{kg:Nat}{br bc:Nat}{pb:Nat→Nat}{pa:Nat→Option Addr}{pk:Nat→Nat}{role:Nat→Nat}(h:GAt B w g x ar kr ac kc (.slice ag x.gray.length kg) br bc pb pa pk role)(n1:x.regs.length≤1048576)(n2:x.cells.length≤1048576)(n3:∀q,q<x.cells.length→(x.c q).prs.length≤200)(n4:x.gray.length≤1048576):HRd w x ar kr ac kc ag kg:=by
 refine⟨h.rw.slW kr h.ha n1,h.rw.slC kc h.hc n2 n3,⟨ag,kg,rfl,by omega,fun i hi=>?_⟩⟩;obtain⟨gb,go,e,c,_⟩:=h.gr.at i hi;exact⟨gb,go,e,by rw[Nat.mul_one];exact c⟩
theorem CvAt.ext{w w':World}(e:Ext w w'){b o:Nat}{z:Cl×Value}(h:CvAt w b o z):CvAt w' b o z:=fun j hj=>by
 have:=h j hj;cases hc:(fC z)[j]? with
 | none=>match j,hj with | 0,_ | 1,_ | 2,_ | 3,_ | 4,_ | 5,_ | 6,_ | 7,_=>simp [fC] at hc
 | some y=>rw[hc] at this;exact e.keep this
def CapP(x:Hp)(pk:Nat→Nat):Prop:=∀q,q<x.cells.length→(x.c q).prs.length≤pk q
def HOwn(B:Nat)(w:World)(x:Hp)(vr vc:Value):Prop:=∃br bc pb pa pk ar kr ac kc,vr=.slice ar x.regs.length kr∧(0<x.regs.length→ar=some ⟨br,0,none⟩)∧vc=.slice ac x.cells.length kc∧(0<x.cells.length→ac=some ⟨bc,0,none⟩)∧Rws B w x br bc pb pa pk∧CapP x pk
theorem HOwn.ext{B:Nat}{w w':World}{x:Hp}{vr vc:Value}(h:HOwn B w x vr vc)(e:Ext w w'):HOwn B w' x vr vc:=by
 obtain⟨br,bc,pb,pa,pk,ar,kr,ac,kc,h1,h2,h3,h4,h5,h6⟩:=h;exact⟨br,bc,pb,pa,pk,ar,kr,ac,kc,h1,h2,h3,h4,h5.ext e,h6⟩
structure Rwn(B:Nat)(w:World)(x:Hp)(br:Nat)(cB cO:Nat→Nat)(pb:Nat→Nat)(pa:Nat→Option Addr)(pk:Nat→Nat):Prop where
 r:∀i (hi:i<x.regs.length),WdAt w br (i*3) x.regs[i]
 s:∀q,q<x.cells.length→S7 w (cB q) (cO q) (x.c q)
 p7:∀q,q<x.cells.length→w.cell? ⟨cB q,cO q+7,none⟩=some (.slice (pa q) (x.c q).prs.length (pk q))
 p:∀q,q<x.cells.length→∀k,k<(x.c q).prs.length→PrAt w (pb q) (k*6) ((x.c q).p k)
 pl:∀q,q<x.cells.length→0<pk q→pa q=some ⟨pb q,0,none⟩∧Nfp (pb q) (pk q) w∧(pb q≠br∧∀j,j<x.cells.length→pb q≠cB j)∧B≤pb q
 nr:0<x.regs.length→Nf1 br w∧B≤br
 nc:∀q,q<x.cells.length→Nf1 (cB q) w∧B≤cB q
 d:∀q,q<x.cells.length→br≠cB q
 dp:∀q q',q<x.cells.length→q'<x.cells.length→q≠q'→0<pk q→0<pk q'→pb q≠pb q'
 dc:∀q q',q<x.cells.length→q'<x.cells.length→q≠q'→cB q≠cB q'∨cO q+8≤cO q'∨cO q'+8≤cO q
 kp:CapP x pk
theorem Rwn.pw{B:Nat}{w:World}{x:Hp}{br:Nat}{cB cO:Nat→Nat}{pb:Nat→Nat}{pa:Nat→Option Addr}{pk:Nat→Nat}(h:Rwn B w x br cB cO pb pa pk){q:Nat}(hq:q<x.cells.length)(hl:0<(x.c q).prs.length):0<pk q:=Nat.lt_of_lt_of_le hl (h.kp q hq)
theorem Rwn.same{B:Nat}{w w':World}{x:Hp}{br:Nat}{cB cO pb:Nat→Nat}{pa:Nat→Option Addr}{pk:Nat→Nat}(h:Rwn B w x br cB cO pb pa pk)(hs:w.heap.size≤w'.heap.size)
  (hr:0<x.regs.length→w'.heap[br]?=w.heap[br]?) (hc:∀q,q<x.cells.length→w'.heap[cB q]?=w.heap[cB q]?) (hp:∀q,q<x.cells.length→0<pk q→w'.heap[pb q]?=w.heap[pb q]?):Rwn B w' x br cB cO pb pa pk where
 r:=fun i hi=>(h.r i hi).of fun j _=>World.cell?_of_block (a:=⟨br,_,none⟩) (hr (by omega))
 s:=fun q hq=>(h.s q hq).of fun j _=>World.cell?_of_block (a:=⟨cB q,_,none⟩) (hc q hq)
 p7:=fun q hq=>(World.cell?_of_block (a:=⟨cB q,_,none⟩) (hc q hq)).trans (h.p7 q hq)
 p:=fun q hq k hk=>(h.p q hq k hk).of fun j _=>World.cell?_of_block (a:=⟨pb q,_,none⟩) (hp q hq (h.pw hq (by omega)))
 pl:=fun q hq hl=>let ⟨a,b,c⟩:=h.pl q hq hl;⟨a,nfp_block b (hp q hq hl) hs,c⟩
 nr:=fun hl=>⟨nf1_block (h.nr hl).1 (hr hl) hs,(h.nr hl).2⟩
 nc:=fun q hq=>⟨nf1_block (h.nc q hq).1 (hc q hq) hs,(h.nc q hq).2⟩
 d:=h.d
 dp:=h.dp
 dc:=h.dc
 kp:=h.kp
theorem Rwn.ext{B:Nat}{w w':World}{x:Hp}{br:Nat}{cB cO pb:Nat→Nat}{pa:Nat→Option Addr}{pk:Nat→Nat}(h:Rwn B w x br cB cO pb pa pk)(e:Ext w w'):Rwn B w' x br cB cO pb pa pk:=
 h.same e.size (fun hl=>e.block _ (h.nr hl).1.1) (fun q hq=>e.block _ (h.nc q hq).1.1) (fun q hq hl=>e.block _ (h.pl q hq hl).2.1.1)
theorem Rwn.only{S:Nat→Prop}{B:Nat}{w w':World}{x:Hp}{br:Nat}{cB cO pb:Nat→Nat}{pa:Nat→Option Addr}{pk:Nat→Nat}(h:Rwn B w x br cB cO pb pa pk)(e:Only S w w')(hr:0<x.regs.length→¬S br)(hc:∀q,q<x.cells.length→¬S (cB q))(hp:∀q,q<x.cells.length→0<pk q→¬S (pb q)):Rwn B w' x br cB cO pb pa pk:=
 h.same e.size (fun hl=>e.block _ (h.nr hl).1.1 (hr hl)) (fun q hq=>e.block _ (h.nc q hq).1.1 (hc q hq)) (fun q hq hl=>e.block _ (h.pl q hq hl).2.1.1 (hp q hq hl))
abbrev ndp(bn i:Nat):Value:=.pointer (some ⟨bn,i*2,none⟩)
structure SSep(x:Hp)(role:Nat→Nat)(b br:Nat)(cB:Nat→Nat)(bn:Nat)(pb pk:Nat→Nat)(vf vk:Value):Prop where
 b:role b=0
 n:role bn=1
 r:0<x.regs.length→role br=2
 c:∀q,q<x.cells.length→role (cB q)=3
 f:∀q,vf.ownBlock=some q→role q=4
 k:∀q,vk.ownBlock=some q→role q=5
 p:∀q,q<x.cells.length→0<pk q→role (pb q)=6+q
structure RAt(w:World)(b bn hd:Nat)(G:List Int):Prop where
 h0:hd<4000
 hl:G.length≤4000
 r0:w.cell? ⟨b,4015,none⟩=some (iv hd)
 r1:w.cell? ⟨b,4016,none⟩=some (iv G.length)
 rg:∀i (hi:i<G.length),w.cell? ⟨b,15+(hd+i) % 4000,none⟩=some (ndp bn G[i].toNat)
 ro:∀j,j<4000→∃v,w.cell? ⟨b,15+j,none⟩=some v
def NdB(w:World)(bn kn:Nat):Prop:=bn<w.heap.size∧∀j,j<kn*2→Open w bn j
theorem NdB.of{w w':World}{bn kn:Nat}(h:NdB w bn kn)(e:w'.heap[bn]?=w.heap[bn]?)(hs:w.heap.size≤w'.heap.size):NdB w' bn kn:=
 ⟨Nat.lt_of_lt_of_le h.1 hs,fun j hj=>by
  obtain⟨⟨v,hv⟩,hf⟩:=h.2 j hj;exact⟨⟨v,(World.cell?_of_block (a:=⟨bn,j,none⟩) e).trans hv⟩,(World.frozen?_of_block (a:=⟨bn,j,none⟩) e).trans hf⟩⟩
structure SB(B:Nat)(w:World)(b:Nat)(x:Hp)(ar:Option Addr)(kr:Nat)(v4 v8:Value)(br:Nat)(cB cO:Nat→Nat)(bn:Nat)(kn hd:Nat)(vf:Value)(F:List Int)(vk:Value)(K:List Nat):Prop where
 bx:HBox w b x (.slice ar x.regs.length kr) v4 v8
 ha:0<x.regs.length→ar=some ⟨br,0,none⟩
 n13:w.cell? ⟨b,13,none⟩=some (.slice (some ⟨bn,0,none⟩) x.cells.length kn)
 nd:∀i,i<x.cells.length→w.cell? ⟨bn,i*2,none⟩=some (iv i)∧w.cell? ⟨bn,i*2+1,none⟩=some (.pointer (some ⟨cB i,cO i,none⟩))
 fr:LsAt w B b 14 vf F
 rg:RAt w b bn hd x.gray
 k0:w.cell? ⟨b,4017,none⟩=some vk
 kp:w.ownsRow B 114 1 vk K.length (K.map (ndp bn))
 nb:Nf1 b w
 lo:B≤b∧B≤bn∧NdB w bn kn
structure SAt[Inhabited ProtD](B:Nat)(w:World)(b:Nat)(x:Hp)(ar:Option Addr)(kr:Nat)(v4 v8:Value)(br:Nat)(cB cO:Nat→Nat)(bn:Nat)(pb:Nat→Nat)(pa:Nat→Option Addr)(pk:Nat→Nat)(kn hd:Nat)(vf:Value)(F:List Int)(vk:Value)(K:List Nat)(role:Nat→Nat):Prop where
 sb:SB B w b x ar kr v4 v8 br cB cO bn kn hd vf F vk K
 rw:Rwn B w x br cB cO pb pa pk
 sp:SSep x role b br cB bn pb pk vf vk
 pr:Prt w role
theorem RAt.of{w w':World}{b bn hd:Nat}{G:List Int}(h:RAt w b bn hd G)(e:∀o,15≤o→o<4017→w'.cell? ⟨b,o,none⟩=w.cell? ⟨b,o,none⟩):RAt w' b bn hd G:=
 ⟨h.h0,h.hl,(e 4015 (by omega) (by omega)).trans h.r0,(e 4016 (by omega) (by omega)).trans h.r1,fun i hi=>(e _ (by omega) (by have:(hd+i) % 4000<4000:=Nat.mod_lt _ (by omega);omega)).trans (h.rg i hi),fun j hj=>let ⟨v,q⟩:=h.ro j hj;⟨v,(e _ (by omega) (by omega)).trans q⟩⟩
theorem RAt.block{w w':World}{b bn hd:Nat}{G:List Int}(h:RAt w b bn hd G)(e:w'.heap[b]?=w.heap[b]?):RAt w' b bn hd G:=h.of fun o _ _=>World.cell?_of_block (a:=⟨b,o,none⟩) e
theorem RAt.put{w:World}{b bn hd i m:Nat}{G:List Int}(h:RAt w b bn hd G)(hl:G.length<4000)(hm:m=(hd+G.length) % 4000):
  RAt ((w.setCell ⟨b,15+m,none⟩ (ndp bn i)).setCell ⟨b,4016,none⟩ (iv (G.length+1))) b bn hd (G++[(i:Int)]):=by
 have hm4:m<4000:=by rw[hm];exact Nat.mod_lt _ (by omega)
 refine⟨h.h0,by simp;omega,?_,?_,fun k hk=>?_,fun j hj=>?_⟩
 ·rw[cell_other _ (.inr (by omega)),cell_other _ (.inr (by omega))];exact h.r0
 ·have:(w.setCell ⟨b,15+m,none⟩ (ndp bn i)).cell? ⟨b,4016,none⟩=some (iv G.length):=by rw[cell_other _ (.inr (by omega))];exact h.r1
  rw[World.cell?_setCell_same _ _ _ this];simp
 ·have hk2:(hd+k) % 4000<4000:=Nat.mod_lt _ (by omega);rw[cell_other _ (.inr (by omega))];by_cases e:k=G.length
  ·subst e;obtain⟨v,hv⟩:=h.ro m hm4;rw[←hm,World.cell?_setCell_same _ _ _ hv];simp
  ·have hk3:k<G.length:=by simp at hk;omega
   rw[cell_other _ (.inr (by have:=h.h0;omega)),h.rg k hk3];simp [hk3]
 ·rw[cell_other _ (.inr (by omega))];obtain⟨v,hv⟩:=h.ro j hj;exact cell?_setCell_some hv
theorem SB.same{B:Nat}{w:World}{b:Nat}{x:Hp}{ar:Option Addr}{kr:Nat}{v4 v8:Value}{br bn:Nat}{cB cO:Nat→Nat}{kn hd:Nat}{vf:Value}{F:List Int}{vk:Value}{K:List Nat}{w':World}(h:SB B w b x ar kr v4 v8 br cB cO bn kn hd vf F vk K)(hs:w.heap.size≤w'.heap.size)(hb:w'.heap[b]?=w.heap[b]?)(hn:w'.heap[bn]?=w.heap[bn]?)(hf:∀q,vf.ownBlock=some q→w'.heap[q]?=w.heap[q]?)(hk:∀q,vk.ownBlock=some q→w'.heap[q]?=w.heap[q]?):SB B w' b x ar kr v4 v8 br cB cO bn kn hd vf F vk K where
 bx:=h.bx.block hb
 ha:=h.ha
 n13:=(World.cell?_of_block (a:=⟨b,13,none⟩) hb).trans h.n13
 nd:=fun i hi=>⟨(World.cell?_of_block (a:=⟨bn,_,none⟩) hn).trans (h.nd i hi).1,(World.cell?_of_block (a:=⟨bn,_,none⟩) hn).trans (h.nd i hi).2⟩
 fr:=⟨(World.cell?_of_block (a:=⟨b,14,none⟩) hb).trans h.fr.hd,(World.frozen?_of_block (a:=⟨b,14,none⟩) hb).trans h.fr.hf,ownsRow_of_block h.fr.own hf,h.fr.apart⟩
 rg:=h.rg.block hb
 k0:=(World.cell?_of_block (a:=⟨b,4017,none⟩) hb).trans h.k0
 kp:=ownsRow_of_block h.kp hk
 nb:=nf1_block h.nb hb hs
 lo:=⟨h.lo.1,h.lo.2.1,h.lo.2.2.of hn hs⟩
theorem SAt.ext[Inhabited ProtD]{B:Nat}{w:World}{b:Nat}{x:Hp}{ar:Option Addr}{kr:Nat}{v4 v8:Value}{br bn:Nat}{cB cO:Nat→Nat}{pb:Nat→Nat}{pa:Nat→Option Addr}{pk:Nat→Nat}{kn hd:Nat}{vf:Value}{F:List Int}{vk:Value}{K:List Nat}{role:Nat→Nat}{w':World}(h:SAt B w b x ar kr v4 v8 br cB cO bn pb pa pk kn hd vf F vk K role)(e:Ext w w'):SAt B w' b x ar kr v4 v8 br cB cO bn pb pa pk kn hd vf F vk K role:=
 ⟨h.sb.same e.size (e.block b h.sb.nb.1) (e.block bn h.sb.lo.2.2.1) (fun q hq=>e.block q (h.sb.fr.own.lt q hq).2) (fun q hq=>e.block q (h.sb.kp.lt q hq).2),h.rw.ext e,h.sp,h.pr.of (fun q hq _=>e.block q hq) (fun _ _ h=>h)⟩
theorem SAt.push[Inhabited ProtD]{B:Nat}{b:Nat}{x:Hp}{ar:Option Addr}{kr:Nat}{v4 v8:Value}{br bn:Nat}{cB cO:Nat→Nat}{pb:Nat→Nat}{pa:Nat→Option Addr}{pk:Nat→Nat}{kn hd:Nat}{vf:Value}{F:List Int}{vk:Value}{K:List Nat}{role:Nat→Nat}{W w5:World}{i g cap:Nat}(h:SAt B W b x ar kr v4 v8 br cB cO bn pb pa pk kn hd vf F vk K role)(hg:W.grownBy w5 vk.ownBlock)(h5:w5.ownsRow B 114 1 (.slice (some ⟨g,0,none⟩) (K.length+1) cap) (K.length+1) (K.map (ndp bn)++[ndp bn i]))(hat:vk.ownBlock=some g∨g=W.heap.size):
  SAt B (w5.setCell ⟨b,4017,none⟩ (.slice (some ⟨g,0,none⟩) (K.length+1) cap)) b x ar kr v4 v8 br cB cO bn pb pa pk kn hd vf F (.slice (some ⟨g,0,none⟩) (K.length+1) cap) (K++[i]) (fun q=>if q=g then 5 else role q):=by
 have hgb:∀q,q<W.heap.size→role q≠5→q≠g:=fun q hq hr e=>by
  rcases hat with a | a
  ·exact hr (by rw[e];exact h.sp.k g a)
  ·omega
 have far:∀q,q<W.heap.size→role q≠5→w5.heap[q]?=W.heap[q]?:=fun q hq hr=>hg.block q hq (fun e=>hr (h.sp.k q e.symm))
 have hb:=h.sb.nb.1;have rb:role b≠5:=by rw[h.sp.b];omega
 have fb:=far b hb rb;have nbg:=hgb b hb rb;have far2:∀q,q<W.heap.size→role q≠5→q≠b→(w5.setCell ⟨b,4017,none⟩ (.slice (some ⟨g,0,none⟩) (K.length+1) cap)).heap[q]?=W.heap[q]?:=fun q hq hr hne=>(Below.heap_setCell _ _ _ _ hne).trans (far q hq hr)
 have cb:∀o,o≠4017→(w5.setCell ⟨b,4017,none⟩ (.slice (some ⟨g,0,none⟩) (K.length+1) cap)).cell? ⟨b,o,none⟩=W.cell? ⟨b,o,none⟩:=fun o ho=>(cell_other _ (.inr (fun e=>ho e.symm))).trans (World.cell?_of_block (a:=⟨b,o,none⟩) fb)
 have hsz:W.heap.size≤(w5.setCell ⟨b,4017,none⟩ (.slice (some ⟨g,0,none⟩) (K.length+1) cap)).heap.size:=by have:=hg.size;simpa [World.setCell] using this
 have rn:role bn≠5:=by rw[h.sp.n];omega
 have nnb:bn≠b:=fun e=>by have h1:=h.sp.n;have h2:=h.sp.b;rw[e] at h1;omega
 have fn:=far2 bn h.sb.lo.2.2.1 rn nnb;have ff:∀q,vf.ownBlock=some q→(w5.setCell ⟨b,4017,none⟩ (.slice (some ⟨g,0,none⟩) (K.length+1) cap)).heap[q]?=W.heap[q]?:=fun q hq=>far2 q (h.sb.fr.own.lt q hq).2 (by rw[h.sp.f q hq];omega) (fun e=>by have h1:=h.sp.f q hq;have h2:=h.sp.b;rw[e] at h1;omega)
 refine⟨⟨h.sb.bx.of fun o ho=>cb o (by omega),h.sb.ha,(cb 13 (by omega)).trans h.sb.n13,fun k hk=>⟨(World.cell?_of_block (a:=⟨bn,_,none⟩) fn).trans (h.sb.nd k hk).1,(World.cell?_of_block (a:=⟨bn,_,none⟩) fn).trans (h.sb.nd k hk).2⟩,⟨(cb 14 (by omega)).trans h.sb.fr.hd,?_,ownsRow_of_block h.sb.fr.own ff,h.sb.fr.apart⟩,h.sb.rg.of fun o _ h2=>cb o (by omega),?_,?_,?_,⟨h.sb.lo.1,h.sb.lo.2.1,h.sb.lo.2.2.of fn hsz⟩⟩,?_,?_,h.pr.of (fun q hq h1=>far2 q hq (by rw[h1];omega) (fun e=>by have h2:=h.sp.b;rw[e] at h1;omega)) (fun q hq h1=>by(try dsimp only);rw[if_neg (hgb q hq (by rw[h1];omega))];exact h1)⟩
 ·rw[World.frozen?_setCell];exact(World.frozen?_of_block (a:=⟨b,14,none⟩) fb).trans h.sb.fr.hf
 ·exact World.cell?_setCell_same _ _ _ ((World.cell?_of_block (a:=⟨b,4017,none⟩) fb).trans h.sb.k0)
 ·have:=ownsRow_of_block (w':=w5.setCell ⟨b,4017,none⟩ (.slice (some ⟨g,0,none⟩) (K.length+1) cap)) h5 (fun q hq=>Below.heap_setCell _ _ _ _ (fun e=>nbg (by simp [Value.ownBlock] at hq;rw[hq];exact e.symm)))
  simpa using this
 ·refine⟨Nat.lt_of_lt_of_le hb hsz,fun j=>?_⟩;rw[World.frozen?_setCell];exact(World.frozen?_of_block (a:=⟨b,j,none⟩) fb).trans (h.sb.nb.2 j)
 ·exact h.rw.same hsz (fun hl=>far2 br (h.rw.nr hl).1.1 (by rw[h.sp.r hl];omega) (fun e=>by have h1:=h.sp.r hl;have h2:=h.sp.b;rw[e] at h1;omega)) (fun q hq=>far2 (cB q) (h.rw.nc q hq).1.1 (by rw[h.sp.c q hq];omega) (fun e=>by have h1:=h.sp.c q hq;have h2:=h.sp.b;rw[e] at h1;omega)) (fun q hq hl=>far2 (pb q) (h.rw.pl q hq hl).2.1.1 (by rw[h.sp.p q hq hl];omega) (fun e=>by have h1:=h.sp.p q hq hl;have h2:=h.sp.b;rw[e] at h1;omega))
 ·refine⟨?_,?_,fun hl=>?_,fun q hq=>?_,fun q hq=>?_,fun q hq=>?_,fun q hq hl=>?_⟩
  ·rw[if_neg nbg];exact h.sp.b
  ·rw[if_neg (hgb bn h.sb.lo.2.2.1 rn)];exact h.sp.n
  ·rw[if_neg (hgb br (h.rw.nr hl).1.1 (by rw[h.sp.r hl];omega))];exact h.sp.r hl
  ·rw[if_neg (hgb (cB q) (h.rw.nc q hq).1.1 (by rw[h.sp.c q hq];omega))];exact h.sp.c q hq
  ·rw[if_neg (hgb q (h.sb.fr.own.lt q hq).2 (by rw[h.sp.f q hq];omega))];exact h.sp.f q hq
  ·simp [Value.ownBlock] at hq;rw[if_pos hq.symm]
  ·rw[if_neg (hgb (pb q) (h.rw.pl q hq hl).2.1.1 (by rw[h.sp.p q hq hl];omega))];exact h.sp.p q hq hl
theorem SAt.ring[Inhabited ProtD]{B:Nat}{w:World}{b:Nat}{x:Hp}{ar:Option Addr}{kr:Nat}{v4 v8:Value}{br bn:Nat}{cB cO:Nat→Nat}{pb:Nat→Nat}{pa:Nat→Option Addr}{pk:Nat→Nat}{kn hd:Nat}{vf:Value}{F:List Int}{vk:Value}{K:List Nat}{role:Nat→Nat}{w':World}{hd':Nat}{G:List Int}(h:SAt B w b x ar kr v4 v8 br cB cO bn pb pa pk kn hd vf F vk K role)(r:RAt w' b bn hd' G)(o:Only (fun q=>q=b) w w')(n:Nf1 b w')(c:∀k,(k<15∨k=4017)→w'.cell? ⟨b,k,none⟩=w.cell? ⟨b,k,none⟩):
  SAt B w' b { x with gray:=G } ar kr v4 v8 br cB cO bn pb pa pk kn hd' vf F vk K role:=by
 have far:∀q,q<w.heap.size→role q≠0→w'.heap[q]?=w.heap[q]?:=fun q hq hr=>o.block q hq (fun e=>hr (by rw[e];exact h.sp.b))
 have fn:=far bn h.sb.lo.2.2.1 (by rw[h.sp.n];omega);refine⟨⟨h.sb.bx.of fun k hk=>c k (by omega),h.sb.ha,(c 13 (by omega)).trans h.sb.n13,fun k hk=>⟨(World.cell?_of_block (a:=⟨bn,_,none⟩) fn).trans (h.sb.nd k hk).1,(World.cell?_of_block (a:=⟨bn,_,none⟩) fn).trans (h.sb.nd k hk).2⟩,⟨(c 14 (by omega)).trans h.sb.fr.hd,n.2 14,ownsRow_of_block h.sb.fr.own (fun q hq=>far q (h.sb.fr.own.lt q hq).2 (by rw[h.sp.f q hq];omega)),h.sb.fr.apart⟩,r,(c 4017 (by omega)).trans h.sb.k0,ownsRow_of_block h.sb.kp (fun q hq=>far q (h.sb.kp.lt q hq).2 (by rw[h.sp.k q hq];omega)),n,⟨h.sb.lo.1,h.sb.lo.2.1,h.sb.lo.2.2.of fn o.size⟩⟩,?_,⟨h.sp.b,h.sp.n,h.sp.r,h.sp.c,h.sp.f,h.sp.k,h.sp.p⟩,h.pr.of (fun q hq h1=>far q hq (by rw[h1];omega)) (fun _ _ h=>h)⟩;have:=h.rw.same o.size (fun hl=>far br (h.rw.nr hl).1.1 (by rw[h.sp.r hl];omega)) (fun q hq=>far (cB q) (h.rw.nc q hq).1.1 (by rw[h.sp.c q hq];omega)) (fun q hq hl=>far (pb q) (h.rw.pl q hq hl).2.1.1 (by rw[h.sp.p q hq hl];omega));exact⟨this.r,this.s,this.p7,this.p,this.pl,this.nr,this.nc,this.d,this.dp,this.dc,this.kp⟩
end Go.Proofs.YtnegjhddmfiefaaGreatDoor
