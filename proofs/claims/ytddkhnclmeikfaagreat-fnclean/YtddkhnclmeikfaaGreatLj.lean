import Derived.Test.YtddkhnclmeikfaaGreatPro
import Derived.Test.YtddkhnclmeikfaaGreatAc
import Derived.Deep.RegionLaw
set_option maxRecDepth 100000
set_option maxHeartbeats 4000000
namespace Go.Proofs.YtddkhnclmeikfaaGreat
open Go.RowKit
attribute [local go_sem ↓] Go.wp_at_zero Go.wp_at_succ
variable{x:Hp}{B g kc bc kr br k n gb go B7 kp cap kg b:Nat}{w w' wr w3 w6 W w5:World}{ac ar ap ag:Option Addr}{role pb pk role':Nat->Nat}{vg vr vc v' v:Value}{pa:Nat->Option Addr}{c:Cl}{xs:List Value}{G:List Int}
structure CS(x:Hp)(w3 w6 wr:World)(vr vc vg:Value)(k:Nat)(L:List (Cl×Value)):Prop where
 own:wr.ownsRow w6.heap.size 62 8 vc k (L.flatMap fC)
 eq:L.map (·.1)=x.A.take k
 F:∀z,z∈L->wr.ownsRow w6.heap.size 154 6 z.2 z.1.F.length (z.1.F.flatMap fP)/\∀q,z.2.ownBlock=some q->vc.ownBlock≠some q
 dis:∀i j (hi:i<L.length) (hj:j<L.length),i≠j->∀q,L[i].2.ownBlock=some q->L[j].2.ownBlock≠some q
 bx:dE wr w3.heap.size x vr vc vg
 fz:∀o,wr.frozen? ⟨w3.heap.size,o,none⟩=false
 on:uZ (λq=>q=w3.heap.size) w6 wr
 ex:Ext w3 wr
 lt:w3.heap.size<w6.heap.size
theorem CS.ext{L:List (Cl×Value)}(h:CS x w3 w6 wr vr vc vg k L)(e:Ext wr w'):CS x w3 w6 w' vr vc vg k L where
 own:=uN h.own (λq hq=>e.block q (h.own.lt q hq).2)
 eq:=h.eq
 F:=λz hz=>⟨uN (h.F z hz).1 (λq hq=>e.block q ((h.F z hz).1.lt q hq).2),(h.F z hz).2⟩
 dis:=h.dis
 bx:=h.bx.ext e
 fz:=λo=>((cD e).2 _ o (Nat.lt_of_lt_of_le h.lt h.on.size)).trans (h.fz o)
 on:=h.on.trans ⟨e.os,e.tape,e.output,e.size,λq hq _=>e.block q hq⟩
 ex:=h.ex.trans e
 lt:=h.lt
theorem CS.len{L:List (Cl×Value)}(h:CS x w3 w6 wr vr vc vg k L)(hk:k<=x.A.length):L.length=k:=by
 have:=congrArg List.length h.eq
 simpa [Nat.min_eq_left hk] using this
theorem CS.push{L:List (Cl×Value)}{z:Cl×Value}(h:CS x w3 w6 W vr vc vg k L)(hk:k<x.A.length)(hz:z.1=x.A[k])(hg:W.grownBy w5 vc.ownBlock)(h5:w5.ownsRow w6.heap.size 62 8 v' (k+1) (L.flatMap fC++fC z))
  (hv':v'.ownBlock=some g) (hat:vc.ownBlock=some g\/g=W.heap.size) (hp:W.ownsRow B7 154 6 z.2 z.1.F.length (z.1.F.flatMap fP)) (h7:w6.heap.size<=B7) (hvn:∀q,vc.ownBlock=some q->q<B7) (hvp:∀y,y∈L->∀q,y.2.ownBlock=some q->q<B7) :
  CS x w3 w6 (w5.setCell ⟨w3.heap.size,4,none⟩ v') vr v' vg (k+1) (L++[z]):=by
 have hbW:w3.heap.size<W.heap.size:=Nat.lt_of_lt_of_le h.lt h.on.size;obtain⟨b1,b2,b3,b4,b5,b6⟩:=b2o (o:=4) (u:=v') (bg:=w3.heap.size) h.lt h.ex h.own (Nat.le_refl _) hbW hg h5
 have key:∀y,y∈L++[z]->W.ownsRow w6.heap.size 154 6 y.2 y.1.F.length (y.1.F.flatMap fP)/\∀q,y.2.ownBlock=some q->vc.ownBlock≠some q:=λy hy=>by
  rcases List.mem_append.1 hy with q | q
  ·exact h.F y q
  ·rw[List.mem_singleton] at q;subst q;exact⟨a3v hp h7,λq e e'=>by have:=(hp.lt q e).1;have:=hvn q e';omega⟩
 have hb:dE w5 w3.heap.size x vr vc vg:=h.bx.block (hg.block w3.heap.size hbW (λe=>by have:=(h.own.lt _ e.symm).1;have:=h.lt;omega));refine⟨by simpa using b1,?_,λy hy=>?_,λi j hi hj hne q e e'=>?_,hb.set4 v',λo=>(b4 o).trans (h.fz o),?_,b2,h.lt⟩
 ·rw[List.map_append,h.eq,List.take_succ_eq_append_getElem hk];simp [hz]
 ·have kk:=key y hy;refine⟨uN kk.1 (λq hq=>b6 q (kk.1.lt q hq).2 (λe=>by have:=(kk.1.lt q hq).1;have:=h.lt;omega) (kk.2 q hq)),λq e e'=>?_⟩;rw[hv'] at e'
  injection e' with e'
  subst e';rcases hat with r | r
  ·exact kk.2 g e r
  ·have:=(kk.1.lt g e).2;omega
 ·simp only [List.getElem_append] at e e';simp at hi hj;by_cases hi':i<L.length <;> by_cases hj':j<L.length
  ·simp only [hi',hj',dite_true] at e e';exact h.dis i j hi' hj' hne q e e'
  ·simp only [hi',hj',dite_true,dite_false,List.getElem_singleton] at e e';have:=hvp _ (List.getElem_mem hi') q e;have:=(hp.lt q e').1;omega
  ·simp only [hi',hj',dite_true,dite_false,List.getElem_singleton] at e e';have:=hvp _ (List.getElem_mem hj') q e';have:=(hp.lt q e).1;omega
  ·omega
 ·exact⟨hg.os.trans h.on.os,hg.tape.trans h.on.tape,hg.output.trans h.on.output,by have:=hg.size;have:=h.on.size;simp only [World.setCell,Array.size_modify];omega,λq hq hne=>(b6 q (Nat.lt_of_lt_of_le hq h.on.size) hne (λe=>by have:=(h.own.lt q e).1;omega)).trans (h.on.block q hq hne)⟩
structure CB(wr W:World)(c:Cl)(ap:Option Addr)(kp:Nat)(v:Value):Prop where
 p7:W.cell? ⟨wr.heap.size,7,none⟩=some (.slice ap c.F.length kp)
 n:S7 W (wr.heap.size+1) 0 c
 n7:W.cell? ⟨wr.heap.size+1,7,none⟩=some v
 f:∀o,W.frozen? ⟨wr.heap.size+1,o,none⟩=false
 ex:Ext wr W
theorem CB.ext{W':World}(h:CB wr W c ap kp v)(e:Ext W W'):CB wr W' c ap kp v:=
 ⟨e.keep h.p7,h.n.of λ_ _=>e.cell (p:=⟨wr.heap.size+1,_,none⟩) (show wr.heap.size+1<W.heap.size from uL h.n7),e.keep h.n7,λo=>((cD e).2 _ o (uL h.n7)).trans (h.f o),h.ex.trans e⟩
theorem CB.push{n':Nat}{ys:List Value}(h:CB wr W c ap kp v)(hW:W.ownsRow B7 154 6 v n xs)(h7:wr.heap.size+1<B7)(hg:W.grownBy w5 v.ownBlock)(h5:w5.ownsRow B7 154 6 v' n' ys):
  (w5.setCell ⟨wr.heap.size+1,7,none⟩ v').ownsRow B7 154 6 v' n' ys/\CB wr (w5.setCell ⟨wr.heap.size+1,7,none⟩ v') c ap kp v':=by
 obtain⟨b1,b2,b3,b4,b5,b6⟩:=b2o (o:=7) (u:=v') (bg:=wr.heap.size+1) h7 h.ex hW (Nat.le_succ _) (uL h.n7) hg h5;refine⟨b1,?_,h.n.of λj hj=>b3 _ (by omega),b5 _ h.n7,λo=>(b4 o).trans (h.f o),b2⟩;exact(World.cell?_of_block (a:=⟨wr.heap.size,7,none⟩) (b6 wr.heap.size (uL h.p7) (by omega) (λe=>by have:=(hW.lt _ e).1;omega))).trans h.p7
theorem CB.V(wr:World)(c:Cl)(ap:Option Addr)(kp:Nat)(t1 t2:TypeId):CB wr ((wr.alloc (.cells #[iv c.st,iv c.kind,iv c.T,iv c.U,iv c.born,iv c.J,iv c.to,.slice ap c.F.length kp] t1)).alloc (.cells #[iv c.st,iv c.kind,iv c.T,iv c.U,iv c.born,iv c.J,iv c.to,.slice none 0 0] t2)) c ap kp (.slice none 0 0):=
 ⟨by simp [go_sem],⟨by simp [go_sem],by simp [go_sem],by simp [go_sem],by simp [go_sem],by simp [go_sem],by simp [go_sem],by simp [go_sem]⟩,by simp [go_sem],λo=>by simp [go_sem],((Ext.refl wr).alloc _).alloc _⟩
theorem c2z{t sz:Nat}{a:Option Addr}(h:w.ownsRow B t sz (.slice a n k) n xs):n<=k:=by
 rcases h.2 with⟨h0,h1⟩ | ⟨g,cap,cur,h0,_,_,hn,_⟩
 ·omega
 ·simp only [Value.slice.injEq] at h0;omega
structure GSep(x:Hp)(role:Nat->Nat)(g br bc:Nat)(pb pk:Nat->Nat)(vg:Value):Prop where
 g:role g=0
 r:0<x.B.length->role br=2
 c:0<x.A.length->role bc=3
 y:∀q,vg.ownBlock=some q->role q=4
 p:∀q,q<x.A.length->0<pk q->role (pb q)=6+q
structure Ccp(B:Nat)(w:World)(ac:Option Addr)(bc kc:Nat)(role:Nat->Nat):Prop where
 ad:ac=some ⟨bc,0,none⟩
 ro:role bc=3
 nf:Nf1 bc w
 cp:∀j,j<kc*8->∃v,w.cell? ⟨bc,j,none⟩=some v
 lo:B<=bc
theorem Ccp.A(h:Ccp B w ac bc kc role)(hr:role' bc=role bc)(n:Nf1 bc w')(c:∀j v,j<kc*8->w.cell? ⟨bc,j,none⟩=some v->∃u,w'.cell? ⟨bc,j,none⟩=some u):Ccp B w' ac bc kc role':=
 ⟨h.ad,hr.trans h.ro,n,λj hj=>let ⟨v,hv⟩:=h.cp j hj;c j v hj hv,h.lo⟩
theorem Ccp.block(h:Ccp B w ac bc kc role)(hr:role' bc=role bc)(hb:w'.heap[bc]?=w.heap[bc]?)(hs:w.heap.size<=w'.heap.size):Ccp B w' ac bc kc role':=
 h.A hr (uV h.nf hb hs) (λj v _ hv=>⟨v,(World.cell?_of_block (a:=⟨bc,j,none⟩) hb).trans hv⟩)
theorem S7.some{w:World}{b o:Nat}{c:Cl}(h:S7 w b o c)(j:Nat)(hj:j<7):∃v,w.cell? ⟨b,o+j,none⟩=some v:=by
 obtain⟨h0,h1,h2,h3,h4,h5,h6⟩:=h
 match j,hj with
 | 0,_=>exact⟨_,h0⟩
 | 1,_=>exact⟨_,h1⟩
 | 2,_=>exact⟨_,h2⟩
 | 3,_=>exact⟨_,h3⟩
 | 4,_=>exact⟨_,h4⟩
 | 5,_=>exact⟨_,h5⟩
 | 6,_=>exact⟨_,h6⟩
structure GAt[Inhabited uQ](B:Nat)(w:World)(g:Nat)(x:Hp)(ar:Option Addr)(kr:Nat)(ac:Option Addr)(kc:Nat)(vg:Value)(br bc:Nat)(pb:Nat->Nat)(pa:Nat->Option Addr)(pk:Nat->Nat)(role:Nat->Nat):Prop where
 bx:dE w g x (.slice ar x.B.length kr) (.slice ac x.A.length kc) vg
 nf:Nf1 g w
 lo:B<=g
 ha:0<x.B.length->ar=some ⟨br,0,none⟩
 hc:0<x.A.length->ac=some ⟨bc,0,none⟩
 rw:Rws B w x br bc pb pa pk
 gr:Grw w B vg x.D
 sp:GSep x role g br bc pb pk vg
 kl:x.A.length<=kc
 pr:Prt w role
 cc:0<kc->Ccp B w ac bc kc role
theorem GAt.ext[Inhabited uQ](h:GAt B w g x ar kr ac kc vg br bc pb pa pk role)(e:Ext w w'):GAt B w' g x ar kr ac kc vg br bc pb pa pk role:=
 ⟨h.bx.ext e,h.nf.ext e,h.lo,h.ha,h.hc,h.rw.ext e,h.gr.block (λq hq=>e.block q (h.gr.lt q hq).2),h.sp,h.kl,h.pr.of (λq hq _=>e.block q hq) (λ_ _ h=>h),λhk=>(h.cc hk).block rfl (e.block bc (h.cc hk).nf.1) e.size⟩
theorem GAt.V[Inhabited uQ](hz:∀q,(default:uQ).z q=none){w7:World}{vg0:Value}{L:List (Cl×Value)}(h:CS x w3 w6 wr (.slice ar x.B.length kr) (.slice ac x.A.length kc) vg0 x.A.length L)(hr:wr.ownsRow (w3.heap.size+1) 152 3 (.slice ar x.B.length kr) x.B.length (x.B.flatMap fW))(hr6:∀q,(Value.slice ar x.B.length kr).ownBlock=some q->q<w6.heap.size)
  (h0:0<x.B.length) (hB:B<=w3.heap.size) (o7:uZ (λq=>q=w3.heap.size) wr w7) (hb7:dE w7 w3.heap.size x (.slice ar x.B.length kr) (.slice ac x.A.length kc) vg) (f7:Nf1 w3.heap.size w7) (hg:w7.ownsRow wr.heap.size 3 1 vg x.D.length (x.D.map iv)) :
  ∃br bc pb pa pk role,GAt B w7 w3.heap.size x ar kr ac kc vg br bc pb pa pk role:=by
 have hll:L.length=x.A.length:=h.len (Nat.le_refl _);have eL:L.map (·.1)=x.A:=by rw[h.eq,List.take_length]
 have hlt:=h.lt;have hon:=h.on.size
 have l1:∀q (hq:q<x.A.length),(L.getD q (Cl0,.slice none 0 0))∈L/\(L.getD q (Cl0,.slice none 0 0)).1=x.c q/\(L.getD q (Cl0,.slice none 0 0))=L[q]'(by omega):=λq hq=>by
  have e0:L.getD q (Cl0,.slice none 0 0)=L[q]'(by omega):=by simp [hll,hq]
  refine⟨by rw[e0];exact List.getElem_mem _,?_,e0⟩;have e:x.A[q]=(L.map (·.1))[q]'(by simpa [hll] using hq):=by simp [eL]
  rw[<-Hp.c_eq x q hq,e,e0];simp
 have own8:0<x.A.length->Nf1 (qN (.slice ac x.A.length kc)) wr/\w6.heap.size<=qN (.slice ac x.A.length kc):=λhn=>b0e h.own hn
 have cell8:∀q,q<x.A.length->∀j,j<8->wr.cell? ⟨qN (.slice ac x.A.length kc),q*8+j,none⟩=(fC (L.getD q (Cl0,.slice none 0 0)))[j]?:=λq hq j hj=>by
  have:=a8g (f:=fC) (λ_=>rfl) (L:=L) (by rw[hll];exact h.own) q (by omega) j hj;rw[this,(l1 q hq).2.2]
 have hbr:=b0e hr h0;have hbr6:qN (.slice ar x.B.length kr)<w6.heap.size:=hr6 _ ((a0k hr).2 h0).2
 have prs:∀q,q<x.A.length->wr.ownsRow w6.heap.size 154 6 (L.getD q (Cl0,.slice none 0 0)).2 (x.c q).F.length ((x.c q).F.flatMap fP)/\∀b,(L.getD q (Cl0,.slice none 0 0)).2.ownBlock=some b->(Value.slice ac x.A.length kc).ownBlock≠some b:=λq hq=>by
  have:=h.F _ (l1 q hq).1;rw[(l1 q hq).2.1] at this;exact this
 have dis:∀q q',q<x.A.length->q'<x.A.length->q≠q'->∀b,(L.getD q (Cl0,.slice none 0 0)).2.ownBlock=some b->(L.getD q' (Cl0,.slice none 0 0)).2.ownBlock≠some b:=λq q' hq hq' hne b hb=>by
  rw[(l1 q hq).2.2] at hb;rw[(l1 q' hq').2.2];exact h.dis q q' (by omega) (by omega) hne b hb
 have RW:=Rws.of (B:=w3.heap.size+1) (w:=wr) (x:=x) (vr:=.slice ar x.B.length kr) (bc:=qN (.slice ac x.A.length kc)) (pv:=λq=>(L.getD q (Cl0,.slice none 0 0)).2) hr (λq hq=>by
   rw[<-(l1 q hq).2.1];have:=cell8 q hq
   exact⟨this 0 (by omega),this 1 (by omega),this 2 (by omega),this 3 (by omega),this 4 (by omega),this 5 (by omega),this 6 (by omega)⟩) (λq hq=>cell8 q hq 7 (by omega)) (λhn=>⟨(own8 hn).1,by have:=(own8 hn).2;omega⟩) (λhn=>by have:=(own8 hn).2;omega) (λq hq=>⟨a3v (prs q hq).1 (by omega),λb hb=>⟨by have:=((prs q hq).1.lt b hb).1;omega,λe=>by
    have hn:0<x.A.length:=by omega
    exact(prs q hq).2 b hb (by rw[((a0k h.own).2 hn).2,e])⟩⟩) dis
 have RW7:=RW.only o7 (λhl e=>by have:=(RW.nr hl).2;omega) (λhl e=>by have:=(RW.nc hl).2;omega) (λq hq hl e=>by have:=(RW.pl q hq hl).2.2.2;omega)
 refine⟨_,_,_,_,_,λq=>if q=w3.heap.size then 0 else if wr.heap.size<=q then 4 else if q=qN (.slice ar x.B.length kr) then 2 else if 0<kc/\q=qN (.slice ac x.A.length kc) then 3 else
  (open Classical in if h:∃i,i<x.A.length/\0<yX (L.getD i (Cl0,.slice none 0 0)).2/\qN (L.getD i (Cl0,.slice none 0 0)).2=q then 6+Classical.choose h else 5),hb7,f7,hB,λh=>((a0k hr).2 h).1,λhn=>((a0k h.own).2 hn).1,RW7.less (by omega),Grw.of (a3v hg (by omega)),⟨if_pos rfl,λhl=>?_,λhl=>?_,λq hq=>?_,λq hq hl=>?_⟩,c2z h.own,λq o h=>(by rw[hz q] at h;cases h),λhk=>?_⟩
 ·have:=(RW.nr hl).2;have:=(RW.nr hl).1.1;rw[if_neg (by omega),if_neg (by omega),if_pos rfl]
 ·have:=(RW.nc hl).2;have:=(RW.nc hl).1.1;rw[if_neg (by omega),if_neg (by omega),if_neg (λe=>RW.d hl e.symm),if_pos ⟨Nat.lt_of_lt_of_le hl (c2z h.own),rfl⟩]
 ·have:=(hg.lt q hq).1;rw[if_neg (by omega),if_pos (by omega)]
 ·have l2:=RW.pl q hq hl;have:=l2.2.2.2;have:=l2.2.1.1;have hex:∃i,i<x.A.length/\0<yX (L.getD i (Cl0,.slice none 0 0)).2/\qN (L.getD i (Cl0,.slice none 0 0)).2=qN (L.getD q (Cl0,.slice none 0 0)).2:=⟨q,hq,hl,rfl⟩;rw[if_neg (by omega),if_neg (by omega),if_neg l2.2.2.1.1,if_neg (λe=>l2.2.2.1.2 e.2),dif_pos hex];have sp:=Classical.choose_spec hex
  have:Classical.choose hex=q:=by
   rcases Nat.decEq (Classical.choose hex) q with h | h
   ·exact absurd sp.2.2 (RW.dp _ q sp.1 hq h sp.2.1 hl)
   ·exact h
  rw[this]
 ·have hk2:0<yX (.slice ac x.A.length kc):=hk;obtain⟨k1,k2,k3,k4,k5⟩:=c7k h.own hk2;have e7:=o7.block (qN (.slice ac x.A.length kc)) k3.1 (λe=>by omega);refine⟨k1,?_,uV k3 e7 o7.size,λj hj=>?_,by omega⟩
  ·have:=k3.1;rw[if_neg (by omega),if_neg (by omega),if_neg (by omega),if_pos ⟨hk,rfl⟩]
  ·obtain⟨u,hu⟩:=k4 j hj;exact⟨u,(World.cell?_of_block (a:=⟨_,j,none⟩) e7).trans hu⟩
theorem c1d[Inhabited uQ](hz:∀q,(default:uQ).z q=none)(x:Hp)(w:World){ar:Option Addr}{kr:Nat}{ac:Option Addr}{kc:Nat}{ag:Option Addr}{kg:Nat}(hR:SlW w (.slice ar x.B.length kr) x.B)(hC:SlC w (.slice ac x.A.length kc) x.A)(hG:SlI w (.slice ag x.D.length kg) x.D)(h0:0<x.B.length)(n1:x.B.length<=100)(n2:x.A.length<=8000)(n3:∀q,q<x.A.length->(x.c q).F.length<=200)(n4:x.D.length<=8000):
  Calls Tryz.prog 83 #[x.v (.slice ar x.B.length kr) (.slice ac x.A.length kc) (.slice ag x.D.length kg)] w λe w'=>∃g,e=.returned (.pointer (some ⟨g,0,none⟩))/\Hid (∃ar kr ac kc vg br bc pb pa pk role,GAt w.heap.size w' g x ar kr ac kc vg br bc pb pa pk role)/\Ext w w':=by
 have xa:=(Ext.refl w).alloc (.cells #[iv x.M,iv x.K,iv x.born,.slice ar x.B.length kr,.slice ac x.A.length kc,iv x.E,iv x.I,iv x.sub,.slice ag x.D.length kg,iv x.per,iv x.V,iv x.Q,iv x.S] 34);obtain⟨w3,hw3⟩:∃W,W=w.alloc (.cells #[iv x.M,iv x.K,iv x.born,.slice ar x.B.length kr,.slice ac x.A.length kc,iv x.E,iv x.I,iv x.sub,.slice ag x.D.length kg,iv x.per,iv x.V,iv x.Q,iv x.S] 34):=⟨_,rfl⟩;have hs3:w3.heap.size=w.heap.size+1:=by rw[hw3];simp
 have X3:Ext w w3:=by rw[hw3];exact xa
 have SR:=uU (SlW.ext X3 hR);have SC:=uU (SlC.ext X3 hC);have SG:=uU (SlI.ext X3 hG);have BH:=uU (show dE w3 w.heap.size x (.slice ar x.B.length kr) (.slice ac x.A.length kc) (.slice ag x.D.length kg) by rw[hw3];exact dE.new w x _ _ _ _);have G0:=uU (show dE (w3.alloc (.cells #[iv x.M,iv x.K,iv x.born,.slice none 0 0,.slice ac x.A.length kc,iv x.E,iv x.I,iv x.sub,.slice ag x.D.length kg,iv x.per,iv x.V,iv x.Q,iv x.S] 34)) w3.heap.size x (.slice none 0 0) (.slice ac x.A.length kc) (.slice ag x.D.length kg)/\(∀o,(w3.alloc (.cells #[iv x.M,iv x.K,iv x.born,.slice none 0 0,.slice ac x.A.length kc,iv x.E,iv x.I,iv x.sub,.slice ag x.D.length kg,iv x.per,iv x.V,iv x.Q,iv x.S] 34)).frozen? ⟨w3.heap.size,o,none⟩=false) from⟨dE.new w3 x _ _ _ _,λo=>by simp [go_sem]⟩);obtain⟨iw,hiw,hw0,hw1,hw2⟩:=info_parts b4w;obtain⟨iq,hiq,hq0,hq1,hq2⟩:=info_parts a4m;obtain⟨ic,hic,hc0,hc1,hc2⟩:=info_parts a7e;obtain⟨ii,hii,hi0,hi1,hi2⟩:=info_parts b2b;clear hR hC hG xa;go_enter Tryz.func83,Tryz.ntmps83;go_wp2_with fail;rw[<-hw3,<-hs3];have HS3:=uU hs3;have hlt3:w.heap.size<w3.heap.size:=by omega
 clear hw3 hs3;go_loopw [18] (λi wr=>∃(k:Nat) (av:Option Addr) (kv:Nat),k<=x.B.length/\i=.int .i64 k/\Hid (wr.ownsRow (w3.heap.size+1) 152 3 (.slice av k kv) k ((x.B.take k).flatMap fW))/\Hid (dE wr w3.heap.size x (.slice av k kv) (.slice ac x.A.length kc) (.slice ag x.D.length kg)/\(∀o,wr.frozen? ⟨w3.heap.size,o,none⟩=false))/\Hid (Ext w3 wr)) (λi _=>x.B.length-(intOf i).toNat)
 case atStart=>exact⟨0,none,0,Nat.zero_le _,rfl,World.ownsRow_nil _ _ _ _,uH G0,(Ext.refl w3).alloc _⟩
 case round=>
  clear G0;obtain⟨k,av,kv,hk,rfl,hown,hgc,hex⟩:=hrel;by_cases hlt:k<x.B.length
  ·obtain⟨b',o,har,p0,p1,p2⟩:∃b' o,ar=some ⟨b',o,none⟩/\yQ w3 b' (o+k*3) x.B[k]:=by
    obtain⟨ad,cap,e,_,hx⟩:=uH SR;simp only [Value.slice.injEq] at e;rw[e.1];exact hx k hlt
   subst har;have p0:=(uH hex).keep p0;have p1:=(uH hex).keep p1;have p2:=(uH hex).keep p2;have hb':b'<wr.heap.size:=uL p0;have g3:=(uH hgc).1.2.2.2.1;have f3:=(uH hgc).2 3;have hbg:w3.heap.size<wr.heap.size:=uL g3;have hk0:(0:Int)<=(k:Int):=by omega
   have hk1:(k:Int)<(x.B.length:Int):=by omega
   have ETK:=uU (show x.B.take (k+1)=x.B.take k++[x.B[k]] by rw[List.take_succ_eq_append_getElem hlt]);obtain⟨y,ey⟩:∃y,y=x.B[k]:=⟨_,rfl⟩;rw[<-ey] at p0 p1 p2 ETK;clear ey;go_wp2_with (at_builtin;refine wpList_append_lies _ rfl _ _ 30 rfl (w3.heap.size+1) 152 iw (.agg #[iv 0,iv 0,iv 0]) 3 24 Tryz.underlying30 hiw hw0 hw1 hw2 rfl (by decide) _ k ((x.B.take k).flatMap fW) rfl (((uH hown).alloc _).alloc _) _ 1 1 (fW y) rfl rfl ?c1 ?c2 (by decide) ?c3 ?c4 ?c5 _ rfl ?_)
   case c1=>
    intro j u hj
    match j,hj with
    | 0,hj=>simp [fW] at hj;subst hj;simp [go_sem]
    | 1,hj=>simp [fW] at hj;subst hj;simp [go_sem]
    | 2,hj=>simp [fW] at hj;subst hj;simp [go_sem]
   case c2=>intro u hu;simp [fW] at hu;rcases hu with e | e | e <;> subst e <;> first | rfl
   case c3=>unfold maxLen;omega
   case c4=>omega
   case c5=>simp;omega
   intro gb cap5 w5 hown5 hgrow hat hglt;have xb:=((Ext.refl wr).alloc (.cells #[iv y.k,iv y.n,iv y.a] 152)).alloc (.cells #[iv y.k,iv y.n,iv y.a] 152);have BP:=uU (b2o (o:=3) (u:=.slice (some ⟨gb,0,none⟩) (k+1) cap5) (bg:=w3.heap.size) (Nat.lt_succ_self _) ((uH hex).trans xb) (((uH hown).alloc _).alloc _) (Nat.le_refl _) (Nat.lt_of_lt_of_le hbg xb.size) hgrow hown5);have eb:w5.heap[w3.heap.size]?=wr.heap[w3.heap.size]?:=(hgrow.block w3.heap.size (Nat.lt_of_lt_of_le hbg xb.size) (λe=>by have:=((uH hown).lt _ e.symm).1;omega)).trans (xb.block _ hbg);have g5:=(World.cell?_of_block (a:=⟨w3.heap.size,3,none⟩) eb).trans g3;have f5:=(World.frozen?_of_block (a:=⟨w3.heap.size,3,none⟩) eb).trans f3;have HB:=uU (((uH hgc).1.block eb).set3 (.slice (some ⟨gb,0,none⟩) (k+1) cap5));have FZ:=uU (show ∀o,(w5.setCell ⟨w3.heap.size,3,none⟩ (.slice (some ⟨gb,0,none⟩) (k+1) cap5)).frozen? ⟨w3.heap.size,o,none⟩=false from λo=>by rw[World.frozen?_setCell];exact(World.frozen?_of_block (a:=⟨w3.heap.size,o,none⟩) eb).trans ((uH hgc).2 o));clear hown5 hgrow hat xb eb;go_wp2_with fail;go_roundw
   case rel=>
    refine⟨k+1,some ⟨gb,0,none⟩,cap5,hlt,by go_num,?_,⟨uH HB,uH FZ⟩,(uH BP).2.1⟩;rw[uH ETK,List.flatMap_append];refine uU ?_
    simpa using (uH BP).1
   case measure=>simp [intOf];omega
  ·have hk2:k=x.B.length:=by omega
   subst hk2;have OW:=uU (show wr.ownsRow (w3.heap.size+1) 152 3 (.slice av x.B.length kv) x.B.length (x.B.flatMap fW) by have:=uH hown;rw[List.take_length] at this;exact this);obtain⟨w6,hw6⟩:∃W,W=wr:=⟨_,rfl⟩;subst hw6;have g4:=(uH hgc).1.2.2.2.2.1;have f4:=(uH hgc).2 4;have hbg:w3.heap.size<w6.heap.size:=uL g4;have b4:=(uH hex).keep (uH BH).2.2.2.2.1;have hne1:¬w3.heap.size=w.heap.size:=by omega
   have hne2:¬w.heap.size=w3.heap.size:=by omega
   have C0:=uU (show CS x w3 w6 (w6.setCell ⟨w3.heap.size,4,none⟩ (.slice none 0 0)) (.slice av x.B.length kv) (.slice none 0 0) (.slice ag x.D.length kg) 0 [] from
    ⟨World.ownsRow_nil _ _ _ _,by simp,λz hz=>by simp at hz,λi j hi=>by simp at hi,(uH hgc).1.set4 _,λo=>by rw[World.frozen?_setCell];exact(uH hgc).2 o,uZ.setCell (S:=λq=>q=w3.heap.size) (uZ.refl _ w6) (p:=⟨w3.heap.size,4,none⟩) rfl _,(uH hex).setCell (Nat.le_refl _) _,hbg⟩)
   have X6:=uU (uH hex);have V6:=uU (λq e=>((uH OW).lt q e).2);clear hown hgc hex hlt hk;go_wp2_with fail;clear g4 f4 b4;go_loopw [33] (λi wr=>∃(k:Nat) (avc:Option Addr) (kvc:Nat) (L:List (Cl×Value)),k<=x.A.length/\i=.int .i64 k/\Hid (CS x w3 w6 wr (.slice av x.B.length kv) (.slice avc k kvc) (.slice ag x.D.length kg) k L)) (λi _=>x.A.length-(intOf i).toNat)
   case atStart=>exact⟨0,none,0,[],Nat.zero_le _,rfl,uH C0⟩
   case round=>
    clear C0;obtain⟨wn,hwn⟩:∃W,W=wr:=⟨_,rfl⟩;subst hwn;obtain⟨k,avc,kvc,L,hk,rfl,hcs⟩:=hrel;by_cases hlt:k<x.A.length
    ·obtain⟨bc,oc,hac,hbc3,vp0,p0,p1,p2,p3,p4,p5,p6,p7,hP⟩:∃bc oc,ac=some ⟨bc,oc,none⟩/\bc<w3.heap.size/\b7k w3 bc (oc+k*8) (x.c k):=by
      obtain⟨ad,cap,e,_,hx⟩:=uH SC;obtain⟨b2,o2,e2,q⟩:=hx k hlt;rw[Hp.c_eq x k hlt] at q;simp only [Value.slice.injEq] at e;exact⟨b2,o2,e.1.trans e2,let ⟨_,p0,_⟩:=q;uL p0,q⟩
     subst hac;obtain⟨ap,kp,rfl,_,hPx⟩:=hP;have CP:=uU hPx;have X:=(uH hcs).ex;have p0:=X.keep p0;have p1:=X.keep p1;have p2:=X.keep p2;have p3:=X.keep p3;have p4:=X.keep p4;have p5:=X.keep p5;have p6:=X.keep p6;have p7:=X.keep p7;have hl200:=n3 k hlt;have hk0:(0:Int)<=(k:Int):=by omega
     have hk1:(k:Int)<(x.A.length:Int):=by omega
     have hbc:bc<wn.heap.size:=uL p0;clear hPx X;go_wp2_with fail;have B0:=uU (CB.V wn (x.c k) ap kp 62 62);have hsz2:((wn.alloc (.cells #[iv (x.c k).st,iv (x.c k).kind,iv (x.c k).T,iv (x.c k).U,iv (x.c k).born,iv (x.c k).J,iv (x.c k).to,.slice ap (x.c k).F.length kp] 62)).alloc (.cells #[iv (x.c k).st,iv (x.c k).kind,iv (x.c k).T,iv (x.c k).U,iv (x.c k).born,iv (x.c k).J,iv (x.c k).to,.slice none 0 0] 62)).heap.size=wn.heap.size+2:=by simp
     have HZ2:=uU hsz2;clear p0 p1 p2 p3 p4 p5 p6 p7 hsz2;go_loopw [42] (λi wr=>∃(p:Nat) (avp:Option Addr) (kvp:Nat),p<=(x.c k).F.length/\i=.int .i64 p/\Hid (wr.ownsRow (wn.heap.size+2) 154 6 (.slice avp p kvp) p (((x.c k).F.take p).flatMap fP))/\Hid (CB wn wr (x.c k) ap kp (.slice avp p kvp))/\wn.heap.size+2<=wr.heap.size) (λi _=>(x.c k).F.length-(intOf i).toNat)
     case atStart=>exact⟨0,none,0,Nat.zero_le _,rfl,World.ownsRow_nil _ _ _ _,uH B0,by rw[uH HZ2];exact Nat.le_refl _⟩
     case round=>
      clear B0;obtain⟨p,avp,kvp,hp,rfl,hown,hcb,hsz⟩:=hrel;by_cases hpt:p<(x.c k).F.length
      ·obtain⟨bp,op,hap,q0,q1,q2,q3,q4,q5⟩:=uH CP p hpt;subst hap;have XX:=(uH hcs).ex.trans (uH hcb).ex;have q0:=XX.keep q0;have q1:=XX.keep q1;have q2:=XX.keep q2;have q3:=XX.keep q3;have q4:=XX.keep q4;have q5:=XX.keep q5;have ETP:=uU (show(x.c k).F.take (p+1)=(x.c k).F.take p++[(x.c k).F[p]] by rw[List.take_succ_eq_append_getElem hpt]);obtain⟨y,ey⟩:∃y,y=(x.c k).F[p]:=⟨_,rfl⟩;rw[<-ey] at q0 q1 q2 q3 q4 q5 ETP;clear ey XX;have hp0:(0:Int)<=(p:Int):=by omega
       have hp1:(p:Int)<((x.c k).F.length:Int):=by omega
       have hbp:bp<wr.heap.size:=uL q0;have n7:=(uH hcb).n7;have f7:=(uH hcb).f 7;have hbn:wn.heap.size+1<wr.heap.size:=uL n7;go_wp2_with (at_builtin;refine wpList_append_lies _ rfl _ _ 60 rfl (wn.heap.size+2) 154 iq (.agg #[iv 0,iv 0,iv 0,iv 0,iv 0,iv 0]) 6 48 Tryz.underlying60 hiq hq0 hq1 hq2 rfl (by decide) _ p (((x.c k).F.take p).flatMap fP) rfl (((uH hown).alloc _).alloc _) _ 1 1 (fP y) rfl rfl ?c1 ?c2 (by decide) ?c3 ?c4 ?c5 _ rfl ?_)
       case c1=>
        intro j u hj
        match j,hj with
        | 0,hj=>simp [fP] at hj;subst hj;simp [go_sem]
        | 1,hj=>simp [fP] at hj;subst hj;simp [go_sem]
        | 2,hj=>simp [fP] at hj;subst hj;simp [go_sem]
        | 3,hj=>simp [fP] at hj;subst hj;simp [go_sem]
        | 4,hj=>simp [fP] at hj;subst hj;simp [go_sem]
        | 5,hj=>simp [fP] at hj;subst hj;simp [go_sem]
       case c2=>intro u hu;simp [fP] at hu;rcases hu with e | e | e | e | e | e <;> subst e <;> first | rfl
       case c3=>unfold maxLen;omega
       case c4=>omega
       case c5=>simp;omega
       intro gb cap5 w5 hown5 hgrow hat hglt;have xb:=((Ext.refl wr).alloc (.cells #[iv y.key.k,iv y.key.n,iv y.key.a,iv y.val.k,iv y.val.n,iv y.val.a] 154)).alloc (.cells #[iv y.key.k,iv y.key.n,iv y.key.a,iv y.val.k,iv y.val.n,iv y.val.a] 154);have BP:=uU (CB.push ((uH hcb).ext xb) (((uH hown).alloc _).alloc _) (by omega) hgrow hown5);have eb:w5.heap[wn.heap.size+1]?=wr.heap[wn.heap.size+1]?:=(hgrow.block (wn.heap.size+1) (Nat.lt_of_lt_of_le hbn xb.size) (λe=>by have:=((uH hown).lt _ e.symm).1;omega)).trans (xb.block _ hbn);have g5:=(World.cell?_of_block (a:=⟨wn.heap.size+1,7,none⟩) eb).trans n7;have f5:=(World.frozen?_of_block (a:=⟨wn.heap.size+1,7,none⟩) eb).trans f7;have hsz9:wn.heap.size+2<=(w5.setCell ⟨wn.heap.size+1,7,none⟩ (.slice (some ⟨gb,0,none⟩) (p+1) cap5)).heap.size:=by have h1:=hgrow.size;simp at h1;simp only [World.setCell,Array.size_modify];omega
       clear hown5 hgrow hat xb eb;go_wp2_with fail;go_roundw
       case rel=>
        refine⟨p+1,some ⟨gb,0,none⟩,cap5,hpt,by go_num,?_,(uH BP).2,hsz9⟩;rw[uH ETP,List.flatMap_append];refine uU ?_
        simpa using (uH BP).1
       case measure=>simp [intOf];omega
      ·have hp2:p=(x.c k).F.length:=by omega
       subst hp2;have CS1:=uU ((uH hcs).ext (uH hcb).ex);have c4:=(uH CS1).bx.2.2.2.2.1;have cf:=(uH CS1).fz 4;obtain⟨s0,s1,s2,s3,s4,s5,s6⟩:=(uH hcb).n;simp only [Nat.zero_add] at s1 s2 s3 s4 s5 s6;have s7:=(uH hcb).n7;have hbn:wn.heap.size+1<wr.heap.size:=uL s7;have hbg2:w3.heap.size<wr.heap.size:=uL c4
       have HP:=uU (show wr.ownsRow (wn.heap.size+2) 154 6 (x.c k,Value.slice avp (x.c k).F.length kvp).2 (x.c k,Value.slice avp (x.c k).F.length kvp).1.F.length ((x.c k,Value.slice avp (x.c k).F.length kvp).1.F.flatMap fP) by
        have:=uH hown;rw[List.take_length] at this;exact this)
       have ZN:=uU (show(x.c k,Value.slice avp (x.c k).F.length kvp).1=x.A[k] from(Hp.c_eq x k hlt).symm);have h67:w6.heap.size<=wn.heap.size+2:=by have:=(uH hcs).on.size;omega
       have h6r:w6.heap.size<=wr.heap.size:=by omega
       have hvn:=uU (show ∀q,(Value.slice avc k kvc).ownBlock=some q->q<wn.heap.size+2 from λq e=>by have:=((uH hcs).own.lt q e).2;omega);have hvp:=uU (show ∀y,y∈L->∀q,y.2.ownBlock=some q->q<wn.heap.size+2 from λy hy q e=>by have:=(((uH hcs).F y hy).1.lt q e).2;omega);have nq:¬wn.heap.size+1=w3.heap.size:=by have:=(uH hcs).on.size;omega
       have nq2:¬w3.heap.size=wn.heap.size+1:=by have:=(uH hcs).on.size;omega
       clear hpt hp;go_wp2_with (at_builtin;refine wpList_append_lies _ rfl _ _ 31 rfl w6.heap.size 62 ic (.agg #[iv 0,iv 0,iv 0,iv 0,iv 0,iv 0,iv 0,.slice none 0 0]) 8 80 Tryz.underlying31 hic hc0 hc1 hc2 rfl (by decide) _ k (L.flatMap fC) rfl ((uH CS1).own.alloc _) _ 1 1 (fC (x.c k,Value.slice avp (x.c k).F.length kvp)) rfl rfl ?c1 ?c2 (by decide) ?c3 ?c4 ?c5 _ rfl ?_)
       case c1=>
        intro j u hj
        match j,hj with
        | 0,hj=>simp [fC] at hj;subst hj;simp [go_sem]
        | 1,hj=>simp [fC] at hj;subst hj;simp [go_sem]
        | 2,hj=>simp [fC] at hj;subst hj;simp [go_sem]
        | 3,hj=>simp [fC] at hj;subst hj;simp [go_sem]
        | 4,hj=>simp [fC] at hj;subst hj;simp [go_sem]
        | 5,hj=>simp [fC] at hj;subst hj;simp [go_sem]
        | 6,hj=>simp [fC] at hj;subst hj;simp [go_sem]
        | 7,hj=>simp [fC] at hj;subst hj;simp [go_sem]
       case c2=>intro u hu;simp [fC] at hu;rcases hu with e | e | e | e | e | e | e | e <;> subst e <;> first | rfl
       case c3=>unfold maxLen;omega
       case c4=>omega
       case c5=>first | exact h6r | omega | (simp;omega)
       intro gb cap5 w5 hown5 hgrow hat hglt;have xb:=(Ext.refl wr).alloc (.cells #[iv (x.c k).st,iv (x.c k).kind,iv (x.c k).T,iv (x.c k).U,iv (x.c k).born,iv (x.c k).J,iv (x.c k).to,.slice avp (x.c k).F.length kvp] 62);have PU:=uU (CS.push (g:=gb) ((uH CS1).ext xb) hlt (uH ZN) hgrow hown5 rfl (by simpa using hat) (uN (uH HP) (λq hq=>xb.block q ((uH HP).lt q hq).2)) h67 (uH hvn) (uH hvp));have eb:w5.heap[w3.heap.size]?=wr.heap[w3.heap.size]?:=(hgrow.block w3.heap.size (Nat.lt_of_lt_of_le hbg2 xb.size) (λe=>by have:=((uH CS1).own.lt _ e.symm).1;have:=(uH CS1).lt;omega)).trans (xb.block _ hbg2);have d4:=(World.cell?_of_block (a:=⟨w3.heap.size,4,none⟩) eb).trans c4;have df:=(World.frozen?_of_block (a:=⟨w3.heap.size,4,none⟩) eb).trans cf;clear hown5 hgrow hat xb eb;go_wp2_with fail;go_roundw
       case rel=>exact⟨k+1,some ⟨gb,0,none⟩,cap5,_,hlt,by go_num,uH PU⟩
       case measure=>simp [intOf];omega
    ·have hk2:k=x.A.length:=by omega
     subst hk2;have CSE:=uU (uH hcs);have OWn:=uU (show wn.ownsRow (w3.heap.size+1) 152 3 (.slice av x.B.length kv) x.B.length (x.B.flatMap fW) from uN (uH OW) (λq hq=>(uH CSE).on.block q ((uH OW).lt q hq).2 (by have:=((uH OW).lt q hq).1;omega)));have g8:=(uH CSE).bx.2.2.2.2.2.2.2.2.1;have f8:=(uH CSE).fz 8;have hbgn:w3.heap.size<wn.heap.size:=uL g8;have b8:=(uH CSE).ex.keep (uH BH).2.2.2.2.2.2.2.2.1;have Q0:=uU (show dE (wn.setCell ⟨w3.heap.size,8,none⟩ (.slice none 0 0)) w3.heap.size x (.slice av x.B.length kv) (.slice avc x.A.length kvc) (.slice none 0 0)/\Nf1 w3.heap.size (wn.setCell ⟨w3.heap.size,8,none⟩ (.slice none 0 0))/\uZ (λq=>q=w3.heap.size) wn (wn.setCell ⟨w3.heap.size,8,none⟩ (.slice none 0 0)) from⟨(uH CSE).bx.set8 _,Nf1.set ⟨hbgn,(uH CSE).fz⟩ _ _,uZ.setCell (S:=λq=>q=w3.heap.size) (uZ.refl _ wn) (p:=⟨w3.heap.size,8,none⟩) rfl _⟩);clear hcs hk hlt;go_wp2_with fail;clear g8 f8 b8;go_loopw [64] (λi wr=>∃(k:Nat) (avg:Option Addr) (kvg:Nat),k<=x.D.length/\i=.int .i64 k/\Hid (wr.ownsRow wn.heap.size 3 1 (.slice avg k kvg) k ((x.D.take k).map iv))/\Hid (dE wr w3.heap.size x (.slice av x.B.length kv) (.slice avc x.A.length kvc) (.slice avg k kvg)/\Nf1 w3.heap.size wr/\uZ (λq=>q=w3.heap.size) wn wr)) (λi _=>x.D.length-(intOf i).toNat)
     case atStart=>exact⟨0,none,0,Nat.zero_le _,rfl,World.ownsRow_nil _ _ _ _,uH Q0⟩
     case round=>
      clear Q0;obtain⟨k,avg,kvg,hk,rfl,hown,hbx⟩:=hrel;have XR:Ext w3 wr:=(uH hbx).2.2.ext (uH CSE).ex (λq hq e=>by omega);by_cases hlt:k<x.D.length
      ·obtain⟨bg,og,hag,p0⟩:∃bg og,ag=some ⟨bg,og,none⟩/\yD w3 bg (og+k*1) x.D[k]:=by
        obtain⟨ad,cap,e,_,hx⟩:=uH SG;simp only [Value.slice.injEq] at e;rw[e.1];exact hx k hlt
       subst hag;have p0:=XR.keep p0;rw[Nat.mul_one] at p0;have g8:=(uH hbx).1.2.2.2.2.2.2.2.2.1;have f8:=(uH hbx).2.1.2 8;have hbg2:w3.heap.size<wr.heap.size:=uL g8;have hwn:=(uH hbx).2.2.size;have hk0:(0:Int)<=(k:Int):=by omega
       have hk1:(k:Int)<(x.D.length:Int):=by omega
       have ETK:=uU (show x.D.take (k+1)=x.D.take k++[x.D[k]] by rw[List.take_succ_eq_append_getElem hlt]);obtain⟨y,ey⟩:∃y,y=x.D[k]:=⟨_,rfl⟩;rw[<-ey] at p0 ETK;clear ey;go_wp2_with (at_builtin;refine wpList_append_lies _ rfl _ _ 32 rfl wn.heap.size 3 ii (iv 0) 1 8 Tryz.underlying32 hii hi0 hi1 hi2 rfl (by decide) _ k ((x.D.take k).map iv) rfl ((uH hown).alloc _) _ 1 1 [iv y] rfl rfl ?c1 ?c2 (by decide) ?c3 ?c4 ?c5 _ rfl ?_)
       case c1=>
        intro j u hj
        match j,hj with
        | 0,hj=>simp at hj;subst hj;simp [go_sem]
       case c2=>intro u hu;simp at hu;subst hu;rfl
       case c3=>unfold maxLen;omega
       case c4=>omega
       case c5=>simp;omega
       intro gb cap5 w5 hown5 hgrow hat hglt;have xb:=(Ext.refl wr).alloc (.cells #[iv y] 3);have eb:w5.heap[w3.heap.size]?=wr.heap[w3.heap.size]?:=(hgrow.block w3.heap.size (Nat.lt_of_lt_of_le hbg2 xb.size) (λe=>by have:=((uH hown).lt _ e.symm).1;omega)).trans (xb.block _ hbg2);have g5:=(World.cell?_of_block (a:=⟨w3.heap.size,8,none⟩) eb).trans g8;have f5:=(World.frozen?_of_block (a:=⟨w3.heap.size,8,none⟩) eb).trans f8;have OW5:=uU (uN (w':=w5.setCell ⟨w3.heap.size,8,none⟩ (.slice (some ⟨gb,0,none⟩) (k+1) cap5)) hown5 (λq hq=>Below.heap_setCell _ _ _ _ (λe=>by have h1:=(hown5.lt q hq).1;have e:q=w3.heap.size:=e;omega)))
       have HB:=uU (show dE (w5.setCell ⟨w3.heap.size,8,none⟩ (.slice (some ⟨gb,0,none⟩) (k+1) cap5)) w3.heap.size x (.slice av x.B.length kv) (.slice avc x.A.length kvc) (.slice (some ⟨gb,0,none⟩) (k+1) cap5)/\Nf1 w3.heap.size (w5.setCell ⟨w3.heap.size,8,none⟩ (.slice (some ⟨gb,0,none⟩) (k+1) cap5))/\uZ (λq=>q=w3.heap.size) wn (w5.setCell ⟨w3.heap.size,8,none⟩ (.slice (some ⟨gb,0,none⟩) (k+1) cap5)) from
        ⟨((uH hbx).1.block eb).set8 _,(uV (uH hbx).2.1 eb (Nat.le_trans xb.size hgrow.size)).set _ _,by
         have on:=(uH hbx).2.2;refine uZ.setCell (S:=λq=>q=w3.heap.size) ?_ (p:=⟨w3.heap.size,8,none⟩) rfl _;refine⟨hgrow.os.trans on.os,hgrow.tape.trans on.tape,hgrow.output.trans on.output,Nat.le_trans on.size (Nat.le_trans xb.size hgrow.size),λq hq hne=>?_⟩;have hq2:q<wr.heap.size:=Nat.lt_of_lt_of_le hq on.size;exact((hgrow.block q (Nat.lt_of_lt_of_le hq2 xb.size) (λe=>by have:=((uH hown).lt q e.symm).1;omega)).trans (xb.block q hq2)).trans (on.block q hq hne)⟩)
       clear hown5 hgrow hat xb eb;go_wp2_with fail;go_roundw
       case rel=>
        refine⟨k+1,some ⟨gb,0,none⟩,cap5,hlt,by go_num,?_,uH HB⟩;rw[uH ETK,List.map_append];refine uU ?_
        simpa using uH OW5
       case measure=>simp [intOf];omega
      ·have hk2:k=x.D.length:=by omega
       subst hk2
       have FIN:=uU (show ∃ar kr ac kc vg br bc pb pa pk role,GAt w.heap.size wr w3.heap.size x ar kr ac kc vg br bc pb pa pk role from by
        obtain⟨br,bc,pb,pa,pk,role,h⟩:=GAt.V hz (B:=w.heap.size) (uH CSE) (uH OWn) (uH V6) h0 (by omega) (uH hbx).2.2 (uH hbx).1 (uH hbx).2.1 (by have:=uH hown;rw[List.take_length] at this;exact this);exact⟨_,_,_,_,_,br,bc,pb,pa,pk,role,h⟩)
       clear hown hbx;go_wp2_with fail;go_ret;exact⟨_,rfl,uH FIN,X3.trans XR⟩
def yE(x:Hp)(y:Wd):Bool:=mkB x && (y.k == 2 && (x.c y.a.toNat).J == 0)
def a5j(x:Hp)(y:Wd):Hp:=if yE x y=true then { x with A:=x.A.set y.a.toNat (tY (x.c y.a.toNat)),D:=x.D++[y.a] } else x
theorem GAt.setc[Inhabited uQ]{i:Nat}{c':Cl}(h:GAt B w g x ar kr ac kc vg br bc pb pa pk role)(hi:i<x.A.length)(hp:c'.F=(x.c i).F)(o:uZ (λq=>q=bc) w w')(hs:S7 w' bc (i*8) c')(ho:∀k,(k<i*8\/i*8+7<=k)->w'.cell? ⟨bc,k,none⟩=w.cell? ⟨bc,k,none⟩)(nf:Nf1 bc w'):
  GAt B w' g { x with A:=x.A.set i c' } ar kr ac kc vg br bc pb pa pk role:=by
 have hn:0<x.A.length:=by omega
 have far:∀q,q<w.heap.size->role q≠3->w'.heap[q]?=w.heap[q]?:=λq hq hr=>o.block q hq (λe=>hr (by rw[e];exact h.sp.c hn))
 have hl:({ x with A:=x.A.set i c' }:Hp).A.length=x.A.length:=by simp
 have hc:=Hp.c_set x i c' hi
 have hpr:∀q,(({ x with A:=x.A.set i c' }:Hp).c q).F=(x.c q).F:=λq=>by
  rw[hc q];by_cases e:q=i
  ·rw[if_pos e,hp,e]
  ·rw[if_neg e]
 have fg:=far g h.nf.1 (by rw[h.sp.g];omega);have pf:∀q,q<x.A.length->0<pk q->w'.heap[pb q]?=w.heap[pb q]?:=λq hq hl=>far (pb q) (h.rw.pl q hq hl).2.1.1 (by rw[h.sp.p q hq hl];omega)
 refine⟨?_,uV h.nf fg o.size,h.lo,h.ha,λ_=>h.hc hn,⟨λk hk=>?_,λq hq=>?_,λq hq=>?_,λq hq k hk=>?_,λq hq hlq=>?_,λhr=>⟨uV (h.rw.nr hr).1 (far br (h.rw.nr hr).1.1 (by rw[h.sp.r hr];omega)) o.size,(h.rw.nr hr).2⟩,λ_=>⟨nf,(h.rw.nc hn).2⟩,λ_=>h.rw.d hn,λq q' hq hq' hne h1 h2=>?_,λq hq=>?_⟩,h.gr.block (λq hq=>far q (h.gr.lt q hq).2 (by rw[h.sp.y q hq];omega)),⟨h.sp.g,h.sp.r,λ_=>h.sp.c hn,h.sp.y,λq hq hlq=>?_⟩,by rw[hl];exact h.kl,h.pr.of (λq hq h1=>far q hq (by rw[h1];omega)) (λ_ _ h=>h),λhk=>(h.cc hk).A rfl nf (λj v _ hv=>?_)⟩
 ·rw[hl];exact(h.bx.block fg)
 ·exact(h.rw.r k hk).of λj _=>World.cell?_of_block (a:=⟨br,_,none⟩) (far br (h.rw.nr (by have:k<x.B.length:=hk;omega)).1.1 (by rw[h.sp.r (by have:k<x.B.length:=hk;omega)];omega))
 ·rw[hl] at hq;rw[hc q];by_cases e:q=i
  ·subst e;rw[if_pos rfl];exact hs
  ·rw[if_neg e];exact(h.rw.s q hq).of λj hj=>ho _ (by omega)
 ·rw[hl] at hq;rw[hpr q,ho _ (by omega)];exact h.rw.p7 q hq
 ·rw[hl] at hq;have e2:(({ x with A:=x.A.set i c' }:Hp).c q).p k=(x.c q).p k:=by simp only [Cl.p,hpr q]
  rw[hpr q] at hk;rw[e2];exact(h.rw.p q hq k hk).of λj _=>World.cell?_of_block (a:=⟨pb q,_,none⟩) (pf q hq (h.rw.pw hq (by omega)))
 ·rw[hl] at hq;obtain⟨a1,a2,a3⟩:=h.rw.pl q hq hlq;exact⟨a1,a0f a2 (pf q hq hlq) o.size,a3⟩
 ·rw[hl] at hq hq';exact h.rw.dp q q' hq hq' hne h1 h2
 ·rw[hl] at hq;rw[hpr q];exact h.rw.kp q hq
 ·rw[hl] at hq;exact h.sp.p q hq hlq
 ·by_cases e:j<i*8\/i*8+7<=j
  ·exact⟨v,(ho j e).trans hv⟩
  ·have:=hs.some (j-i*8) (by omega);rw[show i*8+(j-i*8)=j by omega] at this;exact this
theorem GAt.push[Inhabited uQ]{i:Int}(h:GAt B W g x ar kr ac kc vg br bc pb pa pk role)(hg:W.grownBy w5 vg.ownBlock)(h5:Grw w5 B (.slice (some ⟨gb,go,none⟩) (x.D.length+1) cap) (x.D++[i]))(hat:vg.ownBlock=some gb\/gb=W.heap.size):
  GAt B (w5.setCell ⟨g,8,none⟩ (.slice (some ⟨gb,go,none⟩) (x.D.length+1) cap)) g { x with D:=x.D++[i] } ar kr ac kc (.slice (some ⟨gb,go,none⟩) (x.D.length+1) cap) br bc pb pa pk (λq=>if q=gb then 4 else role q):=by
 have hgb:∀q,q<W.heap.size->role q≠4->q≠gb:=λq hq hr e=>by
  rcases hat with a | a
  ·exact hr (by rw[e];exact h.sp.y gb a)
  ·omega
 have far:∀q,q<W.heap.size->role q≠4->w5.heap[q]?=W.heap[q]?:=λq hq hr=>hg.block q hq (λe=>hr (h.sp.y q e.symm))
 have hb:=h.nf.1;have rb:role g≠4:=by rw[h.sp.g];omega
 have fb:=far g hb rb;have nbg:=hgb g hb rb;have far2:∀q,q<W.heap.size->role q≠4->q≠g->(w5.setCell ⟨g,8,none⟩ (.slice (some ⟨gb,go,none⟩) (x.D.length+1) cap)).heap[q]?=W.heap[q]?:=λq hq hr hne=>(Below.heap_setCell _ _ _ _ hne).trans (far q hq hr)
 have hsz:W.heap.size<=(w5.setCell ⟨g,8,none⟩ (.slice (some ⟨gb,go,none⟩) (x.D.length+1) cap)).heap.size:=by have:=hg.size;simpa [World.setCell] using this
 have rw2:=h.rw.same hsz (λhl=>far2 br (h.rw.nr hl).1.1 (by rw[h.sp.r hl];omega) (λe=>by have h1:=h.sp.r hl;have h2:=h.sp.g;rw[e] at h1;omega)) (λhl=>far2 bc (h.rw.nc hl).1.1 (by rw[h.sp.c hl];omega) (λe=>by have h1:=h.sp.c hl;have h2:=h.sp.g;rw[e] at h1;omega)) (λq hq hl=>far2 (pb q) (h.rw.pl q hq hl).2.1.1 (by rw[h.sp.p q hq hl];omega) (λe=>by have h1:=h.sp.p q hq hl;have h2:=h.sp.g;rw[e] at h1;omega));refine⟨(h.bx.block fb).set8 _,(uV h.nf fb hg.size).set _ _,h.lo,h.ha,h.hc,⟨rw2.r,rw2.s,rw2.p7,rw2.p,rw2.pl,rw2.nr,rw2.nc,rw2.d,rw2.dp,rw2.kp⟩,?_,⟨?_,λhl=>?_,λhl=>?_,λq hq=>?_,λq hq hl=>?_⟩,h.kl,h.pr.of (λq hq h1=>far2 q hq (by rw[h1];omega) (λe=>by have h2:=h.sp.g;rw[e] at h1;omega)) (λq hq h1=>by(try dsimp only);rw[if_neg (hgb q hq (by rw[h1];omega))];exact h1),λhk=>(h.cc hk).block (if_neg (hgb bc (h.cc hk).nf.1 (by rw[(h.cc hk).ro];omega))) (far2 bc (h.cc hk).nf.1 (by rw[(h.cc hk).ro];omega) (λe=>by have h1:=(h.cc hk).ro;have h2:=h.sp.g;rw[e] at h1;omega)) hsz⟩
 ·exact h5.block (w':=w5.setCell ⟨g,8,none⟩ (.slice (some ⟨gb,go,none⟩) (x.D.length+1) cap)) (λq hq=>Below.heap_setCell _ _ _ _ (λe=>nbg (by simp [Value.ownBlock] at hq;rw[hq];exact e.symm)))
 ·rw[if_neg nbg];exact h.sp.g
 ·rw[if_neg (hgb br (h.rw.nr hl).1.1 (by rw[h.sp.r hl];omega))];exact h.sp.r hl
 ·rw[if_neg (hgb bc (h.rw.nc hl).1.1 (by rw[h.sp.c hl];omega))];exact h.sp.c hl
 ·simp [Value.ownBlock] at hq;rw[if_pos hq.symm]
 ·rw[if_neg (hgb (pb q) (h.rw.pl q hq hl).2.1.1 (by rw[h.sp.p q hq hl];omega))];exact h.sp.p q hq hl
theorem a7x(x:Hp)(b:Nat)(w:World)(c5:w.cell? ⟨b,5,none⟩=some (iv x.E)):
  Calls Tryz.prog 250 #[.pointer (some ⟨b,0,none⟩)] w λe w'=>e=.returned (.bool (mkB x))/\w'=w:=by
 cases q:(x.E == 1)
 ·have E:=uU (show mkB x=(x.E == 2) by simp [mkB,q]);go_enter Tryz.func250,Tryz.ntmps250;go_wp2_with fail;go_ret;exact⟨by rw[uH E];rfl,rfl⟩
 ·have E:=uU (show mkB x=true by simp [mkB,q]);go_enter Tryz.func250,Tryz.ntmps250;go_wp2_with fail;go_ret;exact⟨by rw[uH E];rfl,rfl⟩
theorem b2p[Inhabited uQ](y:Wd)(w:World)(h:GAt B w g x ar kr ac kc (.slice ag x.D.length kg) br bc pb pa pk role)(hy:y.k=2->0<=y.a/\y.a<x.A.length)(n2:x.A.length<=8000)(n4:x.D.length<=8000)(a:World)(ha:a.heap.size<=B)(hx:Ext a w)(hB:B<=w.heap.size):
  Calls Tryz.prog 232 #[.pointer (some ⟨g,0,none⟩),y.v] w λe w'=>e=.returned (.bool (yE x y))/\Hid (∃ag' kg' role',GAt B w' g (a5j x y) ar kr ac kc (.slice ag' (a5j x y).D.length kg') br bc pb pa pk role')/\Ext a w'/\Hid (∀q,q<w.heap.size->q≠g->q≠bc->(∀b o n,ag=some ⟨b,o,n⟩->b≠q)->w'.heap[q]?=w.heap[q]?):=by
 obtain⟨w1,hw1⟩:∃W,W=w.alloc (.cells #[iv y.k,iv y.n,iv y.a] 152):=⟨_,rfl⟩;have xa:Ext w w1:=by rw[hw1];exact(Ext.refl w).alloc _
 have FR1:=uU (show ∀n q,q<w.heap.size->(w1.drewN n).heap[q]?=w.heap[q]? from λn q hq=>(xa.trans ((Ext.refl w1).drewN n)).block q hq);have H:=uU (h.ext xa);have hgw:g<w.heap.size:=uL h.bx.1;have X1:=uU (hx.trans xa);have d5:=H.bx.2.2.2.2.2.1;have y0:w1.cell? ⟨w.heap.size,0,none⟩=some (iv y.k):=by rw[hw1];simp [go_sem]
 have y2:w1.cell? ⟨w.heap.size,2,none⟩=some (iv y.a):=by rw[hw1];simp [go_sem]
 have hw1s:w.heap.size<w1.heap.size:=uL y0;have MK:=uU (λn r (hr:mkB x=r)=>show Calls Tryz.prog 250 #[.pointer (some ⟨g,0,none⟩)] (w1.drewN n) (λe w'=>e=.returned (.bool r)/\w'=w1.drewN n) from hr ▸ a7x x g (w1.drewN n) (((Ext.refl w1).drewN n).keep d5));cases q1:mkB x
 ·have E:=uU (show yE x y=false/\a5j x y=x by simp [a5j,yE,q1]);clear h d5;go_enter Tryz.func232,Tryz.ntmps232;go_wp2_with fail;rw[<-hw1];clear hw1;go_quiet ((go_at_call 250;exact Calls.quiet_of_same (MK _ _ q1)));go_wp2_with fail;go_ret;exact⟨by rw[E.1];rfl,by rw[E.2];exact⟨_,_,_,H.ext ((Ext.refl w1).drewN _)⟩,X1.drewN _,λq hq _ _ _=>uH FR1 _ q hq⟩
 ·cases q2:(y.k == 2)
  ·have E:=uU (show yE x y=false/\a5j x y=x by simp [a5j,yE,q2]);have q2n:(y.k != 2)=true:=by simpa using q2
   clear h d5;go_enter Tryz.func232,Tryz.ntmps232;go_wp2_with fail;rw[<-hw1];clear hw1;go_quiet ((go_at_call 250;exact Calls.quiet_of_same (MK _ _ q1)));go_wp2_with fail;go_ret;exact⟨by rw[E.1];rfl,by rw[E.2];exact⟨_,_,_,H.ext ((Ext.refl w1).drewN _)⟩,X1.drewN _,λq hq _ _ _=>uH FR1 _ q hq⟩
  ·have q2n:(y.k != 2)=false:=by simpa using q2
   obtain⟨i,hi⟩:∃i:Nat,y.a=(i:Int):=⟨y.a.toNat,by have:=(hy (by simpa using q2)).1;omega⟩;have hin:i<x.A.length:=by have:=(hy (by simpa using q2)).2;omega
   have hn:0<x.A.length:=by omega
   have hi2:y.a.toNat=i:=by omega
   rw[hi] at y2;have d4:=H.bx.2.2.2.2.1;rw[H.hc hn] at d4;have s5:=(H.rw.s i hin).2.2.2.2.2.1;have f5:=(H.rw.nc hn).1.2 (i*8+5);have hbc:bc<w1.heap.size:=uL s5;have hbcw:bc<w.heap.size:=(h.rw.nc hn).1.1;have i0:(0:Int)<=(i:Int):=by omega
   have i1:(i:Int)<(x.A.length:Int):=by omega
   cases q3:((x.c i).J == 0)
   ·have E:=uU (show yE x y=false/\a5j x y=x by simp [a5j,yE,hi2,q3]);have q3n:((x.c i).J != 0)=true:=by simpa using q3
    clear h d5 hi hi2;go_enter Tryz.func232,Tryz.ntmps232;go_wp2_with fail;rw[<-hw1];clear hw1;go_quiet ((go_at_call 250;exact Calls.quiet_of_same (MK _ _ q1)));go_wp2_with fail;go_ret;exact⟨by rw[E.1];rfl,by rw[E.2];exact⟨_,_,_,H.ext ((Ext.refl w1).drewN _)⟩,X1.drewN _,λq hq _ _ _=>uH FR1 _ q hq⟩
   ·have q3n:((x.c i).J != 0)=false:=by simpa using q3
    have E:=uU (show yE x y=true/\a5j x y={ x with A:=x.A.set i (tY (x.c i)),D:=x.D++[(i:Int)] } by
     have hb:yE x y=true:=by simp [yE,hi2,q1,q2,q3]
     refine⟨hb,?_⟩;unfold a5j;rw[if_pos hb,hi2,hi])
    clear h d5 hi hi2;go_enter Tryz.func232,Tryz.ntmps232;go_wp2_with fail;rw[<-hw1];clear hw1;go_quiet ((go_at_call 250;exact Calls.quiet_of_same (MK _ _ q1)));go_wp2_with fail
    go_region
    all_goals
     go_wp2_with fail;obtain⟨w2,hw2⟩:∃W,W=(w1.drewN (nq+1)).setCell ⟨bc,i*8+5,none⟩ (.int .i64 1):=⟨_,rfl⟩;have HD:=uU (H.ext ((Ext.refl w1).drewN (nq+1)))
     have G2:=uU (show GAt B w2 g { x with A:=x.A.set i (tY (x.c i)) } ar kr ac kc (.slice ag x.D.length kg) br bc pb pa pk role by
      rw[hw2];refine HD.setc hin rfl (uZ.setCell (S:=λq=>q=bc) (uZ.refl _ (w1.drewN (nq+1))) (p:=⟨bc,i*8+5,none⟩) rfl _) ?_ (λk hk=>uC _ (.inr (by omega))) ((HD.rw.nc hn).1.set _ _);obtain⟨a0,a1,a2,a3,a4,a5,a6⟩:=HD.rw.s i hin;refine⟨?_,?_,?_,?_,?_,World.cell?_setCell_same _ _ _ a5,?_⟩
      ·rw[uC _ (.inr (by omega))];exact a0
      ·rw[uC _ (.inr (by omega))];exact a1
      ·rw[uC _ (.inr (by omega))];exact a2
      ·rw[uC _ (.inr (by omega))];exact a3
      ·rw[uC _ (.inr (by omega))];exact a4
      ·rw[uC _ (.inr (by omega))];exact a6)
     have X2:Ext a w2:=by rw[hw2];exact(X1.drewN _).setCell (show a.heap.size<=bc from Nat.le_trans ha (H.rw.nc hn).2) _
     have z2:w2.cell? ⟨w.heap.size,2,none⟩=some (iv i):=by
      rw[hw2,uC _ (.inl (by omega))];exact((Ext.refl w1).drewN (nq+1)).keep y2
     have c8:=G2.bx.2.2.2.2.2.2.2.2.1;have f8:=G2.nf.2 8;have hg2:g<w2.heap.size:=uL c8;have hB2:B<=w2.heap.size:=by have h1:w2.heap.size=w1.heap.size:=(by rw[hw2];simp [World.setCell]);omega
     have ng1:¬g=w.heap.size:=by omega
     have ng2:¬w.heap.size=g:=by omega
     obtain⟨ii,hii,hi0,hi1,hi2⟩:=info_parts b2b;have FR2:=uU (show ∀q,q<w.heap.size->q≠bc->w2.heap[q]?=w.heap[q]?/\q<w2.heap.size from λq hq hne=>⟨by rw[hw2,Below.heap_setCell _ _ _ _ hne];exact FR1 _ q hq,by have h1:w2.heap.size=w1.heap.size:=(by rw[hw2];simp [World.setCell]);omega⟩);rw[<-hw2];clear hw2 HD;have GRX:=uU (show ∀W,Ext w2 W->Grw W B (.slice ag x.D.length kg) x.D from λW e=>G2.gr.block (λq hq=>e.block q (G2.gr.lt q hq).2));go_region_law (refine c4i _ rfl _ _ 32 rfl ii (iv 0) B (.slice ag x.D.length kg) x.D Tryz.underlying32 hii hi0 hi1 hi2 rfl (by first | rfl | simp [Act.eval,Act.put]) (by first | exact GRX _ ((Ext.refl w2).alloc _) | exact GRX _ ((Ext.refl w2).alloc _).drew | exact GRX _ ((Ext.refl w2).drew.alloc _)) _ 1 i (by first | rfl | simp [Act.eval,Act.put];rfl) (by simp [go_sem]) (by omega) (by simp;omega) ?_;intro gb go cap w3 hown hgrow hat hglt;have xb:=Ext.trans ((Ext.refl w2).alloc (.cells #[iv i] 3)) ((Ext.refl (w2.alloc (.cells #[iv i] 3))).drew);have R:=uU ((G2.ext xb).push hgrow hown (by simpa using hat));have eb:w3.heap[g]?=w2.heap[g]?:=(hgrow.block g (by simp;omega) (λe=>by have h1:=G2.sp.y _ e.symm;have h2:=G2.sp.g;omega)).trans (xb.block g hg2);have e8:=(World.cell?_of_block (a:=⟨g,8,none⟩) eb).trans c8;have ff8:=(World.frozen?_of_block (a:=⟨g,8,none⟩) eb).trans f8;have X3:=uU (show Ext a (w3.setCell ⟨g,8,none⟩ (.slice (some ⟨gb,go,none⟩) (x.D.length+1) cap)) from(Below.trans (X2.trans xb) ⟨hgrow.os,hgrow.tape,hgrow.output,hgrow.size,λk hk=>hgrow.block k (Nat.lt_of_lt_of_le hk (X2.trans xb).size) (λe=>by have:=(G2.gr.lt k e.symm).1;omega)⟩).setCell (Nat.le_trans ha G2.lo) _);have FR3:=uU (show ∀q,q<w.heap.size->q≠g->q≠bc->(∀b o n,ag=some ⟨b,o,n⟩->b≠q)->(w3.setCell ⟨g,8,none⟩ (.slice (some ⟨gb,go,none⟩) (x.D.length+1) cap)).heap[q]?=w.heap[q]? from λq hq h1 h2 h3=>(Below.heap_setCell _ _ _ _ h1).trans ((hgrow.block q (by have:=(FR2 q hq h2).2;simp;omega) (λe=>by cases ag with | none=>simp [Value.ownBlock] at e | some ad=>obtain⟨b,o,n⟩:=ad;simp [Value.ownBlock] at e;exact h3 b o n rfl e.symm)).trans ((xb.block q (FR2 q hq h2).2).trans (FR2 q hq h2).1)));clear hown hgrow hat eb xb)
     all_goals
      go_wp2_with fail;go_ret;exact⟨by rw[E.1];rfl,by rw[E.2];exact⟨some ⟨gb,go,none⟩,cap,_,by rw[List.length_append];exact uH R⟩,X3,FR3⟩
theorem a6f[Inhabited uQ](y:Wd)(w:World)(h:GAt B w g x ar kr ac kc (.slice ag x.D.length kg) br bc pb pa pk role)(hy:y.k=2->0<=y.a/\y.a<x.A.length)(n2:x.A.length<=8000)(n4:x.D.length<=8000)(a:World)(ha:a.heap.size<=B)(hx:Ext a w)(hB:B<=w.heap.size):
  Calls Tryz.prog 232 #[.pointer (some ⟨g,0,none⟩),y.v] w λe w'=>e=.returned (.bool (yE x y))/\Hid (∃ag' kg' role',GAt B w' g (a5j x y) ar kr ac kc (.slice ag' (a5j x y).D.length kg') br bc pb pa pk role')/\Ext a w':=
 (b2p y w h hy n2 n4 a ha hx hB).mono λ_ _ ⟨h1,h2,h3,_⟩=>⟨h1,h2,h3⟩
def GOk[Inhabited uQ](B:Nat)(w:World)(g:Nat)(x:Hp):Prop:=∃ar kr ac kc vg br bc pb pa pk role,GAt B w g x ar kr ac kc vg br bc pb pa pk role
theorem GOk.ext[Inhabited uQ](h:GOk B w g x)(e:Ext w w'):GOk B w' g x:=by
 obtain⟨ar,kr,ac,kc,vg,br,bc,pb,pa,pk,role,h⟩:=h;exact⟨ar,kr,ac,kc,vg,br,bc,pb,pa,pk,role,h.ext e⟩
theorem GAt.boxed[Inhabited uQ]{x':Hp}(h:GAt B w g x ar kr ac kc vg br bc pb pa pk role)(o:uZ (λq=>q=g) w w')(nf:Nf1 g w')(hr:x'.B=x.B)(hc:x'.A=x.A)(hg:x'.D=x.D)(bx:dE w' g x' (.slice ar x.B.length kr) (.slice ac x.A.length kc) vg):GAt B w' g x' ar kr ac kc vg br bc pb pa pk role:=by
 have far:∀q,q<w.heap.size->role q≠0->w'.heap[q]?=w.heap[q]?:=λq hq hn=>o.block q hq (λe=>hn (by rw[e];exact h.sp.g))
 have cc:∀q,x'.c q=x.c q:=λq=>by simp only [Hp.c,hc]
 have rw2:=h.rw.same o.size (λhl=>far br (h.rw.nr hl).1.1 (by rw[h.sp.r hl];omega)) (λhl=>far bc (h.rw.nc hl).1.1 (by rw[h.sp.c hl];omega)) (λq hq hl=>far (pb q) (h.rw.pl q hq hl).2.1.1 (by rw[h.sp.p q hq hl];omega));refine⟨by rw[hr,hc];exact bx,nf,h.lo,by rw[hr];exact h.ha,by rw[hc];exact h.hc,?_,by rw[hg];exact h.gr.block (λq hq=>far q (h.gr.lt q hq).2 (by rw[h.sp.y q hq];omega)),?_,by rw[hc];exact h.kl,h.pr.of (λq hq h1=>far q hq (by rw[h1];omega)) (λ_ _ h=>h),λhk=>(h.cc hk).block rfl (far bc (h.cc hk).nf.1 (by rw[(h.cc hk).ro];omega)) o.size⟩
 ·refine⟨λi hi=>?_,λq hq=>?_,λq hq=>?_,λq hq k hk=>?_,λq hq hl=>?_,?_,?_,?_,λq q' hq hq' hne h1 h2=>?_,λq hq=>?_⟩
  ·have hi2:i<x.B.length:=by rw[<-hr];exact hi
   have e2:x'.B[i]=x.B[i]:=by simp [hr]
   rw[e2];exact rw2.r i hi2
  ·rw[hc] at hq;rw[cc];exact rw2.s q hq
  ·rw[hc] at hq;rw[cc];exact rw2.p7 q hq
  ·rw[hc] at hq;rw[cc] at hk ⊢;exact rw2.p q hq k hk
  ·rw[hc] at hq;exact rw2.pl q hq hl
  ·rw[hr];exact rw2.nr
  ·rw[hc];exact rw2.nc
  ·rw[hc];exact rw2.d
  ·rw[hc] at hq hq';exact rw2.dp q q' hq hq' hne h1 h2
  ·rw[hc] at hq;rw[cc];exact rw2.kp q hq
 ·refine⟨h.sp.g,by rw[hr];exact h.sp.r,by rw[hc];exact h.sp.c,h.sp.y,λq hq hl=>?_⟩;rw[hc] at hq;exact h.sp.p q hq hl
theorem GOk.set6[Inhabited uQ](h:GOk B w g x)(v:Int):GOk B (w.setCell ⟨g,6,none⟩ (iv v)) g { x with I:=v }:=by
 obtain⟨ar,kr,ac,kc,vg,br,bc,pb,pa,pk,role,h⟩:=h;exact⟨_,_,_,_,_,_,_,_,_,_,_,h.boxed (x':={ x with I:=v }) (uZ.setCell (S:=λq=>q=g) (uZ.refl _ w) (p:=⟨g,6,none⟩) rfl _) (h.nf.set _ _) rfl rfl rfl (h.bx.set6 v)⟩
theorem GOk.set7[Inhabited uQ](h:GOk B w g x)(v:Int):GOk B (w.setCell ⟨g,7,none⟩ (iv v)) g { x with sub:=v }:=by
 obtain⟨ar,kr,ac,kc,vg,br,bc,pb,pa,pk,role,h⟩:=h;exact⟨_,_,_,_,_,_,_,_,_,_,_,h.boxed (x':={ x with sub:=v }) (uZ.setCell (S:=λq=>q=g) (uZ.refl _ w) (p:=⟨g,7,none⟩) rfl _) (h.nf.set _ _) rfl rfl rfl (h.bx.set7 v)⟩
theorem GOk.box[Inhabited uQ](h:GOk B w g x):w.cell? ⟨g,6,none⟩=some (iv x.I)/\w.cell? ⟨g,7,none⟩=some (iv x.sub)/\w.cell? ⟨g,5,none⟩=some (iv x.E)/\(∀o,w.frozen? ⟨g,o,none⟩=false)/\B<=g/\g<w.heap.size:=by
 obtain⟨ar,kr,ac,kc,vg,br,bc,pb,pa,pk,role,h⟩:=h;exact⟨h.bx.2.2.2.2.2.2.1,h.bx.2.2.2.2.2.2.2.1,h.bx.2.2.2.2.2.1,h.nf.2,h.lo,h.nf.1⟩
theorem b6g{y:Wd}(hy:eE x y)(h0:y.k=2->0<=y.a):a5j x y=shadeW x y:=by
 unfold a5j shadeW;by_cases e:(y.k == 2)=true
 ·have hk:y.k=2:=by simpa using e
  have hs:=(hy hk).2;have hb:yE x y=eJ x y.a.toNat:=by simp [yE,eJ,whB,hs,hk]
  rw[if_pos e,hb];unfold uW;have ea:((y.a.toNat:Nat):Int)=y.a:=by have:=h0 hk;omega
  by_cases q:eJ x y.a.toNat=true
  ·rw[if_pos q,if_pos q,ea]
  ·rw[if_neg q,if_neg q]
 ·have e2:(y.k == 2)=false:=by simpa using e
  have hb:yE x y=false:=by simp [yE,e2]
  rw[if_neg e,hb];simp
theorem b2q[Inhabited uQ](B g:Nat)(x:Hp)(y:Wd)(w:World)(h:GOk B w g x)(s:Snd x)(hy:eE x y)(h0:y.k=2->0<=y.a)(a:World)(ha:a.heap.size<=B)(hx:Ext a w)(hB:B<=w.heap.size):
  Calls Tryz.prog 232 #[.pointer (some ⟨g,0,none⟩),y.v] w λe w'=>e=.returned (.bool (yE x y))/\GOk B w' g (shadeW x y)/\Ext a w':=by
 obtain⟨ar,kr,ac,kc,vg,br,bc,pb,pa,pk,role,h⟩:=h;obtain⟨ag,kg,rfl⟩:=h.gr.form;refine(a6f y w h (λhk=>⟨h0 hk,by have:=(hy hk).1;have:=h0 hk;omega⟩) s.ok.n8 (by have:=s.r1.D;have:=s.ok.n8;omega) a ha hx hB).mono ?_;rintro e w' ⟨he,h2,h3⟩;obtain⟨ag',kg',role',h2⟩:=h2;rw[b6g hy h0] at h2;exact⟨he,⟨_,_,_,_,_,_,_,_,_,_,_,h2⟩,h3⟩
theorem a1a[Inhabited uQ](B g:Nat)(x:Hp)(p hd:Int)(w:World)(h:GOk B w g x)(a:World)(ha:a.heap.size<=B)(hx:Ext a w):
  Calls Tryz.prog 186 #[.pointer (some ⟨g,0,none⟩),.int .i64 p,.int .i64 hd] w λe w'=>e=.returned (.tuple #[])/\GOk B w' g (dN x p hd)/\Ext a w':=by
 obtain⟨ar,kr,ac,kc,vg,br,bc,pb,pa,pk,role,h⟩:=h;have H:=uU h;obtain⟨_,_,_,_,_,c5,c6,c7,_⟩:=h.bx;have f5:=h.nf.2 5;have f6:=h.nf.2 6;have f7:=h.nf.2 7;clear h;go_enter Tryz.func186,Tryz.ntmps186;go_wp2_with fail
 go_end0
 have b1:=((H.bx.set5 p).set6 hd).set7 0;have o1:=uZ.setCell (S:=λq=>q=g) (uZ.setCell (S:=λq=>q=g) (uZ.setCell (S:=λq=>q=g) (uZ.refl _ w) (p:=⟨g,5,none⟩) rfl (iv p)) (p:=⟨g,6,none⟩) rfl (iv hd)) (p:=⟨g,7,none⟩) rfl (iv 0);exact⟨rfl,⟨_,_,_,_,_,_,_,_,_,_,_,H.boxed (x':=dN x p hd) o1 (((H.nf.set _ _).set _ _).set _ _) rfl rfl rfl b1⟩,o1.ext hx (λq hq e=>by have:=H.lo;omega)⟩
theorem a0p(w:World)(n:Nat)(cs:Array Value)(t:TypeId)(j:Nat):((w.drewN n).alloc (.cells cs t)).cell? ⟨w.heap.size,j,none⟩=cs[j]?:=by
 have e:(w.drewN n).heap.size=w.heap.size:=by simp
 have:=heap_alloc_new (w.drewN n) (.cells cs t);rw[e] at this;exact cell_of_row _ w.heap.size j _ _ (0,0) this
theorem a3w(w:World)(n:Nat)(o:Obj)(b j:Nat)(h:b<w.heap.size):((w.drewN n).alloc o).cell? ⟨b,j,none⟩=w.cell? ⟨b,j,none⟩:=by
 have x:=((Ext.refl w).drewN n).alloc o;exact x.cell (p:=⟨b,j,none⟩) h
theorem a3k(w:World)(n:Nat)(cs:Array Value)(t:TypeId)(j:Nat):((w.drewN n).alloc (.cells cs t)).frozen? ⟨w.heap.size,j,none⟩=false:=by
 have e:(w.drewN n).heap.size=w.heap.size:=by simp
 have key:∀W:World,(W.alloc (.cells cs t)).frozen? ⟨W.heap.size,j,none⟩=false:=λW=>by simp [go_sem]
 have:=key (w.drewN n);rw[e] at this;exact this
theorem b8i[Inhabited uQ](B g:Nat)(x:Hp)(w:World)(h:GOk B w g x)(s:Snd x)(a:World)(ha:a.heap.size<=B)(hx:Ext a w)(hB:B<=w.heap.size):
  Calls Tryz.prog 187 #[.pointer (some ⟨g,0,none⟩)] w λe w'=>e=.returned (.tuple #[])/\GOk B w' g (eZ x)/\Ext a w':=by
 obtain⟨ar,kr,ac,kc,vg,br,bc,pb,pa,pk,role,h⟩:=h;have HO:=uU (show GOk B w g x from⟨_,_,_,_,_,_,_,_,_,_,_,h⟩);have H:=uU h;have c4:=h.bx.2.2.2.2.1;have c6:=h.bx.2.2.2.2.2.2.1;have hgw:g<w.heap.size:=uL c4;have lo:=h.lo;have n8:=s.ok.n8;have S:=uU s;have hh:=s.r1.I;clear h;by_cases he:x.I=x.A.length
 ·have E:=uU (show eZ x=dN x 2 0 by unfold eZ;rw[if_pos he]);have heb:(x.I == (x.A.length:Int))=true:=by simpa using he
  clear he;go_enter Tryz.func187,Tryz.ntmps187;go_wp2_with fail;go_quiet (fail);go_wp2_with fail;refine(a1a B g x 2 0 _ (HO.ext ((Ext.refl w).drewN _)) a ha (hx.drewN _)).mono ?_;rintro e w2 ⟨rfl,h2,x2⟩;have H2:=uU h2;clear h2;go_wp2_with fail
  try simp only [Exit.inBlock,Exit.then]
  refine bodyPost_ret (results_none rfl _ _ _) rfl ?_;exact⟨rfl,by rw[uH E];exact uH H2,x2⟩
 ·obtain⟨i,hi⟩:∃i:Nat,x.I=(i:Int):=⟨x.I.toNat,by omega⟩;have hin:i<x.A.length:=by omega
  have heb:(x.I == (x.A.length:Int))=false:=by simpa using he
  rw[hi] at heb c6;have hn:0<x.A.length:=by omega
  rw[H.hc hn] at c4;obtain⟨p0,p1,p2,p3,p4,p5,p6⟩:=H.rw.s i hin;have p7:=H.rw.p7 i hin;have hbc:bc<w.heap.size:=uL p0;have i0:(0:Int)<=(i:Int):=by omega
  have i1:(i:Int)<(x.A.length:Int):=by omega
  have ei:x.I.toNat=i:=by omega
  have EU:=uU (show eZ x={ (if tJ (x.c i)=true then uW x i else x) with I:=x.I+1 } by unfold eZ;rw[if_neg he,ei]);have HI:=uU hi;have zn:=λn j=>a0p w n #[.int .i64 0,.int .i64 0,.int .i64 0,.int .i64 0,.int .i64 0,.int .i64 0,.int .i64 0,.slice none 0 0] 62 j
  have zf:=λn j=>a3k w n #[.int .i64 0,.int .i64 0,.int .i64 0,.int .i64 0,.int .i64 0,.int .i64 0,.int .i64 0,.slice none 0 0] 62 j
  have zo:=λn o b j (h:b<w.heap.size)=>a3w w n o b j h
  clear he hi ei hh;go_enter Tryz.func187,Tryz.ntmps187;go_wp2_with fail;go_quiet (fail);go_wp2_with fail
  go_region
  all_goals
   obtain⟨W2,hW2⟩:∃W,W=(((((((((w.drewN (nq+1)).alloc (.cells #[.int .i64 0,.int .i64 0,.int .i64 0,.int .i64 0,.int .i64 0,.int .i64 0,.int .i64 0,.slice none 0 0] 62)).setCell ⟨w.heap.size,0,none⟩ (.int .i64 (x.c i).st)).setCell ⟨w.heap.size,1,none⟩ (.int .i64 (x.c i).kind)).setCell ⟨w.heap.size,2,none⟩ (.int .i64 (x.c i).T)).setCell ⟨w.heap.size,3,none⟩ (.int .i64 (x.c i).U)).setCell ⟨w.heap.size,4,none⟩ (.int .i64 (x.c i).born)).setCell ⟨w.heap.size,5,none⟩ (.int .i64 (x.c i).J)).setCell ⟨w.heap.size,6,none⟩ (.int .i64 (x.c i).to)).setCell ⟨w.heap.size,7,none⟩ (.slice (pa i) (x.c i).F.length (pk i)):=⟨_,rfl⟩
   have X2:Ext w W2:=by
    rw[hW2];exact(((((((((Ext.refl w).drewN (nq+1)).alloc _).setCell (Nat.le_refl _) _).setCell (Nat.le_refl _) _).setCell (Nat.le_refl _) _).setCell (Nat.le_refl _) _).setCell (Nat.le_refl _) _).setCell (Nat.le_refl _) _).setCell (Nat.le_refl _) _ |>.setCell (Nat.le_refl _) _
   have l3:W2.cell? ⟨w.heap.size,3,none⟩=some (iv (x.c i).U):=by
    rw[hW2,uC _ (.inr (by omega)),uC _ (.inr (by omega)),uC _ (.inr (by omega)),uC _ (.inr (by omega))];exact World.cell?_setCell_same _ _ _ (by rw[uC _ (.inr (by omega)),uC _ (.inr (by omega)),uC _ (.inr (by omega)),zn];rfl)
   rw[<-hW2];clear hW2 zn zf zo;have d6:=X2.keep c6;have hgW:g<W2.heap.size:=uL d6;have f6:W2.frozen? ⟨g,6,none⟩=false:=((cD X2).2 g 6 hgw).trans (H.nf.2 6);cases l1:((x.c i).U == 1)
   ·cases l2:((x.c i).U == 2)
    ·have EF:=uU (show eZ x={ x with I:=x.I+1 } by rw[uH EU,if_neg (by simp [tJ,l1,l2])]);have H3:=uU ((HO.ext X2).set6 (x.I+1));have X3:=uU ((hx.trans X2).setCell (p:=⟨g,6,none⟩) (show a.heap.size<=g by omega) (iv (x.I+1)));rw[uH HI] at H3 X3 EF;go_wp2_with fail
     go_end0
     exact⟨rfl,by rw[uH EF];exact uH H3,X3⟩
    ·
     have SP:=uU (show tJ (x.c i)=true by simp [tJ,l2])
     have GD:=uU (show eE x ⟨2,0,i⟩ from λ_=>⟨by simpa using hin,by
      have hsp:=(a6c _).1 SP;have e:((i:Int)).toNat=i:=by omega
      show(x.c ((i:Int)).toNat).st=1;rw[e];rcases S.r2.1 i hin with⟨_,b,_⟩ | ⟨_,b⟩ | ⟨a,_⟩
      ·have:=b.2.2.1;rcases hsp with q | q <;> omega
      ·have:=b.1.2.2.1;rcases hsp with q | q <;> omega
      ·exact a⟩)
     go_wp2_with fail;refine(b2q B g x ⟨2,0,i⟩ _ (HO.ext X2) S GD (λ_=>i0) a ha (hx.trans X2) (Nat.le_trans hB X2.size)).mono ?_;rintro e w3 ⟨rfl,h3,x3⟩;have H3:=uU (h3.set6 (x.I+1));have X3:=uU (x3.setCell (p:=⟨g,6,none⟩) (show a.heap.size<=g by omega) (iv (x.I+1)));obtain⟨q6,_,_,ef,_,eg⟩:=h3.box;have e6:w3.cell? ⟨g,6,none⟩=some (iv i):=by rw[q6,(a0a x _).2.2.2.1,uH HI]
     have ef6:=ef 6;rw[uH HI] at H3 X3
     have EF:=uU (show eZ x={ shadeW x ⟨2,0,i⟩ with I:=(i:Int)+1 } by
      rw[uH EU,if_pos (uH SP),uH HI];have:shadeW x ⟨2,0,i⟩=uW x i:=by unfold shadeW;simp
      rw[this])
     clear h3 x3 ef q6;go_wp2_with fail
     go_end0
     exact⟨rfl,by rw[uH EF];exact uH H3,X3⟩
   ·
    have SP:=uU (show tJ (x.c i)=true by simp [tJ,l1])
    have GD:=uU (show eE x ⟨2,0,i⟩ from λ_=>⟨by simpa using hin,by
     have hsp:=(a6c _).1 SP;have e:((i:Int)).toNat=i:=by omega
     show(x.c ((i:Int)).toNat).st=1;rw[e];rcases S.r2.1 i hin with⟨_,b,_⟩ | ⟨_,b⟩ | ⟨a,_⟩
     ·have:=b.2.2.1;rcases hsp with q | q <;> omega
     ·have:=b.1.2.2.1;rcases hsp with q | q <;> omega
     ·exact a⟩)
    go_wp2_with fail;refine(b2q B g x ⟨2,0,i⟩ _ (HO.ext X2) S GD (λ_=>i0) a ha (hx.trans X2) (Nat.le_trans hB X2.size)).mono ?_;rintro e w3 ⟨rfl,h3,x3⟩;have H3:=uU (h3.set6 (x.I+1));have X3:=uU (x3.setCell (p:=⟨g,6,none⟩) (show a.heap.size<=g by omega) (iv (x.I+1)));obtain⟨q6,_,_,ef,_,eg⟩:=h3.box;have e6:w3.cell? ⟨g,6,none⟩=some (iv i):=by rw[q6,(a0a x _).2.2.2.1,uH HI]
    have ef6:=ef 6;rw[uH HI] at H3 X3
    have EF:=uU (show eZ x={ shadeW x ⟨2,0,i⟩ with I:=(i:Int)+1 } by
     rw[uH EU,if_pos (uH SP),uH HI];have:shadeW x ⟨2,0,i⟩=uW x i:=by unfold shadeW;simp
     rw[this])
    clear h3 x3 ef q6;go_wp2_with fail
    go_end0
    exact⟨rfl,by rw[uH EF];exact uH H3,X3⟩
theorem GAt.turn[Inhabited uQ](h:GAt B w g x ar kr ac kc vg br bc pb pa pk role)(cs:List Cl)(hl:cs.length=x.A.length)(so:Nat->Nat)(pa':Nat->Option Addr)(pk':Nat->Nat)(role':Nat->Nat)(hn:0<x.A.length)
  (o:uZ (λq=>q=bc) w w') (nf:Nf1 bc w')
  (hs:∀q,q<x.A.length->S7 w' bc (q*8) (({ x with A:=cs }:Hp).c q))
  (h7:∀q,q<x.A.length->w'.cell? ⟨bc,q*8+7,none⟩=some (.slice (pa' q) (({ x with A:=cs }:Hp).c q).F.length (pk' q)))
  (hkp:∀q,q<x.A.length->(({ x with A:=cs }:Hp).c q).F.length<=pk' q)
  (hso:∀q,q<x.A.length->0<pk' q->(so q<x.A.length/\pk' q=pk (so q))/\(x.c (so q)).F=(({ x with A:=cs }:Hp).c q).F/\pa' q=pa (so q)/\role' (pb (so q))=6+q)
  (hro:∀q,role q<6->role' q=role q) (hcc:∀j,x.A.length*8<=j->w'.cell? ⟨bc,j,none⟩=w.cell? ⟨bc,j,none⟩) :
  GAt B w' g { x with A:=cs } ar kr ac kc vg br bc (λq=>pb (so q)) pa' pk' role':=by
 have far:∀q,q<w.heap.size->role q≠3->w'.heap[q]?=w.heap[q]?:=λq hq hr=>o.block q hq (λe=>hr (by rw[e];exact h.sp.c hn))
 have hl':({ x with A:=cs }:Hp).A.length=x.A.length:=hl;have fg:=far g h.nf.1 (by rw[h.sp.g];omega);have pf:∀q,q<x.A.length->0<pk q->w'.heap[pb q]?=w.heap[pb q]?:=λq hq hl=>far (pb q) (h.rw.pl q hq hl).2.1.1 (by rw[h.sp.p q hq hl];omega)
 refine⟨?_,uV h.nf fg o.size,h.lo,h.ha,λ_=>h.hc hn,⟨λk hk=>?_,λq hq=>?_,λq hq=>?_,λq hq k hk=>?_,λq hq hlq=>?_,λhr=>⟨uV (h.rw.nr hr).1 (far br (h.rw.nr hr).1.1 (by rw[h.sp.r hr];omega)) o.size,(h.rw.nr hr).2⟩,λ_=>⟨nf,(h.rw.nc hn).2⟩,λ_=>h.rw.d hn,λq q' hq hq' hne h1 h2=>?_,λq hq=>?_⟩,h.gr.block (λq hq=>far q (h.gr.lt q hq).2 (by rw[h.sp.y q hq];omega)),⟨?_,λhr=>?_,λ_=>?_,λq hq=>?_,λq hq hlq=>?_⟩,by rw[hl'];exact h.kl,h.pr.of (λq hq h1=>far q hq (by rw[h1];omega)) (λq _ h1=>by rw[hro q (by rw[h1];omega)];exact h1),λhk=>(h.cc hk).A (hro bc (by rw[(h.cc hk).ro];omega)) nf (λj v _ hv=>?_)⟩
 ·rw[hl'];exact(h.bx.block fg)
 ·exact(h.rw.r k hk).of λj _=>World.cell?_of_block (a:=⟨br,_,none⟩) (far br (h.rw.nr (by have:k<x.B.length:=hk;omega)).1.1 (by rw[h.sp.r (by have:k<x.B.length:=hk;omega)];omega))
 ·rw[hl'] at hq;exact hs q hq
 ·rw[hl'] at hq;exact h7 q hq
 ·rw[hl'] at hq;obtain⟨⟨a1,_⟩,a2,_⟩:=hso q hq (by have:=hkp q hq;omega);have e2:(({ x with A:=cs }:Hp).c q).p k=(x.c (so q)).p k:=by simp only [Cl.p,a2]
  rw[<-a2] at hk;rw[e2];exact(h.rw.p (so q) a1 k hk).of λj _=>World.cell?_of_block (a:=⟨pb (so q),_,none⟩) (pf (so q) a1 (h.rw.pw a1 (by omega)))
 ·rw[hl'] at hq;obtain⟨⟨a1,a0⟩,a2,a3,_⟩:=hso q hq hlq;rw[a0] at hlq;obtain⟨b1,b2,b3⟩:=h.rw.pl (so q) a1 hlq;exact⟨a3.trans b1,by rw[a0];exact a0f b2 (pf (so q) a1 hlq) o.size,b3⟩
 ·rw[hl'] at hq hq';intro e;have r1:=(hso q hq h1).2.2.2;have r2:=(hso q' hq' h2).2.2.2;have e':pb (so q)=pb (so q'):=e;rw[e',r2] at r1;omega
 ·rw[hl'] at hq;exact hkp q hq
 ·rw[hro g (by rw[h.sp.g];omega)];exact h.sp.g
 ·have:=h.sp.r hr;rw[hro br (by omega)];exact this
 ·have:=h.sp.c hn;rw[hro bc (by omega)];exact this
 ·have:=h.sp.y q hq;rw[hro q (by omega)];exact this
 ·rw[hl'] at hq;exact(hso q hq hlq).2.2.2
 ·by_cases e:x.A.length*8<=j
  ·exact⟨v,(hcc j e).trans hv⟩
  ·by_cases e7:j % 8=7
   ·have:=h7 (j / 8) (by omega);rw[show j / 8*8+7=j by omega] at this;exact⟨_,this⟩
   ·have:=(hs (j / 8) (by omega)).some (j % 8) (by omega);rw[show j / 8*8+j % 8=j by omega] at this;exact this
theorem GAt.clear[Inhabited uQ](h:GAt B w g x ar kr ac kc vg br bc pb pa pk role)(i:Nat)(hi:i<x.A.length)(c':Cl)(hp:c'.F=[])(o:uZ (λq=>q=bc) w w')(nf:Nf1 bc w')(hs:S7 w' bc (i*8) c')(h7:w'.cell? ⟨bc,i*8+7,none⟩=some (.slice none 0 0))(ho:∀k,(k<i*8\/i*8+8<=k)->w'.cell? ⟨bc,k,none⟩=w.cell? ⟨bc,k,none⟩):
  GAt B w' g { x with A:=x.A.set i c' } ar kr ac kc vg br bc pb (λq=>if q=i then none else pa q) (λq=>if q=i then 0 else pk q) role:=by
 have hc:=Hp.c_set x i c' hi;refine h.turn (x.A.set i c') (by simp) (λq=>q) _ _ role (by omega) o nf (λq hq=>?_) (λq hq=>?_) (λq hq=>?_) (λq hq hl=>?_) (λ_ _=>rfl) (λj hj=>ho j (by omega))
 ·rw[hc q];by_cases e:q=i
  ·subst e;rw[if_pos rfl];exact hs
  ·rw[if_neg e];exact(h.rw.s q hq).of λj hj=>ho _ (by omega)
 ·rw[hc q];by_cases e:q=i
  ·subst e;simp only [if_true,hp];exact h7
  ·simp only [if_neg e];rw[ho _ (by omega)];exact h.rw.p7 q hq
 ·rw[hc q];by_cases e:q=i
  ·rw[if_pos e,hp];simp
  ·rw[if_neg e,if_neg e];exact h.rw.kp q hq
 ·rw[hc q];by_cases e:q=i
  ·rw[if_pos e] at hl;omega
  ·rw[if_neg e] at hl;exact⟨⟨hq,if_neg e⟩,by rw[if_neg e],if_neg e,h.sp.p q hq hl⟩
theorem GOk.set1[Inhabited uQ](h:GOk B w g x)(v:Int):GOk B (w.setCell ⟨g,1,none⟩ (iv v)) g { x with K:=v }:=by
 obtain⟨ar,kr,ac,kc,vg,br,bc,pb,pa,pk,role,h⟩:=h;exact⟨_,_,_,_,_,_,_,_,_,_,_,h.boxed (x':={ x with K:=v }) (uZ.setCell (S:=λq=>q=g) (uZ.refl _ w) (p:=⟨g,1,none⟩) rfl _) (h.nf.set _ _) rfl rfl rfl (h.bx.set1 v)⟩
theorem a2e(n:Int)(h0:-1000000<=n)(h1:n<=1000000):wrap64 n=n:=by unfold wrap64;omega
theorem dX{p:Addr}{u:Value}(h:w.cell? p=some u):(w.setCell p v).cell? p=some v:=World.cell?_setCell_same _ _ _ h
def zZ(w:World)(b o:Nat)(st tv:Int):World:=(((((((w.setCell ⟨b,o,none⟩ (iv st)).setCell ⟨b,o+1,none⟩ (iv 0)).setCell ⟨b,o+2,none⟩ (iv 0)).setCell ⟨b,o+3,none⟩ (iv 0)).setCell ⟨b,o+4,none⟩ (iv 0)).setCell ⟨b,o+5,none⟩ (iv 0)).setCell ⟨b,o+6,none⟩ (iv tv)).setCell ⟨b,o+7,none⟩ (.slice none 0 0)
theorem a0g(w:World)(b o:Nat)(st tv:Int):uZ (λq=>q=b) w (zZ w b o st tv):=
 uZ.setCell (S:=λq=>q=b) (uZ.setCell (S:=λq=>q=b) (uZ.setCell (S:=λq=>q=b) (uZ.setCell (S:=λq=>q=b) (uZ.setCell (S:=λq=>q=b) (uZ.setCell (S:=λq=>q=b) (uZ.setCell (S:=λq=>q=b) (uZ.setCell (S:=λq=>q=b) (uZ.refl _ w) (p:=⟨b,o,none⟩) rfl _) (p:=⟨b,o+1,none⟩) rfl _) (p:=⟨b,o+2,none⟩) rfl _) (p:=⟨b,o+3,none⟩) rfl _) (p:=⟨b,o+4,none⟩) rfl _) (p:=⟨b,o+5,none⟩) rfl _) (p:=⟨b,o+6,none⟩) rfl _) (p:=⟨b,o+7,none⟩) rfl _
theorem a9j(h:Nf1 b w)(o:Nat)(st tv:Int):Nf1 b (zZ w b o st tv):=(((((((h.set _ _).set _ _).set _ _).set _ _).set _ _).set _ _).set _ _).set _ _
theorem a3x(w:World)(b o:Nat)(st tv:Int)(k:Nat)(hk:k<o\/o+8<=k):(zZ w b o st tv).cell? ⟨b,k,none⟩=w.cell? ⟨b,k,none⟩:=by
 unfold zZ;rw[uC _ (.inr (by omega)),uC _ (.inr (by omega)),uC _ (.inr (by omega)),uC _ (.inr (by omega)),uC _ (.inr (by omega)),uC _ (.inr (by omega)),uC _ (.inr (by omega)),uC _ (.inr (by omega))]
theorem a4p(w:World)(b o:Nat)(st tv:Int)(c:Cl)(v:Value)(h:S7 w b o c)(h7:w.cell? ⟨b,o+7,none⟩=some v):S7 (zZ w b o st tv) b o ⟨st,0,0,0,0,0,tv,[]⟩/\(zZ w b o st tv).cell? ⟨b,o+7,none⟩=some (.slice none 0 0):=by
 obtain⟨a0,a1,a2,a3,a4,a5,a6⟩:=h;unfold zZ;refine⟨⟨?_,?_,?_,?_,?_,?_,?_⟩,?_⟩
 ·iterate 7 rw[uC _ (.inr (by omega))]
  exact World.cell?_setCell_same _ _ _ a0
 ·iterate 6 rw[uC _ (.inr (by omega))]
  exact World.cell?_setCell_same _ _ _ ((uC _ (.inr (by omega))).trans a1)
 ·iterate 5 rw[uC _ (.inr (by omega))]
  refine dX (u:=iv c.T) ?_
  iterate 2 rw[uC _ (.inr (by omega))]
  exact a2
 ·iterate 4 rw[uC _ (.inr (by omega))]
  refine dX (u:=iv c.U) ?_
  iterate 3 rw[uC _ (.inr (by omega))]
  exact a3
 ·iterate 3 rw[uC _ (.inr (by omega))]
  refine dX (u:=iv c.born) ?_
  iterate 4 rw[uC _ (.inr (by omega))]
  exact a4
 ·iterate 2 rw[uC _ (.inr (by omega))]
  refine dX (u:=iv c.J) ?_
  iterate 5 rw[uC _ (.inr (by omega))]
  exact a5
 ·rw[uC _ (.inr (by omega))];refine dX (u:=iv c.to) ?_
  iterate 6 rw[uC _ (.inr (by omega))]
  exact a6
 ·refine dX (u:=v) ?_
  iterate 7 rw[uC _ (.inr (by omega))]
  exact h7
theorem GAt.wipe[Inhabited uQ](h:GAt B w g x ar kr ac kc vg br bc pb pa pk role)(i:Nat)(hi:i<x.A.length)(st tv:Int):GOk B (zZ w bc (i*8) st tv) g { x with A:=x.A.set i ⟨st,0,0,0,0,0,tv,[]⟩ }:=by
 obtain⟨k1,k2⟩:=a4p w bc (i*8) st tv _ _ (h.rw.s i hi) (h.rw.p7 i hi);exact⟨_,_,_,_,_,_,_,_,_,_,_,h.clear i hi _ rfl (a0g _ _ _ _ _) (a9j (h.rw.nc (by omega)).1 _ _ _) k1 k2 (λk hk=>a3x _ _ _ _ _ k hk)⟩
theorem GAt.drop[Inhabited uQ](h:GAt B w g x ar kr ac kc vg br bc pb pa pk role)(i:Nat)(hi:i+1=x.A.length):
  GOk B (w.setCell ⟨g,4,none⟩ (.slice ac i kc)) g { x with A:=x.A.take i }:=by
 have far:∀q,q<w.heap.size->role q≠0->(w.setCell ⟨g,4,none⟩ (.slice ac i kc)).heap[q]?=w.heap[q]?:=λq hq hn=>Below.heap_setCell _ _ _ _ (λe=>hn (by rw[e];exact h.sp.g))
 have rw2:=h.rw.same (w':=w.setCell ⟨g,4,none⟩ (.slice ac i kc)) (by simp [World.setCell]) (λhl=>far br (h.rw.nr hl).1.1 (by rw[h.sp.r hl];omega)) (λhl=>far bc (h.rw.nc hl).1.1 (by rw[h.sp.c hl];omega)) (λq hq hl=>far (pb q) (h.rw.pl q hq hl).2.1.1 (by rw[h.sp.p q hq hl];omega));have hl:({ x with A:=x.A.take i }:Hp).A.length=i:=by simp;omega
 have hn:0<x.A.length:=by omega
 have hc:∀q,q<i->({ x with A:=x.A.take i }:Hp).c q=x.c q:=λq hq=>by
  simp only [Hp.c,List.getD_eq_getElem?_getD,List.getElem?_take_of_lt hq]
 refine⟨ar,kr,ac,kc,vg,br,bc,pb,pa,pk,role,?_,h.nf.set _ _,h.lo,h.ha,λ_=>h.hc hn,⟨rw2.r,λq hq=>?_,λq hq=>?_,λq hq k hk=>?_,λq hq hlq=>?_,rw2.nr,λ_=>rw2.nc hn,λ_=>rw2.d hn,λq q' hq hq' hne h1 h2=>?_,λq hq=>?_⟩,h.gr.block (λq hq=>far q (h.gr.lt q hq).2 (by rw[h.sp.y q hq];omega)),⟨h.sp.g,h.sp.r,λ_=>h.sp.c hn,h.sp.y,λq hq hlq=>?_⟩,by rw[hl];have:=h.kl;omega,h.pr.of (λq hq h1=>far q hq (by rw[h1];omega)) (λ_ _ h=>h),λhk=>(h.cc hk).block rfl (far bc (h.cc hk).nf.1 (by rw[(h.cc hk).ro];omega)) (by simp [World.setCell])⟩
 ·rw[hl];exact h.bx.set4 _
 ·rw[hl] at hq;rw[hc q hq];exact rw2.s q (by omega)
 ·rw[hl] at hq;rw[hc q hq];exact rw2.p7 q (by omega)
 ·rw[hl] at hq;rw[hc q hq] at hk ⊢;exact rw2.p q (by omega) k hk
 ·rw[hl] at hq;exact rw2.pl q (by omega) hlq
 ·rw[hl] at hq hq';exact rw2.dp q q' (by omega) (by omega) hne h1 h2
 ·rw[hl] at hq;rw[hc q hq];exact rw2.kp q (by omega)
 ·rw[hl] at hq;exact h.sp.p q (by omega) hlq
theorem GAt.setr[Inhabited uQ](h:GAt B w g x ar kr ac kc vg br bc pb pa pk role)(j:Nat)(hj:j<x.B.length)(y:Wd)(o:uZ (λq=>q=br) w w')(nf:Nf1 br w')(hy:yQ w' br (j*3) y)(ho:∀m,(m<j*3\/j*3+3<=m)->w'.cell? ⟨br,m,none⟩=w.cell? ⟨br,m,none⟩):
  GAt B w' g { x with B:=x.B.set j y } ar kr ac kc vg br bc pb pa pk role:=by
 have hr:0<x.B.length:=by omega
 have far:∀q,q<w.heap.size->role q≠2->w'.heap[q]?=w.heap[q]?:=λq hq hn=>o.block q hq (λe=>hn (by rw[e];exact h.sp.r hr))
 have fg:=far g h.nf.1 (by rw[h.sp.g];omega);have hl:({ x with B:=x.B.set j y }:Hp).B.length=x.B.length:=by simp
 have pf:∀q,q<x.A.length->0<pk q->w'.heap[pb q]?=w.heap[pb q]?:=λq hq hl=>far (pb q) (h.rw.pl q hq hl).2.1.1 (by rw[h.sp.p q hq hl];omega)
 have fc:0<x.A.length->w'.heap[bc]?=w.heap[bc]?:=λhn=>far bc (h.rw.nc hn).1.1 (by rw[h.sp.c hn];omega)
 refine⟨?_,uV h.nf fg o.size,h.lo,λ_=>h.ha hr,h.hc,⟨λm hm=>?_,λq hq=>?_,λq hq=>?_,λq hq k hk=>?_,λq hq hlq=>?_,λ_=>⟨nf,(h.rw.nr hr).2⟩,λhn=>⟨uV (h.rw.nc hn).1 (fc hn) o.size,(h.rw.nc hn).2⟩,h.rw.d,h.rw.dp,h.rw.kp⟩,h.gr.block (λq hq=>far q (h.gr.lt q hq).2 (by rw[h.sp.y q hq];omega)),⟨h.sp.g,λ_=>h.sp.r hr,h.sp.c,h.sp.y,h.sp.p⟩,h.kl,h.pr.of (λq hq h1=>far q hq (by rw[h1];omega)) (λ_ _ h=>h),λhk=>(h.cc hk).block rfl (far bc (h.cc hk).nf.1 (by rw[(h.cc hk).ro];omega)) o.size⟩
 ·rw[hl];exact h.bx.block fg
 ·have hm2:m<x.B.length:=by rw[hl] at hm;exact hm
  by_cases e:m=j
  ·subst e;have:({ x with B:=x.B.set m y }:Hp).B[m]=y:=by simp
   rw[this];exact hy
  ·have hne:j≠m:=λe2=>e e2.symm
   have:({ x with B:=x.B.set j y }:Hp).B[m]=x.B[m]:=by simp [hne]
   rw[this];exact(h.rw.r m hm2).of λl hl=>ho _ (by omega)
 ·exact(h.rw.s q hq).of λm _=>World.cell?_of_block (a:=⟨bc,_,none⟩) (fc (by have:q<x.A.length:=hq;omega))
 ·rw[World.cell?_of_block (a:=⟨bc,_,none⟩) (fc (by have:q<x.A.length:=hq;omega))];exact h.rw.p7 q hq
 ·exact(h.rw.p q hq k hk).of λm _=>World.cell?_of_block (a:=⟨pb q,_,none⟩) (pf q hq (h.rw.pw hq (by have:k<(x.c q).F.length:=hk;omega)))
 ·obtain⟨a1,a2,a3⟩:=h.rw.pl q hq hlq;exact⟨a1,a0f a2 (pf q hq hlq) o.size,a3⟩
theorem GAt.move[Inhabited uQ](h:GAt B w g x ar kr ac kc vg br bc pb pa pk role)(t f:Nat)(htf:t≠f)(ht:t<x.A.length)(hf:f<x.A.length)(o:uZ (λq=>q=bc) w w')(nf:Nf1 bc w')(hs:S7 w' bc (t*8) (x.c f))(h7:w'.cell? ⟨bc,t*8+7,none⟩=some (.slice (pa f) (x.c f).F.length (pk f)))(gs:S7 w' bc (f*8) (mvC t))(g7:w'.cell? ⟨bc,f*8+7,none⟩=some (.slice none 0 0))
  (ho:∀q,q<x.A.length->q≠t->q≠f->∀k,k<8->w'.cell? ⟨bc,q*8+k,none⟩=w.cell? ⟨bc,q*8+k,none⟩) (hcc:∀j,x.A.length*8<=j->w'.cell? ⟨bc,j,none⟩=w.cell? ⟨bc,j,none⟩) :
  ∃pb' pa' pk' role',GAt B w' g { x with A:=(x.A.set t (x.c f)).set f (mvC t) } ar kr ac kc vg br bc pb' pa' pk' role':=by
 have hc:∀q,({ x with A:=(x.A.set t (x.c f)).set f (mvC t) }:Hp).c q=if q=f then mvC t else if q=t then x.c f else x.c q:=λq=>by
  have h1:=Hp.c_set { x with A:=x.A.set t (x.c f) } f (mvC t) (by simpa using hf) q;have h2:=Hp.c_set x t (x.c f) ht q;have e:({ x with A:=(x.A.set t (x.c f)).set f (mvC t) }:Hp)={ ({ x with A:=x.A.set t (x.c f) }:Hp) with A:=({ x with A:=x.A.set t (x.c f) }:Hp).A.set f (mvC t) }:=rfl;rw[e,h1];by_cases e1:q=f
  ·rw[if_pos e1,if_pos e1]
  ·rw[if_neg e1,if_neg e1];exact h2
 refine⟨_,_,_,_,h.turn ((x.A.set t (x.c f)).set f (mvC t)) (by simp) (λq=>if q=t then f else q) (λq=>if q=f then none else if q=t then pa f else pa q) (λq=>if q=f then 0 else if q=t then pk f else pk q) (λb=>if 0<pk f/\b=pb f then 6+t else role b) (by omega) o nf (λq hq=>?_) (λq hq=>?_) (λq hq=>?_) (λq hq hl=>?_) (λb hb=>?_) hcc⟩
 ·rw[hc q];by_cases e1:q=f
  ·subst e1;rw[if_pos rfl];exact gs
  ·rw[if_neg e1];by_cases e2:q=t
   ·subst e2;rw[if_pos rfl];exact hs
   ·rw[if_neg e2];exact(h.rw.s q hq).of λj hj=>ho q hq e2 e1 j (by omega)
 ·rw[hc q];by_cases e1:q=f
  ·subst e1;simp only [if_true];exact g7
  ·simp only [if_neg e1];by_cases e2:q=t
   ·subst e2;simp only [if_true];exact h7
   ·simp only [if_neg e2];rw[ho q hq e2 e1 7 (by omega)];exact h.rw.p7 q hq
 ·rw[hc q];by_cases e1:q=f
  ·rw[if_pos e1];simp [mvC]
  ·simp only [if_neg e1];by_cases e2:q=t
   ·simp only [if_pos e2];exact h.rw.kp f hf
   ·simp only [if_neg e2];exact h.rw.kp q hq
 ·rw[hc q];by_cases e1:q=f
  ·rw[if_pos e1] at hl;omega
  ·rw[if_neg e1] at hl;simp only [if_neg e1];by_cases e2:q=t
   ·rw[if_pos e2] at hl;simp only [if_pos e2];exact⟨⟨hf,trivial⟩,trivial,trivial,by rw[if_pos ⟨hl,trivial⟩,e2]⟩
   ·rw[if_neg e2] at hl;simp only [if_neg e2];refine⟨⟨hq,trivial⟩,trivial,trivial,?_⟩;rw[if_neg (λe=>?_)]
    ·exact h.sp.p q hq hl
    ·have r1:=h.sp.p q hq hl;have r2:=h.sp.p f hf e.1;rw[e.2] at r1;omega
 ·by_cases e:0<pk f/\b=pb f
  ·have r2:=h.sp.p f hf e.1;rw[<-e.2] at r2;omega
  ·rw[if_neg e]
theorem b2r(x:Hp)(y:Wd)(v:Int):shadeW { x with sub:=v } y={ shadeW x y with sub:=v }:=by
 have e:∀i,uW { x with sub:=v } i={ uW x i with sub:=v }:=λi=>by
  have hb:eJ { x with sub:=v } i=eJ x i:=rfl;unfold uW;rw[hb]
  split <;> rfl
 unfold shadeW
 split
 ·exact e _
 ·rfl
theorem a9k[Inhabited uQ](B g:Nat)(x:Hp)(y:Wd)(w:World)(h:GOk B w g x)(n8:x.A.length<=8000)(ng:x.D.length<=8000)(hy:eE x y)(h0:y.k=2->0<=y.a)(a:World)(ha:a.heap.size<=B)(hx:Ext a w)(hB:B<=w.heap.size):
  Calls Tryz.prog 232 #[.pointer (some ⟨g,0,none⟩),y.v] w λe w'=>e=.returned (.bool (yE x y))/\GOk B w' g (shadeW x y)/\Ext a w':=by
 obtain⟨ar,kr,ac,kc,vg,br,bc,pb,pa,pk,role,h⟩:=h;obtain⟨ag,kg,rfl⟩:=h.gr.form;refine(a6f y w h (λhk=>⟨h0 hk,by have:=(hy hk).1;have:=h0 hk;omega⟩) n8 ng a ha hx hB).mono ?_;rintro e w' ⟨he,h2,h3⟩;obtain⟨ag',kg',role',h2⟩:=h2;rw[b6g hy h0] at h2;exact⟨he,⟨_,_,_,_,_,_,_,_,_,_,_,h2⟩,h3⟩
theorem GAt.gtail[Inhabited uQ](h:GAt B w g x ar kr ac kc (.slice (some ⟨gb,go,none⟩) n cap) br bc pb pa pk role)(hv:Grw w B v' G)(ho:v'.ownBlock=some gb):
  GOk B (w.setCell ⟨g,8,none⟩ v') g { x with D:=G }:=by
 have far:∀q,q<w.heap.size->role q≠0->(w.setCell ⟨g,8,none⟩ v').heap[q]?=w.heap[q]?:=λq hq hn=>Below.heap_setCell _ _ _ _ (λe=>hn (by rw[e];exact h.sp.g))
 have rw2:=h.rw.same (w':=w.setCell ⟨g,8,none⟩ v') (by simp [World.setCell]) (λhl=>far br (h.rw.nr hl).1.1 (by rw[h.sp.r hl];omega)) (λhl=>far bc (h.rw.nc hl).1.1 (by rw[h.sp.c hl];omega)) (λq hq hl=>far (pb q) (h.rw.pl q hq hl).2.1.1 (by rw[h.sp.p q hq hl];omega));have r4:role gb=4:=h.sp.y gb rfl;refine⟨_,_,_,_,_,_,_,_,_,_,_,⟨h.bx.set8 _,h.nf.set _ _,h.lo,h.ha,h.hc,⟨rw2.r,rw2.s,rw2.p7,rw2.p,rw2.pl,rw2.nr,rw2.nc,rw2.d,rw2.dp,rw2.kp⟩,hv.block (λq hq=>?_),⟨h.sp.g,h.sp.r,h.sp.c,λq hq=>?_,h.sp.p⟩,h.kl,h.pr.of (λq hq h1=>far q hq (by rw[h1];omega)) (λ_ _ h=>h),λhk=>(h.cc hk).block rfl (far bc (h.cc hk).nf.1 (by rw[(h.cc hk).ro];omega)) (by simp [World.setCell])⟩⟩
 ·refine far q ?_ ?_
  ·exact(hv.lt q hq).2
  ·rw[ho] at hq;injection hq with hq;rw[<-hq,r4];omega
 ·rw[ho] at hq;injection hq with hq;rw[<-hq];exact r4
theorem Grw.tail1{g:Int}(h:Grw w B (.slice (some ⟨gb,go,none⟩) (G.length+1) 1) (g::G)):Grw w B (.slice (some ⟨gb,go,none⟩) G.length 0) G:=by
 rcases h with⟨_,e⟩ | ⟨gb',go',cap',cur,e,hb,hg,hn,hs,ht⟩
 ·cases e
 ·simp only [Value.slice.injEq,Option.some.injEq,Addr.mk.injEq] at e;obtain⟨⟨rfl,rfl,_⟩,_,rfl⟩:=e;have hn2:G.length+1<=1:=hn;have:G=[]:=List.eq_nil_of_length_eq_zero (by omega);subst this;exact .inr ⟨gb,go,0,cur,rfl,hb,hg,by simp,by omega,by simp⟩
def a4d(w:World)(b:Nat)(p:Pr):World:=(((((w.setCell ⟨b,0,none⟩ (.int .i64 p.key.k)).setCell ⟨b,1,none⟩ (.int .i64 p.key.n)).setCell ⟨b,2,none⟩ (.int .i64 p.key.a)).setCell ⟨b,3,none⟩ (.int .i64 p.val.k)).setCell ⟨b,4,none⟩ (.int .i64 p.val.n)).setCell ⟨b,5,none⟩ (.int .i64 p.val.a)
theorem c7o(w:World)(b:Nat)(p:Pr)(v0 v1 v2 v3 v4 v5:Value)(h0:w.cell? ⟨b,0,none⟩=some v0)(h1:w.cell? ⟨b,1,none⟩=some v1)(h2:w.cell? ⟨b,2,none⟩=some v2)(h3:w.cell? ⟨b,3,none⟩=some v3)(h4:w.cell? ⟨b,4,none⟩=some v4)(h5:w.cell? ⟨b,5,none⟩=some v5):tQ (a4d w b p) b 0 p:=by
 unfold a4d;refine⟨?_,?_,?_,?_,?_,?_⟩
 ·iterate 5 rw[uC _ (.inr (by omega))]
  exact dX h0
 ·iterate 4 rw[uC _ (.inr (by omega))]
  refine dX (u:=v1) ?_;rw[uC _ (.inr (by omega))];exact h1
 ·iterate 3 rw[uC _ (.inr (by omega))]
  refine dX (u:=v2) ?_
  iterate 2 rw[uC _ (.inr (by omega))]
  exact h2
 ·iterate 2 rw[uC _ (.inr (by omega))]
  refine dX (u:=v3) ?_
  iterate 3 rw[uC _ (.inr (by omega))]
  exact h3
 ·rw[uC _ (.inr (by omega))];refine dX (u:=v4) ?_
  iterate 4 rw[uC _ (.inr (by omega))]
  exact h4
 ·refine dX (u:=v5) ?_
  iterate 5 rw[uC _ (.inr (by omega))]
  exact h5
theorem c4j{a:World}(p:Pr)(h:Ext a w)(hb:a.heap.size<=b):Ext a (a4d w b p):=by
 unfold a4d;exact(((((h.setCell (p:=⟨b,0,none⟩) hb _).setCell (p:=⟨b,1,none⟩) hb _).setCell (p:=⟨b,2,none⟩) hb _).setCell (p:=⟨b,3,none⟩) hb _).setCell (p:=⟨b,4,none⟩) hb _).setCell (p:=⟨b,5,none⟩) hb _
theorem b2s(w:World)(n:Nat)(p:Pr)(t:TypeId):Ext w (a4d ((w.drewN n).alloc (.cells #[.int .i64 0,.int .i64 0,.int .i64 0,.int .i64 0,.int .i64 0,.int .i64 0] t)) w.heap.size p)/\tQ (a4d ((w.drewN n).alloc (.cells #[.int .i64 0,.int .i64 0,.int .i64 0,.int .i64 0,.int .i64 0,.int .i64 0] t)) w.heap.size p) w.heap.size 0 p:=
 ⟨c4j p (((Ext.refl w).drewN n).alloc _) (Nat.le_refl _),c7o _ _ p _ _ _ _ _ _ (a0p w n _ t 0) (a0p w n _ t 1) (a0p w n _ t 2) (a0p w n _ t 3) (a0p w n _ t 4) (a0p w n _ t 5)⟩
theorem b8j[Inhabited uQ](B g:Nat)(x:Hp)(w:World)(h:GOk B w g x)(s:Snd x)(hp:x.E=2)(a:World)(ha:a.heap.size<=B)(hx:Ext a w)(i:Nat)(G:List Int)(hg:x.D=(i:Int)::G)(hin:i<x.A.length)(k:Nat)(hk:x.sub=(k:Int))(hkl:k<(x.c i).F.length):
  Calls Tryz.prog 188 #[.pointer (some ⟨g,0,none⟩)] w λe w'=>e=.returned (.tuple #[])/\GOk B w' g { shadeW (shadeW x ((x.c i).p k).key) ((x.c i).p k).val with sub:=(k:Int)+1 }/\Ext a w':=by
 obtain⟨ar,kr,ac,kc,vg,br,bc,pb,pa,pk,role,h⟩:=h;obtain⟨ag,kg,rfl⟩:=h.gr.form;have H:=uU h;have hn:0<x.A.length:=by omega
 have c4:=h.bx.2.2.2.2.1;have c7:=h.bx.2.2.2.2.2.2.2.1;have c8:=h.bx.2.2.2.2.2.2.2.2.1;obtain⟨gb,go,hag,hg0,_⟩:=h.gr.at 0 (by rw[hg];simp);have eg:x.D[0]'(by rw[hg];simp)=(i:Int):=by simp [hg]
 rw[eg] at hg0;simp only [Nat.add_zero] at hg0;rw[h.hc hn] at c4;rw[hag] at c8;rw[hk] at c7;have p7:=h.rw.p7 i hin;rw[(h.rw.pl i hin (h.rw.pw hin (by omega))).1] at p7;obtain⟨q0,q1,q2,q3,q4,q5⟩:=h.rw.p i hin k hkl;have lg:x.D.length=G.length+1:=by rw[hg];rfl
 rw[lg] at c8;have hgw:g<w.heap.size:=uL c4;have lo:=h.lo;have n8:=s.ok.n8;have gl8:G.length<=8000:=by have:=s.r1.D;omega
 have p2:=s.ok.p200 i hin;have S:=uU s;have HG:=uU (s.good_pair (.inr hp) i k hin hkl);have f7:=h.nf.2 7
 have K0:=uU (show((x.c i).p k).key.k=2->0<=((x.c i).p k).key.a/\((x.c i).p k).key.a<x.A.length from λhk=>by
  have h1:=(((s.r4.2 i hin).2 k hkl).2 (λd=>by have:=d.1;omega)).1.1;unfold uE at h1;omega)
 have K1:=uU (show((x.c i).p k).val.k=2->0<=((x.c i).p k).val.a/\((x.c i).p k).val.a<x.A.length from λhk=>by
  have h1:=(((s.r4.2 i hin).2 k hkl).2 (λd=>by have:=d.1;omega)).2.1;unfold uE at h1;omega)
 have N4:=uU (show({ shadeW x ((x.c i).p k).key with sub:=(k:Int)+1 }:Hp).A.length<=8000/\({ shadeW x ((x.c i).p k).key with sub:=(k:Int)+1 }:Hp).D.length<=8000/\eE { shadeW x ((x.c i).p k).key with sub:=(k:Int)+1 } ((x.c i).p k).val from by
  have s2:=s.shdW _ HG.1;have e:=(a0a x ((x.c i).p k).key).2.1;have g2:=s2.r1.D;have u:=a2r x _ HG.1;refine⟨?_,?_,?_⟩
  ·show(shadeW x ((x.c i).p k).key).A.length<=8000;omega
  ·show(shadeW x ((x.c i).p k).key).D.length<=8000;omega
  ·exact HG.2.keep (z:={ shadeW x ((x.c i).p k).key with sub:=(k:Int)+1 }) e u)
 have i0:(0:Int)<=(i:Int):=by omega
 have i1:(i:Int)<(x.A.length:Int):=by omega
 have k0:(0:Int)<=(k:Int):=by omega
 have k1:(k:Int)<((x.c i).F.length:Int):=by omega
 have g1:(0:Int)<(G.length:Int)+1:=by omega
 have GR:=uU (show x.D.length<=8000 by have:=s.r1.D;omega);have zn:=λn j=>a0p w n #[.int .i64 0,.int .i64 0,.int .i64 0,.int .i64 0,.int .i64 0,.int .i64 0] 154 j
 have zf:=λn j=>a3k w n #[.int .i64 0,.int .i64 0,.int .i64 0,.int .i64 0,.int .i64 0,.int .i64 0] 154 j
 have zo:=λn o b j (h:b<w.heap.size)=>a3w w n o b j h
 have hbc:bc<w.heap.size:=uL p7;have hpb:pb i<w.heap.size:=uL q0;clear h eg hg hk lg hag s;go_enter Tryz.func188,Tryz.ntmps188;go_wp2_with fail;go_quiet (fail);go_wp2_with fail
 go_region
 all_goals
  obtain⟨W2,hW2⟩:∃W,W=a4d ((w.drewN (nq+1)).alloc (.cells #[.int .i64 0,.int .i64 0,.int .i64 0,.int .i64 0,.int .i64 0,.int .i64 0] 154)) w.heap.size ((x.c i).p k):=⟨_,rfl⟩;have PB:=b2s w (nq+1) ((x.c i).p k) 154;rw[<-hW2] at PB;unfold a4d at hW2;rw[<-hW2];clear hW2 zn zf zo q0 q1 q2 q3 q4 q5;obtain⟨X2,y0,y1,y2,y3,y4,y5⟩:=PB;have d7:=X2.keep c7;have hgW:g<W2.heap.size:=uL d7;have f7b:W2.frozen? ⟨g,7,none⟩=false:=((cD X2).2 g 7 hgw).trans f7;clear c4 c7 c8 p7 hg0 f7
  have H3:=uU (show GAt B (W2.setCell ⟨g,7,none⟩ (iv ((k:Int)+1))) g { x with sub:=(k:Int)+1 } ar kr ac kc (.slice ag x.D.length kg) br bc pb pa pk role from
   (H.ext X2).boxed (x':={ x with sub:=(k:Int)+1 }) (uZ.setCell (S:=λq=>q=g) (uZ.refl _ W2) (p:=⟨g,7,none⟩) rfl _) ((H.ext X2).nf.set _ _) rfl rfl rfl ((H.ext X2).bx.set7 _))
  have X3:=uU ((hx.trans X2).setCell (p:=⟨g,7,none⟩) (show a.heap.size<=g by omega) (iv ((k:Int)+1)));have BX:=uU (show w.heap.size<W2.heap.size from uL y0);have Y3:=uU (show(W2.setCell ⟨g,7,none⟩ (iv ((k:Int)+1))).cell? ⟨w.heap.size,3,none⟩=some (iv ((x.c i).p k).val.k) from(uC _ (.inl (by omega))).trans y3);have Y4:=uU (show(W2.setCell ⟨g,7,none⟩ (iv ((k:Int)+1))).cell? ⟨w.heap.size,4,none⟩=some (iv ((x.c i).p k).val.n) from(uC _ (.inl (by omega))).trans y4);have Y5:=uU (show(W2.setCell ⟨g,7,none⟩ (iv ((k:Int)+1))).cell? ⟨w.heap.size,5,none⟩=some (iv ((x.c i).p k).val.a) from(uC _ (.inl (by omega))).trans y5)
  have GB:=uU (show ∀b o n,ag=some ⟨b,o,n⟩->b≠w.heap.size from λb o n e e2=>by
   have:=H.gr.lt b (by rw[e];rfl);omega)
  go_wp2_with fail;refine(b2p ((x.c i).p k).key _ H3 (λhk=>uH K0 hk) n8 GR a ha X3 ?_).mono ?_
  ·have:=X2.size;simp [World.setCell];omega
  rintro e w3 ⟨rfl,h3,x3,fr⟩;obtain⟨ag3,kg3,role3,h3⟩:=uH h3;have fb:w3.heap[w.heap.size]?=(W2.setCell ⟨g,7,none⟩ (iv ((k:Int)+1))).heap[w.heap.size]?:=uH fr w.heap.size (by have:=uH BX;simpa [World.setCell] using this) (by omega) (by omega) GB;have z3:=(World.cell?_of_block (a:=⟨w.heap.size,3,none⟩) fb).trans Y3;have z4:=(World.cell?_of_block (a:=⟨w.heap.size,4,none⟩) fb).trans Y4;have z5:=(World.cell?_of_block (a:=⟨w.heap.size,5,none⟩) fb).trans Y5
  have H4:=uU (show GOk B w3 g { shadeW x ((x.c i).p k).key with sub:=(k:Int)+1 } by
   rw[b6g (x:={ x with sub:=(k:Int)+1 }) HG.1 (λhk=>(uH K0 hk).1),b2r] at h3;exact⟨_,_,_,_,_,_,_,_,_,_,_,h3⟩)
  have X4:=uU x3;clear h3 x3 fr fb H3 Y3 Y4 Y5 y0 y1 y2 y3 y4 y5 d7 f7b X3;go_wp2_with fail;refine(a9k B g { shadeW x ((x.c i).p k).key with sub:=(k:Int)+1 } ((x.c i).p k).val _ H4 N4.1 N4.2.1 N4.2.2 (λhk=>(K1 hk).1) a ha X4 ?_).mono ?_
  ·have h1:=H4.box.2.2.2.2;omega
  rintro e w5 ⟨rfl,h5,x5⟩;rw[b2r] at h5;have H5:=uU h5;clear h5;go_wp2_with fail
  try simp only [Exit.inBlock,Exit.then]
  refine bodyPost_ret (results_none rfl _ _ _) rfl ?_;exact⟨rfl,H5,x5⟩
end Go.Proofs.YtddkhnclmeikfaaGreat
