import Derived.Test.YtolmnenlnpbcfaaGreatDoorLsB
import Derived.Test.YtolmnenlnpbcfaaGreatDoorSpecH
import Derived.Test.YtolmnenlnpbcfaaGreatDoorDc
import Derived.Deep.RegionLaw
set_option maxRecDepth 100000
set_option maxHeartbeats 4000000
namespace Go.Proofs.YtolmnenlnpbcfaaGreatDoor
open Go.RowKit Tryz
attribute [local go_sem ↓] Go.wp_at_zero Go.wp_at_succ
variable{w w' wr w3 w6 W w5 w0:World}{B g kc bc kr br k kg lo hi B7 kp n b q U bg:Nat}{x:Hp}{ac ar ap ag:Option Addr}{vg vr vc v v':Value}{role pb pk role':Nat->Nat}{pa:Nat->Option Addr}{c:Cl}{xs:List Value}{S:Nat->Prop}
structure CS(x:Hp)(w3 w6 wr:World)(vr vc vg:Value)(k:Nat)(L:List (Cl×Value)):Prop where
 own:wr.ownsRow w6.heap.size 70 8 vc k (L.flatMap fC)
 eq:L.map (·.1)=x.A.take k
 F:∀z,z∈L->wr.ownsRow w6.heap.size 90 6 z.2 z.1.F.length (z.1.F.flatMap fP)/\∀q,z.2.ownBlock=some q->vc.ownBlock≠some q
 dis:∀i j (hi:i<L.length) (hj:j<L.length),i≠j->∀q,L[i].2.ownBlock=some q->L[j].2.ownBlock≠some q
 bx:cY wr w3.heap.size x vr vc vg
 fz:∀o,wr.frozen? ⟨w3.heap.size,o,none⟩=false
 on:uQ (λq=>q=w3.heap.size) w6 wr
 ex:Ext w3 wr
 lt:w3.heap.size<w6.heap.size
theorem CS.ext{L:List (Cl×Value)}(h:CS x w3 w6 wr vr vc vg k L)(e:Ext wr w'):CS x w3 w6 w' vr vc vg k L where
 own:=uN h.own (λq a=>e.block q (h.own.lt q a).2)
 eq:=h.eq
 F:=λz b=>⟨uN (h.F z b).1 (λq a=>e.block q ((h.F z b).1.lt q a).2),(h.F z b).2⟩
 dis:=h.dis
 bx:=h.bx.ext e
 fz:=λo=>((cX e).2 _ o (kF h.lt h.on.size)).trans (h.fz o)
 on:=h.on.trans ⟨e.os,e.tape,e.output,e.size,λq a _=>e.block q a⟩
 ex:=h.ex.trans e
 lt:=h.lt
theorem CS.len{L:List (Cl×Value)}(h:CS x w3 w6 wr vr vc vg k L)(a:k<=x.A.length):L.length=k:=by
 have:=congrArg List.length h.eq;simpa[Nat.min_eq_left a]using this
theorem CS.push{L:List (Cl×Value)}{z:Cl×Value}(h:CS x w3 w6 W vr vc vg k L)(J:k<x.A.length)(N:z.1=x.A[k])(m:W.grownBy w5 vc.ownBlock)(K:w5.ownsRow w6.heap.size 70 8 v' (k+1) (L.flatMap fC++fC z))
  (w:v'.ownBlock=some g) (A:vc.ownBlock=some g\/g=W.heap.size) (s:W.ownsRow B7 90 6 z.2 z.1.F.length (z.1.F.flatMap fP)) (M:w6.heap.size<=B7) (B:∀q,vc.ownBlock=some q->q<B7) (p:∀y,y∈L->∀q,y.2.ownBlock=some q->q<B7) :
  CS x w3 w6 (w5.setCell (aA w3.heap.size 4) v') vr v' vg (k+1) (L++[z]):=by
 have n:w3.heap.size<W.heap.size:=kF h.lt h.on.size;have⟨G,D,P,F,O,C⟩:=b4b (o:=4) (u:=v') (bg:=w3.heap.size) h.lt h.ex h.own (hT _) n m K;have t:∀y,y∈L++[z]->W.ownsRow w6.heap.size 90 6 y.2 y.1.F.length (y.1.F.flatMap fP)/\∀q,y.2.ownBlock=some q->vc.ownBlock≠some q:=λy v=>by
  obtain q|q:=kx.1 v;exact h.F y q;rw[mT]at q;subst q;exact⟨a3s s M,λq e a=>by have:=(s.lt q e).1;have:=B q a;omega⟩
 have H:cY w5 w3.heap.size x vr vc vg:=h.bx.block (m.block w3.heap.size n (λe=>by have:=(h.own.lt _ e.symm).1;have:=h.lt;omega));refine⟨by simpa using G,by rw[mf,h.eq,kj J];simp[N],λy v=>?_,λi j E I d q e a=>?_,H.set4 v',λo=>(F o).trans (h.fz o),⟨m.os.trans h.on.os,m.tape.trans h.on.tape,m.output.trans h.on.output,by have:=m.size;have:=h.on.size;simp only[World.setCell,Array.size_modify];omega,λq f d=>(C q (kF f h.on.size) d (λe=>by have:=(h.own.lt q e).1;omega)).trans (h.on.block q f d)⟩,D,h.lt⟩;have l:=t y v;refine⟨uN l.1 (λq f=>C q (l.1.lt q f).2 (λe=>by have:=(l.1.lt q f).1;have:=h.lt;omega) (l.2 q f)),λq e a=>?_⟩;rw[w]at a;injection a with a;subst a;obtain r|r:=A;exact l.2 g e r;have:=(l.1.lt g e).2;omega;simp only[List.getElem_append]at e a;simp at E I;by_cases b:i<L.length <;> by_cases c:j<L.length
 ·simp only[b,c,dite_true]at e a;exact h.dis i j b c d q e a
 simp only[b,c,dite_true,dite_false,List.getElem_singleton]at e a;have:=p _ (ki b) q e;have:=(s.lt q a).1;omega;simp only[b,c,dite_true,dite_false,List.getElem_singleton]at e a;have:=p _ (ki c) q a;have:=(s.lt q e).1;omega;omega
structure CB(wr W:World)(c:Cl)(ap:Option Addr)(kp:Nat)(v:Value):Prop where
 p7:W.cell? ⟨wr.heap.size,7,none⟩=some (.slice ap c.F.length kp)
 n:S7 W (wr.heap.size+1) 0 c
 n7:W.cell? ⟨wr.heap.size+1,7,none⟩=some v
 f:∀o,W.frozen? ⟨wr.heap.size+1,o,none⟩=false
 ex:Ext wr W
theorem CB.ext{W':World}(h:CB wr W c ap kp v)(e:Ext W W'):CB wr W' c ap kp v:=
 ⟨e.keep h.p7,h.n.of λ_ _=>e.cell (p:=(aA (wr.heap.size+1) _)) (uZ h.n7:wr.heap.size+1<W.heap.size),e.keep h.n7,λo=>((cX e).2 _ o (uZ h.n7)).trans (h.f o),h.ex.trans e⟩
theorem CB.push{n':Nat}{ys:List Value}(h:CB wr W c ap kp v)(b:W.ownsRow B7 90 6 v n xs)(q:wr.heap.size+1<B7)(r:W.grownBy w5 v.ownBlock)(p:w5.ownsRow B7 90 6 v' n' ys):
  (w5.setCell (aA (wr.heap.size+1) 7) v').ownsRow B7 90 6 v' n' ys/\CB wr (w5.setCell (aA (wr.heap.size+1) 7) v') c ap kp v':=by
 have⟨k,l,i,d,m,g⟩:=b4b (o:=7) (u:=v') (bg:=wr.heap.size+1) q h.ex b (mM _) (uZ h.n7) r p;refine⟨k,?_,h.n.of λj s=>i _ (by omega),m _ h.n7,λo=>(d o).trans (h.f o),l⟩;exact(kR (a:=(aA wr.heap.size 7)) (g wr.heap.size (uZ h.p7) (by omega) (λe=>by have:=(b.lt _ e).1;omega))).trans h.p7
theorem CB.V(wr:World)(c:Cl)(a:Option Addr)(b:Nat)(e d:TypeId):CB wr ((wr.alloc (.cells #[iv c.st,iv c.kind,iv c.T,iv c.U,iv c.born,iv c.J,iv c.to,.slice a c.F.length b] e)).alloc (.cells #[iv c.st,iv c.kind,iv c.T,iv c.U,iv c.born,iv c.J,iv c.to,.slice none 0 0] d)) c a b (.slice none 0 0):=
 (by refine⟨?_,⟨by simp[go_sem],by simp[go_sem],by simp[go_sem],by simp[go_sem],by simp[go_sem],by simp[go_sem],by simp[go_sem]⟩,?_,λo=>by simp[go_sem],((hO wr).alloc _).alloc _⟩<;>simp[go_sem])
theorem b9b{t sz:Nat}{a:Option Addr}(h:w.ownsRow B t sz (.slice a n k) n xs):n<=k:=by
 obtain⟨h0,h1⟩|⟨g,cap,cur,h0,_,_,hn,_⟩:=h.2;omega;simp only[Value.slice.injEq]at h0;omega
structure GSep(x:Hp)(role:Nat->Nat)(g br bc:Nat)(pb pk:Nat->Nat)(vg:Value):Prop where
 g:role g=0
 r:0<x.B.length->role br=2
 c:0<x.A.length->role bc=3
 y:∀q,vg.ownBlock=some q->role q=4
 p:∀q,q<x.A.length->0<pk q->role (pb q)=6+q
structure Ccp(B:Nat)(w:World)(ac:Option Addr)(bc kc:Nat)(role:Nat->Nat):Prop where
 ad:ac=some ⟨bc,0,none⟩
 ro:role bc=3
 nf:Nf1 bc w
 cp:∀j,j<kc*8->∃v,w.cell? ⟨bc,j,none⟩=some v
 lo:B<=bc
theorem Ccp.A(h:Ccp B w ac bc kc role)(b:role' bc=role bc)(n:Nf1 bc w')(c:∀j v,j<kc*8->w.cell? (aA bc j)=some v->∃u,w'.cell? (aA bc j)=some u):Ccp B w' ac bc kc role':=
 ⟨h.ad,b.trans h.ro,n,λj a=>let ⟨v,hv⟩:=h.cp j a;c j v a hv,h.lo⟩
theorem Ccp.block(h:Ccp B w ac bc kc role)(d:role' bc=role bc)(b:w'.heap[bc]?=w.heap[bc]?)(e:w.heap.size<=w'.heap.size):Ccp B w' ac bc kc role':=
 h.A d (uY h.nf b e) (λj v _ c=>⟨v,(kR (a:=(aA bc j)) b).trans c⟩)
theorem S7.some{o:Nat}(h:S7 w b o c)(j:Nat)(a:j<7):∃v,w.cell? (aA b (o+j))=some v:=by grind[S7,Hp.c,eU.cell,HAt.cell]
structure GAt[qd](B:Nat)(w:World)(g:Nat)(x:Hp)(ar:Option Addr)(kr:Nat)(ac:Option Addr)(kc:Nat)(vg:Value)(br bc:Nat)(pb:Nat->Nat)(pa:Nat->Option Addr)(pk:Nat->Nat)(role:Nat->Nat):Prop where
 bx:cY w g x (.slice ar x.B.length kr) (.slice ac x.A.length kc) vg
 nf:Nf1 g w
 lo:B<=g
 ha:0<x.B.length->ar=some ⟨br,0,none⟩
 hc:0<x.A.length->ac=some ⟨bc,0,none⟩
 rw:Rws B w x br bc pb pa pk
 gr:Grw w B vg x.D
 sp:GSep x role g br bc pb pk vg
 kl:x.A.length<=kc
 pr:Prt w role
 cc:0<kc->Ccp B w ac bc kc role
 rc:0<x.B.length->∀j,j<kr*3->∃v,w.cell? (aA br j)=some v
theorem GAt.rob[qd](h:GAt B w g x ar kr ac kc vg br bc pb pa pk role)(n:0<x.B.length)(f:w'.heap[br]?=w.heap[br]?)(j:Nat)(i:j<kr*3):∃v,w'.cell? (aA br j)=some v:=
 have⟨v,e⟩:=h.rc n j i;⟨v,(kR (a:=aA br j) f).trans e⟩
theorem GAt.ext[qd](h:GAt B w g x ar kr ac kc vg br bc pb pa pk role)(e:Ext w w'):GAt B w' g x ar kr ac kc vg br bc pb pa pk role:=
 ⟨h.bx.ext e,h.nf.ext e,h.lo,h.ha,h.hc,h.rw.ext e,h.gr.block (λq a=>e.block q (h.gr.lt q a).2),h.sp,h.kl,h.pr.of (λq a _=>e.block q a) (λ_ _ h=>h),λb=>(h.cc b).block rfl (e.block bc (h.cc b).nf.1) e.size,λn=>h.rob n (e.block br (h.rw.nr n).1.1)⟩
theorem GAt.V[qd](hz:∀q,(default:uL).z q=none){w7:World}{vg0:Value}{L:List (Cl×Value)}(h:CS x w3 w6 wr (.slice ar x.B.length kr) (.slice ac x.A.length kc) vg0 x.A.length L)(hr:wr.ownsRow (w3.heap.size+1) 86 3 (.slice ar x.B.length kr) x.B.length (x.B.flatMap fW))(hr6:∀q,(Value.slice ar x.B.length kr).ownBlock=some q->q<w6.heap.size)
  (h0:0<x.B.length) (hB:B<=w3.heap.size) (o7:uQ (λq=>q=w3.heap.size) wr w7) (hb7:cY w7 w3.heap.size x (.slice ar x.B.length kr) (.slice ac x.A.length kc) vg) (f7:Nf1 w3.heap.size w7) (hg:w7.ownsRow wr.heap.size 3 1 vg x.D.length (x.D.map iv)) :
  ∃br bc pb pa pk role,GAt B w7 w3.heap.size x ar kr ac kc vg br bc pb pa pk role:=by
 have hll:L.length=x.A.length:=h.len (hT _);have eL:L.map (·.1)=x.A:=by rw[h.eq,kz]
 have hlt:=h.lt;have hon:=h.on.size;have l1:∀q (hq:q<x.A.length),(L.getD q (Cl0,.slice none 0 0))∈L/\(L.getD q (Cl0,.slice none 0 0)).1=x.c q/\(L.getD q (Cl0,.slice none 0 0))=L[q]'(by omega):=λq hq=>by
  have e0:L.getD q (Cl0,.slice none 0 0)=L[q]'(by omega):=by simp[hll,hq]
  refine⟨by rw[e0];exact ki _,?_,e0⟩;have e:x.A[q]=(L.map (·.1))[q]'(by simpa[hll]using hq):=by simp[eL]
  rw[<-Hp.c_eq x q hq,e,e0];simp
 have own8:0<x.A.length->Nf1 (qZ (.slice ac x.A.length kc)) wr/\w6.heap.size<=qZ (.slice ac x.A.length kc):=λhn=>b1i h.own hn
 have cell8:∀q,q<x.A.length->∀j,j<8->wr.cell? ⟨qZ (.slice ac x.A.length kc),q*8+j,none⟩=(fC (L.getD q (Cl0,.slice none 0 0)))[j]?:=λq hq j hj=>by
  have:=a6k (f:=fC) (λ_=>rfl) (L:=L) (by rw[hll];exact h.own) q (by omega) j hj;rw[this,(l1 q hq).2.2]
 have hbr:=b1i hr h0;have hbr6:qZ (.slice ar x.B.length kr)<w6.heap.size:=hr6 _ ((a0d hr).2 h0).2;have prs:∀q,q<x.A.length->wr.ownsRow w6.heap.size 90 6 (L.getD q (Cl0,.slice none 0 0)).2 (x.c q).F.length ((x.c q).F.flatMap fP)/\∀b,(L.getD q (Cl0,.slice none 0 0)).2.ownBlock=some b->(Value.slice ac x.A.length kc).ownBlock≠some b:=λq hq=>by
  have:=h.F _ (l1 q hq).1;rw[(l1 q hq).2.1]at this;exact this
 have dis:∀q q',q<x.A.length->q'<x.A.length->q≠q'->∀b,(L.getD q (Cl0,.slice none 0 0)).2.ownBlock=some b->(L.getD q' (Cl0,.slice none 0 0)).2.ownBlock≠some b:=λq q' hq hq' hne b hb=>by
  rw[(l1 q hq).2.2]at hb;rw[(l1 q' hq').2.2];exact h.dis q q' (by omega) (by omega) hne b hb
 have RW:=Rws.of (B:=w3.heap.size+1) (w:=wr) (x:=x) (vr:=.slice ar x.B.length kr) (bc:=qZ (.slice ac x.A.length kc)) (pv:=λq=>(L.getD q (Cl0,.slice none 0 0)).2) hr (λq hq=>by
   rw[<-(l1 q hq).2.1];have:=cell8 q hq;exact⟨this 0 (by omega),this 1 (by omega),this 2 (by omega),this 3 (by omega),this 4 (by omega),this 5 (by omega),this 6 (by omega)⟩) (λq hq=>cell8 q hq 7 (by omega)) (λhn=>⟨(own8 hn).1,by have:=(own8 hn).2;omega⟩) (λhn=>by have:=(own8 hn).2;omega) (λq hq=>⟨a3s (prs q hq).1 (by omega),λb hb=>⟨by have:=((prs q hq).1.lt b hb).1;omega,λe=>by
    have hn:0<x.A.length:=by omega
    exact(prs q hq).2 b hb (by rw[((a0d h.own).2 hn).2,e])⟩⟩) dis
 have RW7:=RW.only o7 (λhl e=>by have:=(RW.nr hl).2;omega) (λhl e=>by have:=(RW.nc hl).2;omega) (λq hq hl e=>by have:=(RW.pl q hq hl).2.2.2;omega);refine⟨_,_,_,_,_,λq=>if q=w3.heap.size then 0 else if wr.heap.size<=q then 4 else if q=qZ (.slice ar x.B.length kr) then 2 else if 0<kc/\q=qZ (.slice ac x.A.length kc) then 3 else
  (open Classical in if h:∃i,i<x.A.length/\0<kH (L.getD i (Cl0,.slice none 0 0)).2/\qZ (L.getD i (Cl0,.slice none 0 0)).2=q then 6+Classical.choose h else 5),hb7,f7,hB,λh=>((a0d hr).2 h).1,λhn=>((a0d h.own).2 hn).1,RW7.less (by omega),Grw.of (a3s hg (by omega)),⟨if_pos rfl,λhl=>?_,λhl=>?_,λq hq=>?_,λq hq hl=>?_⟩,b9b h.own,λq o h=>(by rw[hz q]at h;cases h),λhk=>?_,λn j hj=>?_⟩
 have:=(RW.nr hl).2;have:=(RW.nr hl).1.1;rw[if_neg (by omega),if_neg (by omega),if_pos rfl];have:=(RW.nc hl).2;have:=(RW.nc hl).1.1;rw[if_neg (by omega),if_neg (by omega),if_neg (λe=>RW.d hl e.symm),if_pos ⟨kF hl (b9b h.own),rfl⟩];have:=(hg.lt q hq).1;rw[if_neg (by omega),if_pos (by omega)];have l2:=RW.pl q hq hl;have:=l2.2.2.2;have:=l2.2.1.1;have hex:∃i,i<x.A.length/\0<kH (L.getD i (Cl0,.slice none 0 0)).2/\qZ (L.getD i (Cl0,.slice none 0 0)).2=qZ (L.getD q (Cl0,.slice none 0 0)).2:=⟨q,hq,hl,rfl⟩;rw[if_neg (by omega),if_neg (by omega),if_neg l2.2.2.1.1,if_neg (λe=>l2.2.2.1.2 e.2),dif_pos hex];have sp:=Classical.choose_spec hex;have:Classical.choose hex=q:=by
  obtain h|h:=Nat.decEq (Classical.choose hex) q;exact absurd sp.2.2 (RW.dp _ q sp.1 hq h sp.2.1 hl);exact h
 rw[this];have hk2:0<kH (.slice ac x.A.length kc):=hk;obtain⟨k1,k2,k3,k4,k5⟩:=b8z h.own hk2;have e7:=o7.block (qZ (.slice ac x.A.length kc)) k3.1 (λe=>by omega);refine⟨k1,?_,uY k3 e7 o7.size,λj hj=>?_,by omega⟩
 ·have:=k3.1;rw[if_neg (by omega),if_neg (by omega),if_neg (by omega),if_pos ⟨hk,rfl⟩]
 obtain⟨u,hu⟩:=k4 j hj;exact⟨u,(kR (a:=⟨_,j,none⟩) e7).trans hu⟩;obtain⟨k1,k2,k3,k4,k5⟩:=b8z hr (show 0<kH (.slice ar x.B.length kr) from kF n (b9b hr));have e7:=o7.block (qZ (.slice ar x.B.length kr)) k3.1 (λe=>by omega);obtain⟨u,hu⟩:=k4 j hj;exact⟨u,(kR (a:=⟨_,j,none⟩) e7).trans hu⟩
def a6h(x:Hp)(y:Wd):Bool:=mkB x && (y.k == 2 && (x.c y.a.toNat).J == 0)
def a5i(x:Hp)(y:Wd):Hp:=if a6h x y=true then { x with A:=x.A.set y.a.toNat (yD (x.c y.a.toNat)),D:=x.D++[y.a] } else x
theorem GAt.setc[qd]{i:Nat}{c':Cl}(h:GAt B w g x ar kr ac kc vg br bc pb pa pk role)(P:i<x.A.length)(T:c'.F=(x.c i).F)(o:uQ (λq=>q=bc) w w')(Q:S7 w' bc (i*8) c')(H:∀k,(k<i*8\/i*8+7<=k)->w'.cell? (aA bc k)=w.cell? (aA bc k))(G:Nf1 bc w'):
  GAt B w' g { x with A:=x.A.set i c' } ar kr ac kc vg br bc pb pa pk role:=by
 have A:0<x.A.length:=by omega
 have f:∀q,q<w.heap.size->role q≠3->w'.heap[q]?=w.heap[q]?:=λq b u=>o.block q b (λe=>u (e▸h.sp.c A))
 have l:({ x with A:=x.A.set i c' }:Hp).A.length=x.A.length:=by simp
 have m:∀q,(({ x with A:=x.A.set i c' }:Hp).c q).F=(x.c q).F:=λq=>by grind[Hp.c,S7,Nf1]
 have E:=f g h.nf.1 (by rw[h.sp.g];omega);have F:∀q,q<x.A.length->0<pk q->w'.heap[pb q]?=w.heap[pb q]?:=λq b l=>f (pb q) (h.rw.pl q b l).2.1.1 (by rw[h.sp.p q b l];omega)
 refine⟨?_,uY h.nf E o.size,h.lo,h.ha,λ_=>h.hc A,⟨λk t=>?_,λq b=>?_,λq b=>?_,λq b k t=>?_,λq b n=>?_,λu=>⟨uY (h.rw.nr u).1 (f br (h.rw.nr u).1.1 (by rw[h.sp.r u];omega)) o.size,(h.rw.nr u).2⟩,λ_=>⟨G,(h.rw.nc A).2⟩,λ_=>h.rw.d A,λq N b z C D M=>?_,λq b=>?_⟩,h.gr.block (λq b=>f q (h.gr.lt q b).2 (by rw[h.sp.y q b];omega)),⟨h.sp.g,h.sp.r,λ_=>h.sp.c A,h.sp.y,λq b n=>?_⟩,l▸h.kl,h.pr.of (λq b D=>f q b (by rw[D];omega)) (λ_ _ h=>h),λt=>(h.cc t).A rfl G (λj v _ R=>?_),λn=>h.rob n (f br (h.rw.nr n).1.1 (by rw[h.sp.r n];omega))⟩;rw[l];exact(h.bx.block E);exact(h.rw.r k t).of λj _=>cOb br _ (f br (h.rw.nr (by have:k<x.B.length:=t;omega)).1.1 (by rw[h.sp.r (by have:k<x.B.length:=t;omega)];omega))
 rw[l]at b;rw[(Hp.c_set x i c' P) q];by_cases e:q=i
 ·subst e;rw[if_pos rfl];exact Q
 rw[if_neg e];exact(h.rw.s q b).of λj S=>H _ (by omega)
 rw[l]at b;rw[m q,H _ (by omega)];exact h.rw.p7 q b;rw[l]at b;have O:(({ x with A:=x.A.set i c' }:Hp).c q).p k=(x.c q).p k:=by simp only[Cl.p,m q]
 rw[m q]at t;rw[O];exact(h.rw.p q b k t).of λj _=>cOb (pb q) _ (F q b (h.rw.pw b (by omega)))
 rw[l]at b;have⟨L,K,J⟩:=h.rw.pl q b n;exact⟨L,dV K (F q b n) o.size,J⟩;rw[l]at b z;exact h.rw.dp q N b z C D M;rw[l]at b;rw[m q];exact h.rw.kp q b;rw[l]at b;exact h.sp.p q b n;grind[S7.some,Grw.at,Hp.c,S7,Nf1]
theorem GAt.push[qd]{i:Int}{gb go cap:Nat}(h:GAt B W g x ar kr ac kc vg br bc pb pa pk role)(C:W.grownBy w5 vg.ownBlock)(G:Grw w5 B (sO gb go (x.D.length+1) cap) (x.D++[i]))(A:vg.ownBlock=some gb\/gb=W.heap.size):
  GAt B (w5.setCell (aA g 8) (sO gb go (x.D.length+1) cap)) g { x with D:=x.D++[i] } ar kr ac kc (sO gb go (x.D.length+1) cap) br bc pb pa pk (λq=>if q=gb then 4 else role q):=by
 have m:∀q,q<W.heap.size->role q≠4->q≠gb:=λq f t e=>by
  obtain a|a:=A;exact t (e▸h.sp.y gb a);omega
 have u:∀q,q<W.heap.size->role q≠4->w5.heap[q]?=W.heap[q]?:=λq f t=>C.block q f (λe=>t (h.sp.y q e.symm))
 have D:=h.nf.1;have F:role g≠4:=by rw[h.sp.g];omega
 have E:=u g D F;have o:=m g D F;have k:∀q,q<W.heap.size->role q≠4->q≠g->(w5.setCell (aA g 8) (sO gb go (x.D.length+1) cap)).heap[q]?=W.heap[q]?:=λq f t z=>(kP _ _ _ _ z).trans (u q f t)
 have v:W.heap.size<=(w5.setCell (aA g 8) (sO gb go (x.D.length+1) cap)).heap.size:=by have:=C.size;simpa[World.setCell]using this
 have j:=h.rw.same v (λb=>k br (h.rw.nr b).1.1 (by rw[h.sp.r b];omega) (λe=>by have l:=h.sp.r b;have w:=h.sp.g;rw[e]at l;omega)) (λb=>k bc (h.rw.nc b).1.1 (by rw[h.sp.c b];omega) (λe=>by have l:=h.sp.c b;have w:=h.sp.g;rw[e]at l;omega)) (λq f b=>k (pb q) (h.rw.pl q f b).2.1.1 (by rw[h.sp.p q f b];omega) (λe=>by have l:=h.sp.p q f b;have w:=h.sp.g;rw[e]at l;omega));refine⟨(h.bx.block E).set8 _,(uY h.nf E C.size).set _ _,h.lo,h.ha,h.hc,⟨j.r,j.s,j.p7,j.p,j.pl,j.nr,j.nc,j.d,j.dp,j.kp⟩,?_,⟨?_,λb=>?_,λb=>?_,λq f=>?_,λq f b=>?_⟩,h.kl,h.pr.of (λq f l=>k q f (by rw[l];omega) (λe=>by have w:=h.sp.g;rw[e]at l;omega)) (λq f l=>by(try dsimp only);rw[if_neg (m q f (by rw[l];omega))];exact l),λn=>(h.cc n).block (if_neg (m bc (h.cc n).nf.1 (by rw[(h.cc n).ro];omega))) (k bc (h.cc n).nf.1 (by rw[(h.cc n).ro];omega) (λe=>by have l:=(h.cc n).ro;have w:=h.sp.g;rw[e]at l;omega)) v,λb=>h.rob b (k br (h.rw.nr b).1.1 (by rw[h.sp.r b];omega) (λe=>by have l:=h.sp.r b;have w:=h.sp.g;rw[e]at l;omega))⟩;exact G.block (w':=w5.setCell (aA g 8) (sO gb go (x.D.length+1) cap)) (λq f=>kP _ _ _ _ (λe=>o (by simp[Value.ownBlock]at f;rw[f];exact e.symm)));rw[if_neg o];exact h.sp.g;rw[if_neg (m br (h.rw.nr b).1.1 (by rw[h.sp.r b];omega))];exact h.sp.r b;rw[if_neg (m bc (h.rw.nc b).1.1 (by rw[h.sp.c b];omega))];exact h.sp.c b;simp[Value.ownBlock]at f;rw[if_pos f.symm];rw[if_neg (m (pb q) (h.rw.pl q f b).2.1.1 (by rw[h.sp.p q f b];omega))];exact h.sp.p q f b
theorem a8p(x:Hp)(b:Nat)(w:World)(a:w.cell? (aA b 5)=some (iv x.E)):
  Calls prog 151 #[pP b] w λe w'=>e=.returned (.bool (mkB x))/\w'=w:=by
 cases q:(x.E == 1)
 ·have E:=uU (show mkB x=(x.E == 2) by simp[mkB,q]);go_in;go_wp2;go_ret;exact⟨by rw[uH E];rfl,rfl⟩
 go_in;go_wp2;go_ret;exact⟨by rw[(show mkB x=true by simp[mkB,q])];rfl,rfl⟩
theorem b4h[qd](y:Wd)(w:World)(h:GAt B w g x ar kr ac kc (.slice ag x.D.length kg) br bc pb pa pk role)(hy:y.k=2->0<=y.a/\y.a<x.A.length)(n2:x.A.length<=8000)(n4:x.D.length<=8000)(a:World)(ha:a.heap.size<=B)(hx:Ext a w)(hB:B<=w.heap.size):
  Calls prog 154 #[pP g,y.v] w λe w'=>e=.returned (.bool (a6h x y))/\Hid (∃ag' kg' role',GAt B w' g (a5i x y) ar kr ac kc (.slice ag' (a5i x y).D.length kg') br bc pb pa pk role')/\Ext a w'/\Hid (∀q,q<w.heap.size->q≠g->q≠bc->(∀b o n,ag=some ⟨b,o,n⟩->b≠q)->w'.heap[q]?=w.heap[q]?):=by
 obtain⟨j,f⟩:∃W,W=w.alloc (oWd y):=⟨_,rfl⟩;have xa:Ext w j:=by rw[f];exact(hO w).alloc _
 have A:=uU (show ∀n q,q<w.heap.size->(j.drewN n).heap[q]?=w.heap[q]? from λn q t=>(xa.trans ((hO j).drewN n)).block q t);have H:=uU (h.ext xa);have aq:=cLt h.bx.1;have P:=uU (hx.trans xa);have N:=H.bx.2.2.2.2.2.1;have y0:j.cell? (aA w.heap.size 0)=some (iv y.k):=by rw[f];simp[go_sem]
 have y2:j.cell? (aA w.heap.size 2)=some (iv y.a):=by rw[f];simp[go_sem]
 have al:=cLt y0;have Y:=uU (λn r (hr:mkB x=r)=>show Calls prog 151 #[pP g] (j.drewN n) (λe w'=>e=.returned (.bool r)/\w'=j.drewN n) from hr ▸ a8p x g (j.drewN n) (((hO j).drewN n).keep N));cases K:mkB x;have E:=uU (show a6h x y=false/\a5i x y=x by simp[a5i,a6h,K]);clear h N;go_in;go_wp21;rw[<-f];clear f;go_quiet ((go_at_call 151;exact Calls.quiet_of_same (Y _ _ K)));go_wp21;go_ret;exact⟨by rw[E.1];rfl,by rw[E.2];exact⟨_,_,_,H.ext ((hO j).drewN _)⟩,P.drewN _,λq t _ _ _=>uH A _ q t⟩
 cases L:(y.k == 2)
 ·have E:=uU (show a6h x y=false/\a5i x y=x by simp[a5i,a6h,L]);have af:(y.k != 2)=true:=by simpa using L
  clear h N;go_in;go_wp21;rw[<-f];clear f;go_quiet ((go_at_call 151;exact Calls.quiet_of_same (Y _ _ K)));go_wp21;go_ret;exact⟨by rw[E.1];rfl,by rw[E.2];exact⟨_,_,_,H.ext ((hO j).drewN _)⟩,P.drewN _,λq t _ _ _=>uH A _ q t⟩
 have af:(y.k != 2)=false:=by simpa using L
 obtain⟨i,V⟩:∃i:Nat,y.a=(i:Int):=⟨y.a.toNat,by have:=(hy (by simpa using L)).1;omega⟩;have I:i<x.A.length:=by have:=(hy (by simpa using L)).2;omega
 have M:0<x.A.length:=by omega
 have u:y.a.toNat=i:=by omega
 rw[V]at y2;have d4:=H.bx.2.2.2.2.1;rw[H.hc M]at d4;have s5:=(H.rw.s i I).2.2.2.2.2.1;have f5:=(H.rw.nc M).1.2 (i*8+5);have an:bc<w.heap.size:=(h.rw.nc M).1.1;have i0:=i0N i;have i1:(i:Int)<(x.A.length:Int):=by omega
 cases Q:((x.c i).J == 0)
 have E:=uU (show a6h x y=false/\a5i x y=x by simp[a5i,a6h,u,Q]);have aj:((x.c i).J != 0)=true:=by simpa using Q
 clear h N V u;go_in;go_wp21;rw[<-f];clear f;go_quiet ((go_at_call 151;exact Calls.quiet_of_same (Y _ _ K)));go_wp21;go_ret;exact⟨by rw[E.1];rfl,by rw[E.2];exact⟨_,_,_,H.ext ((hO j).drewN _)⟩,P.drewN _,λq t _ _ _=>uH A _ q t⟩;have aj:((x.c i).J != 0)=false:=by simpa using Q
 have E:=uU (show a6h x y=true/\a5i x y={ x with A:=x.A.set i (yD (x.c i)),D:=x.D++[(i:Int)] } by
  have hb:a6h x y=true:=by simp[a6h,u,K,L,Q]
  refine⟨hb,?_⟩;unfold a5i;rw[if_pos hb,u,V])
 clear h N V u;go_in;go_wp21;rw[<-f];clear f;go_quiet ((go_at_call 151;exact Calls.quiet_of_same (Y _ _ K)));go_wp21;go_region;all_goals
  go_wp21;obtain⟨m,l⟩:∃W,W=(j.drewN (nq+1)).setCell (aA bc (i*8+5)) (iv 1):=⟨_,rfl⟩;have U:=uU (H.ext ((hO j).drewN (nq+1)));have z:=uU (show GAt B m g { x with A:=x.A.set i (yD (x.c i)) } ar kr ac kc (.slice ag x.D.length kg) br bc pb pa pk role by
   rw[l];refine U.setc I rfl (uQ.setCell (S:=λq=>q=bc) (uQ.refl _ (j.drewN (nq+1))) (p:=(aA bc (i*8+5))) rfl _) ?_ (λk hk=>uC _ (.inr (by omega))) ((U.rw.nc M).1.set _ _);obtain⟨a0,a1,a2,a3,a4,a5,a6⟩:=U.rw.s i I;refine⟨?_,?_,?_,?_,?_,kM _ _ _ a5,?_⟩;rw[uC _ (.inr (by omega))];exact a0;rw[uC _ (.inr (by omega))];exact a1;rw[uC _ (.inr (by omega))];exact a2;rw[uC _ (.inr (by omega))];exact a3;rw[uC _ (.inr (by omega))];exact a4;rw[uC _ (.inr (by omega))];exact a6)
  have X2:Ext a m:=by rw[l];exact(P.drewN _).setCell (show a.heap.size<=bc from kA ha (H.rw.nc M).2) _
  have z2:m.cell? (aA w.heap.size 2)=some (iv i):=by
   rw[l,uC _ (.inl (by omega))];exact((hO j).drewN (nq+1)).keep y2
  have c8:=z.bx.2.2.2.2.2.2.2.2.1;have f8:=z.nf.2 8;have ak:=cLt c8;have ao:B<=m.heap.size:=by have X:m.heap.size=j.heap.size:=(by rw[l];simp[World.setCell]);omega
  obtain⟨ii,ae,ab,ai,u⟩:=info_parts a9t;have G:=uU (show ∀q,q<w.heap.size->q≠bc->m.heap[q]?=w.heap[q]?/\q<m.heap.size from λq t ah=>⟨by rw[l,kP _ _ _ _ ah];exact A _ q t,by have X:m.heap.size=j.heap.size:=(by rw[l];simp[World.setCell]);omega⟩);rw[<-l];clear l U;have F:=uU (show ∀W,Ext m W->Grw W B (.slice ag x.D.length kg) x.D from λW e=>z.gr.block (λq t=>e.block q (z.gr.lt q t).2));go_region_law (refine b7m _ rfl _ _ 25 rfl ii (iv 0) B (.slice ag x.D.length kg) x.D underlying25 ae ab ai u rfl (by first|rfl|simp[Act.eval,Act.put]) (by first|exact F _ (eAl m _)|exact F _ (eAl m _).drew|exact F _ ((eDr m).alloc _)) _ 1 i (by first|rfl|simp[Act.eval,Act.put];rfl) (by simp[go_sem]) (by omega) (by simp;omega) ?_;intro Z go D w3 C d O am;have J:=kI (eAl m (.cells #[iv i] 3)) ((hO (m.alloc (.cells #[iv i] 3))).drew);have R:=uU ((z.ext J).push d C (by simpa using O));have eb:w3.heap[g]?=m.heap[g]?:=(d.block g (by simp;omega) (λe=>by have X:=z.sp.y _ e.symm;have T:=z.sp.g;omega)).trans (J.block g ak);have e8:=(cOb g 8 eb).trans c8;have ap:=(fOb g 8 eb).trans f8;have X3:=uU (show Ext a (w3.setCell (aA g 8) (sO Z go (x.D.length+1) D)) from(mO (X2.trans J) ⟨d.os,d.tape,d.output,d.size,λk hk=>d.block k (kF hk (X2.trans J).size) (λe=>by have:=(z.gr.lt k e.symm).1;omega)⟩).setCell (kA ha z.lo) _);have aa:=uU (show ∀q,q<w.heap.size->q≠g->q≠bc->(∀b o n,ag=some ⟨b,o,n⟩->b≠q)->(w3.setCell (aA g 8) (sO Z go (x.D.length+1) D)).heap[q]?=w.heap[q]? from λq t X T h3=>(kP _ _ _ _ X).trans ((d.block q (by have:=(G q t T).2;simp;omega) (λe=>by cases ag with|none=>simp[Value.ownBlock]at e|some ad=>obtain⟨b,o,n⟩:=ad;simp[Value.ownBlock]at e;exact h3 b o n rfl e.symm)).trans ((J.block q (G q t T).2).trans (G q t T).1)));clear C d O eb J);all_goals
   go_wp21;go_ret;exact⟨by rw[E.1];rfl,by rw[E.2];exact⟨some (aA Z go),D,_,by rw[kV];exact uH R⟩,X3,aa⟩
theorem a6q[qd](y:Wd)(w:World)(h:GAt B w g x ar kr ac kc (.slice ag x.D.length kg) br bc pb pa pk role)(f:y.k=2->0<=y.a/\y.a<x.A.length)(l:x.A.length<=8000)(j:x.D.length<=8000)(a:World)(n:a.heap.size<=B)(m:Ext a w)(i:B<=w.heap.size):
  Calls prog 154 #[pP g,y.v] w λe w'=>e=.returned (.bool (a6h x y))/\Hid (∃ag' kg' role',GAt B w' g (a5i x y) ar kr ac kc (.slice ag' (a5i x y).D.length kg') br bc pb pa pk role')/\Ext a w':=
 (b4h y w h f l j a n m i).mono λ_ _ ⟨d,c,b,_⟩=>⟨d,c,b⟩
def GOk[qd](B:Nat)(w:World)(g:Nat)(x:Hp):Prop:=∃ar kr ac kc vg br bc pb pa pk role,GAt B w g x ar kr ac kc vg br bc pb pa pk role
theorem GOk.ext[qd](h:GOk B w g x)(e:Ext w w'):GOk B w' g x:=by
 have⟨b,j,n,m,f,i,k,l,c,d,a,h⟩:=h;exact⟨b,j,n,m,f,i,k,l,c,d,a,h.ext e⟩
theorem GAt.boxed[qd]{x':Hp}(h:GAt B w g x ar kr ac kc vg br bc pb pa pk role)(o:uQ (λq=>q=g) w w')(J:Nf1 g w')(n:x'.B=x.B)(f:x'.A=x.A)(I:x'.D=x.D)(H:cY w' g x' (.slice ar x.B.length kr) (.slice ac x.A.length kc) vg):GAt B w' g x' ar kr ac kc vg br bc pb pa pk role:=by
 have j:∀q,q<w.heap.size->role q≠0->w'.heap[q]?=w.heap[q]?:=λq a G=>o.block q a (λe=>G (e▸h.sp.g))
 have u:∀q,x'.c q=x.c q:=λq=>by simp only[Hp.c,f]
 have b:=h.rw.same o.size (λl=>j br (h.rw.nr l).1.1 (by rw[h.sp.r l];omega)) (λl=>j bc (h.rw.nc l).1.1 (by rw[h.sp.c l];omega)) (λq a l=>j (pb q) (h.rw.pl q a l).2.1.1 (by rw[h.sp.p q a l];omega));refine⟨by rw[n,f];exact H,J,h.lo,n▸h.ha,f▸h.hc,?_,I▸h.gr.block (λq a=>j q (h.gr.lt q a).2 (by rw[h.sp.y q a];omega)),?_,f▸h.kl,h.pr.of (λq a A=>j q a (by rw[A];omega)) (λ_ _ h=>h),λm=>(h.cc m).block rfl (j bc (h.cc m).nf.1 (by rw[(h.cc m).ro];omega)) o.size,by rw[n];exact λl=>h.rob l (j br (h.rw.nr l).1.1 (by rw[h.sp.r l];omega))⟩;refine⟨λi C=>?_,λq a=>?_,λq a=>?_,λq a k m=>?_,λq a l=>?_,?_,?_,?_,λq E a t v A D=>?_,λq a=>?_⟩
 ·have z:i<x.B.length:=n▸C;have F:x'.B[i]=x.B[i]:=by simp[n]
  rw[F];exact b.r i z
 rw[f]at a;rw[u];exact b.s q a;rw[f]at a;rw[u];exact b.p7 q a;rw[f]at a;rw[u]at m ⊢;exact b.p q a k m;rw[f]at a;exact b.pl q a l;rw[n];exact b.nr;rw[f];exact b.nc;rw[f];exact b.d;rw[f]at a t;exact b.dp q E a t v A D;rw[f]at a;rw[u];exact b.kp q a;refine⟨h.sp.g,n▸h.sp.r,f▸h.sp.c,h.sp.y,λq a l=>?_⟩;rw[f]at a;exact h.sp.p q a l
theorem GOk.set6[qd](h:GOk B w g x)(v:Int):GOk B (w.setCell (aA g 6) (iv v)) g { x with I:=v }:=by
 have⟨b,i,m,l,e,f,j,k,c,d,a,h⟩:=h;exact⟨_,_,_,_,_,_,_,_,_,_,_,h.boxed (x':={ x with I:=v }) (tE w g 6 _) (h.nf.set _ _) rfl rfl rfl (h.bx.set6 v)⟩
theorem GOk.set7[qd](h:GOk B w g x)(v:Int):GOk B (w.setCell (aA g 7) (iv v)) g { x with sub:=v }:=by
 have⟨b,i,m,l,e,f,j,k,c,d,a,h⟩:=h;exact⟨_,_,_,_,_,_,_,_,_,_,_,h.boxed (x':={ x with sub:=v }) (tE w g 7 _) (h.nf.set _ _) rfl rfl rfl (h.bx.set7 v)⟩
theorem GOk.box[qd](h:GOk B w g x):w.cell? (aA g 6)=some (iv x.I)/\w.cell? (aA g 7)=some (iv x.sub)/\w.cell? (aA g 5)=some (iv x.E)/\(∀o,w.frozen? (aA g o)=false)/\B<=g/\g<w.heap.size:=by
 have⟨b,i,m,l,e,f,j,k,c,d,a,h⟩:=h;exact⟨h.bx.2.2.2.2.2.2.1,h.bx.2.2.2.2.2.2.2.1,h.bx.2.2.2.2.2.1,h.nf.2,h.lo,h.nf.1⟩
theorem d2d(y:Wd)(b:Nat)(w:World)(a:(y.k == 2)=false):
  Calls prog 153 #[pP b,y.v] w λe w'=>e=.returned y.v/\Ext w w':=by
 go_in;go_wp21;go_quiet (fail);go_wp2;refine bodyPost_ret (v:=y.v) (by simp[results,results153,go_sem]) rfl ⟨rfl,?_⟩;repeat (first|exact hO _|refine Ext.drewN ?_ _|refine mD ?_ _|refine mQ ?_ (by show w.heap.size<=w.heap.size+1;omega) _)
theorem c8o(b bc n f i:Nat)(a:Int)(w:World)(d:w.cell? (aA b 4)=some (sS bc n f))(g:w.cell? (aA bc (i*8))=some (iv a))(l:i<n)(m:(a == 2)=false):
  Calls prog 153 #[pP b,.agg #[iv 2,iv 0,iv i]] w λe w'=>e=.returned (.agg #[iv 2,iv 0,iv i])/\Ext w w':=by
 have h:=cLt d;have c:=cLt g;have j:=i0N i;have k:(i:Int)<(n:Int):=by omega
 go_in;go_wp21;go_quiet (fail);go_wp2;refine bodyPost_ret (v:=.agg #[iv 2,iv 0,iv i]) (by simp[results,results153,go_sem]) rfl ⟨rfl,?_⟩;repeat (first|exact hO _|refine Ext.drewN ?_ _|refine mD ?_ _|refine mQ ?_ (by show w.heap.size<=w.heap.size+1;omega) _)
theorem c5d(b bc n g i:Nat)(c a:Int)(w:World)(f:w.cell? (aA b 4)=some (sS bc n g))(h:w.cell? (aA bc (i*8))=some (iv c))(p:w.cell? (aA bc (i*8+6))=some (iv a))(m:i<n)(o:(c == 2)=true):
  Calls prog 153 #[pP b,.agg #[iv 2,iv 0,iv i]] w λe w'=>e=.returned (.agg #[iv 2,iv 0,iv a])/\Ext w w':=by
 have j:=cLt f;have d:=cLt h;have k:=i0N i;have l:(i:Int)<(n:Int):=by omega
 go_in;go_wp21;go_quiet (fail);go_wp21;go_region;all_goals
  go_wp2;refine bodyPost_ret (v:=.agg #[iv 2,iv 0,iv a]) (by simp[results,results153,go_sem]) rfl ⟨rfl,?_⟩;repeat (first|exact hO _|refine Ext.drewN ?_ _|refine mP ?_|refine mD ?_ _|refine mQ ?_ (by show w.heap.size<=w.heap.size+1;omega) _)
theorem a7a[qd](y:Wd)(w:World)(h:GAt B w g x ar kr ac kc vg br bc pb pa pk role)(o:uJ y x.A.length):
  Calls prog 153 #[pP g,y.v] w λe w'=>e=.returned (qK x y).v/\Ext w w':=by
 cases q:(y.k == 2)
 have e:qK x y=y:=by
  unfold qK;rw[if_neg];intro h;simp[h.1]at q
 rw[e];exact d2d y g w q;have j:y.k=2:=by simpa using q
 obtain⟨k,n,a⟩:=y;simp only at j;subst j;unfold uJ at o;simp only at o;obtain⟨i,rfl⟩:∃i:Nat,a=(i:Int):=⟨a.toNat,by omega⟩;obtain rfl:n=0:=by omega
 have d:i<x.A.length:=by omega
 have p:0<x.A.length:=by omega
 have f:=h.bx.2.2.2.2.1;rw[h.hc p]at f;obtain⟨m,_,_,_,_,_,r⟩:=h.rw.s i d;have l:((i:Int)).toNat=i:=by omega
 cases b:((x.c i).st == 2)
 have e:qK x ⟨2,0,i⟩=⟨2,0,i⟩:=by
  unfold qK;rw[if_neg];intro h;simp only[l]at h;simp[h.2]at b
 rw[e];exact c8o g bc _ kc i _ w f m d b;have e:qK x ⟨2,0,i⟩=⟨2,0,(x.c i).to⟩:=by
  unfold qK;simp only[l];rw[if_pos ⟨trivial,by simpa using b⟩]
 rw[e];exact c5d g bc _ kc i _ _ w f m r d b
theorem GAt.setp[qd](h:GAt B w g x ar kr ac kc vg br bc pb pa pk role)(i:Nat)(L:i<x.A.length)(k:Nat)(G:k<(x.c i).F.length)(u:Pr)(o:uQ (λq=>q=pb i) w w')(Z:Nf1 (pb i) w')(hp:qC w' (pb i) (k*6) u)(X:∀j,(j<k*6\/k*6+6<=j)->w'.cell? (aA (pb i) j)=w.cell? (aA (pb i) j)):
  GAt B w' g { x with A:=x.A.set i { x.c i with F:=(x.c i).F.set k u } } ar kr ac kc vg br bc pb pa pk role:=by
 have H:0<(x.c i).F.length:=by omega
 have f:∀q,q<w.heap.size->role q≠6+i->w'.heap[q]?=w.heap[q]?:=λq b C=>o.block q b (λe=>C (by rw[e];exact h.sp.p i L (h.rw.pw L H)))
 have A:0<x.A.length:=by omega
 have l:({ x with A:=x.A.set i { x.c i with F:=(x.c i).F.set k u } }:Hp).A.length=x.A.length:=by simp
 have M:=Hp.c_set x i { x.c i with F:=(x.c i).F.set k u } L;have n:∀q,q≠i->(({ x with A:=x.A.set i { x.c i with F:=(x.c i).F.set k u } }:Hp).c q)=x.c q:=λq e=>by rw[M q,if_neg e]
 have F:(({ x with A:=x.A.set i { x.c i with F:=(x.c i).F.set k u } }:Hp).c i)={ x.c i with F:=(x.c i).F.set k u }:=by rw[M i,if_pos rfl]
 have z:∀q,(({ x with A:=x.A.set i { x.c i with F:=(x.c i).F.set k u } }:Hp).c q).F.length=(x.c q).F.length:=λq=>by grind[Hp.c,Nf1,qC]
 have N:=f g h.nf.1 (by rw[h.sp.g];omega);have I:=f bc (h.rw.nc A).1.1 (by rw[h.sp.c A];omega);have O:∀q,q<x.A.length->q≠i->0<pk q->w'.heap[pb q]?=w.heap[pb q]?:=λq b R l=>f (pb q) (h.rw.pl q b l).2.1.1 (by rw[h.sp.p q b l];omega)
 refine⟨?_,uY h.nf N o.size,h.lo,h.ha,λ_=>h.hc A,⟨λj v=>?_,λq b=>?_,λq b=>?_,λq b j v=>?_,λq b t=>?_,λC=>⟨uY (h.rw.nr C).1 (f br (h.rw.nr C).1.1 (by rw[h.sp.r C];omega)) o.size,(h.rw.nr C).2⟩,λ_=>⟨uY (h.rw.nc A).1 I o.size,(h.rw.nc A).2⟩,λ_=>h.rw.d A,λq W b D n K V=>?_,λq b=>?_⟩,h.gr.block (λq b=>f q (h.gr.lt q b).2 (by rw[h.sp.y q b];omega)),⟨h.sp.g,h.sp.r,λ_=>h.sp.c A,h.sp.y,λq b t=>?_⟩,l▸h.kl,h.pr.of (λq b K=>f q b (by rw[K];omega)) (λ_ _ h=>h),λG=>(h.cc G).block rfl (f bc (h.cc G).nf.1 (by rw[(h.cc G).ro];omega)) o.size,λn=>h.rob n (f br (h.rw.nr n).1.1 (by rw[h.sp.r n];omega))⟩;rw[l];exact(h.bx.block N);exact(h.rw.r j v).of λm _=>cOb br _ (f br (h.rw.nr (by have:j<x.B.length:=v;omega)).1.1 (by rw[h.sp.r (by have:j<x.B.length:=v;omega)];omega))
 rw[l]at b;have E:S7 w' bc (q*8) (x.c q):=(h.rw.s q b).of λm _=>cOb bc _ I
 by_cases e:q=i;subst e;rw[F];exact E;rw[n q e];exact E;rw[l]at b;rw[z q,cOb bc _ I];exact h.rw.p7 q b;rw[l]at b;rw[z q]at v;by_cases e:q=i
 ·subst e;rw[F];by_cases T:j=k
  ·grind[Hp.c,Cl.p,Nf1,qC]
  have:({ x.c q with F:=(x.c q).F.set k u }:Cl).p j=(x.c q).p j:=by
   have J:k≠j:=λe=>T e.symm
   simp[Cl.p,List.getElem?_set_ne J]
  rw[this];exact(h.rw.p q b j v).of λm Y=>X _ (by omega)
 rw[n q e];exact(h.rw.p q b j v).of λm _=>cOb (pb q) _ (O q b e (h.rw.pw b (by omega)))
 rw[l]at b;have⟨U,S,Q⟩:=h.rw.pl q b t;by_cases e:q=i
 ·grind[c0o,Hp.c,Nf1,qC]
 exact⟨U,dV S (O q b e t) o.size,Q⟩;rw[l]at b D;exact h.rw.dp q W b D n K V;rw[l]at b;rw[z q];exact h.rw.kp q b;rw[l]at b;exact h.sp.p q b t
theorem GAt.turn[qd](h:GAt B w g x ar kr ac kc vg br bc pb pa pk role)(cs:List Cl)(H:cs.length=x.A.length)(n:Nat->Nat)(A:Nat->Option Addr)(t:Nat->Nat)(i:Nat->Nat)(F:0<x.A.length)
  (o:uQ (λq=>q=bc) w w') (O:Nf1 bc w')
  (P:∀q,q<x.A.length->S7 w' bc (q*8) (({ x with A:=cs }:Hp).c q))
  (N:∀q,q<x.A.length->w'.cell? (aA bc (q*8+7))=some (.slice (A q) (({ x with A:=cs }:Hp).c q).F.length (t q)))
  (E:∀q,q<x.A.length->(({ x with A:=cs }:Hp).c q).F.length<=t q)
  (G:∀q,q<x.A.length->0<t q->(n q<x.A.length/\t q=pk (n q))/\(x.c (n q)).F=(({ x with A:=cs }:Hp).c q).F/\A q=pa (n q)/\i (pb (n q))=6+q)
  (m:∀q,role q<6->i q=role q) (J:∀j,x.A.length*8<=j->w'.cell? (aA bc j)=w.cell? (aA bc j)) :
  GAt B w' g { x with A:=cs } ar kr ac kc vg br bc (λq=>pb (n q)) A t i:=by
 have l:∀q,q<w.heap.size->role q≠3->w'.heap[q]?=w.heap[q]?:=λq b z=>o.block q b (λe=>z (e▸h.sp.c F))
 have f:({ x with A:=cs }:Hp).A.length=x.A.length:=H;have L:=l g h.nf.1 (by rw[h.sp.g];omega);have M:∀q,q<x.A.length->0<pk q->w'.heap[pb q]?=w.heap[pb q]?:=λq b H=>l (pb q) (h.rw.pl q b H).2.1.1 (by rw[h.sp.p q b H];omega)
 refine⟨?_,uY h.nf L o.size,h.lo,h.ha,λ_=>h.hc F,⟨λk u=>?_,λq b=>?_,λq b=>?_,λq b k u=>?_,λq b s=>?_,λz=>⟨uY (h.rw.nr z).1 (l br (h.rw.nr z).1.1 (by rw[h.sp.r z];omega)) o.size,(h.rw.nr z).2⟩,λ_=>⟨O,(h.rw.nc F).2⟩,λ_=>h.rw.d F,λq q' b Q R D Z=>?_,λq b=>?_⟩,h.gr.block (λq b=>l q (h.gr.lt q b).2 (by rw[h.sp.y q b];omega)),⟨?_,λz=>?_,λ_=>?_,λq b=>?_,λq b s=>?_⟩,f▸h.kl,h.pr.of (λq b D=>l q b (by rw[D];omega)) (λq _ D=>(m q (by rw[D];omega))▸D),λu=>(h.cc u).A (m bc (by rw[(h.cc u).ro];omega)) O (λj v _ T=>?_),λn=>h.rob n (l br (h.rw.nr n).1.1 (by rw[h.sp.r n];omega))⟩;rw[f];exact(h.bx.block L);exact(h.rw.r k u).of λj _=>cOb br _ (l br (h.rw.nr (by have:k<x.B.length:=u;omega)).1.1 (by rw[h.sp.r (by have:k<x.B.length:=u;omega)];omega))
 rw[f]at b;exact P q b;rw[f]at b;exact N q b;rw[f]at b;have⟨⟨C,_⟩,I,_⟩:=G q b (by have:=E q b;omega);have W:(({ x with A:=cs }:Hp).c q).p k=(x.c (n q)).p k:=by simp only[Cl.p,I]
 rw[<-I]at u;rw[W];exact(h.rw.p (n q) C k u).of λj _=>cOb (pb (n q)) _ (M (n q) C (h.rw.pw C (by omega)))
 rw[f]at b;have⟨⟨C,K⟩,I,S,_⟩:=G q b s;rw[K]at s;have⟨X,U,V⟩:=h.rw.pl (n q) C s;exact⟨S.trans X,K▸dV U (M (n q) C s) o.size,V⟩;grind[Grw.at,Nf1,S7,Hp.c];rw[f]at b;exact E q b;rw[m g (by rw[h.sp.g];omega)];exact h.sp.g;have:=h.sp.r z;rw[m br (by omega)];exact this;have:=h.sp.c F;rw[m bc (by omega)];exact this;have:=h.sp.y q b;rw[m q (by omega)];exact this;grind[Grw.at,Nf1,S7,Hp.c];by_cases e:x.A.length*8<=j
 ·exact⟨v,(J j e).trans T⟩
 by_cases Y:j % 8=7
 ·have:=N (j / 8) (by omega);rw[show j / 8*8+7=j by omega]at this;exact⟨_,this⟩
 have:=(P (j / 8) (by omega)).some (j % 8) (by omega);rw[show j / 8*8+j % 8=j by omega]at this;exact this
theorem GAt.clear[qd](h:GAt B w g x ar kr ac kc vg br bc pb pa pk role)(i:Nat)(m:i<x.A.length)(b:Cl)(r:b.F=[])(o:uQ (λq=>q=bc) w w')(n:Nf1 bc w')(u:S7 w' bc (i*8) b)(t:w'.cell? (aA bc (i*8+7))=some (.slice none 0 0))(f:∀k,(k<i*8\/i*8+8<=k)->w'.cell? (aA bc k)=w.cell? (aA bc k)):
  GAt B w' g { x with A:=x.A.set i b } ar kr ac kc vg br bc pb (λq=>if q=i then none else pa q) (λq=>if q=i then 0 else pk q) role:=by
 have c:=Hp.c_set x i b m;refine h.turn (x.A.set i b) (by simp) (λq=>q) _ _ role (by omega) o n (λq a=>?_) (λq a=>?_) (λq a=>?_) (λq a d=>?_) (λ_ _=>rfl) (λj l=>f j (by omega));rw[c q];by_cases e:q=i
 ·grind[Nf1,S7]
 rw[if_neg e];exact(h.rw.s q a).of λj l=>f _ (by omega)
 rw[c q];by_cases e:q=i
 ·grind[Nf1,S7]
 simp only[if_neg e];rw[f _ (by omega)];exact h.rw.p7 q a;rw[c q];by_cases e:q=i
 ·rw[if_pos e,r];simp
 rw[if_neg e,if_neg e];exact h.rw.kp q a;rw[c q];by_cases e:q=i
 ·rw[if_pos e]at d;omega
 rw[if_neg e]at d;exact⟨⟨a,if_neg e⟩,by rw[if_neg e],if_neg e,h.sp.p q a d⟩
theorem GOk.set1[qd](h:GOk B w g x)(v:Int):GOk B (w.setCell (aA g 1) (iv v)) g { x with K:=v }:=by
 have⟨b,i,m,l,e,f,j,k,c,d,a,h⟩:=h;exact⟨_,_,_,_,_,_,_,_,_,_,_,h.boxed (x':={ x with K:=v }) (tE w g 1 _) (h.nf.set _ _) rfl rfl rfl (h.bx.set1 v)⟩
theorem a1g(n:Int)(a:-1000000<=n)(b:n<=1000000):wrap64 n=n:=by unfold wrap64;omega
theorem dE{p:Addr}{u:Value}(h:w.cell? p=some u):(w.setCell p v).cell? p=some v:=kM _ _ _ h
def zN(w:World)(b o:Nat)(st tv:Int):World:=(((((((w.setCell ⟨b,o,none⟩ (iv st)).setCell ⟨b,o+1,none⟩ (iv 0)).setCell ⟨b,o+2,none⟩ (iv 0)).setCell ⟨b,o+3,none⟩ (iv 0)).setCell ⟨b,o+4,none⟩ (iv 0)).setCell ⟨b,o+5,none⟩ (iv 0)).setCell ⟨b,o+6,none⟩ (iv tv)).setCell ⟨b,o+7,none⟩ (.slice none 0 0)
theorem a0c(w:World)(b o:Nat)(c a:Int):uQ (λq=>q=b) w (zN w b o c a):=
 uQ.setCell (S:=λq=>q=b) (uQ.setCell (S:=λq=>q=b) (uQ.setCell (S:=λq=>q=b) (uQ.setCell (S:=λq=>q=b) (uQ.setCell (S:=λq=>q=b) (uQ.setCell (S:=λq=>q=b) (uQ.setCell (S:=λq=>q=b) (tE w b o _) (p:=(aA b (o+1))) rfl _) (p:=(aA b (o+2))) rfl _) (p:=(aA b (o+3))) rfl _) (p:=(aA b (o+4))) rfl _) (p:=(aA b (o+5))) rfl _) (p:=(aA b (o+6))) rfl _) (p:=(aA b (o+7))) rfl _
theorem b0d(h:Nf1 b w)(o:Nat)(c a:Int):Nf1 b (zN w b o c a):=(((((((h.set _ _).set _ _).set _ _).set _ _).set _ _).set _ _).set _ _).set _ _
theorem a3z(w:World)(b o:Nat)(c a:Int)(k:Nat)(d:k<o\/o+8<=k):(zN w b o c a).cell? (aA b k)=w.cell? (aA b k):=by
 unfold zN;rw[uC _ (.inr (by omega)),uC _ (.inr (by omega)),uC _ (.inr (by omega)),uC _ (.inr (by omega)),uC _ (.inr (by omega)),uC _ (.inr (by omega)),uC _ (.inr (by omega)),uC _ (.inr (by omega))]
theorem a4y(w:World)(b o:Nat)(d a:Int)(c:Cl)(v:Value)(h:S7 w b o c)(m:w.cell? (aA b (o+7))=some v):S7 (zN w b o d a) b o ⟨d,0,0,0,0,0,a,[]⟩/\(zN w b o d a).cell? (aA b (o+7))=some (.slice none 0 0):=by
 have⟨g,i,j,e,l,f,k⟩:=h;unfold zN;refine⟨⟨?_,?_,?_,?_,?_,?_,?_⟩,?_⟩
 ·iterate 7 rw[uC _ (.inr (by omega))]
  exact kM _ _ _ g
 ·iterate 6 rw[uC _ (.inr (by omega))]
  exact kM _ _ _ ((uC _ (.inr (by omega))).trans i)
 ·iterate 5 rw[uC _ (.inr (by omega))]
  refine dE (u:=iv c.T) ?_;iterate 2 rw[uC _ (.inr (by omega))]
  exact j
 ·iterate 4 rw[uC _ (.inr (by omega))]
  refine dE (u:=iv c.U) ?_;iterate 3 rw[uC _ (.inr (by omega))]
  exact e
 ·iterate 3 rw[uC _ (.inr (by omega))]
  refine dE (u:=iv c.born) ?_;iterate 4 rw[uC _ (.inr (by omega))]
  exact l
 ·iterate 2 rw[uC _ (.inr (by omega))]
  refine dE (u:=iv c.J) ?_;iterate 5 rw[uC _ (.inr (by omega))]
  exact f
 ·rw[uC _ (.inr (by omega))];refine dE (u:=iv c.to) ?_;iterate 6 rw[uC _ (.inr (by omega))]
  exact k
 refine dE (u:=v) ?_;iterate 7 rw[uC _ (.inr (by omega))]
 exact m
theorem GAt.wipe[qd](h:GAt B w g x ar kr ac kc vg br bc pb pa pk role)(i:Nat)(a:i<x.A.length)(c b:Int):GOk B (zN w bc (i*8) c b) g { x with A:=x.A.set i ⟨c,0,0,0,0,0,b,[]⟩ }:=by
 have⟨d,f⟩:=a4y w bc (i*8) c b _ _ (h.rw.s i a) (h.rw.p7 i a);exact⟨_,_,_,_,_,_,_,_,_,_,_,h.clear i a _ rfl (a0c _ _ _ _ _) (b0d (h.rw.nc (by omega)).1 _ _ _) d f (λk e=>a3z _ _ _ _ _ k e)⟩
theorem GAt.prow[qd](h:GAt B w g x ar kr ac kc vg br bc pb pa pk role)(i:Nat)(hi:i<x.A.length)(r0:0<x.B.length)(L:List Pr)(G:Nat)(S:Option Addr)(K:Nat)(o:uQ (λq=>q=bc) w w')(M:Nf1 bc w')(c7:w'.cell? (aA bc (i*8+7))=some (.slice S L.length K))(co:∀j,j≠i*8+7->w'.cell? (aA bc j)=w.cell? (aA bc j))
  (hp:∀k,k<L.length->qC w' G (k*6) (L.getD k Pr0)) (aa:L.length<=K) (R:0<K->S=some (aA G 0)/\Nfp G K w'/\w.heap.size<=G/\B<=G) :
  GAt B w' g { x with A:=x.A.set i { x.c i with F:=L } } ar kr ac kc vg br bc (λq=>if q=i then G else pb q) (λq=>if q=i then S else pa q) (λq=>if q=i then K else pk q) (λd=>if w.heap.size<=d then 6+i else role d):=by
 have E:0<x.A.length:=by omega
 have u:∀q,q<w.heap.size->role q≠3->w'.heap[q]?=w.heap[q]?:=λq b t=>o.block q b (λe=>t (e▸h.sp.c E))
 have l:∀q,q<w.heap.size->(if w.heap.size<=q then 6+i else role q)=role q:=λq b=>if_neg (by omega)
 have n:({ x with A:=x.A.set i { x.c i with F:=L } }:Hp).A.length=x.A.length:=by simp
 have U:=Hp.c_set x i { x.c i with F:=L } hi;have A:∀q,q≠i->(({ x with A:=x.A.set i { x.c i with F:=L } }:Hp).c q)=x.c q:=λq e=>by rw[U q,if_neg e]
 have I:(({ x with A:=x.A.set i { x.c i with F:=L } }:Hp).c i)={ x.c i with F:=L }:=by rw[U i,if_pos rfl]
 have X:=u g h.nf.1 (by rw[h.sp.g];omega);have Y:∀q,q<x.A.length->0<pk q->w'.heap[pb q]?=w.heap[pb q]?:=λq b n=>u (pb q) (h.rw.pl q b n).2.1.1 (by rw[h.sp.p q b n];omega)
 have W:0<x.B.length->w'.heap[br]?=w.heap[br]?:=λt=>u br (h.rw.nr t).1.1 (by rw[h.sp.r t];omega)
 refine⟨?_,uY h.nf X o.size,h.lo,h.ha,λ_=>h.hc E,⟨λj D=>?_,λq b=>?_,λq b=>?_,λq b j D=>?_,λq b f=>?_,λt=>⟨uY (h.rw.nr t).1 (W t) o.size,(h.rw.nr t).2⟩,λ_=>⟨M,(h.rw.nc E).2⟩,λ_=>h.rw.d E,λq N b C J z F=>?_,λq b=>?_⟩,h.gr.block (λq b=>u q (h.gr.lt q b).2 (by rw[h.sp.y q b];omega)),⟨?_,λt=>?_,λ_=>?_,λq b=>?_,λq b f=>?_⟩,n▸h.kl,h.pr.of (λq b z=>u q b (by rw[z];omega)) (λq b z=>by(try dsimp only);rw[if_neg (by omega)];exact z),λT=>(h.cc T).A (l bc (h.cc T).nf.1) M (λj v _ hv=>?_),λn=>h.rob n (W n)⟩;rw[n];exact h.bx.block X;exact(h.rw.r j D).of λm _=>cOb br _ (W (by have:j<x.B.length:=D;omega))
 rw[n]at b;have H:S7 w' bc (q*8) (x.c q):=(h.rw.s q b).of λm hm=>co _ (by omega)
 by_cases e:q=i;subst e;rw[I];exact H;rw[A q e];exact H;rw[n]at b;by_cases e:q=i
 ·grind[Nf1,qC,Pr0,Hp.c]
 rw[A q e];simp only[if_neg e];rw[co _ (by omega)];exact h.rw.p7 q b;rw[n]at b;by_cases e:q=i
 ·subst e;rw[I]at D ⊢;simp only[if_true];exact hp j D
 rw[A q e]at D ⊢;simp only[if_neg e];exact(h.rw.p q b j D).of λm _=>cOb (pb q) _ (Y q b (h.rw.pw b (by omega)))
 rw[n]at b;by_cases e:q=i
 ·subst e;simp only[if_true]at f ⊢;have⟨Q,P,V,O⟩:=R f;refine⟨Q,P,⟨λe=>?_,λe=>?_⟩,O⟩
  ·have:=(h.rw.nr r0).1.1;omega
  have:=(h.rw.nc E).1.1;omega
 simp only[if_neg e]at f ⊢;have⟨Q,P,V,O⟩:=h.rw.pl q b f;exact⟨Q,dV P (Y q b f) o.size,V,O⟩;rw[n]at b C;by_cases e:q=i
 ·subst e;have e':N≠q:=λe=>J e.symm
  simp only[if_true,if_neg e']at z F ⊢;have:=(h.rw.pl N C F).2.1.1;have:=(R z).2.2.1;omega
 by_cases Z:N=i
 ·subst Z;simp only[if_true,if_neg e]at z F ⊢;have:=(h.rw.pl q b z).2.1.1;have:=(R F).2.2.1;omega
 simp only[if_neg e,if_neg Z]at z F ⊢;exact h.rw.dp q N b C J z F;rw[n]at b;by_cases e:q=i
 ·grind[Nf1,qC,Pr0,Hp.c]
 rw[A q e];simp only[if_neg e];exact h.rw.kp q b;rw[l g h.nf.1];exact h.sp.g;rw[l br (h.rw.nr t).1.1];exact h.sp.r t;rw[l bc (h.rw.nc E).1.1];exact h.sp.c E;rw[l q (h.gr.lt q b).2];exact h.sp.y q b;rw[n]at b;by_cases e:q=i
 ·grind[Grw.at,Nf1,qC,Pr0,Hp.c]
 simp only[if_neg e]at f ⊢;rw[l (pb q) (h.rw.pl q b f).2.1.1];exact h.sp.p q b f;grind[Nf1,qC,Pr0,Hp.c]
theorem a1t{o:Obj}(h:w.heap[q]?=some o):q<w.heap.size:=by grind[S7.some,Grw.at]
theorem GAt.far{z z2:Nat->Option Obj}(h:@GAt ⟨⟨z⟩⟩ B w g x ar kr ac kc vg br bc pb pa pk role)(n:w.heap.size<=w'.heap.size)(e:∀q,q<w.heap.size->role q≠1->w'.heap[q]?=w.heap[q]?)(i:∀q,q<w.heap.size->role q≠1->role' q=role q)(D:∀q o,z2 q=some o->role' q=1/\w'.heap[q]?=some o):@GAt ⟨⟨z2⟩⟩ B w' g x ar kr ac kc vg br bc pb pa pk role':=by
 obtain⟨t,m,v,C,u,f,l,b,A,_,j,R⟩:=h;have s:=e g m.1 (by rw[b.g];omega);letI:Inhabited uL:=⟨⟨z2⟩⟩;refine⟨t.block s,uY m s n,v,C,u,f.same n (λa=>e br (f.nr a).1.1 (by rw[b.r a];omega)) (λa=>e bc (f.nc a).1.1 (by rw[b.c a];omega)) (λq d a=>e (pb q) (f.pl q d a).2.1.1 (by rw[b.p q d a];omega)),l.block (λq d=>e q (l.lt q d).2 (by rw[b.y q d];omega)),⟨?_,λa=>?_,λa=>?_,λq d=>?_,λq d a=>?_⟩,A,D,λk=>(j k).block (i bc (j k).nf.1 (by rw[(j k).ro];omega)) (e bc (j k).nf.1 (by rw[(j k).ro];omega)) n,λa i k=>have⟨o,p⟩:=R a i k;⟨o,(kR (a:=aA br i) (e br (f.nr a).1.1 (by rw[b.r a];omega))).trans p⟩⟩;rw[i g m.1 (by rw[b.g];omega)];exact b.g;rw[i br (f.nr a).1.1 (by rw[b.r a];omega)];exact b.r a;rw[i bc (f.nc a).1.1 (by rw[b.c a];omega)];exact b.c a;rw[i q (l.lt q d).2 (by rw[b.y q d];omega)];exact b.y q d;rw[i (pb q) (f.pl q d a).2.1.1 (by rw[b.p q d a];omega)];exact b.p q d a
theorem GOk.guard{z z2:Nat->Option Obj}(h:@GOk ⟨⟨z⟩⟩ B w0 g x)(e:Ext w0 w)(C:∀q o,z2 q=some o->z q=some o\/(w0.heap.size<=q/\w.heap[q]?=some o)):@GOk ⟨⟨z2⟩⟩ B w g x:=by
 have⟨i,p,y,n,k,u,l,m,j,t,c,h⟩:=h;have A:=h;obtain⟨_,_,_,_,_,_,_,_,_,r,_⟩:=A;refine⟨i,p,y,n,k,u,l,m,j,t,λq=>if w0.heap.size<=q then 1 else c q,GAt.far h e.size (λq d _=>e.block q d) (λq d _=>if_neg (by omega)) (λq o d=>?_)⟩;obtain a|⟨a,b⟩:=C q o d;have⟨v,f⟩:=r q o a;have s:=a1t f;exact⟨by show(if w0.heap.size<=q then 1 else c q)=1;rw[if_neg (by omega)];exact v,(e.block q s).trans f⟩;exact⟨if_pos a,b⟩
structure Own(p:Inhabited uL)(lo hi:Nat)(c:World)(p1:Inhabited uL):Prop where
 z:∀q,(@default uL p1).z q=if lo<=q/\q<hi then c.heap[q]? else (@default uL p).z q
 l:∀q o,(@default uL p).z q=some o->q<lo
 h:hi<=c.heap.size
theorem Own.make(p:Inhabited uL)(b a:Nat)(c:World)(l:∀q o,(@default uL p).z q=some o->q<b)(h:a<=c.heap.size):∃p1,Own p b a c p1:=⟨⟨⟨λq=>if b<=q/\q<a then c.heap[q]? else (@default uL p).z q⟩⟩,λ_=>rfl,l,h⟩
theorem a3b(h:q<w.heap.size):∃o,w.heap[q]?=some o:=⟨_,nE h⟩
theorem GOk.enter{p:Inhabited uL}(h:@GOk p B w g x)(e:Ext w w0):∃p1,Own p w.heap.size w0.heap.size w0 p1/\@GOk p1 B w0 g x:=by
 have b:=h;have⟨j,s,v,r,l,u,m,n,k,t,f,b⟩:=b;have⟨_,_,_,_,_,_,_,_,_,i,_,_⟩:=b;have⟨p1,d⟩:=Own.make p w.heap.size w0.heap.size w0 (λq o a=>a1t (i q o a).2) (hT _);refine⟨p1,d,GOk.guard (z:=(@default uL p).z) (z2:=(@default uL p1).z) h e (λq o a=>?_)⟩;rw[d.z]at a;split at a;rename_i c;exact .inr ⟨c.1,a⟩;exact .inl a
theorem GOk.own{p p1:Inhabited uL}{c:World}(o:Own p lo hi c p1)(h:@GOk p1 B w g x):∀q,lo<=q->q<hi->w.heap[q]?=c.heap[q]?:=λq i f=>by
 have⟨j,s,v,r,l,u,m,n,k,t,b,h⟩:=h;have⟨_,_,_,_,_,_,_,_,_,d,_,_⟩:=h;have⟨e,a⟩:=a3b (w:=c) (q:=q) (by have:=o.h;omega);have:=(d q e (by rw[o.z q,if_pos ⟨i,f⟩];exact a)).2;rw[this,a]
theorem GOk.owns{p p1 p2:Inhabited uL}{c:World}(o:Own p lo hi c p1)(h:@GOk p1 B w g x)(l:uQ (λq=>lo<=q/\q<hi) w w')(J:∀q ob,(@default uL p2).z q=some ob->(lo<=q/\q<hi/\w'.heap[q]?=some ob)\/(¬(lo<=q/\q<hi)/\(@default uL p).z q=some ob)):@GOk p2 B w' g x:=by
 have⟨s,D,G,C,u,F,y,A,t,E,f,h⟩:=h;have I:=h;obtain⟨_,_,_,_,_,_,_,_,_,r,_⟩:=I;have n:∀q,lo<=q->q<hi->f q=1:=λq k i=>by
  obtain⟨ob,v⟩:=a3b (w:=c) (q:=q) (by have:=o.h;omega);exact(r q ob (by rw[o.z q,if_pos ⟨k,i⟩];exact v)).1
 refine⟨s,D,G,C,u,F,y,A,t,E,f,GAt.far (z:=(@default uL p1).z) (z2:=(@default uL p2).z) h l.size (λq j H=>l.block q j (λe=>H (n q e.1 e.2))) (λ_ _ _=>rfl) (λq m j=>?_)⟩;obtain⟨a,b,d⟩|⟨a,d⟩:=J q m j;exact⟨n q a b,d⟩;have⟨k,i⟩:=r q m (by rw[o.z q,if_neg a];exact d);exact⟨k,(l.block q (a1t i) a).trans i⟩
theorem GOk.leave{p p1:Inhabited uL}{c:World}(o:Own p lo hi c p1)(h:@GOk p1 B w g x)(d:uQ (λq=>lo<=q/\q<hi) w w'):@GOk p B w' g x:=
 GOk.owns o h d (λq b a=>.inr ⟨λe=>by have:=o.l q b a;omega,a⟩)
structure b3u(B U:Nat)(w:World)(x:Hp)(br kr bc kc bg kg:Nat)(pb:Nat->Nat)(pa:Nat->Option Addr)(pk:Nat->Nat):Prop where
 r:SlW w (.slice (some ⟨br,0,none⟩) x.B.length kr) x.B
 s:∀q,q<x.A.length->w.cell? ⟨bc,q*8,none⟩=some (iv (x.c q).st)/\w.cell? ⟨bc,q*8+1,none⟩=some (iv (x.c q).kind)/\w.cell? ⟨bc,q*8+2,none⟩=some (iv (x.c q).T)/\w.cell? ⟨bc,q*8+3,none⟩=some (iv (x.c q).U)/\w.cell? ⟨bc,q*8+4,none⟩=some (iv (x.c q).born)/\w.cell? ⟨bc,q*8+5,none⟩=some (iv (x.c q).J)/\w.cell? ⟨bc,q*8+6,none⟩=some (iv (x.c q).to)
 p:∀q,q<x.A.length->SlP w (.slice (pa q) (x.c q).F.length (pk q)) (x.c q).F
 g:SlI w (.slice (some ⟨bg,0,none⟩) x.D.length kg) x.D
 p7:∀q,q<x.A.length->w.cell? ⟨bc,q*8+7,none⟩=some (.slice (pa q) (x.c q).F.length (pk q))
 pl:∀q,q<x.A.length->0<(x.c q).F.length->pa q=some ⟨pb q,0,none⟩/\Nf1 (pb q) w/\(pb q≠br/\pb q≠bc/\pb q≠bg)/\B<=pb q/\pb q<U
 nr:Nf1 br w
 nc:Nf1 bc w
 ng:Nf1 bg w
 d:br≠bc/\br≠bg/\bc≠bg
 dp:∀q q',q<x.A.length->q'<x.A.length->q≠q'->0<(x.c q).F.length->0<(x.c q').F.length->pb q≠pb q'
 b:(B<=br/\br<U)/\(B<=bc/\bc<U)/\(B<=bg/\bg<U)
 l:x.B.length<=100/\x.A.length<=8000/\x.D.length<=8000/\∀q,q<x.A.length->(x.c q).F.length<=200
 k:∀q,q<x.A.length->(x.c q).F.length<=pk q
theorem b1a(h:Nf1 B w)(k:uQ S w w')(a:¬S B):Nf1 B w':=⟨kF h.1 k.size,λj=>k.frozen h.1 a▸h.2 j⟩
theorem b3u.only(h:b3u B U w x br kr bc kc bg kg pb pa pk)(e:uQ S w w')(m:∀q,B<=q->q<U->¬S q):b3u B U w' x br kr bc kc bg kg pb pa pk:=by
 have t:=m _ h.b.1.1 h.b.1.2;have f:=m _ h.b.2.1.1 h.b.2.1.2;have v:=m _ h.b.2.2.1 h.b.2.2.2;refine⟨yN.mono2 h.r λb o n c z A y j=>?_,λq i=>let ⟨a0,a1,a2,a3,a4,a5,a6⟩:=h.s q i;⟨e.keep f a0,e.keep f a1,e.keep f a2,e.keep f a3,e.keep f a4,e.keep f a5,e.keep f a6⟩,λq i=>?_,yN.mono2 h.g λb o n c z A y j=>?_,λq i=>e.keep f (h.p7 q i),λq i C=>let ⟨a,b,c⟩:=h.pl q i C;⟨a,b1a b e (m _ c.2.1 c.2.2),c⟩,b1a h.nr e t,b1a h.nc e f,b1a h.ng e v,h.d,h.dp,h.b,h.l,h.k⟩;simp only[Value.slice.injEq,Option.some.injEq,Addr.mk.injEq]at z;obtain⟨⟨rfl,_,_⟩,_,_⟩:=z;exact⟨e.keep t j.1,e.keep t j.2.1,e.keep t j.2.2⟩;obtain z|z:=mF (x.c q).F.length
 ·grind[Hp.c,yN,yN.nil]
 have⟨a,_,c⟩:=h.pl q i z;refine d1k e (λb o n k u=>?_) (h.p q i);rw[a]at u;simp only[Value.slice.injEq,Option.some.injEq,Addr.mk.injEq]at u;rw[<-u.1.1];exact m _ c.2.1 c.2.2;simp only[Value.slice.injEq,Option.some.injEq,Addr.mk.injEq]at z;obtain⟨⟨rfl,_,_⟩,_,_⟩:=z;exact e.keep v j
theorem b3u.cs(h:b3u B U w x br kr bc kc bg kg pb pa pk):SlC w (sS bc x.A.length kc) x.A:=by
 refine⟨_,_,rfl,by have:=h.l.2.1;omega,λi a=>⟨bc,0,rfl,?_⟩⟩;have e:x.c i=x.A[i]:=(Hp.c_eq x i a).symm;have⟨f,g,k,b,n,d,m⟩:=h.s i a;have o:=h.p i a;have j:=h.p7 i a;rw[e]at f g k b n d m o j;rw[kO];exact⟨_,f,g,k,b,n,d,m,j,o⟩
end Go.Proofs.YtolmnenlnpbcfaaGreatDoor
