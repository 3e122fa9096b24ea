import Derived.Test.YtgkpaibbdkggiaaGreatDoorAd
import Derived.Test.YtgkpaibbdkggiaaGreatDoorMp2
import Derived.Test.YtgkpaibbdkggiaaGreatDoorDc
import Derived.Deep.RegionLaw
set_option maxRecDepth 100000
set_option maxHeartbeats 8000000
namespace Go.Proofs.YtgkpaibbdkggiaaGreatDoor
open Go.RowKit Tryz
attribute [local go_sem ↓] Go.wp_at_zero Go.wp_at_succ
variable{x y z:Hp}{w w' wr W w3 w6 w5 w0 a:World}{B g kc kr bc br base k n i cap kg j u bs q lo hi B7 kp b U bg:Nat}{ac ar ag ap:Option Addr}{vg v v' vr vc vw:Value}{role pb pk role':Nat->Nat}{pa:Nat->Option Addr}{L M L':List Int}{c:Cl}{xs:List Value}{o:Obj}{S:Nat->Prop}
structure CS(x:Hp)(w3 w6 wr:World)(vr vc vg:Value)(k:Nat)(L:List (Cl×Value)):Prop where
 own:wr.ownsRow w6.heap.size 51 8 vc k (L.flatMap fC)
 eq:L.map (·.1)=x.A.take k
 F:∀z,z∈L->wr.ownsRow w6.heap.size 53 6 z.2 z.1.F.length (z.1.F.flatMap fP)/\∀q,z.2.ownBlock=some q->vc.ownBlock≠some q
 dis:∀i j (hi:i<L.length) (hj:j<L.length),i≠j->∀q,L[i].2.ownBlock=some q->L[j].2.ownBlock≠some q
 bx:cK wr w3.heap.size x vr vc vg
 fz:∀o,wr.frozen? ⟨w3.heap.size,o,none⟩=false
 on:uZ (λq=>q=w3.heap.size) w6 wr
 ex:Ext w3 wr
 lt:w3.heap.size<w6.heap.size
theorem CS.ext{L:List (Cl×Value)}(h:CS x w3 w6 wr vr vc vg k L)(e:Ext wr w'):CS x w3 w6 w' vr vc vg k L where
 own:=uN h.own (λq a=>e.block q (h.own.lt q a).2)
 eq:=h.eq
 F:=λz b=>⟨uN (h.F z b).1 (λq a=>e.block q ((h.F z b).1.lt q a).2),(h.F z b).2⟩
 dis:=h.dis
 bx:=h.bx.ext e
 fz:=λo=>((cE e).2 _ o (kF h.lt h.on.size)).trans (h.fz o)
 on:=h.on.trans ⟨e.os,e.tape,e.output,e.size,λq a _=>e.block q a⟩
 ex:=h.ex.trans e
 lt:=h.lt
theorem CS.len{L:List (Cl×Value)}(h:CS x w3 w6 wr vr vc vg k L)(a:k<=x.A.length):L.length=k:=by
 have:=congrArg List.length h.eq;simpa[Nat.min_eq_left a]using this
theorem CS.push{L:List (Cl×Value)}{z:Cl×Value}(h:CS x w3 w6 W vr vc vg k L)(J:k<x.A.length)(N:z.1=x.A[k])(m:W.grownBy w5 vc.ownBlock)(K:w5.ownsRow w6.heap.size 51 8 v' (k+1) (L.flatMap fC++fC z))
  (w:v'.ownBlock=some g) (A:vc.ownBlock=some g\/g=W.heap.size) (s:W.ownsRow B7 53 6 z.2 z.1.F.length (z.1.F.flatMap fP)) (M:w6.heap.size<=B7) (B:∀q,vc.ownBlock=some q->q<B7) (p:∀y,y∈L->∀q,y.2.ownBlock=some q->q<B7) :
  CS x w3 w6 (w5.setCell (aA w3.heap.size 4) v') vr v' vg (k+1) (L++[z]):=by
 have n:w3.heap.size<W.heap.size:=kF h.lt h.on.size;have⟨G,D,P,F,O,C⟩:=b3u (o:=4) (u:=v') (bg:=w3.heap.size) h.lt h.ex h.own (hT _) n m K;have t:∀y,y∈L++[z]->W.ownsRow w6.heap.size 53 6 y.2 y.1.F.length (y.1.F.flatMap fP)/\∀q,y.2.ownBlock=some q->vc.ownBlock≠some q:=λy v=>by
  obtain q|q:=mD.1 v;exact h.F y q;rw[mY]at q;subst q;exact⟨a3q s M,λq e a=>by have:=(s.lt q e).1;have:=B q a;omega⟩
 have H:cK w5 w3.heap.size x vr vc vg:=h.bx.block (m.block w3.heap.size n (λe=>by have:=(h.own.lt _ e.symm).1;have:=h.lt;omega));refine⟨by simpa using G,by rw[mr,h.eq,kx J];simp[N],λy v=>?_,λi j E I d q e a=>?_,H.set4 v',λo=>(F o).trans (h.fz o),⟨m.os.trans h.on.os,m.tape.trans h.on.tape,m.output.trans h.on.output,by have:=m.size;have:=h.on.size;simp only[World.setCell,Array.size_modify];omega,λq f d=>(C q (kF f h.on.size) d (λe=>by have:=(h.own.lt q e).1;omega)).trans (h.on.block q f d)⟩,D,h.lt⟩;have l:=t y v;refine⟨uN l.1 (λq f=>C q (l.1.lt q f).2 (λe=>by have:=(l.1.lt q f).1;have:=h.lt;omega) (l.2 q f)),λq e a=>?_⟩;rw[w]at a;injection a with a;subst a;obtain r|r:=A;exact l.2 g e r;have:=(l.1.lt g e).2;omega;simp only[List.getElem_append]at e a;simp at E I;by_cases b:i<L.length <;> by_cases c:j<L.length
 ·simp only[b,c,dite_true]at e a;exact h.dis i j b c d q e a
 simp only[b,c,dite_true,dite_false,List.getElem_singleton]at e a;have:=p _ (k7 b) q e;have:=(s.lt q a).1;omega;simp only[b,c,dite_true,dite_false,List.getElem_singleton]at e a;have:=p _ (k7 c) q a;have:=(s.lt q e).1;omega;omega
structure CB(wr W:World)(c:Cl)(ap:Option Addr)(kp:Nat)(v:Value):Prop where
 p7:W.cell? ⟨wr.heap.size,7,none⟩=some (.slice ap c.F.length kp)
 n:S7 W (wr.heap.size+1) 0 c
 n7:W.cell? ⟨wr.heap.size+1,7,none⟩=some v
 f:∀o,W.frozen? ⟨wr.heap.size+1,o,none⟩=false
 ex:Ext wr W
theorem CB.ext{W':World}(h:CB wr W c ap kp v)(e:Ext W W'):CB wr W' c ap kp v:=
 ⟨e.keep h.p7,h.n.of λ_ _=>e.cell (p:=(aA (wr.heap.size+1) _)) (uQ h.n7:wr.heap.size+1<W.heap.size),e.keep h.n7,λo=>((cE e).2 _ o (uQ h.n7)).trans (h.f o),h.ex.trans e⟩
theorem CB.push{n':Nat}{ys:List Value}(h:CB wr W c ap kp v)(b:W.ownsRow B7 53 6 v n xs)(q:wr.heap.size+1<B7)(r:W.grownBy w5 v.ownBlock)(p:w5.ownsRow B7 53 6 v' n' ys):
  (w5.setCell (aA (wr.heap.size+1) 7) v').ownsRow B7 53 6 v' n' ys/\CB wr (w5.setCell (aA (wr.heap.size+1) 7) v') c ap kp v':=by
 have⟨k,l,i,d,m,g⟩:=b3u (o:=7) (u:=v') (bg:=wr.heap.size+1) q h.ex b (mS _) (uQ h.n7) r p;refine⟨k,?_,h.n.of λj s=>i _ (by omega),m _ h.n7,λo=>(d o).trans (h.f o),l⟩;exact(kT (a:=(aA wr.heap.size 7)) (g wr.heap.size (uQ h.p7) (by omega) (λe=>by have:=(b.lt _ e).1;omega))).trans h.p7
theorem CB.V(wr:World)(c:Cl)(a:Option Addr)(b:Nat)(e d:TypeId):CB wr ((wr.alloc (.cells #[iv c.st,iv c.kind,iv c.T,iv c.U,iv c.born,iv c.J,iv c.to,.slice a c.F.length b] e)).alloc (.cells #[iv c.st,iv c.kind,iv c.T,iv c.U,iv c.born,iv c.J,iv c.to,.slice none 0 0] d)) c a b (.slice none 0 0):=
 (by refine⟨?_,⟨by simp[go_sem],by simp[go_sem],by simp[go_sem],by simp[go_sem],by simp[go_sem],by simp[go_sem],by simp[go_sem]⟩,?_,λo=>by simp[go_sem],((hO wr).alloc _).alloc _⟩<;>simp[go_sem])
theorem b8n{t sz:Nat}{a:Option Addr}(h:w.ownsRow B t sz (.slice a n k) n xs):n<=k:=by
 obtain⟨h0,h1⟩|⟨g,cap,cur,h0,_,_,hn,_⟩:=h.2;omega;simp only[Value.slice.injEq]at h0;omega
structure GSep(x:Hp)(role:Nat->Nat)(g br bc:Nat)(pb pk:Nat->Nat)(vg:Value):Prop where
 g:role g=0
 r:0<x.B.length->role br=2
 c:0<x.A.length->role bc=3
 y:∀q,vg.ownBlock=some q->role q=4
 p:∀q,q<x.A.length->0<pk q->role (pb q)=6+q
structure Ccp(B:Nat)(w:World)(ac:Option Addr)(bc kc:Nat)(role:Nat->Nat):Prop where
 ad:ac=some ⟨bc,0,none⟩
 ro:role bc=3
 nf:Nf1 bc w
 cp:∀j,j<kc*8->∃v,w.cell? ⟨bc,j,none⟩=some v
 lo:B<=bc
theorem Ccp.A(h:Ccp B w ac bc kc role)(b:role' bc=role bc)(n:Nf1 bc w')(c:∀j v,j<kc*8->w.cell? (aA bc j)=some v->∃u,w'.cell? (aA bc j)=some u):Ccp B w' ac bc kc role':=
 ⟨h.ad,b.trans h.ro,n,λj a=>let ⟨v,hv⟩:=h.cp j a;c j v a hv,h.lo⟩
theorem Ccp.block(h:Ccp B w ac bc kc role)(d:role' bc=role bc)(b:w'.heap[bc]?=w.heap[bc]?)(e:w.heap.size<=w'.heap.size):Ccp B w' ac bc kc role':=
 h.A d (uY h.nf b e) (λj v _ c=>⟨v,(kT (a:=(aA bc j)) b).trans c⟩)
theorem S7.some{o:Nat}(h:S7 w b o c)(j:Nat)(a:j<7):∃v,w.cell? (aA b (o+j))=some v:=by grind[S7,Hp.c,eX.cell,HAt.cell]
structure GAt[qr](B:Nat)(w:World)(g:Nat)(x:Hp)(ar:Option Addr)(kr:Nat)(ac:Option Addr)(kc:Nat)(vg:Value)(br bc:Nat)(pb:Nat->Nat)(pa:Nat->Option Addr)(pk:Nat->Nat)(role:Nat->Nat):Prop where
 bx:cK w g x (.slice ar x.B.length kr) (.slice ac x.A.length kc) vg
 nf:Nf1 g w
 lo:B<=g
 ha:0<x.B.length->ar=some ⟨br,0,none⟩
 hc:0<x.A.length->ac=some ⟨bc,0,none⟩
 rw:Rws B w x br bc pb pa pk
 gr:Grw w B vg x.D
 sp:GSep x role g br bc pb pk vg
 kl:x.A.length<=kc
 pr:Prt w role
 cc:0<kc->Ccp B w ac bc kc role
 rc:0<x.B.length->∀j,j<kr*3->∃v,w.cell? (aA br j)=some v
theorem GAt.rob[qr](h:GAt B w g x ar kr ac kc vg br bc pb pa pk role)(n:0<x.B.length)(f:w'.heap[br]?=w.heap[br]?)(j:Nat)(i:j<kr*3):∃v,w'.cell? (aA br j)=some v:=
 have⟨v,e⟩:=h.rc n j i;⟨v,(kT (a:=aA br j) f).trans e⟩
theorem GAt.ext[qr](h:GAt B w g x ar kr ac kc vg br bc pb pa pk role)(e:Ext w w'):GAt B w' g x ar kr ac kc vg br bc pb pa pk role:=
 ⟨h.bx.ext e,h.nf.ext e,h.lo,h.ha,h.hc,h.rw.ext e,h.gr.block (λq a=>e.block q (h.gr.lt q a).2),h.sp,h.kl,h.pr.of (λq a _=>e.block q a) (λ_ _ h=>h),λb=>(h.cc b).block rfl (e.block bc (h.cc b).nf.1) e.size,λn=>h.rob n (e.block br (h.rw.nr n).1.1)⟩
theorem GAt.V[qr](hz:∀q,(default:uL).z q=none){w7:World}{vg0:Value}{L:List (Cl×Value)}(h:CS x w3 w6 wr (.slice ar x.B.length kr) (.slice ac x.A.length kc) vg0 x.A.length L)(hr:wr.ownsRow (w3.heap.size+1) 48 3 (.slice ar x.B.length kr) x.B.length (x.B.flatMap fW))(hr6:∀q,(Value.slice ar x.B.length kr).ownBlock=some q->q<w6.heap.size)
  (h0:0<x.B.length) (hB:B<=w3.heap.size) (o7:uZ (λq=>q=w3.heap.size) wr w7) (hb7:cK w7 w3.heap.size x (.slice ar x.B.length kr) (.slice ac x.A.length kc) vg) (f7:Nf1 w3.heap.size w7) (hg:w7.ownsRow wr.heap.size 3 1 vg x.D.length (x.D.map iv)) :
  ∃br bc pb pa pk role,GAt B w7 w3.heap.size x ar kr ac kc vg br bc pb pa pk role:=by
 have hll:L.length=x.A.length:=h.len (hT _);have eL:L.map (·.1)=x.A:=by rw[h.eq,mG]
 have hlt:=h.lt;have hon:=h.on.size;have l1:∀q (hq:q<x.A.length),(L.getD q (Cl0,.slice none 0 0))∈L/\(L.getD q (Cl0,.slice none 0 0)).1=x.c q/\(L.getD q (Cl0,.slice none 0 0))=L[q]'(by omega):=λq hq=>by
  have e0:L.getD q (Cl0,.slice none 0 0)=L[q]'(by omega):=by simp[hll,hq]
  refine⟨by rw[e0];exact k7 _,?_,e0⟩;have e:x.A[q]=(L.map (·.1))[q]'(by simpa[hll]using hq):=by simp[eL]
  rw[<-Hp.c_eq x q hq,e,e0];simp
 have own8:0<x.A.length->Nf1 (qW (.slice ac x.A.length kc)) wr/\w6.heap.size<=qW (.slice ac x.A.length kc):=λhn=>b1d h.own hn
 have cell8:∀q,q<x.A.length->∀j,j<8->wr.cell? ⟨qW (.slice ac x.A.length kc),q*8+j,none⟩=(fC (L.getD q (Cl0,.slice none 0 0)))[j]?:=λq hq j hj=>by
  have:=a6i (f:=fC) (λ_=>rfl) (L:=L) (by rw[hll];exact h.own) q (by omega) j hj;rw[this,(l1 q hq).2.2]
 have hbr:=b1d hr h0;have hbr6:qW (.slice ar x.B.length kr)<w6.heap.size:=hr6 _ ((a0d hr).2 h0).2;have prs:∀q,q<x.A.length->wr.ownsRow w6.heap.size 53 6 (L.getD q (Cl0,.slice none 0 0)).2 (x.c q).F.length ((x.c q).F.flatMap fP)/\∀b,(L.getD q (Cl0,.slice none 0 0)).2.ownBlock=some b->(Value.slice ac x.A.length kc).ownBlock≠some b:=λq hq=>by
  have:=h.F _ (l1 q hq).1;rw[(l1 q hq).2.1]at this;exact this
 have dis:∀q q',q<x.A.length->q'<x.A.length->q≠q'->∀b,(L.getD q (Cl0,.slice none 0 0)).2.ownBlock=some b->(L.getD q' (Cl0,.slice none 0 0)).2.ownBlock≠some b:=λq q' hq hq' hne b hb=>by
  rw[(l1 q hq).2.2]at hb;rw[(l1 q' hq').2.2];exact h.dis q q' (by omega) (by omega) hne b hb
 have RW:=Rws.of (B:=w3.heap.size+1) (w:=wr) (x:=x) (vr:=.slice ar x.B.length kr) (bc:=qW (.slice ac x.A.length kc)) (pv:=λq=>(L.getD q (Cl0,.slice none 0 0)).2) hr (λq hq=>by
   rw[<-(l1 q hq).2.1];have:=cell8 q hq;exact⟨this 0 (by omega),this 1 (by omega),this 2 (by omega),this 3 (by omega),this 4 (by omega),this 5 (by omega),this 6 (by omega)⟩) (λq hq=>cell8 q hq 7 (by omega)) (λhn=>⟨(own8 hn).1,by have:=(own8 hn).2;omega⟩) (λhn=>by have:=(own8 hn).2;omega) (λq hq=>⟨a3q (prs q hq).1 (by omega),λb hb=>⟨by have:=((prs q hq).1.lt b hb).1;omega,λe=>by
    have hn:0<x.A.length:=by omega
    exact(prs q hq).2 b hb (by rw[((a0d h.own).2 hn).2,e])⟩⟩) dis
 have RW7:=RW.only o7 (λhl e=>by have:=(RW.nr hl).2;omega) (λhl e=>by have:=(RW.nc hl).2;omega) (λq hq hl e=>by have:=(RW.pl q hq hl).2.2.2;omega);refine⟨_,_,_,_,_,λq=>if q=w3.heap.size then 0 else if wr.heap.size<=q then 4 else if q=qW (.slice ar x.B.length kr) then 2 else if 0<kc/\q=qW (.slice ac x.A.length kc) then 3 else
  (open Classical in if h:∃i,i<x.A.length/\0<kQ (L.getD i (Cl0,.slice none 0 0)).2/\qW (L.getD i (Cl0,.slice none 0 0)).2=q then 6+Classical.choose h else 5),hb7,f7,hB,λh=>((a0d hr).2 h).1,λhn=>((a0d h.own).2 hn).1,RW7.less (by omega),Grw.of (a3q hg (by omega)),⟨if_pos rfl,λhl=>?_,λhl=>?_,λq hq=>?_,λq hq hl=>?_⟩,b8n h.own,λq o h=>(by rw[hz q]at h;cases h),λhk=>?_,λn j hj=>?_⟩
 have:=(RW.nr hl).2;have:=(RW.nr hl).1.1;rw[if_neg (by omega),if_neg (by omega),if_pos rfl];have:=(RW.nc hl).2;have:=(RW.nc hl).1.1;rw[if_neg (by omega),if_neg (by omega),if_neg (λe=>RW.d hl e.symm),if_pos ⟨kF hl (b8n h.own),rfl⟩];have:=(hg.lt q hq).1;rw[if_neg (by omega),if_pos (by omega)];have l2:=RW.pl q hq hl;have:=l2.2.2.2;have:=l2.2.1.1;have hex:∃i,i<x.A.length/\0<kQ (L.getD i (Cl0,.slice none 0 0)).2/\qW (L.getD i (Cl0,.slice none 0 0)).2=qW (L.getD q (Cl0,.slice none 0 0)).2:=⟨q,hq,hl,rfl⟩;rw[if_neg (by omega),if_neg (by omega),if_neg l2.2.2.1.1,if_neg (λe=>l2.2.2.1.2 e.2),dif_pos hex];have sp:=Classical.choose_spec hex;have:Classical.choose hex=q:=by
  obtain h|h:=Nat.decEq (Classical.choose hex) q;exact absurd sp.2.2 (RW.dp _ q sp.1 hq h sp.2.1 hl);exact h
 rw[this];have hk2:0<kQ (.slice ac x.A.length kc):=hk;obtain⟨k1,k2,k3,k4,k5⟩:=b8k h.own hk2;have e7:=o7.block (qW (.slice ac x.A.length kc)) k3.1 (λe=>by omega);refine⟨k1,?_,uY k3 e7 o7.size,λj hj=>?_,by omega⟩
 ·have:=k3.1;rw[if_neg (by omega),if_neg (by omega),if_neg (by omega),if_pos ⟨hk,rfl⟩]
 obtain⟨u,hu⟩:=k4 j hj;exact⟨u,(kT (a:=⟨_,j,none⟩) e7).trans hu⟩;obtain⟨k1,k2,k3,k4,k5⟩:=b8k hr (show 0<kQ (.slice ar x.B.length kr) from kF n (b8n hr));have e7:=o7.block (qW (.slice ar x.B.length kr)) k3.1 (λe=>by omega);obtain⟨u,hu⟩:=k4 j hj;exact⟨u,(kT (a:=⟨_,j,none⟩) e7).trans hu⟩
def a6e(x:Hp)(y:Wd):Bool:=mkB x && (y.k == 2 && (x.c y.a.toNat).J == 0)
def a5f(x:Hp)(y:Wd):Hp:=if a6e x y=true then { x with A:=x.A.set y.a.toNat (yV (x.c y.a.toNat)),D:=x.D++[y.a] } else x
theorem GAt.setc[qr]{c':Cl}(h:GAt B w g x ar kr ac kc vg br bc pb pa pk role)(P:i<x.A.length)(T:c'.F=(x.c i).F)(o:uZ (λq=>q=bc) w w')(Q:S7 w' bc (i*8) c')(H:∀k,(k<i*8\/i*8+7<=k)->w'.cell? (aA bc k)=w.cell? (aA bc k))(G:Nf1 bc w'):
  GAt B w' g { x with A:=x.A.set i c' } ar kr ac kc vg br bc pb pa pk role:=by
 have A:0<x.A.length:=by omega
 have f:∀q,q<w.heap.size->role q≠3->w'.heap[q]?=w.heap[q]?:=λq b u=>o.block q b (λe=>u (e▸h.sp.c A))
 have l:({ x with A:=x.A.set i c' }:Hp).A.length=x.A.length:=by simp
 have m:∀q,(({ x with A:=x.A.set i c' }:Hp).c q).F=(x.c q).F:=λq=>by grind[Hp.c,S7,Nf1]
 have E:=f g h.nf.1 (by rw[h.sp.g];omega);have F:∀q,q<x.A.length->0<pk q->w'.heap[pb q]?=w.heap[pb q]?:=λq b l=>f (pb q) (h.rw.pl q b l).2.1.1 (by rw[h.sp.p q b l];omega)
 refine⟨?_,uY h.nf E o.size,h.lo,h.ha,λ_=>h.hc A,⟨λk t=>?_,λq b=>?_,λq b=>?_,λq b k t=>?_,λq b n=>?_,λu=>⟨uY (h.rw.nr u).1 (f br (h.rw.nr u).1.1 (by rw[h.sp.r u];omega)) o.size,(h.rw.nr u).2⟩,λ_=>⟨G,(h.rw.nc A).2⟩,λ_=>h.rw.d A,λq N b z C D M=>?_,λq b=>?_⟩,h.gr.block (λq b=>f q (h.gr.lt q b).2 (by rw[h.sp.y q b];omega)),⟨h.sp.g,h.sp.r,λ_=>h.sp.c A,h.sp.y,λq b n=>?_⟩,l▸h.kl,h.pr.of (λq b D=>f q b (by rw[D];omega)) (λ_ _ h=>h),λt=>(h.cc t).A rfl G (λj v _ R=>?_),λn=>h.rob n (f br (h.rw.nr n).1.1 (by rw[h.sp.r n];omega))⟩;rw[l];exact(h.bx.block E);exact(h.rw.r k t).of λj _=>cOb br _ (f br (h.rw.nr (by have:k<x.B.length:=t;omega)).1.1 (by rw[h.sp.r (by have:k<x.B.length:=t;omega)];omega))
 rw[l]at b;rw[(Hp.c_set x i c' P) q];by_cases e:q=i
 ·subst e;rw[if_pos rfl];exact Q
 rw[if_neg e];exact(h.rw.s q b).of λj S=>H _ (by omega)
 rw[l]at b;rw[m q,H _ (by omega)];exact h.rw.p7 q b;rw[l]at b;have O:(({ x with A:=x.A.set i c' }:Hp).c q).p k=(x.c q).p k:=by simp only[Cl.p,m q]
 rw[m q]at t;rw[O];exact(h.rw.p q b k t).of λj _=>cOb (pb q) _ (F q b (h.rw.pw b (by omega)))
 rw[l]at b;have⟨L,K,J⟩:=h.rw.pl q b n;exact⟨L,eN K (F q b n) o.size,J⟩;rw[l]at b z;exact h.rw.dp q N b z C D M;rw[l]at b;rw[m q];exact h.rw.kp q b;rw[l]at b;exact h.sp.p q b n;grind[S7.some,Grw.at,Hp.c,S7,Nf1]
theorem GAt.push[qr]{i:Int}{gb go:Nat}(h:GAt B W g x ar kr ac kc vg br bc pb pa pk role)(C:W.grownBy w5 vg.ownBlock)(G:Grw w5 B (sO gb go (x.D.length+1) cap) (x.D++[i]))(A:vg.ownBlock=some gb\/gb=W.heap.size):
  GAt B (w5.setCell (aA g 8) (sO gb go (x.D.length+1) cap)) g { x with D:=x.D++[i] } ar kr ac kc (sO gb go (x.D.length+1) cap) br bc pb pa pk (λq=>if q=gb then 4 else role q):=by
 have m:∀q,q<W.heap.size->role q≠4->q≠gb:=λq f t e=>by
  obtain a|a:=A;exact t (e▸h.sp.y gb a);omega
 have u:∀q,q<W.heap.size->role q≠4->w5.heap[q]?=W.heap[q]?:=λq f t=>C.block q f (λe=>t (h.sp.y q e.symm))
 have D:=h.nf.1;have F:role g≠4:=by rw[h.sp.g];omega
 have E:=u g D F;have o:=m g D F;have k:∀q,q<W.heap.size->role q≠4->q≠g->(w5.setCell (aA g 8) (sO gb go (x.D.length+1) cap)).heap[q]?=W.heap[q]?:=λq f t z=>(kP _ _ _ _ z).trans (u q f t)
 have v:W.heap.size<=(w5.setCell (aA g 8) (sO gb go (x.D.length+1) cap)).heap.size:=by have:=C.size;simpa[World.setCell]using this
 have j:=h.rw.same v (λb=>k br (h.rw.nr b).1.1 (by rw[h.sp.r b];omega) (λe=>by have l:=h.sp.r b;have w:=h.sp.g;rw[e]at l;omega)) (λb=>k bc (h.rw.nc b).1.1 (by rw[h.sp.c b];omega) (λe=>by have l:=h.sp.c b;have w:=h.sp.g;rw[e]at l;omega)) (λq f b=>k (pb q) (h.rw.pl q f b).2.1.1 (by rw[h.sp.p q f b];omega) (λe=>by have l:=h.sp.p q f b;have w:=h.sp.g;rw[e]at l;omega));refine⟨(h.bx.block E).set8 _,(uY h.nf E C.size).set _ _,h.lo,h.ha,h.hc,⟨j.r,j.s,j.p7,j.p,j.pl,j.nr,j.nc,j.d,j.dp,j.kp⟩,?_,⟨?_,λb=>?_,λb=>?_,λq f=>?_,λq f b=>?_⟩,h.kl,h.pr.of (λq f l=>k q f (by rw[l];omega) (λe=>by have w:=h.sp.g;rw[e]at l;omega)) (λq f l=>by(try dsimp only);rw[if_neg (m q f (by rw[l];omega))];exact l),λn=>(h.cc n).block (if_neg (m bc (h.cc n).nf.1 (by rw[(h.cc n).ro];omega))) (k bc (h.cc n).nf.1 (by rw[(h.cc n).ro];omega) (λe=>by have l:=(h.cc n).ro;have w:=h.sp.g;rw[e]at l;omega)) v,λb=>h.rob b (k br (h.rw.nr b).1.1 (by rw[h.sp.r b];omega) (λe=>by have l:=h.sp.r b;have w:=h.sp.g;rw[e]at l;omega))⟩;exact G.block (w':=w5.setCell (aA g 8) (sO gb go (x.D.length+1) cap)) (λq f=>kP _ _ _ _ (λe=>o (by simp[Value.ownBlock]at f;rw[f];exact e.symm)));rw[if_neg o];exact h.sp.g;rw[if_neg (m br (h.rw.nr b).1.1 (by rw[h.sp.r b];omega))];exact h.sp.r b;rw[if_neg (m bc (h.rw.nc b).1.1 (by rw[h.sp.c b];omega))];exact h.sp.c b;simp[Value.ownBlock]at f;rw[if_pos f.symm];rw[if_neg (m (pb q) (h.rw.pl q f b).2.1.1 (by rw[h.sp.p q f b];omega))];exact h.sp.p q f b
theorem a8i(x:Hp)(b:Nat)(w:World)(a:w.cell? (aA b 5)=some (iv x.E)):
  Calls prog 125 #[pP b] w λe w'=>e=.returned (.bool (mkB x))/\w'=w:=by
 cases q:(x.E == 1)
 ·have E:=uU (show mkB x=(x.E == 2) by simp[mkB,q]);go_in;go_wp2;go_ret;exact⟨by rw[uH E];rfl,rfl⟩
 go_in;go_wp2;go_ret;exact⟨by rw[(show mkB x=true by simp[mkB,q])];rfl,rfl⟩
def GOk[qr](B:Nat)(w:World)(g:Nat)(x:Hp):Prop:=∃ar kr ac kc vg br bc pb pa pk role,GAt B w g x ar kr ac kc vg br bc pb pa pk role
theorem GOk.ext[qr](h:GOk B w g x)(e:Ext w w'):GOk B w' g x:=by
 have⟨b,j,n,m,f,i,k,l,c,d,a,h⟩:=h;exact⟨b,j,n,m,f,i,k,l,c,d,a,h.ext e⟩
theorem GAt.boxed[qr]{x':Hp}(h:GAt B w g x ar kr ac kc vg br bc pb pa pk role)(o:uZ (λq=>q=g) w w')(J:Nf1 g w')(n:x'.B=x.B)(f:x'.A=x.A)(I:x'.D=x.D)(H:cK w' g x' (.slice ar x.B.length kr) (.slice ac x.A.length kc) vg):GAt B w' g x' ar kr ac kc vg br bc pb pa pk role:=by
 have j:∀q,q<w.heap.size->role q≠0->w'.heap[q]?=w.heap[q]?:=λq a G=>o.block q a (λe=>G (e▸h.sp.g))
 have u:∀q,x'.c q=x.c q:=λq=>by simp only[Hp.c,f]
 have b:=h.rw.same o.size (λl=>j br (h.rw.nr l).1.1 (by rw[h.sp.r l];omega)) (λl=>j bc (h.rw.nc l).1.1 (by rw[h.sp.c l];omega)) (λq a l=>j (pb q) (h.rw.pl q a l).2.1.1 (by rw[h.sp.p q a l];omega));refine⟨by rw[n,f];exact H,J,h.lo,n▸h.ha,f▸h.hc,?_,I▸h.gr.block (λq a=>j q (h.gr.lt q a).2 (by rw[h.sp.y q a];omega)),?_,f▸h.kl,h.pr.of (λq a A=>j q a (by rw[A];omega)) (λ_ _ h=>h),λm=>(h.cc m).block rfl (j bc (h.cc m).nf.1 (by rw[(h.cc m).ro];omega)) o.size,by rw[n];exact λl=>h.rob l (j br (h.rw.nr l).1.1 (by rw[h.sp.r l];omega))⟩;refine⟨λi C=>?_,λq a=>?_,λq a=>?_,λq a k m=>?_,λq a l=>?_,?_,?_,?_,λq E a t v A D=>?_,λq a=>?_⟩
 ·have z:i<x.B.length:=n▸C;have F:x'.B[i]=x.B[i]:=by simp[n]
  rw[F];exact b.r i z
 rw[f]at a;rw[u];exact b.s q a;rw[f]at a;rw[u];exact b.p7 q a;rw[f]at a;rw[u]at m ⊢;exact b.p q a k m;rw[f]at a;exact b.pl q a l;rw[n];exact b.nr;rw[f];exact b.nc;rw[f];exact b.d;rw[f]at a t;exact b.dp q E a t v A D;rw[f]at a;rw[u];exact b.kp q a;refine⟨h.sp.g,n▸h.sp.r,f▸h.sp.c,h.sp.y,λq a l=>?_⟩;rw[f]at a;exact h.sp.p q a l
theorem GOk.set6[qr](h:GOk B w g x)(v:Int):GOk B (w.setCell (aA g 6) (iv v)) g { x with I:=v }:=by
 have⟨b,i,m,l,e,f,j,k,c,d,a,h⟩:=h;exact⟨_,_,_,_,_,_,_,_,_,_,_,h.boxed (x':={ x with I:=v }) (tJ w g 6 _) (h.nf.set _ _) rfl rfl rfl (h.bx.set6 v)⟩
theorem GOk.set7[qr](h:GOk B w g x)(v:Int):GOk B (w.setCell (aA g 7) (iv v)) g { x with sub:=v }:=by
 have⟨b,i,m,l,e,f,j,k,c,d,a,h⟩:=h;exact⟨_,_,_,_,_,_,_,_,_,_,_,h.boxed (x':={ x with sub:=v }) (tJ w g 7 _) (h.nf.set _ _) rfl rfl rfl (h.bx.set7 v)⟩
theorem GOk.box[qr](h:GOk B w g x):w.cell? (aA g 6)=some (iv x.I)/\w.cell? (aA g 7)=some (iv x.sub)/\w.cell? (aA g 5)=some (iv x.E)/\(∀o,w.frozen? (aA g o)=false)/\B<=g/\g<w.heap.size:=by
 have⟨b,i,m,l,e,f,j,k,c,d,a,h⟩:=h;exact⟨h.bx.2.2.2.2.2.2.1,h.bx.2.2.2.2.2.2.2.1,h.bx.2.2.2.2.2.1,h.nf.2,h.lo,h.nf.1⟩
theorem a1p(h:w.heap[q]?=some o):q<w.heap.size:=by grind[S7.some,Grw.at]
theorem GAt.far{z z2:Nat->Option Obj}(h:@GAt ⟨⟨z⟩⟩ B w g x ar kr ac kc vg br bc pb pa pk role)(n:w.heap.size<=w'.heap.size)(e:∀q,q<w.heap.size->role q≠1->w'.heap[q]?=w.heap[q]?)(i:∀q,q<w.heap.size->role q≠1->role' q=role q)(D:∀q o,z2 q=some o->role' q=1/\w'.heap[q]?=some o):@GAt ⟨⟨z2⟩⟩ B w' g x ar kr ac kc vg br bc pb pa pk role':=by
 obtain⟨t,m,v,C,u,f,l,b,A,_,j,R⟩:=h;have s:=e g m.1 (by rw[b.g];omega);letI:Inhabited uL:=⟨⟨z2⟩⟩;refine⟨t.block s,uY m s n,v,C,u,f.same n (λa=>e br (f.nr a).1.1 (by rw[b.r a];omega)) (λa=>e bc (f.nc a).1.1 (by rw[b.c a];omega)) (λq d a=>e (pb q) (f.pl q d a).2.1.1 (by rw[b.p q d a];omega)),l.block (λq d=>e q (l.lt q d).2 (by rw[b.y q d];omega)),⟨?_,λa=>?_,λa=>?_,λq d=>?_,λq d a=>?_⟩,A,D,λk=>(j k).block (i bc (j k).nf.1 (by rw[(j k).ro];omega)) (e bc (j k).nf.1 (by rw[(j k).ro];omega)) n,λa i k=>have⟨o,p⟩:=R a i k;⟨o,(kT (a:=aA br i) (e br (f.nr a).1.1 (by rw[b.r a];omega))).trans p⟩⟩;rw[i g m.1 (by rw[b.g];omega)];exact b.g;rw[i br (f.nr a).1.1 (by rw[b.r a];omega)];exact b.r a;rw[i bc (f.nc a).1.1 (by rw[b.c a];omega)];exact b.c a;rw[i q (l.lt q d).2 (by rw[b.y q d];omega)];exact b.y q d;rw[i (pb q) (f.pl q d a).2.1.1 (by rw[b.p q d a];omega)];exact b.p q d a
theorem GOk.guard{z z2:Nat->Option Obj}(h:@GOk ⟨⟨z⟩⟩ B w0 g x)(e:Ext w0 w)(C:∀q o,z2 q=some o->z q=some o\/(w0.heap.size<=q/\w.heap[q]?=some o)):@GOk ⟨⟨z2⟩⟩ B w g x:=by
 have⟨i,p,y,n,k,u,l,m,j,t,c,h⟩:=h;have A:=h;obtain⟨_,_,_,_,_,_,_,_,_,r,_⟩:=A;refine⟨i,p,y,n,k,u,l,m,j,t,λq=>if w0.heap.size<=q then 1 else c q,GAt.far h e.size (λq d _=>e.block q d) (λq d _=>if_neg (by omega)) (λq o d=>?_)⟩;obtain a|⟨a,b⟩:=C q o d;have⟨v,f⟩:=r q o a;have s:=a1p f;exact⟨by show(if w0.heap.size<=q then 1 else c q)=1;rw[if_neg (by omega)];exact v,(e.block q s).trans f⟩;exact⟨if_pos a,b⟩
structure Own(p:Inhabited uL)(lo hi:Nat)(c:World)(p1:Inhabited uL):Prop where
 z:∀q,(@default uL p1).z q=if lo<=q/\q<hi then c.heap[q]? else (@default uL p).z q
 l:∀q o,(@default uL p).z q=some o->q<lo
 h:hi<=c.heap.size
theorem Own.make(p:Inhabited uL)(b a:Nat)(c:World)(l:∀q o,(@default uL p).z q=some o->q<b)(h:a<=c.heap.size):∃p1,Own p b a c p1:=⟨⟨⟨λq=>if b<=q/\q<a then c.heap[q]? else (@default uL p).z q⟩⟩,λ_=>rfl,l,h⟩
theorem a2x(h:q<w.heap.size):∃o,w.heap[q]?=some o:=⟨_,nL h⟩
theorem GOk.enter{p:Inhabited uL}(h:@GOk p B w g x)(e:Ext w w0):∃p1,Own p w.heap.size w0.heap.size w0 p1/\@GOk p1 B w0 g x:=by
 have b:=h;have⟨j,s,v,r,l,u,m,n,k,t,f,b⟩:=b;have⟨_,_,_,_,_,_,_,_,_,i,_,_⟩:=b;have⟨p1,d⟩:=Own.make p w.heap.size w0.heap.size w0 (λq o a=>a1p (i q o a).2) (hT _);refine⟨p1,d,GOk.guard (z:=(@default uL p).z) (z2:=(@default uL p1).z) h e (λq o a=>?_)⟩;rw[d.z]at a;split at a;rename_i c;exact .inr ⟨c.1,a⟩;exact .inl a
theorem GOk.own{p p1:Inhabited uL}{c:World}(o:Own p lo hi c p1)(h:@GOk p1 B w g x):∀q,lo<=q->q<hi->w.heap[q]?=c.heap[q]?:=λq i f=>by
 have⟨j,s,v,r,l,u,m,n,k,t,b,h⟩:=h;have⟨_,_,_,_,_,_,_,_,_,d,_,_⟩:=h;have⟨e,a⟩:=a2x (w:=c) (q:=q) (by have:=o.h;omega);have:=(d q e (by rw[o.z q,if_pos ⟨i,f⟩];exact a)).2;rw[this,a]
theorem GOk.owns{p p1 p2:Inhabited uL}{c:World}(o:Own p lo hi c p1)(h:@GOk p1 B w g x)(l:uZ (λq=>lo<=q/\q<hi) w w')(J:∀q ob,(@default uL p2).z q=some ob->(lo<=q/\q<hi/\w'.heap[q]?=some ob)\/(¬(lo<=q/\q<hi)/\(@default uL p).z q=some ob)):@GOk p2 B w' g x:=by
 have⟨s,D,G,C,u,F,y,A,t,E,f,h⟩:=h;have I:=h;obtain⟨_,_,_,_,_,_,_,_,_,r,_⟩:=I;have n:∀q,lo<=q->q<hi->f q=1:=λq k i=>by
  obtain⟨ob,v⟩:=a2x (w:=c) (q:=q) (by have:=o.h;omega);exact(r q ob (by rw[o.z q,if_pos ⟨k,i⟩];exact v)).1
 refine⟨s,D,G,C,u,F,y,A,t,E,f,GAt.far (z:=(@default uL p1).z) (z2:=(@default uL p2).z) h l.size (λq j H=>l.block q j (λe=>H (n q e.1 e.2))) (λ_ _ _=>rfl) (λq m j=>?_)⟩;obtain⟨a,b,d⟩|⟨a,d⟩:=J q m j;exact⟨n q a b,d⟩;have⟨k,i⟩:=r q m (by rw[o.z q,if_neg a];exact d);exact⟨k,(l.block q (a1p i) a).trans i⟩
theorem GOk.leave{p p1:Inhabited uL}{c:World}(o:Own p lo hi c p1)(h:@GOk p1 B w g x)(d:uZ (λq=>lo<=q/\q<hi) w w'):@GOk p B w' g x:=
 GOk.owns o h d (λq b a=>.inr ⟨λe=>by have:=o.l q b a;omega,a⟩)
def Hp0:Hp:=⟨0,0,0,[],[],0,0,0,[],0,0,0,0⟩
theorem qU.r5(h:qU x 0):R5 x:=by grind[qU,R5]
theorem a6m(x:Hp):∀(k:Nat)(L:List Nat),k<=x.A.length->L.Nodup->(∀i,i∈L->i<k/\(x.c i).st=1)->L.length<=dZ (x.A.take k)
 | 0,L,_,_,h=>by
  cases L with
  | nil=>simp
  | cons a L=>have:=(h a (mP ..)).1;omega
 | k+1,L,hk,hn,h=>by
  have e:dZ (x.A.take (k+1))=dZ (x.A.take k)+cL (x.c k):=by
   rw[a5i x.A k (by omega),Hp.c_eq x k (by omega)]
  by_cases hm:k∈L;have h1:=a6m x k (L.erase k) (by omega) (hn.erase k) (λi hi=>by
   have h2:=h i (List.mem_of_mem_erase hi);have h3:i≠k:=λe=>by rw[e]at hi;exact(List.Nodup.not_mem_erase hn) hi
   exact⟨by omega,h2.2⟩)
  rw[qk hm]at h1;have h4:cL (x.c k)≥1:=by unfold cL;rw[if_pos (h k hm).2];omega
  have h5:0<L.length:=List.length_pos_of_mem hm;omega;have h1:=a6m x k L (by omega) hn (λi hi=>by
   have h2:=h i hi;have h3:i≠k:=λe=>hm (by rw[<-e];exact hi)
   exact⟨by omega,h2.2⟩)
  omega
theorem b3y(d:R5 x):x.D.Nodup:=by
 rw[List.nodup_iff_count];intro g;by_cases f:g∈x.D;have⟨i,h⟩:=d.2.2 g f;have e:((g.toNat:Nat):Int)=g:=by omega
 have b:=d.2.1 g.toNat (by omega);by_cases a:(x.c g.toNat).J=1;have:=b.1 a;unfold cnt at this;rw[e]at this;omega;have:=b.2.1 a;unfold cnt at this;rw[e]at this;omega;grind[R5]
theorem b1f(j:R2 x)(d:R5 x)(g:Int)(b:g∈x.D):(x.c g.toNat).J=1/\(x.c g.toNat).st=1:=by
 have⟨l,k⟩:=d.2.2 g b;have e:((g.toNat:Nat):Int)=g:=by omega
 have a:(x.c g.toNat).J=1:=by
  obtain i|f:=Int.decEq (x.c g.toNat).J 1;have:=(d.2.1 g.toNat (by omega)).2.1 i;unfold cnt at this;rw[e]at this;exact absurd b (nV.1 this);exact f
 refine⟨a,?_⟩;obtain c|c|c:=j.1 g.toNat (by omega);have:=c.2.1.2.2.2.2.1;omega;have:=c.2.1.2.2.2.2.1;omega;exact c.1
theorem a2d(q:qU x 0):x.D.length<=4000/\∀i,i<x.A.length->eE x i=true->x.D.length<4000:=by
 have⟨r,s,n,_⟩:=q.all;have a:=q.r5;have v:(dZ x.A:Int)<=4000:=by have:=n.1;have:=n.2;have:=r.M;omega
 have p:(x.D.map Int.toNat).Nodup:=by
  unfold List.Nodup;rw[qG];exact ql (λt d l e=>l (by have:=(a.2.2 _ t).1;have:=(a.2.2 _ d).1;omega)) (b3y a)
 have k:∀i,i∈x.D.map Int.toNat->i<x.A.length/\(x.c i).st=1/\(x.c i).J=1:=λi b=>by
  obtain⟨g,m,rfl⟩:=mg.1 b;have o:=a.2.2 g m;have f:=b1f s a g m;exact⟨by omega,f.2,f.1⟩
 have o:=a6m x x.A.length (x.D.map Int.toNat) (hT _) p (λi b=>⟨(k i b).1,(k i b).2.1⟩);rw[mG,mh]at o;refine⟨by omega,λi b d=>?_⟩;have u:(x.c i).st=1/\(x.c i).J=0:=by simp[eE,whB]at d;exact d.2
 have f:=a6m x x.A.length (i::x.D.map Int.toNat) (hT _) (List.nodup_cons.2 ⟨λh=>by have:=(k i h).2.2;omega,p⟩) (λj w=>by grind[a6m,uZ.A,qU,eE]);rw[mG,mX,mh]at f;omega
theorem b4a[qr](y:Wd)(w:World)(h:GAt B w g x ar kr ac kc (.slice ag x.D.length kg) br bc pb pa pk role)(hy:y.k=2->0<=y.a/\y.a<x.A.length)(n2:x.A.length<=8000)(n4:x.D.length<=8000)(a:World)(ha:a.heap.size<=B)(hx:Ext a w)(hB:B<=w.heap.size):
  Calls prog 128 #[pP g,y.v] w λe w'=>e=.returned (.bool (a6e x y))/\Hid (∃ag' kg' role',GAt B w' g (a5f x y) ar kr ac kc (.slice ag' (a5f x y).D.length kg') br bc pb pa pk role')/\Ext a w'/\Hid (∀q,q<w.heap.size->q≠g->q≠bc->(∀b o n,ag=some ⟨b,o,n⟩->b≠q)->w'.heap[q]?=w.heap[q]?):=by
 obtain⟨j,f⟩:∃W,W=w.alloc (oWd y):=⟨_,rfl⟩;have xa:Ext w j:=by rw[f];exact(hO w).alloc _
 have A:=uU (show ∀n q,q<w.heap.size->(j.drewN n).heap[q]?=w.heap[q]? from λn q t=>(xa.trans ((hO j).drewN n)).block q t);have H:=uU (h.ext xa);have aq:=cLt h.bx.1;have P:=uU (hx.trans xa);have N:=H.bx.2.2.2.2.2.1;have y0:j.cell? (aA w.heap.size 0)=some (iv y.k):=by rw[f];simp[go_sem]
 have y2:j.cell? (aA w.heap.size 2)=some (iv y.a):=by rw[f];simp[go_sem]
 have al:=cLt y0;have Y:=uU (λn r (hr:mkB x=r)=>show Calls prog 125 #[pP g] (j.drewN n) (λe w'=>e=.returned (.bool r)/\w'=j.drewN n) from hr ▸ a8i x g (j.drewN n) (((hO j).drewN n).keep N));cases K:mkB x;have E:=uU (show a6e x y=false/\a5f x y=x by simp[a5f,a6e,K]);clear h N;go_in;go_wp21;rw[<-f];clear f;go_quiet ((go_at_call 125;exact Calls.quiet_of_same (Y _ _ K)));go_wp21;go_ret;exact⟨by rw[E.1];rfl,by rw[E.2];exact⟨_,_,_,H.ext ((hO j).drewN _)⟩,P.drewN _,λq t _ _ _=>uH A _ q t⟩
 cases L:(y.k == 2)
 ·have E:=uU (show a6e x y=false/\a5f x y=x by simp[a5f,a6e,L]);have af:(y.k != 2)=true:=by simpa using L
  clear h N;go_in;go_wp21;rw[<-f];clear f;go_quiet ((go_at_call 125;exact Calls.quiet_of_same (Y _ _ K)));go_wp21;go_ret;exact⟨by rw[E.1];rfl,by rw[E.2];exact⟨_,_,_,H.ext ((hO j).drewN _)⟩,P.drewN _,λq t _ _ _=>uH A _ q t⟩
 have af:(y.k != 2)=false:=by simpa using L
 obtain⟨i,V⟩:∃i:Nat,y.a=(i:Int):=⟨y.a.toNat,by have:=(hy (by simpa using L)).1;omega⟩;have I:i<x.A.length:=by have:=(hy (by simpa using L)).2;omega
 have M:0<x.A.length:=by omega
 have u:y.a.toNat=i:=by omega
 rw[V]at y2;have d4:=H.bx.2.2.2.2.1;rw[H.hc M]at d4;have s5:=(H.rw.s i I).2.2.2.2.2.1;have f5:=(H.rw.nc M).1.2 (i*8+5);have an:bc<w.heap.size:=(h.rw.nc M).1.1;have i0:=i0N i;have i1:(i:Int)<(x.A.length:Int):=by omega
 cases Q:((x.c i).J == 0)
 have E:=uU (show a6e x y=false/\a5f x y=x by simp[a5f,a6e,u,Q]);have aj:((x.c i).J != 0)=true:=by simpa using Q
 clear h N V u;go_in;go_wp21;rw[<-f];clear f;go_quiet ((go_at_call 125;exact Calls.quiet_of_same (Y _ _ K)));go_wp21;go_ret;exact⟨by rw[E.1];rfl,by rw[E.2];exact⟨_,_,_,H.ext ((hO j).drewN _)⟩,P.drewN _,λq t _ _ _=>uH A _ q t⟩;have aj:((x.c i).J != 0)=false:=by simpa using Q
 have E:=uU (show a6e x y=true/\a5f x y={ x with A:=x.A.set i (yV (x.c i)),D:=x.D++[(i:Int)] } by
  have hb:a6e x y=true:=by simp[a6e,u,K,L,Q]
  refine⟨hb,?_⟩;unfold a5f;rw[if_pos hb,u,V])
 clear h N V u;go_in;go_wp21;rw[<-f];clear f;go_quiet ((go_at_call 125;exact Calls.quiet_of_same (Y _ _ K)));go_wp21;go_region;all_goals
  go_wp21;obtain⟨m,l⟩:∃W,W=(j.drewN (nq+1)).setCell (aA bc (i*8+5)) (iv 1):=⟨_,rfl⟩;have U:=uU (H.ext ((hO j).drewN (nq+1)));have z:=uU (show GAt B m g { x with A:=x.A.set i (yV (x.c i)) } ar kr ac kc (.slice ag x.D.length kg) br bc pb pa pk role by
   rw[l];refine U.setc I rfl (uZ.setCell (S:=λq=>q=bc) (uZ.refl _ (j.drewN (nq+1))) (p:=(aA bc (i*8+5))) rfl _) ?_ (λk hk=>uC _ (.inr (by omega))) ((U.rw.nc M).1.set _ _);obtain⟨a0,a1,a2,a3,a4,a5,a6⟩:=U.rw.s i I;refine⟨?_,?_,?_,?_,?_,kM _ _ _ a5,?_⟩;rw[uC _ (.inr (by omega))];exact a0;rw[uC _ (.inr (by omega))];exact a1;rw[uC _ (.inr (by omega))];exact a2;rw[uC _ (.inr (by omega))];exact a3;rw[uC _ (.inr (by omega))];exact a4;rw[uC _ (.inr (by omega))];exact a6)
  have X2:Ext a m:=by rw[l];exact(P.drewN _).setCell (show a.heap.size<=bc from kA ha (H.rw.nc M).2) _
  have z2:m.cell? (aA w.heap.size 2)=some (iv i):=by
   rw[l,uC _ (.inl (by omega))];exact((hO j).drewN (nq+1)).keep y2
  have c8:=z.bx.2.2.2.2.2.2.2.2.1;have f8:=z.nf.2 8;have ak:=cLt c8;have ao:B<=m.heap.size:=by have X:m.heap.size=j.heap.size:=(by rw[l];simp[World.setCell]);omega
  obtain⟨ii,ae,ab,ai,u⟩:=info_parts a6h;have G:=uU (show ∀q,q<w.heap.size->q≠bc->m.heap[q]?=w.heap[q]?/\q<m.heap.size from λq t ah=>⟨by rw[l,kP _ _ _ _ ah];exact A _ q t,by have X:m.heap.size=j.heap.size:=(by rw[l];simp[World.setCell]);omega⟩);rw[<-l];clear l U;have F:=uU (show ∀W,Ext m W->Grw W B (.slice ag x.D.length kg) x.D from λW e=>z.gr.block (λq t=>e.block q (z.gr.lt q t).2));go_region_law (refine b1e _ rfl _ _ 25 rfl ii (iv 0) B (.slice ag x.D.length kg) x.D underlying25 ae ab ai u rfl (by first|rfl|simp[Act.eval,Act.put]) (by first|exact F _ (eAl m _)|exact F _ (eAl m _).drew|exact F _ ((eDr m).alloc _)) _ 1 i (by first|rfl|simp[Act.eval,Act.put];rfl) (by simp[go_sem]) (by omega) (by simp;omega) ?_;intro Z go D w3 C d O am;have J:=kI (eAl m (.cells #[iv i] 3)) ((hO (m.alloc (.cells #[iv i] 3))).drew);have R:=uU ((z.ext J).push d C (by simpa using O));have eb:w3.heap[g]?=m.heap[g]?:=(d.block g (by simp;omega) (λe=>by have X:=z.sp.y _ e.symm;have T:=z.sp.g;omega)).trans (J.block g ak);have e8:=(cOb g 8 eb).trans c8;have ap:=(fOb g 8 eb).trans f8;have X3:=uU (show Ext a (w3.setCell (aA g 8) (sO Z go (x.D.length+1) D)) from(mV (X2.trans J) ⟨d.os,d.tape,d.output,d.size,λk hk=>d.block k (kF hk (X2.trans J).size) (λe=>by have:=(z.gr.lt k e.symm).1;omega)⟩).setCell (kA ha z.lo) _);have aa:=uU (show ∀q,q<w.heap.size->q≠g->q≠bc->(∀b o n,ag=some ⟨b,o,n⟩->b≠q)->(w3.setCell (aA g 8) (sO Z go (x.D.length+1) D)).heap[q]?=w.heap[q]? from λq t X T h3=>(kP _ _ _ _ X).trans ((d.block q (by have:=(G q t T).2;simp;omega) (λe=>by cases ag with|none=>simp[Value.ownBlock]at e|some ad=>obtain⟨b,o,n⟩:=ad;simp[Value.ownBlock]at e;exact h3 b o n rfl e.symm)).trans ((J.block q (G q t T).2).trans (G q t T).1)));clear C d O eb J);all_goals
   go_wp21;go_ret;exact⟨by rw[E.1];rfl,by rw[E.2];exact⟨some (aA Z go),D,_,by rw[ko];exact uH R⟩,X3,aa⟩
theorem a6n[qr](y:Wd)(w:World)(h:GAt B w g x ar kr ac kc (.slice ag x.D.length kg) br bc pb pa pk role)(f:y.k=2->0<=y.a/\y.a<x.A.length)(l:x.A.length<=8000)(j:x.D.length<=8000)(a:World)(n:a.heap.size<=B)(m:Ext a w)(i:B<=w.heap.size):
  Calls prog 128 #[pP g,y.v] w λe w'=>e=.returned (.bool (a6e x y))/\Hid (∃ag' kg' role',GAt B w' g (a5f x y) ar kr ac kc (.slice ag' (a5f x y).D.length kg') br bc pb pa pk role')/\Ext a w':=
 (b4a y w h f l j a n m i).mono λ_ _ ⟨d,c,b,_⟩=>⟨d,c,b⟩
theorem c6c(h:x.E=0\/x.E=4):(((x.I == 0) && (x.sub == 0))=true↔R6 x):=by grind[R6]
theorem R6_1(h:x.E=1\/x.E=3\/x.E=6):((x.sub == 0)=true↔R6 x):=by grind[R6]
theorem c0h(x:Hp)(b:Nat)(w:World)(h:HAt w b x ar kr ac kc ag kg)(r1:R1 x)(Z:R5 x):
  Calls prog 63 #[pP b] w λe w'=>∃r:Bool,e=.returned (.bool r)/\(r=true↔R6 x)/\Ext w w':=by
 have c4:=h.c4;have c5:=h.c5;have D:=h.c6;have c7:=h.c7;have c8:=h.c8;have lg:=h.lg;obtain⟨X,K⟩:=r1.E;obtain⟨A,L⟩:=r1.I;have d:x.E=0\/x.E=1\/x.E=2\/x.E=3\/x.E=4\/x.E=5\/x.E=6:=by omega
 obtain a|a|a|a|a|a|a:=d
 ·have Y:=uU (c6c (x:=x) (kj a));cases q:(x.I == 0);all_goals
   go_in;go_wp2;go_ret;exact⟨_,rfl,by have:=uH Y;rw[q]at this;simpa using this,hO _⟩
 ·have Y:=uU (R6_1 (x:=x) (kj a));go_in;go_wp2;go_ret;exact⟨_,rfl,Y,hO _⟩
 ·cases q:(x.I == 0)
  ·have Y:=uU (show ¬R6 x from λr=>by have:=(r.2.1 a).1;simp at q;omega);have R:(x.I != 0)=true:=by simpa using q
   go_in;go_wp2;go_ret;exact⟨false,rfl,fNo Y,hO _⟩
  have R:(x.I != 0)=false:=by simpa using q
  by_cases B:x.D.length=0
  ·have Y:=uU (show(x.sub == 0)=true↔R6 x by
    have l:x.I=0:=by simpa using q
    unfold R6;simp[a,B,l])
   go_in;go_wp2;go_ret;exact⟨_,rfl,Y,hO _⟩
  have g:0<x.D.length:=by omega
  have p:=Z.2.2 x.D[0] (k7 g);obtain⟨i,j⟩:=km p.1;have Q:x.g0=i:=by simp[Hp.g0,g,j]
  have Y:=uU (show decide (x.sub<=((x.c i).F.length:Int))=true↔R6 x by
   have l:x.I=0:=by simpa using q
   have z:x.D≠[]:=λe=>by simp[e]at B
   unfold R6;rw[Q];simp[a,z,l])
  obtain⟨bg,og,rfl,m⟩:=h.G 0 g;unfold a8e at m;rw[j]at m;simp only[Nat.zero_mul,Nat.add_zero]at m;obtain⟨W,o,F,N,rfl,U,E,H,O,S,I,M,T,J,P⟩:=h.cell i (by omega);have V:((x.D.length:Int) == 0)=false:=beq_eq_false_iff_ne.2 (by omega);have t:=i0N i;have s:(i:Int)<(x.A.length:Int):=by omega
  go_in;go_wp21;go_quiet (fail);go_wp2;go_ret;exact⟨_,rfl,Y,(hO _).drewN _⟩
 ·have Y:=uU (R6_1 (x:=x) (kz (kj a)));go_in;go_wp2;go_ret;exact⟨_,rfl,Y,hO _⟩
 ·have Y:=uU (c6c (x:=x) (kz a));cases q:(x.I == 0);all_goals
   go_in;go_wp2;go_ret;exact⟨_,rfl,by have:=uH Y;rw[q]at this;simpa using this,hO _⟩
 ·obtain⟨i,j⟩:=km A;cases q:(x.I == (x.A.length:Int))
  ·have u:i<x.A.length:=by simp at q;omega
   have l:((i:Int) == (x.A.length:Int))=false:=by simp;omega
   have y:=uU (λn=>a8r x b i (w.drewN n) (h.ext ((hO w).drewN n)) (by omega) (by omega));rw[mM]at y;obtain⟨W,o,F,N,rfl,U,E,H,O,S,I,M,T,J,P⟩:=h.cell i u;rw[j]at D;have t:=i0N i;have s:(i:Int)<(x.A.length:Int):=by omega
   cases C:a6j x i
   ·have Y:=uU (show(x.sub == 0)=true↔R6 x by
     have k:¬(x.c i).st=1:=by simpa[a6j]using C
     unfold R6;simp[a,j,k])
    go_in;go_wp21;go_quiet ((go_at_call 114;exact Calls.quiet_of_same (y _)));go_wp2;go_ret;exact⟨_,rfl,Y,(hO _).drewN _⟩
   have Y:=uU (show decide (x.sub<=((x.c i).F.length:Int))=true↔R6 x by
    have k:(x.c i).st=1:=by simpa[a6j]using C
    have v:¬(i:Int)=(x.A.length:Int):=by omega
    unfold R6;simp[a,j,k,v])
   go_in;go_wp21;go_quiet ((go_at_call 114;exact Calls.quiet_of_same (y _)));go_wp21;go_quiet (fail);go_wp2;go_ret;exact⟨_,rfl,Y,((hO _).drewN _).drewN _⟩
  have Y:=uU (show(x.sub == 0)=true↔R6 x by
    have k:x.I=x.A.length:=by simpa using q
    unfold R6;simp[a,k])
  have v:x.I=x.A.length:=by simpa using q
  rw[v]at D;go_in;go_wp21;go_quiet (fail);go_wp2;go_ret;exact⟨_,rfl,Y,(hO _).drewN _⟩
 have Y:=uU (R6_1 (x:=x) (kz (kz a)));go_in;go_wp2;go_ret;exact⟨_,rfl,Y,hO _⟩
theorem b8s(x:Hp)(b a q i:Nat)(w:World)(f:w.cell? (aA b 5)=some (iv x.E))(d:w.cell? (aA b 6)=some (iv x.I))(g:w.cell? (aA a q)=some (iv i)):
  Calls prog 168 #[pP b,pQ a q] w λe w'=>e=.returned (.bool ((x.E == 2) || decide ((i:Int)<x.I)))/\Ext w w':=by
 cases c:(x.E == 2)
 all_goals
  go_in;go_wp21;go_quiet (fail);go_wp2;go_ret;exact⟨by simp,(hO w).drewN _⟩
theorem c4c(x:Hp)(b g q i k:Nat)(w:World)(l:w.cell? (aA b 5)=some (iv x.E))(j:w.cell? (aA b 6)=some (iv x.I))(h:w.cell? (aA b 7)=some (iv x.sub))(m:w.cell? (aA g q)=some (iv i)):
  Calls prog 209 #[pP b,pQ g q,iv k] w λe w'=>e=.returned (.bool (eC x i k))/\Ext w w':=by
 cases a:(x.E == 4)
 ·cases c:(x.E == 5)
  ·have E:=uU (show eC x i k=true by simp at a c;simp[eC,a,c]);go_in;go_wp2;go_ret;exact⟨by rw[uH E];rfl,hO w⟩
  have E:=uU (show eC x i k=(decide ((i:Int)<x.I) || ((i:Int) == x.I && decide ((k:Int)<x.sub))) by simp at c;simp[eC,c]);cases d:decide ((i:Int)<x.I)
  ·cases f:((i:Int) == x.I);rotate_left
   all_goals
    go_in;go_wp21;go_quiet (fail);go_wp2;go_ret;exact⟨by rw[uH E,d,f];simp,(hO w).drewN _⟩
  go_in;go_wp21;go_quiet (fail);go_wp2;go_ret;exact⟨by rw[uH E,d];simp,(hO w).drewN _⟩
 go_in;go_wp2;go_ret;exact⟨by rw[(show eC x i k=false by simp at a;simp[eC,a])];rfl,hO w⟩
theorem a0f{n lo hi:Int}(h:cH n lo hi=true):lo<=n/\n<=hi:=by simpa[cH]using h
theorem a8j{n lo hi:Int}(h:cH n lo hi=false):¬(lo<=n/\n<=hi):=by grind[cH]
theorem a0q(n b a:Int)(r:Bool)(h:cH n b a=r)(w:World):Calls prog 30 #[iv n,iv b,iv a] w λe w'=>e=.returned (.bool r)/\w'=w:=by
 rw[<-h];exact a8p n b a w
theorem a8u(y:Wd)(b n:Nat)(h:Option Addr)(i:Nat)(w:World)(g:w.cell? (aA b 13)=some (.slice h n i))(l:n<=35184372088832):
  Calls prog 208 #[pP b,y.v] w λe w'=>e=.returned (.bool (dY y n))/\Ext w w':=by
 have j:=cLt g;cases d:(y.k == 0)
 ·cases f:(y.k == 1)
  ·cases c:(y.k == 2)
   ·have E:=uU (show dY y n=false by simp at d f c;simp[dY,d,f,c]);go_in;go_wp2;go_ret;exact⟨by rw[uH E];rfl,(hO w).alloc _⟩
   cases q:(y.n == 0)
   ·have E:=uU (show dY y n=false by simp at c;simp[dY,c,q]);go_in;go_wp21;go_quiet (fail);go_wp2;go_ret;exact⟨by rw[uH E];rfl,(eAl w _).drewN _⟩
   cases t:cH y.a 0 ((n:Int)-1)
   focus
    have E:dY y n=false:=by
     have:=a8j t;simp at c q;simp[dY,c,q];omega
    go_in;go_wp21;go_quiet ((go_at_call 30;refine Calls.quiet_of_same (a0q _ _ _ false ?_ _);assumption))
   rotate_left
   focus
    have E:dY y n=true:=by
     have:=a0f t;simp at c q;simp[dY,c,q];omega
    go_in;go_wp21;go_quiet ((go_at_call 30;refine Calls.quiet_of_same (a0q _ _ _ true ?_ _);assumption))
   all_goals
    go_wp2;go_ret;exact⟨by rw[uH E];rfl,(eAl w _).drewN _⟩
  have E:=uU (show dY y n=(y.a == 0) by simp at f;simp[dY,f]);go_in;go_wp2;go_ret;exact⟨by rw[uH E];simp,(hO w).alloc _⟩
 cases q:(y.n == 0)
 all_goals
  go_in;go_wp2;go_ret;exact⟨by rw[(show dY y n=(y.n == 0 && y.a == 0) by simp at d;simp[dY,d])];simp[q],(hO w).alloc _⟩
theorem a3j(y:Wd)(b:Nat)(w:World)(c:(y.k == 2)=false):
  Calls prog 202 #[pP b,y.v] w λe w'=>e=.returned (.pointer none)/\Ext w w':=by
 have a:(y.k != 2)=true:=by simpa using c
 go_in;go_wp2;go_ret;exact⟨rfl,(hO w).alloc _⟩
theorem a1f(y:Wd)(b n c d l i:Nat)(w:World)(j:(y.k == 2)=true)(a:w.cell? (aA b 13)=some (sO c d n l))(o:i<n):
  Calls prog 202 #[pP b,.agg #[iv y.k,iv y.n,iv i]] w λe w'=>e=.returned (pQ c (d+i*2))/\Ext w w':=by
 have m:=cLt a;have f:(y.k != 2)=false:=by simpa using j
 have g:=i0N i;have h:(i:Int)<(n:Int):=by omega
 go_in;go_wp21;go_quiet (fail);go_wp2;go_ret;exact⟨rfl,(eAl w _).drewN _⟩
def a8k(c:Cl):Bool:=(c.kind == 0) && (c.T == 0) && (c.U == 0) && (c.born == 0) && (c.J == 0) && ((c.F.length:Int) == 0)
theorem a7x:a8k c=true↔a5d c:=by grind[Hp.c,a8k,a5d]
theorem c0j(c:Cl)(a q bc r:Nat)(b:Option Addr)(d:Nat)(w:World)(y:w.cell? (aA a (q+1))=some (pQ bc r))(h:CAt w bc r c b d):
  Calls prog 152 #[pQ a q] w λe w'=>e=.returned (.bool (a8k c))/\w'=w:=by
 obtain⟨x,p,u,i,k,o,t,v,f,P⟩:=h;unfold a8k;cases g:(c.kind == 0);rotate_left;cases j:(c.T == 0);rotate_left;cases l:(c.U == 0);rotate_left;cases m:(c.born == 0);rotate_left;cases n:(c.J == 0);rotate_left;cases s:((c.F.length:Int) == 0);all_goals
  go_in;go_wp2;go_ret;exact⟨rfl,rfl⟩
theorem bare_is(c:Cl)(a q bc r:Nat)(b:Option Addr)(d:Nat)(s:Bool)(g:a8k c=s)(w:World)(f:w.cell? (aA a (q+1))=some (pQ bc r))(h:CAt w bc r c b d):
  Calls prog 152 #[pQ a q] w λe w'=>e=.returned (.bool s)/\w'=w:=by grind[Hp.c,a8k,HAt.cell,c0j]
theorem a4s{n lo hi:Int}(h:lo<=n/\n<=hi):cH n lo hi=true:=by grind[cH]
theorem d0u:Region.lexB .any (third Tryz.f153.body)=true:=b7f _ _ (by kernel_rfl) (by kernel_rfl)
theorem d0v(x:Hp)(c:Cl)(b f q bc r:Nat)(g:Option Addr)(i:Nat)(w:World)(E:w.cell? (aA b 2)=some (iv x.born))(F:w.cell? (aA f (q+1))=some (pQ bc r))(h:CAt w bc r c g i):
  Calls prog 153 #[pP b,pQ f q] w λe w'=>e=.returned (.bool (cH c.kind 0 255 && (cH c.T 0 3 && (cH c.U 0 3 && (cH c.born 1 x.born && (cH c.J 0 2 && ((c.to == 0) && decide ((c.F.length:Int)<=200))))))))/\Ext w w':=by
 obtain⟨B,l,n,v,y,m,u,A,o,P⟩:=h;cases p:cH c.kind 0 255;rotate_left;cases C:cH c.T 0 3;rotate_left;cases s:cH c.U 0 3;rotate_left;cases k:cH c.born 1 x.born;rotate_left;cases z:cH c.J 0 2;rotate_left;cases t:(c.to == 0);rotate_left;cases D:decide ((c.F.length:Int)<=200);all_goals
  go_in;go_wp21;try simp only[List.append]
  refine wp_region_quiet_lit (by kernel_rfl) d0u ?_;repeat (go_big_quiet_step ((go_at_call 30;first|(refine Calls.quiet_of_same (a0q _ _ _ true ?_ _);assumption)|(refine Calls.quiet_of_same (a0q _ _ _ false ?_ _);assumption))))
  refine wpQuiet_nil ?_;intro _ d;obtain⟨j,a⟩:=d;subst a;go_wp2;go_ret;exact⟨rfl,Ext.drewN (hO w) _⟩
theorem b8t(x:Hp)(c:Cl)(b i q bc r:Nat)(j:Option Addr)(k:Nat)(w:World)(n:w.cell? (aA b 2)=some (iv x.born))(o:w.cell? (aA i (q+1))=some (pQ bc r))(h:CAt w bc r c j k):
  Calls prog 153 #[pP b,pQ i q] w λe w'=>∃r:Bool,Hid (e=.returned (.bool r))/\(r=true↔a2m x c)/\Ext w w':=by
 refine(d0v x c b i q bc r j k w n o h).mono λ_ _ ⟨m,l⟩=>⟨_,m,?_,l⟩
 simp only[Bool.and_eq_true,decide_eq_true_eq,beq_iff_eq];exact⟨λ⟨a,b,c,d,e,f,g⟩=>⟨a0f a,a0f b,a0f c,a0f d,a0f e,f,by omega⟩,λ⟨a,b,c,d,e,f,g⟩=>⟨a4s a,a4s b,a4s c,a4s d,a4s e,f,by omega⟩⟩
theorem c7o(w:World)(base b c:Nat)(v:Value)(L:List Int)(h:eX w base b c v L)(f:L.length=0):
  Calls prog 207 #[pQ b c] w λe w'=>e=.returned (.tuple #[iv 0,.bool false])/\w'=w:=by
 obtain⟨ad,a,rfl⟩:=h.empty f;go_in;go_wp21;refine(a5e _ b c ad a h.hd).mono ?_;rintro e g ⟨rfl,rfl⟩;go_wp2;go_ret2;exact⟨rfl,rfl⟩
theorem eX.cut{bq oq:Nat}(h:eX w base bq oq (sS g (n+1) cap) L):
  eX (w.setCell (aA bq oq) (sS g n cap)) base bq oq (sS g n cap) (L.take n)/\
  QFr bq oq (sS g (n+1) cap) (sS g n cap) w (w.setCell (aA bq oq) (sS g n cap)):=by
 have c:g≠bq:=λe=>h.apart (by rw[<-e];rfl)
 have⟨f,l⟩:=h.len;have a:(L.take n).length=n:=by simp;omega
 have b:w.ownsRow base 3 1 (sS g n cap) n ((L.take n).map iv):=by
  refine ownsRow_pop (last:=(L.drop n).map iv) (by simp;omega) ?_;have:=h.own;rw[<-f]at this;rw[<-mr,List.take_append_drop];exact this
 refine⟨⟨kM _ _ _ h.hd,by rw[ki];exact h.hf,?_,λe=>c (by simpa[Value.ownBlock]using e)⟩,⟨rfl,rfl,rfl,by simp[World.setCell],λk _ i _=>kP _ _ _ _ (i:k≠bq),λo j=>uC _ (.inr (λe=>j e.symm)),λo=>by rw[ki],.inl rfl⟩⟩;rw[a];refine uN b (λk d=>kP _ _ _ _ ?_);simp[Value.ownBlock]at d;show k≠bq;omega
theorem b1n(w:World)(base b c:Nat)(v:Value)(L:List Int)(h:eX w base b c v L)(x:0<L.length)(N:Ho L)(S:L.length<=1000000000):
  Calls prog 207 #[pQ b c] w λe w'=>e=.returned (.tuple #[iv (it L 0),.bool true])/\∃v' L',eX w' base b c v' L'/\Ho L'/\(it L 0::L').Perm L/\QFr b c v v' w w':=by
 obtain⟨g,a,rfl,P⟩:=h.form x;have⟨n,i⟩:∃n,L.length=n+1:=⟨L.length-1,by omega⟩;rw[i]at h ⊢;have B:=h.len.2;have D:=h.hd;have⟨o,f⟩:∃z,it L 0=z:=⟨_,rfl⟩;have A:=h.cell 0 x;rw[f]at A ⊢;have p:n<=1000000000:=by omega
 have r:b8j L=(swp L 0 n).take n:=by unfold b8j;rw[i];simp
 have R:=i0N n;have Q:(n:Int)<=(a:Int):=by omega
 go_in;go_wp21;refine(a2o _ b c g 0 (n+1) a o (by omega) D A).mono ?_;rintro e J ⟨rfl,rfl⟩;go_wp21;refine(c0m _ base b c g (n+1) a 0 n 0 (n:Int) L rfl rfl h (by omega) (by omega)).mono ?_;rintro e O ⟨rfl,d,F⟩;have M:=d.hd;have G:=d.hf;go_wp21;have m:=d.cut;rw[<-r]at m;refine(sink_ls _ base b c g n a (b8j L) m.1 (a6d.V N) p).mono ?_;rintro e y ⟨rfl,j,q,s,H,C⟩;have t:=uU (show eX y base b c (sS g n a) j/\Ho j/\(o::j).Perm L/\QFr b c (sS g (n+1) a) (sS g n a) J y from
  ⟨q,s,by have:=(c7g L x);rw[f]at this;exact(H.cons o).trans this,(F.trans m.2).trans C⟩)
 go_wp2;go_ret2;exact⟨rfl,_,j,t⟩
theorem b4i(w:World)(base i j:Nat)(v:Value)(L:List Int)(h:eX w base i j v L)(Z:Ho L)(hm:L.length<=1000000000):
  Calls prog 155 #[pQ i j] w λe w'=>∃r:Bool,Hid (e=.returned (.bool r))/\(r=true↔L.Nodup)/\∃v',QFr i j v v' w w':=by
 have s:=uU Z;go_in;go_wp21;go_loopg [3] (L.length+1) (λX T wr=>∃(d:Bool)(q:Value)(M:List Int),T=.bool d/\M.length+1<=X/\M.length<=L.length/\eX wr base i j q M/\Ho M/\Hid ((d=true/\M.Nodup)↔L.Nodup)/\QFr i j v q w wr)
 case atStart=>exact⟨true,v,L,rfl,hT _,hT _,h,s,by show _↔_;simp,QFr.refl _ _ _ _⟩
 case round=>
  obtain⟨d,q,M,rfl,P,V,A,R,k,Q⟩:=hrel;have s:=uU R;by_cases N:M.length=0
  ·have E:d=true↔L.Nodup:=by
    have:=uH k;rw[nw.1 N]at this;simpa using this
   go_wp21;refine(c7o _ base i j q M A N).mono ?_;rintro e Y ⟨rfl,rfl⟩;go_wp2;go_ret;exact⟨d,rfl,E,q,Q⟩
  go_wp21;refine(b1n _ base i j q M A (by omega) s (by omega)).mono ?_;rintro e Y ⟨rfl,v2,b,c,x,H,U⟩;have K:b.length+1=M.length:=by have:=H.length_eq;simpa using this
  have D:=Q.trans U;by_cases J:b.length=0
  ·obtain⟨ad,a,rfl⟩:=c.empty J;have l:=c.hd;have S:(d=true/\b.Nodup)↔L.Nodup:=by
    have n:=uH k;rw[b3w (uH H) (uH s) rfl (uH x) (.inl (nw.1 J))]at n;exact n
   go_wp21;refine(a5e _ i j ad a l).mono ?_;rintro e G ⟨rfl,rfl⟩;go_wp21;go_roundg (b.length+1)
   case rel=>exact⟨d,_,b,rfl,hT _,by omega,c,x,S,D⟩
   case measure=>omega
  obtain⟨O,a,rfl,W⟩:=c.form (by omega);have l:=c.hd;have⟨y0,o⟩:∃z,it b 0=z:=⟨_,rfl⟩;have⟨y,m⟩:∃z,it M 0=z:=⟨_,rfl⟩;have F:=c.cell 0 (by omega);rw[o]at F;rw[m];cases t:(y0 == y)
  ·have S:(d=true/\b.Nodup)↔L.Nodup:=by
    have n:=uH k;have B:¬y0=y:=by simpa using t
    rw[b3w (uH H) (uH s) rfl (uH x) (.inr (by rw[o,m];exact B))]at n;exact n
   go_wp21;refine(a2o _ i j O 0 b.length a y0 (by omega) l F).mono ?_;rintro e G ⟨rfl,rfl⟩;go_wp21;go_roundg (b.length+1)
   case rel=>exact⟨d,_,b,rfl,hT _,by omega,c,x,S,D⟩
   case measure=>omega
  have S:(false=true/\b.Nodup)↔L.Nodup:=by
   have B:y0=y:=by simpa using t
   have:=b9x H (by omega) (by rw[o,m];exact B);constructor;intro f;simp at f;intro f;exact(this (k.2 f).2).elim
  go_wp21;refine(a2o _ i j O 0 b.length a y0 (by omega) l F).mono ?_;rintro e G ⟨rfl,rfl⟩;go_wp21;go_roundg (b.length+1)
  case rel=>exact⟨false,_,b,rfl,hT _,by omega,c,x,S,D⟩
  case measure=>omega
structure Snd(x:Hp):Prop where
 r1:R1 x
 r2:R2 x
 r3:R3 x
 r4:R4 x
 r5:R5 x
 r6:R6 x
 r7:R7 x
 r8:R8 x
theorem qU.snd(h:qU x 0):Snd x:=by
 unfold qU at h;obtain h|h|h|h|h|h|h|h|h:=h;have:=h.2;omega;have:=h.2.2;omega;have:=h.2.2.2;omega;have:=h.2.2.2.2;omega;have:=h.2.2.2.2.2;omega;grind[qU];grind[qU];grind[qU];have⟨a,b,c,d,e,f,g,i,_⟩:=h;exact⟨a,b,c,d,e,f,g,i⟩
theorem Snd.ok(h:Snd x):qU x 0:=by
 unfold qU;exact .inr (.inr (.inr (.inr (.inr (.inr (.inr (.inr ⟨h.r1,h.r2,h.r3,h.r4,h.r5,h.r6,h.r7,h.r8,rfl⟩)))))))
theorem a7y(x:Hp)(i:Nat)(a:i<x.A.length)(q:Nat):(uK x i).c q=if eE x i=true/\q=i then yV (x.c i) else x.c q:=by grind[uZ.A,uK,Hp.c,eE,yV,Hp.c_set,yQ.set]
theorem a3k(cs:List Cl)(i:Nat)(c:Cl)(d:i<cs.length)(b:cL c=cL cs[i]):dZ (cs.set i c)=dZ cs:=by
 induction cs generalizing i with
 | nil=>simp at d
 | cons a cs ih=>
  cases i with
  | zero=>simp[dZ]at b ⊢;exact b
  | succ i=>
   have:=ih i (by simpa using d) (by simpa using b);simp[dZ]at this ⊢;exact this
theorem cC(x:Hp)(i:Nat):(uK x i).M=x.M/\(uK x i).K=x.K/\(uK x i).born=x.born/\(uK x i).B=x.B/\(uK x i).A.length=x.A.length/\(uK x i).E=x.E/\(uK x i).I=x.I/\(uK x i).sub=x.sub/\(uK x i).per=x.per/\(uK x i).V=x.V/\(uK x i).Q=x.Q/\(uK x i).S=x.S:=by
 unfold uK;split <;> simp
def Cl.un(c:Cl):Cl:={ c with J:=0 }
theorem a6x(x:Hp)(i:Nat)(a:i<x.A.length)(q:Nat):((uK x i).c q).un=(x.c q).un:=by
 rw[a7y x i a q];split;rename_i h;rw[h.2];rfl;rfl
theorem a0g{d:Cl}(h:c.un=d.un):c.st=d.st/\c.kind=d.kind/\c.T=d.T/\c.U=d.U/\c.born=d.born/\c.to=d.to/\c.F=d.F:=by grind[Hp.c,Cl.un]
theorem b2s(D:uD x)(z:y.E=x.E)(u:y.I=x.I)(W:y.sub=x.sub)(U:y.born=x.born)(N:y.K=x.K)(G:y.M=x.M)(X:y.B=x.B)(E:y.A.length=x.A.length)(v:∀q,(y.c q).un=(x.c q).un)(n:∀q,q<x.A.length->(y.c q).J=(x.c q).J\/((y.c q).st=1/\0<=(y.c q).J/\(y.c q).J<=2))(F:dZ y.A=dZ x.A)(M:R2 x)(L:R3 x)(V:R4 x):R2 y/\R3 y/\R4 y/\R8 y:=by
 have l:x.E≠3:=by obtain h|h:=D <;> omega
 have K:∀i,¬uW x i:=λi h=>l h.1
 have f:∀i,¬uW y i:=λi h=>l (z▸h.1)
 have qQ:∀(w:Wd)(m A:Prop),(m->A)->hE x w m->hE y w A:=λw m A T h=>by grind[hE,a0g,uD,Hp.c,Cl.un,dZ,R2,R3,R4,R8]
 have g:∀i k,¬cN x i k->¬cN y i k:=λi k h t=>h ⟨z▸t.1,λP=>by have:=t.2 (z▸P);rw[u,W]at this;exact this⟩
 refine⟨⟨λi d=>?_,λi d B k o u=>?_⟩,⟨by rw[N,F];exact L.1,by rw[N,G];exact L.2⟩,⟨λi d=>by grind[uD,Hp.c,Cl.un,dZ,R2,R3,R4,R8],λi d=>⟨λh=>f i h.1,λk o=>⟨λh=>(f i h).elim,λ_=>?_⟩⟩⟩,λi d h=>?_⟩;rw[E]at d;have⟨j,J,I,H,s,r,e⟩:=a0g (v i);obtain⟨a,b,c⟩|⟨a,b⟩|⟨a,b⟩:=M.1 i d
 ·refine .inl ⟨j▸a,?_,r▸c⟩;have C:(y.c i).J=(x.c i).J:=by grind[Hp.c,uD,Cl.un,dZ,R2,R3,R4,R8]
  exact⟨J▸b.1,I▸b.2.1,H▸b.2.2.1,s▸b.2.2.2.1,C▸b.2.2.2.2.1,e▸b.2.2.2.2.2⟩
 have:=b.2.1;obtain h|h:=D <;> omega
 refine .inr (.inr ⟨j▸a,J▸b.1,I▸b.2.1,H▸b.2.2.1,by rw[s,U];exact b.2.2.2.1,?_,r▸b.2.2.2.2.2.1,e▸b.2.2.2.2.2.2⟩);obtain h|h:=n i d
 ·rw[h];exact b.2.2.2.2.1
 exact h.2;rw[E]at d;have⟨j,_,_,_,s,r,_⟩:=a0g (v i);have⟨R,_,_,_,O,Q,_⟩:=a0g (v k);rw[j,s,r,R,O,Q]at u;exact M.2 i d (j▸B) k o u;rw[E]at d;have e:=(a0g (v i)).2.2.2.2.2.2;rw[e]at o;have S:(y.c i).p k=(x.c i).p k:=by simp only[Cl.p,e]
 rw[S];have:=(V.2 i d).2 k o;exact⟨qQ _ _ _ (g i k) (this.2 (K i)).1,qQ _ _ _ (g i k) (this.2 (K i)).2⟩;rw[z]at h;obtain t|t:=D <;> omega
theorem a5n{op a b c n:Int}(h:zC op a b c n=true):(1<=op/\op<=24)/\(0<=a/\a<=a6y op)/\(0<=b/\b<=kJ op)/\(0<=c/\c<=gH op):=by grind[zC,a6y,kJ,gH]
theorem b4k:∀(n:Nat)(L:List Nat),L.Nodup->(∀i,i∈L->i<n)->L.length<=n
 | 0,L,_,h=>by
  cases L with
  | nil=>simp
  | cons a L=>have:=h a (mP ..);omega
 | n+1,L,hn,h=>by
  by_cases hm:n∈L;have h1:=b4k n (L.erase n) (hn.erase n) (λi hi=>by
   have h2:=h i (List.mem_of_mem_erase hi);have h3:i≠n:=λe=>by rw[e]at hi;exact(List.Nodup.not_mem_erase hn) hi
   omega)
  rw[qk hm]at h1;have h5:0<L.length:=List.length_pos_of_mem hm;omega;have h1:=b4k n L hn (λi hi=>by
   have h2:=h i hi;have h3:i≠n:=λe=>hm (e▸hi)
   omega)
  omega
theorem a5o(h:eE x i=true):uD x/\(x.c i).st=1/\(x.c i).J=0:=by grind[eE,uD,Hp.c,mkB,whB]
theorem gray_in(f:R5 x)(i:Nat)(e:i<x.A.length):(i:Int)∈x.D↔(x.c i).J=1:=by
 have:=f.2.1 i e;constructor;intro h;obtain b|d:=Int.decEq (x.c i).J 1
 ·have a:=this.2.1 b;unfold cnt at a;exact absurd h (nV.1 a)
 exact d;intro h;have a:=this.1 h;unfold cnt at a;exact nW.1 (by omega)
theorem Snd.shade{x:Hp}(h:Snd x)(i:Nat)(J:i<x.A.length):Snd (uK x i):=by
 by_cases u:eE x i=true;rotate_left;have:uK x i=x:=by unfold uK;rw[if_neg u]
 rw[this];exact h;have⟨L,W,aa⟩:=a5o u;have⟨P,s2,s3,s4,B,G,K,N,s9,V,X,U⟩:=cC x i;have hc:∀q,(uK x i).c q=if q=i then yV (x.c i) else x.c q:=λq=>by rw[a7y x i J q];simp[u]
 have v:(uK x i).D=x.D++[(i:Int)]:=by unfold uK;rw[if_pos u]
 have ng:¬(i:Int)∈x.D:=λe=>by have:=(gray_in h.r5 i J).1 e;omega
 have I:uD (uK x i):=by unfold uD;rw[G];exact L
 have f:∀q,((uK x i).c q).J=if q=i then 1 else (x.c q).J:=λq=>by
  rw[hc q];by_cases e:q=i;rw[if_pos e,if_pos e];rfl;rw[if_neg e,if_neg e]
 have t:=a6x x i J;have A:dZ (uK x i).A=dZ x.A:=by
  have:(uK x i).A=x.A.set i (yV (x.c i)):=by unfold uK;rw[if_pos u]
  rw[this];refine a3k _ _ _ J ?_;rw[Hp.c_eq x i J];rfl
 have⟨q2,q3,q4,q8⟩:=b2s L G K N s3 s2 P s4 B t (λq hq=>by
  rw[f q];by_cases e:q=i;right;rw[if_pos e,(a0g (t q)).1,e];refine⟨W,?_,?_⟩<;>omega
  left;rw[if_neg e]) A h.r2 h.r3 h.r4
 refine⟨?_,q2,q3,q4,?_,?_,?_,q8⟩;have r:=h.r1;have S:((x.D++[(i:Int)]).map Int.toNat).Nodup:=by
  unfold List.Nodup;rw[qG];refine ql (R:=(·≠·)) (λO u T e=>T ?_) ?_;have Z:∀g,g∈x.D++[(i:Int)]->0<=g:=λg v=>by
   obtain d|d:=mD.1 v;exact(h.r5.2.2 g d).1;rw[mY]at d;omega
  have:=Z _ O;have:=Z _ u;omega;rw[qI];exact⟨b3y h.r5,by simp,λa O b u e=>by rw[mY]at u;rw[e,u]at O;exact ng O⟩
 have C:=b4k x.A.length _ S (λj D=>by
  obtain⟨g,z,rfl⟩:=mg.1 D;obtain d|d:=mD.1 z;have:=h.r5.2.2 g d;omega;rw[mY]at d;omega)
 rw[mh]at C;exact⟨P▸r.M,s4▸r.B,by rw[B,P];exact r.A,by rw[v,B];exact C,s3▸r.born,X▸r.Q,U▸r.S,s9▸r.per,V▸r.V,G▸r.E,by rw[K,B];exact r.I,N▸r.sub⟩;refine⟨λn=>(n I).elim,λj D=>?_,λg z=>?_⟩
 ·rw[B]at D;have r:=h.r5.2.1 j D;have H:cnt (uK x i).D j=cnt x.D j+if j=i then 1 else 0:=by
   unfold cnt;rw[v,List.count_append];by_cases e:j=i;subst e;simp;rw[if_neg e,List.count_singleton];have:¬((i:Int)=(j:Int)):=by omega
   simp[this]
  unfold a0n;rw[H,f j];by_cases e:j=i;subst e;rw[if_pos rfl,if_pos rfl];have:=r.2.1 (by omega);exact⟨λ_=>by omega,λd=>by omega,λd=>by omega⟩;rw[if_neg e,if_neg e];exact⟨λd=>by have:=r.1 d;omega,λd=>by have:=r.2.1 d;omega,λd=>.inl I⟩
 rw[v]at z;rw[B];obtain d|d:=mD.1 z
 ·exact h.r5.2.2 g d
 rw[mY]at d;omega;have r:=h.r6;unfold R6;rw[G,K,N,B];refine⟨λF=>?_,λF=>⟨(r.2.1 F).1,λm=>?_,λ_=>?_⟩,λF=>?_,r.2.2.2⟩
 ·exact r.1 F
 rw[v]at m;simp at m;have M:=λq=>(a0g (t q)).2.2.2.2.2.2
 rw[M];obtain m|m:=mN x.D.length;have:=(r.2.1 F).2.1 m;omega;have eg:(uK x i).g0=x.g0:=by
  unfold Hp.g0;rw[v];cases E:x.D with
  | nil=>rw[E]at m;simp at m
  | cons a l=>rfl
 rw[eg];exact(r.2.1 F).2.2 (by omega);obtain d|d:=L <;> omega
 intro _ j D;rw[B]at D;have r:=h.r7 L j D;have M:=(a0g (t j)).2.2.2.2.2.2;have wh:∀y,eQ (uK x i) y->eQ x y:=λy Y=>by
  refine⟨Y.1,?_⟩;have:=Y.2;rw[f]at this;by_cases e:y.a.toNat=i;rw[if_pos e]at this;omega;rw[if_neg e]at this;exact this
 refine⟨λo=>r.1 ⟨?_,?_,?_⟩,λk s=>?_⟩;unfold dH;rw[<-((a0g (t j)).2.2.2.1)];exact o.1;have:=o.2.1;rw[f]at this;by_cases e:j=i
 ·rw[if_pos e]at this;omega
 rw[if_neg e]at this;exact this;rw[<-G,<-K];exact o.2.2;have e8:((uK x i).c j).p k=(x.c j).p k:=by simp only[Cl.p,M]
 rw[e8];have Q:k<eZ x j:=by
  unfold eZ at s ⊢;rw[f j,M,G,N]at s;by_cases e:j=i;subst e;rw[if_pos rfl,if_neg (by omega)]at s;rw[if_neg (by omega)];split at s
  ·rename_i o;rw[v]at o;obtain m|m:=mN x.D.length
   ·have:=(h.r6.2.1 o.1).2.1 m;omega
   have:x.D.getD 0 0=(j:Int):=by
    cases E:x.D with
    | nil=>rw[E]at m;simp at m
    | cons a l=>rw[E]at o;simpa using o.2.2
   rw[if_pos ⟨o.1,by omega,this⟩];exact s
  omega;rw[if_neg e]at s;by_cases h2:(x.c j).J=2
  ·rw[if_pos h2]at s ⊢;exact s
  rw[if_neg h2]at s ⊢;split at s
  ·rename_i o;rw[v]at o;obtain m|m:=mN x.D.length
   ·have:=(h.r6.2.1 o.1).2.1 m;omega
   have:x.D.getD 0 0=(j:Int):=by
    cases E:x.D with
    | nil=>rw[E]at m;simp at m
    | cons a l=>rw[E]at o;simpa using o.2.2
   rw[if_pos ⟨o.1,by omega,this⟩];exact s
  omega
 have:=r.2 k Q;exact⟨λw=>this.1 (wh _ w),λw=>this.2 (wh _ w)⟩
def dC(x:Hp)(p h:Int):Hp:={ x with E:=p,I:=h,sub:=0 }
def kZ(c:Cl):Bool:=c.U == 1 || c.U == 2
theorem a9w(c:Cl):kZ c=true↔dH c:=by simp[kZ,dH]
def uX(x:Hp)(y:Wd):Hp:=if (y.k == 2)=true then uK x y.a.toNat else x
def eH(x:Hp):Hp:=if x.I=x.A.length then dC x 2 0 else
 let z:=if kZ (x.c x.I.toNat)=true then uK x x.I.toNat else x
 { z with I:=x.I+1 }
def zX(x:Hp):Hp:=x.B.foldl uX x
def a1w(c:Cl):Cl:={ c with J:=2 }
def dW(x:Hp):Hp:=
 match x.D with
 | g::G=>
  if x.sub<(x.c g.toNat).F.length then
   let p:=(x.c g.toNat).p x.sub.toNat
   { uX (uX x p.key) p.val with sub:=x.sub+1 }
  else { x with A:=x.A.set g.toNat (a1w (x.c g.toNat)),D:=G,sub:=0 }
 | []=>if (zX x).D=[] then dC (zX x) 3 0 else zX x
def eD(x:Hp)(y:Wd):Prop:=y.k=2->y.a.toNat<x.A.length/\(x.c y.a.toNat).st=1
theorem Snd.shdW(h:Snd x)(y:Wd)(a:eD x y):Snd (uX x y):=by grind[eD,uX,Snd.shade]
theorem a0b(x:Hp)(y:Wd):(uX x y).B=x.B/\(uX x y).A.length=x.A.length/\(uX x y).E=x.E/\(uX x y).I=x.I/\(uX x y).sub=x.sub:=by grind[uX,uZ.A,cC]
theorem a4u(x:Hp)(y:Wd)(a:eD x y)(q:Nat):((uX x y).c q).un=(x.c q).un:=by grind[eD,uX,Hp.c,Cl.un,a6x]
theorem eD.keep{y:Wd}(h:eD x y)(d:z.A.length=x.A.length)(b:∀q,(z.c q).un=(x.c q).un):eD z y:=λa=>⟨d▸(h a).1,(a0g (b _)).1▸(h a).2⟩
theorem a1t(x:Hp)(i:Nat)(a:i<x.A.length)(b:uD x)(d:(x.c i).st=1):((uK x i).c i).J≠0:=by grind[uZ.A,uD,Hp.c,uK,a7y,eE,yV,mkB,whB]
theorem c4e(x:Hp)(i:Nat)(a:i<x.A.length)(q:Nat)(h:(x.c q).J≠0):((uK x i).c q).J≠0:=by grind[uZ.A,Hp.c,uK,a7y,yV]
theorem b1o(x:Hp)(y:Wd)(b:eD x y)(a:uD x):¬eQ (uX x y) y:=by grind[eD,uD,eQ,uX,a1t]
theorem b2t(x:Hp)(y:Wd)(a:eD x y)(q:Nat)(h:(x.c q).J≠0):((uX x y).c q).J≠0:=by grind[eD,Hp.c,uX,c4e]
theorem Snd.good_pair(h:Snd x)(b:uD x)(i k:Nat)(l:i<x.A.length)(m:k<(x.c i).F.length):eD x ((x.c i).p k).key/\eD x ((x.c i).p k).val:=by
 have g:¬uW x i:=λd=>by have:=d.1;obtain a|a:=b <;> omega
 have r:=((h.r4.2 i l).2 k m).2 g;have e:cN x i k:=⟨by obtain a|a:=b <;> omega,λo=>by obtain a|a:=b <;> omega⟩;have f:∀y,hE x y (¬cN x i k)->eD x y:=λy n j=>by grind[hE,cN,eD,uJ,uZ.A,uD,Hp.c,Cl.p]
 exact⟨f _ r.1,f _ r.2⟩
theorem Snd.good_reg(h:Snd x)(i:Nat)(b:i<x.B.length):eD x x.B[i]:=λa=>by
 have r:=h.r4.1 i b;obtain⟨_,h2⟩|⟨h1,_⟩:=r.2 a;exact h2.elim;refine⟨?_,h1⟩;obtain f|f|f:=r.1 <;> omega
theorem Snd.I(h:Snd x)(y:uD x)(p j l:Int)(z:p=1\/p=2)(E:0<=j/\j<=x.A.length)(C:0<=l/\l<=200)(D:R6 { x with E:=p,I:=j,sub:=l })(B:R7 { x with E:=p,I:=j,sub:=l }):Snd { x with E:=p,I:=j,sub:=l }:=by
 have r:=h.r1;have np:p≠3/\p≠4/\p≠5/\p≠6:=by omega
 have s:x.E≠3/\x.E≠4/\x.E≠5/\x.E≠6:=by obtain t|t:=y <;> omega
 have qQ:∀(w:Wd)(m q:Prop),(m->q)->hE x w m->hE { x with E:=p,I:=j,sub:=l } w q:=λw m q u v=>by
  refine⟨v.1,λo=>?_⟩;obtain⟨a,b⟩|⟨a,_⟩:=v.2 o;exact .inl ⟨a,u b⟩;exact .inr ⟨a,λd=>np.1 d.1⟩
 have f:∀i k,cN x i k:=λi k=>⟨s.2.1,λe=>(s.2.2.1 e).elim⟩
 have A:∀i,¬uW x i:=λi d=>s.1 d.1
 refine⟨⟨r.M,r.B,r.A,r.D,r.born,r.Q,r.S,r.per,r.V,by show 0<=p/\p<=6;omega,E,C⟩,⟨λi g=>?_,h.r2.2⟩,h.r3,⟨λi g=>qQ _ _ _ id (h.r4.1 i g),λi g=>⟨λd=>np.1 d.1.1,λk o=>⟨λd=>(np.1 d.1).elim,λ_=>by have:=((h.r4.2 i g).2 k o).2 (A i);exact⟨qQ _ _ _ (λe=>(e (f i k)).elim) this.1,qQ _ _ _ (λe=>(e (f i k)).elim) this.2⟩⟩⟩⟩,⟨λn=>(n z).elim,λi g=>by have c:=h.r5.2.1 i g;exact⟨c.1,c.2.1,λ_=>.inl z⟩,h.r5.2.2⟩,D,B,λi g e=>np.2.2.2 e.1⟩;obtain a|⟨_,b⟩|a:=h.r2.1 i g
 ·exact .inl a
 have:=b.2.1;obtain t|t:=y <;> omega
 exact .inr (.inr a)
theorem Snd.u1(h:Snd x)(u:x.E=1):Snd (eH x):=by
 unfold Go.Proofs.YtgkpaibbdkggiaaGreatDoor.eH;have m:uD x:=.inl u;have t:x.sub=0:=h.r6.2.2.2 (.inl u);split;rename_i G;refine h.I m 2 0 0 (.inr rfl) ⟨by omega,by omega⟩ ⟨by omega,by omega⟩ ?_ ?_
 ·refine⟨λe=>?_,λ_=>⟨rfl,λ_=>rfl,λ_=>?_⟩,λe=>?_,λe=>?_⟩
  ·grind[eH]
  show(0:Int)<=_;omega;grind[eH];grind[eH]
 intro _ i o;have r:=h.r7 m i o;refine⟨λe=>r.1 ⟨e.1,e.2.1,.inr ?_⟩,λk s=>r.2 k ?_⟩
 ·have:i<x.A.length:=o;omega
 grind[eZ,Hp.c,Snd.I,eH];rename_i v;have F:=h.r1.I;have⟨i,o⟩:∃i:Nat,x.I=(i:Int):=⟨x.I.toNat,by omega⟩;have g:i<x.A.length:=by omega
 have D:x.I.toNat=i:=by omega
 rw[D];have⟨z,p⟩:=obE ((if kZ (x.c i)=true then uK x i else x));have n:Snd z:=by rw[p];split;exact h.shade i g;exact h
 have f:z.E=x.E/\z.I=x.I/\z.sub=x.sub/\z.A.length=x.A.length:=by grind[Snd.I,uZ.A,cC,eH]
 have y:dH (z.c i)->(z.c i).J≠0:=by
  rw[p];split;rename_i e;have C:(x.c i).st=1:=by
   have l:=(a9w _).1 e;obtain⟨_,b,_⟩|⟨_,b⟩|⟨a,_⟩:=h.r2.1 i g;have:=b.2.2.1;obtain q|q:=l <;> omega
   have:=b.1.2.2.1;obtain q|q:=l <;> omega
   exact a
  exact λ_=>a1t x i g m C
  grind[a9w,eH]
 suffices hgoal:Snd { z with I:=x.I+1 } by rw[p]at hgoal;exact hgoal
 have d:uD z:=by unfold uD;rw[f.1];exact m
 have B:({ z with I:=x.I+1 }:Hp)={ z with E:=z.E,I:=x.I+1,sub:=z.sub }:=rfl;rw[B];refine n.I d z.E (x.I+1) z.sub d ⟨by omega,by rw[f.2.2.2];omega⟩ (by refine⟨?_,?_⟩<;>(have:=n.r1.sub;omega)) ?_ ?_;refine⟨λe=>?_,λe=>?_,λe=>?_,λ_=>?_⟩
 ·grind[eH]
 grind[eH];grind[eH];grind[eH];intro _ j E;have r:=n.r7 d j E;refine⟨λe=>?_,λk s=>r.2 k s⟩;have A:z.E=2\/(j:Int)<x.I+1:=e.2.2;by_cases w:j=i
 ·subst w;exact y e.1 e.2.1
 refine r.1 ⟨e.1,e.2.1,?_⟩;obtain q|q:=A
 ·exact .inl q
 right;rw[f.2.1];omega
structure Shd(x z:Hp):Prop where
 s:Snd z
 B:z.B=x.B
 len:z.A.length=x.A.length
 E:z.E=x.E
 I:z.I=x.I
 sub:z.sub=x.sub
 un:∀q,(z.c q).un=(x.c q).un
 mono:∀q,(x.c q).J≠0->(z.c q).J≠0
 D:∃L,z.D=x.D++L
theorem Shd.refl(h:Snd x):Shd x x:=⟨h,rfl,rfl,rfl,rfl,rfl,λ_=>rfl,λ_ h=>h,[],by simp⟩
theorem b2u(x:Hp)(y:Wd):∃L,(uX x y).D=x.D++L:=by
 unfold uX uK;split;split
 ·exact⟨_,rfl⟩
 exact⟨[],by simp⟩;exact⟨[],by simp⟩
theorem Shd.step(h:Shd x z)(y:Wd)(l:eD x y):Shd x (uX z y)/\(uD x->¬eQ (uX z y) y):=by
 have a:eD z y:=l.keep h.len h.un;have⟨d,g,b,i,c⟩:=a0b z y;have⟨L,f⟩:=h.D;have⟨M,j⟩:=b2u z y;refine⟨⟨h.s.shdW y a,d.trans h.B,g.trans h.len,b.trans h.E,i.trans h.I,c.trans h.sub,λq=>(a4u z y a q).trans (h.un q),λq k=>b2t z y a q (h.mono q k),L++M,by rw[j,f,my]⟩,λe=>b1o z y a (by unfold uD;rw[h.E];exact e)⟩
theorem b4m{y u:Wd}(a:eD z y)(h:¬eQ z u):¬eQ (uX z y) u:=by grind[eD,eQ,uX,Hp.c,b2t]
theorem Shd.fold{x:Hp}(hm:uD x):∀(ys:List Wd)(z:Hp),(∀y,y∈ys->eD x y)->Shd x z->Shd x (ys.foldl uX z)/\(∀y,y∈ys->¬eQ (ys.foldl uX z) y)/\∀u,¬eQ z u->¬eQ (ys.foldl uX z) u
 | [],z,_,h=>⟨h,λy hy=>(by cases hy),λ_ h=>h⟩
 | y::ys,z,hg,h=>by
  have st:=h.step y (hg y (mP ..));have⟨q1,q2,q3⟩:=Shd.fold hm ys (uX z y) (λu hu=>hg u (mm _ hu)) st.1;have hz:eD z y:=(hg y (mP ..)).keep h.len h.un;refine⟨q1,λu hu=>?_,λu hu=>q3 u (b4m hz hu)⟩;obtain e|e:=qM.1 hu;rw[e];exact q3 y (st.2 hm);exact q2 u e
theorem c4f(h:∀q,(z.c q).un=(x.c q).un)(q:Nat):(z.c q).F=(x.c q).F:=(a0g (h q)).2.2.2.2.2.2
theorem un_p(h:∀q,(z.c q).un=(x.c q).un)(q k:Nat):(z.c q).p k=(x.c q).p k:=by simp only[Cl.p,c4f h q]
theorem Snd.u2a(h:Snd x)(X:x.E=2)(g:Int)(G:List Int)(F:x.D=g::G)(Y:x.sub<(x.c g.toNat).F.length):Snd { uX (uX x ((x.c g.toNat).p x.sub.toNat).key) ((x.c g.toNat).p x.sub.toNat).val with sub:=x.sub+1 }:=by
 have t:uD x:=.inr X;have K:=h.r5.2.2 g (F▸mP ..);have P:=h.r1.sub;have A:g.toNat<x.A.length:=by omega
 have I:x.sub.toNat<(x.c g.toNat).F.length:=by omega
 have⟨E,u⟩:=h.good_pair t g.toNat x.sub.toNat A I;have⟨p,m⟩:=obE ((x.c g.toNat).p x.sub.toNat);rw[<-m]at E u ⊢;have o:=(Shd.refl h).step p.key E;have a:=o.1.step p.val u;have D:¬eQ (uX (uX x p.key) p.val) p.key:=b4m (u.keep o.1.len o.1.un) (o.2 t);have w:=a.2 t;have⟨z,M⟩:=obE (uX (uX x p.key) p.val);rw[<-M]at a D w ⊢;have⟨a,_⟩:=a;have⟨L,J⟩:=a.D;have i:z.D=g::(G++L):=by rw[J,F];rfl
 have l:uD z:=by unfold uD;rw[a.E];exact t
 have v:=h.ok.p200 g.toNat A;have R:({ z with sub:=x.sub+1 }:Hp)={ z with E:=z.E,I:=z.I,sub:=x.sub+1 }:=rfl;rw[R];refine a.s.I l z.E z.I (x.sub+1) l a.s.r1.I ⟨by omega,by omega⟩ ?_ ?_;refine⟨λe=>?_,λe=>⟨(a.s.r6.2.1 e).1,λS=>?_,λ_=>?_⟩,λe=>?_,λe=>?_⟩
 ·have f:z.E=0\/z.E=4:=e;rw[a.E]at f;omega
 have f:z.D.length=0:=S;rw[i]at f;simp at f;have:({ z with E:=z.E,I:=z.I,sub:=x.sub+1 }:Hp).g0=g.toNat:=by unfold Hp.g0;show(z.D.getD 0 0).toNat=_;rw[i];rfl
 rw[this];show x.sub+1<=((z.c g.toNat).F.length:Int);rw[c4f a.un];omega;have f:z.E=5:=e;rw[a.E]at f;omega;have f:z.E=1\/z.E=3\/z.E=6:=e;rw[a.E]at f;omega;intro _ j U;have r:=a.s.r7 l j U;refine⟨λe=>r.1 e,λk n=>?_⟩;have d:∀y,eQ ({ z with E:=z.E,I:=z.I,sub:=x.sub+1 }:Hp) y->eQ z y:=λy H=>H
 have key:k<eZ z j\/(j=g.toNat/\k=x.sub.toNat):=by
  unfold eZ at n ⊢;have b:k<if (z.c j).J=2 then (z.c j).F.length else if z.E=2/\z.D.length≠0/\z.D.getD 0 0=(j:Int) then (x.sub+1).toNat else 0:=n;by_cases C:(z.c j).J=2
  rw[if_pos C]at b ⊢;exact .inl b;rw[if_neg C]at b ⊢;split at b
  ·rename_i B;rw[if_pos B];have O:j=g.toNat:=by have:=B.2.2;rw[i]at this;simp at this;omega
   rw[a.sub];by_cases Q:k=x.sub.toNat;exact .inr ⟨O,Q⟩;left;omega
  omega
 obtain q|⟨V,N⟩:=key;exact⟨λe=>(r.2 k q).1 (d _ e),λe=>(r.2 k q).2 (d _ e)⟩;subst V N;have T:(({ z with E:=z.E,I:=z.I,sub:=x.sub+1 }:Hp).c g.toNat).p x.sub.toNat=p:=by
  show(z.c g.toNat).p x.sub.toNat=p;rw[un_p a.un,<-m]
 rw[T];exact⟨λe=>D (d _ e),λe=>w (d _ e)⟩
theorem Snd.u2b(h:Snd x)(N:x.E=2)(g:Int)(G:List Int)(D:x.D=g::G)(hs:¬x.sub<(x.c g.toNat).F.length):Snd { x with A:=x.A.set g.toNat (a1w (x.c g.toNat)),D:=G,sub:=0 }:=by
 have Q:uD x:=.inr N;have J:g∈x.D:=D▸mP ..;have aa:=h.r5.2.2 g J;have T:g.toNat<x.A.length:=by omega
 have eg:((g.toNat:Nat):Int)=g:=by omega
 have W:=b1f h.r2 h.r5 g J;have Z:x.sub=((x.c g.toNat).F.length:Int):=by
  have:=(h.r6.2.1 N).2.2 (by rw[D];simp);have e:x.g0=g.toNat:=by unfold Hp.g0;rw[D];rfl
  rw[e]at this;omega
 have⟨y,v⟩:=obE ({ x with A:=x.A.set g.toNat (a1w (x.c g.toNat)),D:=G,sub:=0 }:Hp);have Y:∀q,y.c q=if q=g.toNat then a1w (x.c g.toNat) else x.c q:=λq=>by
  have:=Hp.c_set x g.toNat (a1w (x.c g.toNat)) T q;rw[v];exact this
 have t:y.A.length=x.A.length:=by rw[v];simp
 have C:y.E=x.E:=by rw[v]
 have F:y.I=x.I:=by rw[v]
 have H:y.D=G:=by rw[v]
 have A:y.sub=0:=by rw[v]
 have f:y.M=x.M/\y.K=x.K/\y.born=x.born/\y.B=x.B/\y.per=x.per/\y.V=x.V/\y.Q=x.Q/\y.S=x.S:=v▸⟨rfl,rfl,rfl,rfl,rfl,rfl,rfl,rfl⟩;have s:∀q,(y.c q).un=(x.c q).un:=λq=>by
  rw[Y q];by_cases e:q=g.toNat;rw[if_pos e,e];rfl;rw[if_neg e]
 have p:∀q,(y.c q).J=if q=g.toNat then 2 else (x.c q).J:=λq=>by
  rw[Y q];by_cases e:q=g.toNat;rw[if_pos e,if_pos e];rfl;rw[if_neg e,if_neg e]
 have B:dZ y.A=dZ x.A:=by
  have:y.A=x.A.set g.toNat (a1w (x.c g.toNat)):=by rw[v]
  rw[this];exact a3k _ _ _ T (by rw[Hp.c_eq x _ T];rfl)
 rw[<-v];have⟨z,l⟩:=obE ({ x with sub:=0 }:Hp);have O:∀q,z.c q=x.c q:=λq=>by rw[l];rfl
 have h2:R2 z:=l▸h.r2;have h3:R3 z:=l▸h.r3;have h4:R4 z:=by
  have K:∀i k,¬cN x i k->¬cN z i k:=λi k e e'=>e ⟨by have:=e'.1;rw[l]at this;exact this,λh5=>by omega⟩
  have qQ:∀(w:Wd)(m S:Prop),(m->S)->hE x w m->hE z w S:=λw m S X t=>by
   refine⟨l▸t.1,λo=>?_⟩;rw[O];obtain⟨a,b⟩|⟨a,_⟩:=t.2 o;exact .inl ⟨a,X b⟩;exact .inr ⟨a,λd=>by have:=d.1;rw[l]at this;have:x.E=3:=this;omega⟩
  have nd:∀i,¬uW z i:=λi d=>by have:=d.1;rw[l]at this;have:x.E=3:=this;omega
  refine⟨λi E=>?_,λi E=>⟨λd=>nd i d.1,λk o=>⟨λd=>(nd i d).elim,λ_=>?_⟩⟩⟩;have e:z.B=x.B:=by rw[l]
  have V:i<x.B.length:=e▸E;have e2:z.B[i]=x.B[i]:=by simp[e]
  rw[e2];exact qQ _ _ _ id (h.r4.1 i V);rw[O]at o ⊢;have:=((h.r4.2 i (by
   have e:z.A=x.A:=by rw[l]
   rw[<-e];exact E)).2 k o).2 (λd=>by have:=d.1;omega)
  exact⟨qQ _ _ _ (K i k) this.1,qQ _ _ _ (K i k) this.2⟩
 have U:uD z:=l▸Q;have⟨q2,q3,q4,q8⟩:=b2s (x:=z) (y:=y) U (by rw[C,l]) (by rw[F,l]) (by rw[A,l]) (by rw[f.2.2.1,l]) (by rw[f.2.1,l]) (by rw[f.1,l]) (by rw[f.2.2.2.1,l]) (by rw[t,l]) (λq=>by rw[O];exact s q) (λq hq=>by
  rw[O,p q];by_cases e:q=g.toNat;right;rw[if_pos e,(a0g (s q)).1,e];refine⟨W.2,?_,?_⟩<;>omega
  left;rw[if_neg e]) (by rw[B,l]) h2 h3 h4
 have I:uD y:=by unfold uD;rw[C];exact Q
 have cg:∀j:Nat,cnt x.D j=cnt G j+if j=g.toNat then 1 else 0:=λj=>by
  unfold cnt;rw[D,List.count_cons];by_cases e:j=g.toNat;subst e;rw[if_pos rfl];simp[eg];rw[if_neg e];have:¬g=(j:Int):=by omega
  simp[this]
 refine⟨?_,q2,q3,q4,⟨λn=>(n I).elim,λj M=>?_,λk o=>?_⟩,?_,?_,q8⟩;have r:=h.r1;have r4:=r.D;rw[D]at r4;simp at r4;exact⟨f.1▸r.M,f.2.2.2.1▸r.B,by rw[t,f.1];exact r.A,by rw[H,t];omega,f.2.2.1▸r.born,f.2.2.2.2.2.2.1▸r.Q,f.2.2.2.2.2.2.2▸r.S,f.2.2.2.2.1▸r.per,f.2.2.2.2.2.1▸r.V,C▸r.E,by rw[F,t];exact r.I,by rw[A];omega⟩;rw[t]at M;have r:=h.r5.2.1 j M;have c:=cg j;unfold a0n;rw[p j,H];by_cases e:j=g.toNat
 ·subst e;rw[if_pos rfl]at c ⊢;have:=r.1 W.1;exact⟨λP=>by omega,λ_=>by omega,λ_=>.inl I⟩
 rw[if_neg e]at c ⊢;exact⟨λP=>by have:=r.1 P;omega,λP=>by have:=r.2.1 P;omega,λ_=>.inl I⟩;rw[H]at o;rw[t];exact h.r5.2.2 k (D▸mm _ o);unfold R6;rw[C,F,A];refine⟨λe=>by omega,λ_=>⟨(h.r6.2.1 N).1,λ_=>rfl,λ_=>by omega⟩,λe=>by omega,λe=>by omega⟩;intro _ j M;rw[t]at M;have r:=h.r7 Q j M;have wh:∀u,eQ y u->eQ x u:=λu hw=>by
  refine⟨hw.1,?_⟩;have:=hw.2;rw[p]at this;by_cases e:u.a.toNat=g.toNat;rw[if_pos e]at this;omega;rw[if_neg e]at this;exact this
 refine⟨λe=>r.1 ⟨?_,?_,.inl N⟩,λk o=>?_⟩;unfold dH;rw[<-(a0g (s j)).2.2.2.1];exact e.1;have:=e.2.1;rw[p]at this;by_cases L:j=g.toNat
 ·rw[if_pos L]at this;omega
 rw[if_neg L]at this;exact this;rw[un_p s];have R:k<eZ x j:=by
  unfold eZ at o ⊢;rw[p j,c4f s,A]at o;by_cases L:j=g.toNat;subst L;rw[if_pos rfl,if_pos rfl]at o;rw[if_neg (by have:=W.1;omega),if_pos ⟨N,by rw[D];simp,by rw[D];simp[eg]⟩];omega;rw[if_neg L]at o;by_cases c2:(x.c j).J=2
  ·rw[if_pos c2]at o ⊢;exact o
  rw[if_neg c2]at o;split at o
  ·simp at o
  omega
 have:=r.2 k R;exact⟨λw=>this.1 (wh _ w),λw=>this.2 (wh _ w)⟩
theorem Snd.look(h:Snd x)(j:x.E=2):Shd x (zX x)/\∀i (a:i<x.B.length),¬eQ (zX x) x.B[i]:=by
 have c:uD x:=.inr j;have d:∀y,y∈x.B->eD x y:=λy b=>by
  have⟨i,a,e⟩:=mQ b;rw[<-e];exact h.good_reg i a
 have⟨f,g,_⟩:=Shd.fold c x.B x d (Shd.refl h);exact⟨f,λi a=>g _ (k7 a)⟩
theorem Snd.ended(h:Snd x)(G:x.E=2)(F:x.D=[])(Q:∀i (f:i<x.B.length),¬eQ x x.B[i]):Snd (dC x 3 0):=by
 have t:uD x:=.inr G;have⟨y,j⟩:=obE (dC x 3 0);have p:∀q,y.c q=x.c q:=λq=>by rw[j];rfl
 have n:y.A=x.A:=by rw[j];rfl
 have K:y.E=3:=by rw[j];rfl
 have L:y.I=0:=by rw[j];rfl
 have I:y.sub=0:=by rw[j];rfl
 have A:y.B=x.B:=by rw[j];rfl
 have z:y.D=[]:=j▸F;have y1:y.M=x.M/\y.K=x.K/\y.born=x.born/\y.per=x.per/\y.V=x.V/\y.Q=x.Q/\y.S=x.S:=j▸⟨rfl,rfl,rfl,rfl,rfl,rfl,rfl⟩;rw[<-j];have v:∀i,i<x.A.length->(x.c i).J≠1:=λi f e=>by
  have:=(h.r5.2.1 i f).1 e;rw[F]at this;simp[cnt]at this
 have E:∀i,uW y i↔(x.c i).st=1/\(x.c i).J=0:=λi=>by grind[uW,Hp.c,eQ,dC]
 have qQ:∀u,eD x u->uJ u x.A.length->¬eQ x u->∀m,hE y u m:=λu O R H m=>by grind[eD,uJ,uZ.A,eQ,hE,dC]
 have r:=h.r1;refine⟨⟨y1.1▸r.M,A▸r.B,by rw[n,y1.1];exact r.A,by rw[z];simp,y1.2.2.1▸r.born,y1.2.2.2.2.2.1▸r.Q,y1.2.2.2.2.2.2▸r.S,y1.2.2.2.1▸r.per,y1.2.2.2.2.1▸r.V,by rw[K];omega,by rw[L];omega,by rw[I];omega⟩,⟨λi f=>?_,λi f=>by rw[n]at f;rw[p];intro B k l;rw[p];exact h.r2.2 i f B k l⟩,⟨by rw[y1.2.1,n];exact h.r3.1,by rw[y1.2.1,y1.1];exact h.r3.2⟩,⟨λi f=>?_,λi f=>⟨λe=>?_,λk l=>⟨λd=>by rw[n]at f;rw[p]at l ⊢;have:=((h.r4.2 i f).2 k l).2 (λd=>by have:=d.1;omega);rw[n];exact⟨this.1.1,this.2.1⟩,λd=>?_⟩⟩⟩,⟨λ_=>by rw[z];rfl,λi f=>by grind[a0n,cnt,eQ,dC],λg s=>by rw[z]at s;cases s⟩,by grind[R6,eQ,dC],λe=>?_,λi f e=>by have:=e.1;omega⟩;rw[n]at f;unfold cQ;rw[p];obtain a|⟨_,b⟩|⟨a,b⟩:=h.r2.1 i f
 ·exact .inl a
 have:=b.2.1;omega;exact .inr (.inr ⟨a,b.1,b.2.1,b.2.2.1,y1.2.2.1▸b.2.2.2.1,b.2.2.2.2⟩);have o:i<x.B.length:=A▸f;have M:y.B[i]=x.B[i]:=by simp[A]
 rw[M];exact qQ _ (h.good_reg i o) (h.r4.1 i o).1 (Q i o) _;rw[n]at f;have d:=(E i).1 e.1;have N:dH (x.c i):=by have:=e.2;rw[p]at this;exact this
 exact(h.r7 t i f).1 ⟨N,d.2,.inl G⟩;rw[n]at f;rw[p]at l ⊢;have P:¬((x.c i).st=1/\(x.c i).J=0):=λe=>d ((E i).2 e)
 have C:=((h.r4.2 i f).2 k l).2 (λd=>by have:=d.1;omega);have D:=h.good_pair t i k f l;have w:(x.c i).J=2:=by
  obtain⟨_,b,_⟩|⟨_,b⟩|⟨a,b⟩:=h.r2.1 i f;have:=b.2.2.2.2.2;omega;have:=b.2.1;omega;have:=b.2.2.2.2.1;have:=v i f;have:(x.c i).J≠0:=λe=>P ⟨a,e⟩
  omega
 have J:k<eZ x i:=by unfold eZ;rw[if_pos w];exact l
 have:=(h.r7 t i f).2 k J;exact⟨qQ _ D.1 C.1.1 this.1 _,qQ _ D.2 C.2.1 this.2 _⟩;exfalso;obtain e|e:=e <;> omega
theorem Snd.u2(h:Snd x)(c:x.E=2):Snd (dW x):=by
 unfold dW;split;grind[Snd.u2a,Snd.u2b,dW];have a:=h.look c;split
 ·rename_i e;refine a.1.s.ended (a.1.E▸c) e (λi d=>?_);have b:i<x.B.length:=a.1.B▸d;have f:(zX x).B[i]=x.B[i]:=by simp[a.1.B]
  rw[f];exact a.2 i b
 exact a.1.s
def tC(c:Cl):Cl:={ c with J:=0 }
def dD(x:Hp):Hp:=if x.I=x.A.length then dC x 4 0 else
 if whB (x.c x.I.toNat)=true then { x with K:=x.K-(1+(x.c x.I.toNat).F.length),A:=x.A.set x.I.toNat Cl0,I:=x.I+1 }
 else { x with A:=x.A.set x.I.toNat (tC (x.c x.I.toNat)),I:=x.I+1 }
theorem a1x(cs:List Cl)(i:Nat)(c:Cl)(b:i<cs.length):dZ (cs.set i c)+cL cs[i]=dZ cs+cL c:=by
 induction cs generalizing i with
 | nil=>simp at b
 | cons a cs ih=>
  cases i with
  | zero=>simp[dZ];omega
  | succ i=>
   have:=ih i (by simpa using b);simp[dZ]at this ⊢;omega
theorem Snd.u3end(h:Snd x)(P:x.E=3)(O:x.I=x.A.length):Snd (dC x 4 0):=by
 have v:x.D.length=0:=h.r5.1 (λe=>by obtain e|e:=e <;> omega);have G:x.D=[]:=mU v;have⟨y,l⟩:=obE (dC x 4 0);have p:∀q,y.c q=x.c q:=λq=>by rw[l];rfl
 have n:y.A=x.A:=by rw[l];rfl
 have L:y.E=4:=by rw[l];rfl
 have M:y.I=0:=by rw[l];rfl
 have J:y.sub=0:=by rw[l];rfl
 have D:y.B=x.B:=by rw[l];rfl
 have t:y.D=[]:=l▸G;have y1:y.M=x.M/\y.K=x.K/\y.born=x.born/\y.per=x.per/\y.V=x.V/\y.Q=x.Q/\y.S=x.S:=l▸⟨rfl,rfl,rfl,rfl,rfl,rfl,rfl⟩;rw[<-l];have C:∀i,¬uW y i:=λi d=>by have:=d.1;omega
 have z:∀i,i<x.A.length->¬uW x i:=λi j d=>by have:=d.2.1;omega
 have F:∀i,i<x.A.length->(x.c i).st≠2:=λi j e=>by
  obtain⟨a,_⟩|⟨_,b⟩|⟨a,_⟩:=h.r2.1 i j;omega;have:=b.2.1;omega;omega
 have r:=h.r1;have qQ:∀u m I,hE x u m->hE y u I:=λu m I A=>by
  refine⟨n▸A.1,λo=>.inr ⟨?_,C _⟩⟩;rw[p];have w:u.a.toNat<x.A.length:=by obtain f|f|f:=A.1 <;> omega
  obtain⟨a,_⟩|⟨a,_⟩:=A.2 o;exact(F _ w a).elim;exact a
 refine⟨⟨y1.1▸r.M,D▸r.B,by rw[n,y1.1];exact r.A,by rw[t];simp,y1.2.2.1▸r.born,y1.2.2.2.2.2.1▸r.Q,y1.2.2.2.2.2.2▸r.S,y1.2.2.2.1▸r.per,y1.2.2.2.2.1▸r.V,by rw[L];omega,by rw[M];omega,by rw[J];omega⟩,⟨λi j=>?_,λi j=>by rw[n]at j;rw[p];intro E k o;rw[p];exact h.r2.2 i j E k o⟩,⟨by rw[y1.2.1,n];exact h.r3.1,by rw[y1.2.1,y1.1];exact h.r3.2⟩,⟨λi j=>?_,λi j=>⟨λe=>C i e.1,λk o=>⟨λd=>(C i d).elim,λd=>by rw[n]at j;rw[p]at o ⊢;have H:=((h.r4.2 i j).2 k o).2 (z i j);exact⟨qQ _ _ _ H.1,qQ _ _ _ H.2⟩⟩⟩⟩,⟨λ_=>by rw[t];rfl,λi j=>?_,λg s=>by rw[t]at s;cases s⟩,by grind[R6,dC],λe=>?_,λi j e=>by have:=e.1;omega⟩;rw[n]at j;unfold cQ;rw[p];obtain a|⟨_,b⟩|⟨a,b⟩:=h.r2.1 i j
 ·exact .inl a
 have:=b.2.1;omega;exact .inr (.inr ⟨a,b.1,b.2.1,b.2.2.1,y1.2.2.1▸b.2.2.2.1,b.2.2.2.2⟩);have B:i<x.B.length:=D▸j;have N:y.B[i]=x.B[i]:=by simp[D]
 rw[N];exact qQ _ _ _ (h.r4.1 i B);rw[n]at j;have c:=h.r5.2.1 i j;have K:(x.c i).J≠2:=λe=>by
  obtain m|m:=c.2.2 e;obtain m|m:=m <;> omega
  have:=m.2;omega
 unfold a0n;rw[p,t];refine⟨λe=>?_,λ_=>by simp[cnt],λe=>(K e).elim⟩;have:=c.1 e;rw[G]at this;simp[cnt]at this;exfalso;obtain e|e:=e <;> omega
theorem c6g(c:Cl):whB c=true↔c.st=1/\c.J=0:=by simp[whB]
theorem Snd.nogray(h:Snd x)(a:¬uD x):x.D=[]:=mU (h.r5.1 a)
theorem Snd.nomoved(h:Snd x)(f:x.E<4)(i:Nat)(d:i<x.A.length):(x.c i).st≠2:=λe=>by
 obtain⟨a,_⟩|⟨_,b⟩|⟨a,_⟩:=h.r2.1 i d;omega;have:=b.2.1;omega;omega
theorem Snd.u3cell(h:Snd x)(hp:x.E=3)(i:Nat)(hi:x.I=(i:Int))(B:i<x.A.length)(t:Cl)(D:Int)(E:(t=Cl0/\whB (x.c i)=true/\D=x.K-(1+(x.c i).F.length))\/(t=tC (x.c i)/\¬whB (x.c i)=true/\D=x.K)):
  Snd { x with K:=D,A:=x.A.set i t,I:=x.I+1 }:=by
 have V:=h.nogray (λe=>by obtain e|e:=e <;> omega);have⟨y,v⟩:=obE ({ x with K:=D,A:=x.A.set i t,I:=x.I+1 }:Hp);have W:∀q,y.c q=if q=i then t else x.c q:=λq=>v▸Hp.c_set x i t B q
 have z:y.A.length=x.A.length:=by rw[v];simp
 have R:y.A=x.A.set i t:=by rw[v]
 have H:y.E=3:=v▸hp;have N:y.I=x.I+1:=by rw[v]
 have X:y.sub=x.sub:=by rw[v]
 have T:y.B=x.B:=by rw[v]
 have I:y.D=[]:=v▸V;have yu:y.K=D:=by rw[v]
 have y1:y.M=x.M/\y.born=x.born/\y.per=x.per/\y.V=x.V/\y.Q=x.Q/\y.S=x.S:=v▸⟨rfl,rfl,rfl,rfl,rfl,rfl⟩;rw[<-v];have l:∀q,q≠i->y.c q=x.c q:=λq e=>by rw[W,if_neg e]
 have A:y.c i=t:=by rw[W,if_pos rfl]
 have ci:t.J=0:=by obtain⟨e,_⟩|⟨e,_⟩:=E <;> rw[e] <;> rfl
 have L:uW x i↔whB (x.c i)=true:=by grind[uW,whB,Hp.c,c6g,Cl0,tC]
 have dm:∀q,uW y q->uW x q/\q≠i:=λq d=>by grind[uW,Cl0,whB,Hp.c,tC]
 have qQ:∀u m,hE x u m->hE y u m:=λu m hl=>by grind[hE,uZ.A,Snd.nomoved,Cl0,whB,Hp.c,tC]
 have r:=h.r1;refine⟨⟨y1.1▸r.M,T▸r.B,by rw[z,y1.1];exact r.A,by rw[I];simp,y1.2.1▸r.born,y1.2.2.2.2.1▸r.Q,y1.2.2.2.2.2▸r.S,y1.2.2.1▸r.per,y1.2.2.2.1▸r.V,by rw[H];omega,by rw[N,z];omega,X▸r.sub⟩,⟨λq f=>?_,λq f o k s G=>?_⟩,?_,⟨λq f=>?_,λq f=>⟨λe=>?_,λk s=>⟨λd=>?_,λd=>?_⟩⟩⟩,⟨λ_=>by rw[I];rfl,λq f=>?_,λg C=>by rw[I]at C;cases C⟩,by unfold R6;rw[H,X];exact⟨λe=>by omega,λe=>by omega,λe=>by omega,λ_=>h.r6.2.2.2 (by omega)⟩,λe=>?_,λq f e=>by have:=e.1;omega⟩;rw[z]at f;unfold cQ;by_cases e:q=i
 ·subst e;rw[A];obtain⟨n,_⟩|⟨n,_⟩:=E
  ·rw[n];exact .inl ⟨rfl,⟨rfl,rfl,rfl,rfl,rfl,rfl⟩,rfl⟩
  rw[n];obtain⟨a,b,c⟩|⟨a,_⟩|⟨a,b⟩:=h.r2.1 q f
  ·exact .inl ⟨a,⟨b.1,b.2.1,b.2.2.1,b.2.2.2.1,rfl,b.2.2.2.2.2⟩,c⟩
  exact(h.nomoved (by omega) q f a).elim;exact .inr (.inr ⟨a,b.1,b.2.1,b.2.2.1,y1.2.1▸b.2.2.2.1,⟨show(0:Int)<=0 by omega,show(0:Int)<=2 by omega⟩,b.2.2.2.2.2⟩)
 rw[l q e];obtain a|⟨a,_⟩|⟨a,b⟩:=h.r2.1 q f
 ·exact .inl a
 exact(h.nomoved (by omega) q f a).elim;exact .inr (.inr ⟨a,b.1,b.2.1,b.2.2.1,y1.2.1▸b.2.2.2.1,b.2.2.2.2⟩);rw[z]at f;obtain⟨n,_⟩|⟨n,_⟩:=E
 ·have Z:q≠i:=λe=>by rw[e,A,n]at o;exact o rfl
  have n2:k≠i:=λe=>by grind[Cl0,whB,Hp.c,tC]
  rw[l q Z,l k n2]at G;rw[l q Z]at o;exact h.r2.2 q f o k s G
 have j:∀p,(y.c p).st=(x.c p).st/\(y.c p).born=(x.c p).born/\(y.c p).to=(x.c p).to:=λp=>by
  by_cases e:p=i;rw[e,A,n];exact⟨rfl,rfl,rfl⟩;rw[l p e];exact⟨rfl,rfl,rfl⟩
 rw[(j q).1,(j q).2.1,(j q).2.2,(j k).1,(j k).2.1,(j k).2.2]at G;rw[(j q).1]at o;exact h.r2.2 q f o k s G;have Q:=a1x x.A i t B;rw[Hp.c_eq x i B]at Q;unfold R3;rw[yu,R,y1.1];have J:=h.r3;obtain⟨n,w,e3⟩|⟨n,w,e3⟩:=E
 ·have h1:cL (x.c i)=1+(x.c i).F.length:=by unfold cL;rw[if_pos ((c6g _).1 w).1]
  have P:cL t=0:=by rw[n];rfl
  rw[h1,P]at Q;have:=J.1;have:=J.2;refine⟨?_,?_⟩<;>omega
 have P:cL t=cL (x.c i):=by rw[n];rfl
 rw[P]at Q;have:=J.1;have:=J.2;refine⟨?_,?_⟩<;>omega
 have M:q<x.B.length:=T▸f;have n:y.B[q]=x.B[q]:=by simp[T]
 rw[n];exact qQ _ _ (h.r4.1 q M);rw[z]at f;have⟨K,S⟩:=dm q e.1;have Y:=e.2;rw[l q S]at Y;exact(h.r4.2 q f).1 ⟨K,Y⟩;rw[z]at f;have⟨K,S⟩:=dm q d;rw[l q S]at s ⊢;rw[z];exact((h.r4.2 q f).2 k s).1 K;rw[z]at f;have F:∀u,hE x u (¬cN x q k)->hE y u (¬cN y q k):=λu hl=>by grind[hE,cN,Cl0,whB,Hp.c,tC]
 by_cases e:q=i;subst e;rw[A]at s ⊢;obtain⟨n,_⟩|⟨n,w,_⟩:=E
 ·rw[n]at s;simp[Cl0]at s
 rw[n]at s ⊢;have:=((h.r4.2 q f).2 k s).2 (λd=>w (L.1 d));exact⟨F _ this.1,F _ this.2⟩;rw[l q e]at s ⊢;have nd:¬uW x q:=λO=>d ⟨H,by rw[N];have:=O.2.1;omega,l q e▸O.2.2.1,l q e▸O.2.2.2⟩
 have:=((h.r4.2 q f).2 k s).2 nd;exact⟨F _ this.1,F _ this.2⟩;rw[z]at f;unfold a0n;rw[I,H,N];by_cases e:q=i
 ·grind[cnt,Cl0,whB,Hp.c,tC]
 rw[l q e];have c:=h.r5.2.1 q f;refine⟨λU=>?_,λ_=>by simp[cnt],λU=>.inr ⟨rfl,?_⟩⟩
 ·have:=c.1 U;rw[V]at this;simp[cnt]at this
 obtain m|m:=c.2.2 U
 ·obtain m|m:=m <;> omega
 have:=m.2;omega;exfalso;obtain e|e:=e <;> omega
theorem Snd.u3(h:Snd x)(d:x.E=3):Snd (dD x):=by
 unfold dD;split;rename_i a;exact h.u3end d a;rename_i b;have f:=h.r1.I;have e:x.I=((x.I.toNat:Nat):Int):=by omega
 split;grind[Snd.u3cell,Snd.I,Cl0,dD];grind[Snd.u3cell,Snd.I,tC,Hp.c,dD]
def mvC(t:Nat):Cl:=⟨2,0,0,0,0,0,t,[]⟩
def mvW(t f:Nat)(r:Wd):Wd:=if r.k=2/\r.a=(f:Int) then ⟨2,0,t⟩ else r
def qK(x:Hp)(t f:Nat):Hp:={ x with A:=(x.A.set t (x.c f)).set f (mvC t),B:=x.B.map (mvW t f) }
def uE(x:Hp):Nat:=x.A.findIdx (λc=>c.st == 0)
def a0x(x:Hp):Nat->Int
 | 0=>-1
 | k+1=>if (x.c k).st=1 then (k:Int) else a0x x k
def unit4(x:Hp):Hp:=if a0x x x.A.length<=(uE x:Int) then dC x 5 0 else qK x (uE x) (a0x x x.A.length).toNat
theorem a1y(x:Hp):∀k,(a0x x k = -1/\∀i,i<k->(x.c i).st≠1)\/∃f:Nat,a0x x k=(f:Int)/\f<k/\(x.c f).st=1/\∀i,f<i->i<k->(x.c i).st≠1
 | 0=>.inl ⟨rfl,λi hi=>by omega⟩
 | k+1=>by
  unfold a0x;by_cases e:(x.c k).st=1;grind[a0x,Hp.c];rw[if_neg e];obtain⟨h1,h2⟩|⟨f,h1,h2,h3,h4⟩:=a1y x k
  ·grind[a0x,Hp.c]
  grind[a0x,Hp.c]
theorem a0i(x:Hp):uE x<=x.A.length/\(∀i,i<uE x->(x.c i).st≠0)/\(uE x<x.A.length->(x.c (uE x)).st=0):=by grind[uE,uZ.A,Hp.c,Hp.c_eq]
theorem Snd.mv(h:Snd x)(R:x.E=4)(t f:Nat)(ae:t<f)(M:f<x.A.length)(h0:(x.c t).st=0)(N:∀k,k<t->(x.c k).st≠0)(h1:(x.c f).st=1):Snd (qK x t f):=by
 have hg:=h.nogray (λe=>by obtain e|e:=e <;> omega);have ht:t<x.A.length:=by omega
 have⟨y,z⟩:=obE (qK x t f:Hp);have A:y.A.length=x.A.length:=by rw[z];simp[qK]
 have S:∀q,y.c q=if q=f then mvC t else if q=t then x.c f else x.c q:=λq=>by grind[Hp.c,mvC,Hp.c_set,uZ.A,yQ.set,qK]
 have X:y.A=(x.A.set t (x.c f)).set f (mvC t):=by rw[z];rfl
 have J:y.E=4:=z▸R;have yh:y.I=x.I:=by rw[z];rfl
 have ys:y.sub=x.sub:=by rw[z];rfl
 have Z:y.B=x.B.map (mvW t f):=by rw[z];rfl
 have P:y.D=[]:=z▸hg;have y1:y.M=x.M/\y.K=x.K/\y.born=x.born/\y.per=x.per/\y.V=x.V/\y.Q=x.Q/\y.S=x.S:=z▸⟨rfl,rfl,rfl,rfl,rfl,rfl,rfl⟩;rw[<-z];have B:y.c f=mvC t:=by rw[S,if_pos rfl]
 have v:y.c t=x.c f:=by rw[S,if_neg (by omega),if_pos rfl]
 have s:∀q,q≠f->q≠t->y.c q=x.c q:=λq a b=>by rw[S,if_neg a,if_neg b]
 have Q:∀i,¬uW y i:=λi d=>by have:=d.1;omega
 have H:∀i,¬uW x i:=λi d=>by have:=d.1;omega
 have C:∀i k,¬cN y i k:=λi k e=>e.1 J
 have tgt:∀i,i<x.A.length->(x.c i).st=2->(x.c i).to.toNat≠f/\(x.c i).to.toNat≠t/\(x.c i).to≠(t:Int):=λi hi e=>by
  obtain⟨a,_⟩|⟨_,b⟩|⟨a,_⟩:=h.r2.1 i hi;omega;have⟨_,_,b3,b4,b5,b6⟩:=b;refine⟨λo=>?_,λo=>?_,λo=>?_⟩
  ·exact b6 R t (by omega) h0
  rw[o]at b5;omega;grind[Hp.c,qK];omega
 have qQ:∀u (m T:Prop),T->hE x u m->hE y u T:=λu m T L F=>by
  refine⟨A▸F.1,λj=>?_⟩;by_cases e:u.a.toNat=f;exact .inl ⟨by rw[e,B];rfl,L⟩;have o:u.a.toNat≠t:=λo=>by
   obtain⟨a,_⟩|⟨a,_⟩:=F.2 j <;> rw[o]at a <;> omega
  rw[s _ e o];obtain⟨a,_⟩|⟨a,_⟩:=F.2 j;exact .inl ⟨a,L⟩;exact .inr ⟨a,Q _⟩
 have r:=h.r1;refine⟨⟨y1.1▸r.M,by rw[Z,mh];exact r.B,by rw[A,y1.1];exact r.A,by rw[P];simp,y1.2.2.1▸r.born,y1.2.2.2.2.2.1▸r.Q,y1.2.2.2.2.2.2▸r.S,y1.2.2.2.1▸r.per,y1.2.2.2.2.1▸r.V,by rw[J];omega,by rw[yh,A];exact r.I,ys▸r.sub⟩,⟨λq n=>?_,λq n aa k j O=>?_⟩,?_,⟨λq n=>?_,λq n=>⟨λe=>Q q e.1,λk j=>⟨λd=>(Q q d).elim,λ_=>?_⟩⟩⟩,⟨λ_=>by rw[P];rfl,λq n=>?_,λg I=>by rw[P]at I;cases I⟩,by unfold R6;rw[J,yh,ys];exact⟨λ_=>h.r6.1 (.inr R),λe=>by omega,λe=>by omega,λe=>by omega⟩,λe=>?_,λq n e=>by have:=e.1;omega⟩
 ·rw[A]at n;unfold cQ;by_cases e:q=f
  ·subst e;rw[B];refine .inr (.inl ⟨rfl,⟨rfl,rfl,rfl,rfl,rfl,rfl⟩,by rw[J];omega,show(0:Int)<=(t:Int) by omega,show(t:Int)<(q:Int) by omega,?_,λ_ k j=>?_⟩)
   ·show(y.c (t:Int).toNat).st=1;have:((t:Int)).toNat=t:=by omega
    rw[this,v];exact h1
   have ab:(k:Int)<(t:Int):=j;rw[s k (by omega) (by omega)];exact N k (by omega)
  by_cases o:q=t;focus
   subst o;rw[v];obtain⟨a,_⟩|⟨a,_⟩|⟨a,b⟩:=h.r2.1 f M;omega;omega
  rotate_left
  focus
   rw[s q e o];obtain a|⟨a,b⟩|⟨a,b⟩:=h.r2.1 q n;exact .inl a;have⟨t1,t2,_⟩:=tgt q n a;refine .inr (.inl ⟨a,b.1,by rw[J];omega,b.2.2.1,b.2.2.2.1,s _ t1 t2▸b.2.2.2.2.1,λ_ k j=>?_⟩);by_cases ek:k=f
   ·rw[ek,B];simp[mvC]
   by_cases K:k=t
   ·rw[K,v];omega
   rw[s k ek K];exact b.2.2.2.2.2 R k j
  all_goals
   ·exact .inr (.inr ⟨a,b.1,b.2.1,b.2.2.1,y1.2.2.1▸b.2.2.2.1,b.2.2.2.2⟩)
 rw[A]at n;have ac:∀p D,p<x.A.length->D<x.A.length->p≠D->(x.c p).st≠0->¬((x.c D).st=(x.c p).st/\(x.c D).born=(x.c p).born/\(x.c D).to=(x.c p).to):=λp D w Y E hs e=>by
  obtain l|l:=Nat.lt_or_gt_of_ne E;exact h.r2.2 D Y (e.1▸hs) p l ⟨e.1.symm,e.2.1.symm,e.2.2.symm⟩;exact h.r2.2 p w hs D l e
 have ad:k<x.A.length:=by omega
 have G:∀p,p<x.A.length->p≠f->p≠t->¬((x.c p).st=2/\(x.c p).to=(t:Int)):=λp w _ _ e=>(tgt p w e.1).2.2 e.2
 by_cases q1:q=f;grind[mvC,Hp.c,qK];by_cases q2:q=t
 ·grind[Hp.c,qK]
 rw[s q q1 q2]at O aa;by_cases k1:k=f
 ·subst k1;rw[B]at O;exact G q n q1 q2 ⟨O.1.symm,O.2.2.symm⟩
 grind[Hp.c,qK];have U:=a1x x.A t (x.c f) ht;have W:=a1x (x.A.set t (x.c f)) f (mvC t) (by simpa using M);rw[Hp.c_eq x t ht]at U;have e1:(x.A.set t (x.c f))[f]'(by simpa using M)=x.c f:=by
  rw[qO (by omega),Hp.c_eq x f M]
 rw[e1]at W;have z1:cL (x.c t)=0:=by unfold cL;rw[if_neg (by omega)]
 have z2:cL (mvC t)=0:=by unfold cL;rw[if_neg (by simp[mvC])]
 unfold R3;rw[y1.2.1,y1.1,X];have:=h.r3.1;have:=h.r3.2;refine⟨?_,?_⟩<;>omega
 have V:q<x.B.length:=by rw[Z,mh]at n;exact n
 have o:y.B[q]=mvW t f x.B[q]:=by simp[Z]
 rw[o];have F:=h.r4.1 q V;unfold mvW;split;refine⟨.inr (.inr ⟨rfl,rfl,show(0:Int)<=(t:Int) by omega,show(t:Int)<_ by rw[A];omega⟩),λ_=>.inr ⟨?_,Q _⟩⟩;show(y.c (t:Int).toNat).st=1;have:((t:Int)).toNat=t:=by omega
 rw[this,v];exact h1;rename_i E;refine⟨A▸F.1,λj=>?_⟩;have ha:0<=x.B[q].a:=by obtain g|g|g:=F.1 <;> omega
 have e3:x.B[q].a.toNat≠f:=λe=>E ⟨j,by omega⟩
 obtain⟨_,b⟩|⟨a,_⟩:=F.2 j;exact b.elim;grind[Hp.c,qK];rw[A]at n;by_cases e:q=f
 ·grind[mvC,Hp.c,qK]
 by_cases o:q=t
 ·subst o;rw[v]at j ⊢;have:=((h.r4.2 f M).2 k j).2 (H f);exact⟨qQ _ _ _ (C q k) this.1,qQ _ _ _ (C q k) this.2⟩
 rw[s q e o]at j ⊢;have:=((h.r4.2 q n).2 k j).2 (H q);exact⟨qQ _ _ _ (C q k) this.1,qQ _ _ _ (C q k) this.2⟩;rw[A]at n;have cx:∀p,p<x.A.length->(x.c p).J≠1/\(x.c p).J≠2:=λp w=>by
  have c:=h.r5.2.1 p w;refine⟨λe=>?_,λe=>?_⟩;have:=c.1 e;rw[hg]at this;simp[cnt]at this;obtain m|m:=c.2.2 e
  ·obtain m|m:=m <;> omega
  have:=m.1;omega
 have cy:(y.c q).J≠1/\(y.c q).J≠2:=by grind[Hp.c,mvC,qK]
 exact⟨λe=>(cy.1 e).elim,λ_=>by rw[P];simp[cnt],λe=>(cy.2 e).elim⟩;exfalso;obtain e|e:=e <;> omega
theorem Snd.cols(h:Snd x)(d:x.E≠1/\x.E≠2/\x.E≠3)(i:Nat)(b:i<x.A.length):(x.c i).J≠1/\(x.c i).J≠2:=by
 have c:=h.r5.2.1 i b;refine⟨λe=>?_,λe=>?_⟩;have:=c.1 e;rw[h.nogray (λe=>by obtain e|e:=e <;> omega)]at this;simp[cnt]at this;obtain m|m:=c.2.2 e
 ·obtain m|m:=m <;> omega
 have:=m.1;omega
theorem Snd.turned(h:Snd x)(z:x.E≠1/\x.E≠2/\x.E≠3)(p j n q:Int)(f:0<=p/\p<=6/\p≠2/\p≠3/\p≠4)(I:0<=j/\j<=x.A.length)(F:0<=n/\n<=200)(E:0<=q/\q<=1000000000)(y:p<4->∀i,i<x.A.length->(x.c i).st≠2)
  (s:∀i k,i<x.A.length->k<(x.c i).F.length->¬cN x i k->¬cN { x with E:=p,I:=j,sub:=n,Q:=q } i k) (G:R6 { x with E:=p,I:=j,sub:=n,Q:=q }) (J:p=1->j=0) (H:R8 { x with E:=p,I:=j,sub:=n,Q:=q }):Snd { x with E:=p,I:=j,sub:=n,Q:=q }:=by
 have r:=h.r1;have qQ:∀(w:Wd)(m u:Prop),(m->u)->hE x w m->hE { x with E:=p,I:=j,sub:=n,Q:=q } w u:=λw m u v A=>by
  refine⟨A.1,λo=>?_⟩;obtain⟨a,b⟩|⟨a,_⟩:=A.2 o;exact .inl ⟨a,v b⟩;exact .inr ⟨a,λd=>f.2.2.2.1 d.1⟩
 refine⟨⟨r.M,r.B,r.A,r.D,r.born,E,r.S,r.per,r.V,⟨f.1,f.2.1⟩,I,F⟩,⟨λi g=>?_,h.r2.2⟩,h.r3,⟨λi g=>qQ _ _ _ id (h.r4.1 i g),λi g=>⟨λd=>f.2.2.2.1 d.1.1,λk o=>⟨λd=>(f.2.2.2.1 d.1).elim,λ_=>by have:=((h.r4.2 i g).2 k o).2 (λd=>z.2.2 d.1);exact⟨qQ _ _ _ (s i k g o) this.1,qQ _ _ _ (s i k g o) this.2⟩⟩⟩⟩,⟨λ_=>by show x.D.length=0;rw[h.nogray (λe=>by obtain e|e:=e <;> omega)];rfl,λi g=>by have c:=h.cols z i g;exact⟨λe=>(c.1 e).elim,λe=>(h.r5.2.1 i g).2.1 e,λe=>(c.2 e).elim⟩,h.r5.2.2⟩,G,λC i g=>?_,H⟩;obtain a|⟨a,b⟩|a:=h.r2.1 i g
 ·exact .inl a
 refine .inr (.inl ⟨a,b.1,?_,b.2.2.1,b.2.2.2.1,b.2.2.2.2.1,λe=>(f.2.2.2.2 e).elim⟩);show 4<=p;by_cases l:p<4
 ·exact(y l i g a).elim
 omega;exact .inr (.inr a);have D:p=1:=by
  have e:p=1\/p=2:=C;omega
 refine⟨λe=>?_,λk o=>?_⟩;grind[Cl.p,Hp.c,cN,R6,R8];have t:k<(if (x.c i).J=2 then (x.c i).F.length else if p=2/\x.D.length≠0/\x.D.getD 0 0=(i:Int) then n.toNat else 0):=o;rw[if_neg (h.cols z i g).2,if_neg (λe=>f.2.2.1 e.1)]at t;omega
theorem Snd.begin(h:Snd x)(c:x.E=0):Snd (dC x 1 0):=by
 refine h.turned ⟨by omega,by omega,by omega⟩ 1 0 0 x.Q (by refine⟨?_,?_,?_,?_,?_⟩<;>omega) ⟨by omega,by omega⟩ ⟨by omega,by omega⟩ h.r1.Q (λ_ i a=>h.nomoved (by omega) i a) (λi k _ _ e=>(e ⟨by omega,λb=>by omega⟩).elim) ⟨λe=>?_,λe=>?_,λe=>?_,λ_=>rfl⟩ (λ_=>rfl) (λi a e=>?_);all_goals grind[dC]
theorem Snd.u4(h:Snd x)(g:x.E=4):Snd (unit4 x):=by
 unfold unit4;have⟨f,b,d⟩:=a0i x;split;refine h.turned ⟨by omega,by omega,by omega⟩ 5 0 0 x.Q (by refine⟨?_,?_,?_,?_,?_⟩<;>omega) ⟨by omega,by omega⟩ ⟨by omega,by omega⟩ h.r1.Q (λe=>by omega) (λi k _ _ _ e=>?_) ⟨λe=>?_,λe=>?_,λ_=>⟨λ_=>rfl,λ_=>?_⟩,λe=>?_⟩ (λe=>by omega) (λi a e=>?_)
 ·have c:(i:Int)<0\/((i:Int)=0/\(k:Int)<0):=e.2 rfl;omega
 grind[unit4];grind[unit4];show(0:Int)<=_;omega;grind[unit4];grind[unit4];grind[a1y,uZ.A,a0x,Snd.mv,uE,unit4]
def zK(x:Hp)(c:Cl)(k:Nat):Cl:={ c with F:=c.F.set k ⟨zL x (c.p k).key,zL x (c.p k).val⟩ }
def dK(x:Hp):Hp:=if x.I=x.A.length then dC x 6 x.A.length else
 if x.sub<(x.c x.I.toNat).F.length then { x with A:=x.A.set x.I.toNat (zK x (x.c x.I.toNat) x.sub.toNat),sub:=x.sub+1 }
 else { x with I:=x.I+1,sub:=0 }
theorem Snd.mend(h:Snd x)(hp:x.E=5)(i k:Nat)(hi:x.I=(i:Int))(o:i<x.A.length)(N:x.sub=(k:Int))(ac:k<(x.c i).F.length):Snd { x with A:=x.A.set i (zK x (x.c i) k),sub:=x.sub+1 }:=by
 have aa:(x.c i).st=1:=by
  obtain⟨_,b,_⟩|⟨_,b⟩|⟨a,_⟩:=h.r2.1 i o;have:=b.2.2.2.2.2;omega;have:=b.1.2.2.2.2.2;omega;exact a
 have⟨y,s⟩:=obE ({ x with A:=x.A.set i (zK x (x.c i) k),sub:=x.sub+1 }:Hp);have T:∀q,y.c q=if q=i then zK x (x.c i) k else x.c q:=λq=>s▸Hp.c_set x i _ o q
 have t:y.A.length=x.A.length:=by rw[s];simp
 have L:y.A=x.A.set i (zK x (x.c i) k):=by rw[s]
 have P:y.E=5:=s▸hp;have yh:y.I=x.I:=by rw[s]
 have V:y.sub=x.sub+1:=by rw[s]
 have M:y.B=x.B:=by rw[s]
 have K:y.D=[]:=by rw[s];exact h.nogray (λe=>by obtain e|e:=e <;> omega)
 have y1:y.M=x.M/\y.K=x.K/\y.born=x.born/\y.per=x.per/\y.V=x.V/\y.Q=x.Q/\y.S=x.S:=s▸⟨rfl,rfl,rfl,rfl,rfl,rfl,rfl⟩;rw[<-s];have X:y.c i=zK x (x.c i) k:=by rw[T,if_pos rfl]
 have l:∀q,(y.c q).st=(x.c q).st/\(y.c q).kind=(x.c q).kind/\(y.c q).T=(x.c q).T/\(y.c q).U=(x.c q).U/\(y.c q).born=(x.c q).born/\(y.c q).J=(x.c q).J/\(y.c q).to=(x.c q).to/\(y.c q).F.length=(x.c q).F.length:=λq=>by grind[Hp.c,zK]
 have B:∀q,¬uW y q:=λq d=>by have:=d.1;omega
 have F:∀q,¬uW x q:=λq d=>by have:=d.1;omega
 have qQ:∀(u:Wd)(m v:Prop),(m->v)->hE x u m->hE y u v:=λu m v ab A=>by grind[hE,Hp.c,zK]
 have W:∀(u:Wd)(m v:Prop),hE x u m->hE y (zL x u) v:=λu m v A=>by
  unfold zL;split;rename_i e;have E:u.a.toNat<x.A.length:=by obtain f|f|f:=A.1 <;> omega
  obtain⟨a,_⟩|⟨_,b⟩|⟨a,_⟩:=h.r2.1 _ E;have:=e.2;omega;have⟨_,_,b3,b4,Z,_⟩:=b;refine⟨.inr (.inr ⟨rfl,rfl,b3,show(x.c u.a.toNat).to<_ by rw[t];omega⟩),λ_=>.inr ⟨?_,B _⟩⟩;rw[(l _).1];exact Z;have:=e.2;omega;rename_i e;refine⟨t▸A.1,λN=>?_⟩;rw[(l _).1];obtain⟨a,_⟩|⟨a,_⟩:=A.2 N
  ·exact(e ⟨N,a⟩).elim
  exact .inr ⟨a,B _⟩
 have I:=h.ok.p200 i o;have r:=h.r1;refine⟨⟨y1.1▸r.M,M▸r.B,by rw[t,y1.1];exact r.A,by rw[K];simp,y1.2.2.1▸r.born,y1.2.2.2.2.2.1▸r.Q,y1.2.2.2.2.2.2▸r.S,y1.2.2.2.1▸r.per,y1.2.2.2.2.1▸r.V,by rw[P];omega,by rw[yh,t];exact r.I,by rw[V];omega⟩,⟨λq n=>?_,λq n Q j C O=>?_⟩,by unfold R3;rw[y1.2.1,y1.1,L];have:dZ (x.A.set i (zK x (x.c i) k))=dZ x.A:=a3k _ _ _ o (by rw[Hp.c_eq x i o];unfold cL zK;simp);rw[this];exact h.r3,⟨λq n=>?_,λq n=>⟨λe=>B q e.1,λj C=>⟨λd=>(B q d).elim,λ_=>?_⟩⟩⟩,⟨λ_=>by rw[K];rfl,λq n=>by grind[Hp.c,Snd.cols,a0n,cnt,zK],λg w=>by rw[K]at w;cases w⟩,by grind[R6,Snd.I,Hp.c,zK],λe=>?_,λq n e=>by have:=e.1;omega⟩;rw[t]at n;have⟨z,J,e3,Y,G,U,D,e8⟩:=l q;unfold cQ a2m qD a5d;rw[z,J,e3,Y,G,U,D,e8,y1.2.2.1,P,(l _).1];obtain a|⟨a,b⟩|a:=h.r2.1 q n
 ·exact .inl a
 exact .inr (.inl ⟨a,b.1,by omega,b.2.2.1,b.2.2.2.1,b.2.2.2.2.1,λe=>by omega⟩);exact .inr (.inr a);rw[t]at n;have⟨z,_,_,_,G,_,D,_⟩:=l q;have⟨f1,_,_,_,R,_,f7,_⟩:=l j;rw[z,G,D,f1,R,f7]at O;rw[z]at Q;exact h.r2.2 q n Q j C O;have H:q<x.B.length:=M▸n;have J:y.B[q]=x.B[q]:=by simp[M]
 rw[J];exact qQ _ _ _ id (h.r4.1 q H);rw[t]at n;rw[(l q).2.2.2.2.2.2.2]at C;have h4:=((h.r4.2 q n).2 j C).2 (F q);by_cases e:q=i
 ·grind[Hp.c,Cl.p,zL,zK,cN]
 grind[cN,Hp.c,zK];exfalso;obtain e|e:=e <;> omega
theorem Snd.u5(h:Snd x)(d:x.E=5):Snd (dK x):=by
 have s:=h.r1.I;have u:=h.r1.sub;have r:=h.r6.2.2.1 d;unfold dK;split;rename_i w;refine h.turned ⟨by omega,by omega,by omega⟩ 6 x.A.length 0 x.Q (by refine⟨?_,?_,?_,?_,?_⟩<;>omega) ⟨by omega,by omega⟩ ⟨by omega,by omega⟩ h.r1.Q (λe=>by omega) (λi k b _ e=>(e ⟨by omega,λ_=>.inl (by omega)⟩).elim) ⟨λe=>?_,λe=>?_,λe=>?_,λ_=>rfl⟩ (λe=>by omega) (λi b e=>?_)
 ·grind[dK]
 grind[dK];grind[dK];grind[uZ.A,dK];rename_i l;split
 ·grind[Snd.mend,Snd.I,dK]
 rename_i a;have⟨i,b⟩:∃i:Nat,x.I=(i:Int):=⟨x.I.toNat,by omega⟩;have p:i<x.A.length:=by omega
 have o:x.I.toNat=i:=by omega
 rw[o]at r a;have j:∀k,k<(x.c i).F.length->(k:Int)<x.sub:=λk f=>by grind[Hp.c,dK]
 have n:({ x with I:=x.I+1,sub:=0 }:Hp)={ x with E:=x.E,I:=x.I+1,sub:=0,Q:=x.Q }:=rfl;rw[n,d];refine h.turned ⟨by omega,by omega,by omega⟩ 5 (x.I+1) 0 x.Q (by refine⟨?_,?_,?_,?_,?_⟩<;>omega) ⟨by omega,by omega⟩ ⟨by omega,by omega⟩ h.r1.Q (λe=>by omega) (λq k g f e m=>e ⟨by omega,λ_=>?_⟩) ⟨λe=>?_,λe=>?_,λ_=>⟨λ_=>rfl,λ_=>?_⟩,λe=>?_⟩ (λe=>by omega) (λq g e=>?_);have t:(q:Int)<x.I+1\/((q:Int)=x.I+1/\(k:Int)<0):=m.2 rfl;by_cases v:q=i
 ·grind[dK]
 left;omega;grind[dK];grind[dK];show(0:Int)<=_;omega;grind[dK];grind[dK]
def dV(x:Hp)(i:Nat):Hp:={ x with A:=if (x.c i).st=2 then x.A.set i Cl0 else x.A,I:=(i:Int) }
def tZ(x:Hp)(i:Nat):Hp:=if i+1=x.A.length/\(x.c i).st=0 then { x with A:=x.A.take i } else x
def dX(x:Hp):Hp:=if x.I=0 then { x with E:=0,I:=0,sub:=0,Q:=if x.Q<1000000000 then x.Q+1 else x.Q } else tZ (dV x (x.I-1).toNat) (x.I-1).toNat
theorem Snd.noword(h:Snd x)(n:x.E=6):(∀i (b:i<x.B.length),eD x x.B[i])/\∀i k,i<x.A.length->k<(x.c i).F.length->eD x ((x.c i).p k).key/\eD x ((x.c i).p k).val:=by
 refine⟨λi b=>h.good_reg i b,λi k b l=>?_⟩;have r:=((h.r4.2 i b).2 k l).2 (λd=>by have:=d.1;omega);have a:cN x i k:=⟨by omega,λm=>by omega⟩;have j:∀y,hE x y (¬cN x i k)->eD x y:=λy g e=>by
  obtain⟨_,h2⟩|⟨h1,_⟩:=g.2 e;exact(h2 a).elim;refine⟨?_,h1⟩;obtain f|f|f:=g.1 <;> omega
 exact⟨j _ r.1,j _ r.2⟩
theorem Snd.shut(h:Snd x)(F:x.E=6)(i:Nat)(Y:x.I=(i:Int)+1):Snd (dV x i):=by
 have z:=h.r1.I;have T:i<x.A.length:=by omega
 have⟨U,N⟩:=h.noword F;have⟨y,k⟩:=obE (dV x i:Hp);have w:∀q,y.c q=if q=i/\(x.c i).st=2 then Cl0 else x.c q:=λq=>by grind[Hp.c,Cl0,dV,uZ.A,yQ.set,Snd.I,Hp.c_set]
 have l:y.A.length=x.A.length:=by rw[k];unfold dV;split <;> simp
 have R:dZ y.A=dZ x.A:=by grind[dZ,uZ.A,dV,a3k,Hp.c_eq,cL,Cl0]
 have A:y.E=6:=k▸F;have J:y.I=(i:Int):=by rw[k];rfl
 have I:y.sub=x.sub:=by rw[k];rfl
 have E:y.B=x.B:=by rw[k];rfl
 have B:y.D=[]:=by rw[k];exact h.nogray (λe=>by obtain e|e:=e <;> omega)
 have y1:y.M=x.M/\y.K=x.K/\y.born=x.born/\y.per=x.per/\y.V=x.V/\y.Q=x.Q/\y.S=x.S:=k▸⟨rfl,rfl,rfl,rfl,rfl,rfl,rfl⟩;rw[<-k];have t:∀q,(x.c q).st=1->y.c q=x.c q:=λq e=>by grind[Hp.c,dV]
 have K:∀q,¬uW y q:=λq d=>by have:=d.1;omega
 have qQ:∀u m H,eD x u->hE x u m->hE y u H:=λu m H S V=>by grind[eD,hE,dV]
 have C:∀q,0<(y.c q).F.length->y.c q=x.c q:=λq f=>by grind[Hp.c,Cl0,dV]
 have r:=h.r1;refine⟨⟨y1.1▸r.M,E▸r.B,by rw[l,y1.1];exact r.A,by rw[B];simp,y1.2.2.1▸r.born,y1.2.2.2.2.2.1▸r.Q,y1.2.2.2.2.2.2▸r.S,y1.2.2.2.1▸r.per,y1.2.2.2.2.1▸r.V,by rw[A];omega,by rw[J,l];omega,I▸r.sub⟩,⟨λq f=>?_,λq f o j p z=>?_⟩,⟨by rw[y1.2.1,R];exact h.r3.1,by rw[y1.2.1,y1.1];exact h.r3.2⟩,⟨λq f=>?_,λq f=>⟨λe=>K q e.1,λj p=>⟨λd=>(K q d).elim,λ_=>by rw[l]at f;have e:=C q (by omega);rw[e]at p ⊢;have G:=((h.r4.2 q f).2 j p).2 (λd=>by have:=d.1;omega);exact⟨qQ _ _ _ (N q j f p).1 G.1,qQ _ _ _ (N q j f p).2 G.2⟩⟩⟩⟩,⟨λ_=>by rw[B];rfl,λq f=>?_,λg s=>by rw[B]at s;cases s⟩,by unfold R6;rw[A,I];exact⟨λe=>by omega,λe=>by omega,λe=>by omega,λ_=>h.r6.2.2.2 (by omega)⟩,λe=>?_,λq f e=>?_⟩;rw[l]at f;unfold cQ;rw[w];split
 ·exact .inl ⟨rfl,⟨rfl,rfl,rfl,rfl,rfl,rfl⟩,rfl⟩
 obtain a|⟨a,b⟩|⟨a,b⟩:=h.r2.1 q f
 ·exact .inl a
 exact .inr (.inl ⟨a,b.1,by rw[A];omega,b.2.2.1,b.2.2.2.1,t _ b.2.2.2.2.1▸b.2.2.2.2.1,λe=>by rw[A]at e;omega⟩);exact .inr (.inr ⟨a,b.1,b.2.1,b.2.2.1,y1.2.2.1▸b.2.2.2.1,b.2.2.2.2⟩);rw[l]at f;have L:y.c q=x.c q:=by
  rw[w]at o ⊢;split;rename_i e;rw[if_pos e]at o;exact(o rfl).elim;rfl
 have P:y.c j=x.c j:=by
  have D:=z.1;rw[w j]at D ⊢;split;rename_i e;rw[if_pos e]at D;exact(o D.symm).elim;rfl
 rw[L,P]at z;rw[L]at o;exact h.r2.2 q f o j p z;have v:q<x.B.length:=E▸f;have n:y.B[q]=x.B[q]:=by simp[E]
 rw[n];exact qQ _ _ _ (U q v) (h.r4.1 q v);rw[l]at f;have c:=h.cols ⟨by omega,by omega,by omega⟩ q f;have M:(y.c q).J≠1/\(y.c q).J≠2:=by grind[Hp.c,Cl0,dV]
 exact⟨λe=>(M.1 e).elim,λ_=>by rw[B];simp[cnt],λe=>(M.2 e).elim⟩;exfalso;obtain e|e:=e <;> omega
 rw[l]at f;have n:=e.2.2;have Q:=e.2.1;rw[J]at Q;rw[w]at n;split at n
 ·simp[Cl0]at n
 rename_i X;by_cases W:q=i
 ·grind[dV]
 exact h.r8 q f ⟨F,by omega,n⟩
theorem Snd.drop(h:Snd x)(N:x.E=6)(i:Nat)(W:x.I=(i:Int)):Snd (tZ x i):=by
 unfold tZ;split;rotate_left;exact h;rename_i P;have⟨A,U⟩:=P;have⟨V,M⟩:=h.noword N;have⟨y,n⟩:=obE ({ x with A:=x.A.take i }:Hp);have p:y.A.length=i:=by rw[n];simp;omega
 have o:∀q,q<i->y.c q=x.c q:=λq l=>by grind[Hp.c,tZ]
 have S:dZ y.A=dZ x.A:=by
  have e:=a5i x.A i (by omega);rw[show i+1=x.A.length from A,mG,Hp.c_eq x i (by omega)]at e;have:cL (x.c i)=0:=by unfold cL;rw[if_neg (by omega)]
  rw[n];show dZ (x.A.take i)=_;omega
 have C:y.E=6:=n▸N;have R:y.I=(i:Int):=n▸W;have J:y.sub=x.sub:=by rw[n]
 have G:y.B=x.B:=by rw[n]
 have E:y.D=[]:=by rw[n];exact h.nogray (λe=>by obtain e|e:=e <;> omega)
 have y1:y.M=x.M/\y.K=x.K/\y.born=x.born/\y.per=x.per/\y.V=x.V/\y.Q=x.Q/\y.S=x.S:=n▸⟨rfl,rfl,rfl,rfl,rfl,rfl,rfl⟩;rw[<-n];have F:∀q,¬uW y q:=λq d=>by have:=d.1;omega
 have qQ:∀u m I,eD x u->hE x u m->hE y u I:=λu m I z Q=>by
  have t:u.k=2->u.a.toNat<i:=λB=>by
   have:=z B;have:u.a.toNat≠i:=λe=>by rw[e]at this;omega
   omega
  refine⟨?_,λB=>.inr ⟨by rw[o _ (t B)];exact(z B).2,F _⟩⟩;rw[p];obtain f|f|f:=Q.1
  ·exact .inl f
  exact .inr (.inl f);refine .inr (.inr ⟨f.1,f.2.1,f.2.2.1,?_⟩);have:=t f.1;omega
 have r:=h.r1;refine⟨⟨y1.1▸r.M,G▸r.B,by rw[p,y1.1];have:=r.A;omega,by rw[E];simp,y1.2.2.1▸r.born,y1.2.2.2.2.2.1▸r.Q,y1.2.2.2.2.2.2▸r.S,y1.2.2.2.1▸r.per,y1.2.2.2.2.1▸r.V,by rw[C];omega,by rw[R,p];omega,J▸r.sub⟩,⟨λq l=>?_,λq l L j s K=>by rw[p]at l;rw[o q l,o j (by omega)]at K;rw[o q l]at L;exact h.r2.2 q (by omega) L j s K⟩,⟨by rw[y1.2.1,S];exact h.r3.1,by rw[y1.2.1,y1.1];exact h.r3.2⟩,⟨λq l=>?_,λq l=>⟨λe=>F q e.1,λj s=>⟨λd=>(F q d).elim,λ_=>by rw[p]at l;rw[o q l]at s ⊢;have H:=((h.r4.2 q (by omega)).2 j s).2 (λd=>by have:=d.1;omega);exact⟨qQ _ _ _ (M q j (by omega) s).1 H.1,qQ _ _ _ (M q j (by omega) s).2 H.2⟩⟩⟩⟩,⟨λ_=>by rw[E];rfl,λq l=>by grind[Hp.c,Snd.cols,a0n,cnt,tZ],λg v=>by rw[E]at v;cases v⟩,by unfold R6;rw[C,J];exact⟨λe=>by omega,λe=>by omega,λe=>by omega,λ_=>h.r6.2.2.2 (by omega)⟩,λe=>?_,λq l e=>by grind[tZ]⟩;rw[p]at l;unfold cQ;rw[o q l];obtain a|⟨a,b⟩|⟨a,b⟩:=h.r2.1 q (by omega)
 ·exact .inl a
 have D:(x.c q).to.toNat<i:=by have:=b.2.2.1;have:=b.2.2.2.1;omega
 exact .inr (.inl ⟨a,b.1,by rw[C];omega,b.2.2.1,b.2.2.2.1,o _ D▸b.2.2.2.2.1,λe=>by rw[C]at e;omega⟩);exact .inr (.inr ⟨a,b.1,b.2.1,b.2.2.1,y1.2.2.1▸b.2.2.2.1,b.2.2.2.2⟩);have w:q<x.B.length:=G▸l;have T:y.B[q]=x.B[q]:=by simp[G]
 rw[T];exact qQ _ _ _ (V q w) (h.r4.1 q w);exfalso;obtain e|e:=e <;> omega
theorem Snd.u6(h:Snd x)(a:x.E=6):Snd (dX x):=by
 have d:=h.r1.I;unfold dX;split;rename_i f;refine h.turned ⟨by omega,by omega,by omega⟩ 0 0 0 _ (by refine⟨?_,?_,?_,?_,?_⟩<;>omega) ⟨by omega,by omega⟩ ⟨by omega,by omega⟩ (by have:=h.r1.Q;split <;> omega) (λ_ i b e=>h.r8 i b ⟨a,by omega,e⟩) (λi k _ _ e=>(e ⟨by omega,λg=>by omega⟩).elim) ⟨λ_=>⟨rfl,rfl⟩,λe=>?_,λe=>?_,λe=>?_⟩ (λe=>by omega) (λi b e=>?_)
 ·grind[dX]
 grind[dX];grind[dX];grind[dX];rename_i c;have e:x.I=(((x.I-1).toNat:Nat):Int)+1:=by omega
 exact (h.shut a _ e).drop a _ rfl
def cJ(x:Hp):Hp:=if x.E=1 then eH x else if x.E=2 then dW x else if x.E=3 then dD x else if x.E=4 then unit4 x else if x.E=5 then dK x else if x.E=6 then dX x else x
theorem Snd.unit(h:Snd x):Snd (cJ x):=by grind[cJ,Snd.u1,Snd.u2,Snd.u3,Snd.u4,Snd.u5,Snd.u6]
def sm(F:Cl->Nat)(cs:List Cl):Nat:=(cs.map F).sum
theorem b4n(F:Cl->Nat)(cs:List Cl)(i:Nat)(c:Cl)(b:i<cs.length):sm F (cs.set i c)+F cs[i]=sm F cs+F c:=by
 induction cs generalizing i with
 | nil=>simp at b
 | cons a cs ih=>
  cases i with
  | zero=>simp[sm];omega
  | succ i=>
   have:=ih i (by simpa using b);simp[sm]at this ⊢;omega
theorem c6h(F:Cl->Nat)(b:Nat):∀(cs:List Cl),(∀c,c∈cs->F c<=b)->sm F cs<=b*cs.length
 | [],_=>by simp[sm]
 | c::cs,h=>by
  have h1:=c6h F b cs (λd hd=>h d (by simp[hd]));have h2:=h c (by simp);simp only[sm,List.map_cons,List.sum_cons,List.length_cons,Nat.mul_add]at h1 ⊢;omega
theorem sm_drop(F:Cl->Nat)(cs:List Cl)(i:Nat)(a:i<cs.length):sm F (cs.drop i)=F cs[i]+sm F (cs.drop (i+1)):=by
 rw[nX a];simp only[sm,List.map_cons,List.sum_cons]
theorem c0o(F:Cl->Nat)(cs:List Cl)(i k:Nat)(c:Cl)(d:i<cs.length)(h:F c=F cs[i]):sm F ((cs.set i c).drop k)=sm F (cs.drop k):=by
 have e:(cs.set i c).map F=cs.map F:=by
  refine List.ext_getElem (by simp) (λj b a=>?_);simp only[List.getElem_map,List.getElem_set];split;rename_i q;subst q;exact h;rfl
 simp only[sm,List.map_drop,e]
def D2(c:Cl):Nat:=if c.st=1/\c.J≠2 then c.F.length+2+(if c.J=0 then 1 else 0) else 0
def D4(c:Cl):Nat:=if c.st=0 then 1 else 0
def D5(c:Cl):Nat:=c.F.length+1
def part(x:Hp):Nat:=
 if x.E=2 then sm D2 x.A-x.sub.toNat else if x.E=4 then sm D4 x.A else if x.E=5 then sm D5 (x.A.drop x.I.toNat)-x.sub.toNat else if x.E=6 then x.I.toNat else ((x.A.length:Int)-x.I).toNat
def mu(x:Hp):Nat:=if x.E=0 then 0 else (6-x.E).toNat*2000000+part x+1
theorem Snd.pbound(h:Snd x):part x<2000000:=by
 have f:=h.ok.n8;have d:∀c,c∈x.A->c.F.length<=200:=λc a=>by
  have⟨i,b,e⟩:=mQ a;have:=h.ok.p200 i b;rw[<-e,Hp.c_eq x i b];exact this
 have g:=h.r1.I;unfold part;split;have:=c6h D2 203 x.A (λc a=>by have:=d c a;unfold D2;split <;> (try split) <;> omega);omega;split;have:=c6h D4 1 x.A (λc a=>by unfold D4;split <;> omega);omega;split;have:=c6h D5 201 (x.A.drop x.I.toNat) (λc a=>by have:=d c (List.mem_of_mem_drop a);unfold D5;omega);simp only[List.length_drop]at this;omega;split <;> omega
theorem Snd.mu_le(h:Snd x):mu x<=14000000:=by
 have a:=h.pbound;have:=h.r1.E;unfold mu;split <;> omega
theorem a3f(c:y.E=x.E)(b:x.E≠0)(a:part y<part x):mu y<mu x:=by grind[part,mu]
theorem a9x(s:Snd y)(b:y.E=x.E+1)(a:1<=x.E/\x.E<=5):mu y<mu x:=by grind[mu,Snd.pbound]
theorem c7p(x:Hp)(i:Nat)(d:i<x.A.length):sm D2 (uK x i).A+(uK x i).D.length=sm D2 x.A+x.D.length:=by
 unfold uK;by_cases a:eE x i=true;rw[if_pos a];have b:=(a5o a).2;have:=b4n D2 x.A i (yV (x.c i)) d;have e:D2 (yV (x.c i))=(x.c i).F.length+2:=by simp[D2,yV,b.1]
 have f:D2 (x.c i)=(x.c i).F.length+3:=by simp[D2,b.1,b.2]
 rw[Hp.c_eq x i d,e,f]at this;simp only[List.length_append,List.length_singleton];omega;rw[if_neg a]
theorem a8y(x:Hp)(y:Wd)(a:eD x y):sm D2 (uX x y).A+(uX x y).D.length=sm D2 x.A+x.D.length:=by grind[eD,sm,D2,uX,uZ.A,c7p]
theorem c0p:∀(ys:List Wd)(z:Hp),(∀y,y∈ys->eD z y)->sm D2 (ys.foldl uX z).A+(ys.foldl uX z).D.length=sm D2 z.A+z.D.length
 | [],_,_=>rfl
 | y::ys,z,h=>by
  have h1:=h y (by simp);rw[List.foldl_cons,c0p ys (uX z y) (λu hu=>(h u (by simp[hu])).keep (a0b z y).2.1 (a4u z y h1)),a8y z y h1]
theorem b4o(x:Hp)(y:Wd):x.D.length<=(uX x y).D.length:=by
 have⟨L,e⟩:=b2u x y;rw[e];simp
theorem Snd.less{x:Hp}(h:Snd x)(C:x.E≠0):mu (cJ x)<mu x:=by
 have hr:=h.r1.E;have hh:=h.r1.I;have hs:=h.r1.sub;by_cases j:x.E=1;have s:=h.u1 j;rw[show cJ x=eH x by unfold cJ;rw[if_pos j]];unfold eH at s ⊢;split
 ·rename_i e;rw[if_pos e]at s;exact a9x s (by show(2:Int)=x.E+1;omega) ⟨by omega,by omega⟩
 grind[Snd.I,uZ.A,cC,a3f,kZ,Hp.c,uK,part,mu,cJ];by_cases a:x.E=2;have s:=h.u2 a;have B:=h.r6.2.1 a;have A:∀z:Hp,z.E=2->part z=sm D2 z.A-z.sub.toNat:=λz l=>by
  unfold part;rw[if_pos l]
 rw[show cJ x=dW x by unfold cJ;rw[if_neg j,if_pos a]];cases d:x.D with
 | cons g G=>
  have O:=B.2.2 (by rw[d];simp);have eg:x.g0=g.toNat:=by simp[Hp.g0,d]
  rw[eg]at O;have m:∃i:Nat,g=(i:Int)/\i<x.A.length/\(x.c i).st=1/\(x.c i).J=1:=by
   have n:g∈x.D:=d▸mP ..;have Q:=b1f h.r2 h.r5 g n;have X:=h.r5.2.2 g n;refine⟨g.toNat,by omega,by omega,Q.2,Q.1⟩
  obtain⟨i,rfl,k,v,I⟩:=m;have R:((i:Int)).toNat=i:=by omega
  rw[R]at O;have d2:D2 (x.c i)=(x.c i).F.length+2:=by simp[D2,v,I]
  have Y:D2 (x.c i)<=sm D2 x.A:=by
   have:=b4n D2 x.A i Cl0 k;have z0:D2 Cl0=0:=by simp[D2,Cl0]
   rw[Hp.c_eq x i k,z0]at this;omega
  unfold dW;rw[d];simp only[R];by_cases E:x.sub<(x.c i).F.length;rw[if_pos E];have K:=h.good_pair (.inr a) i x.sub.toNat k (by omega);have T:=a0b x ((x.c i).p x.sub.toNat).key;have s1:=a8y x _ K.1;have s2:=a8y _ _ (K.2.keep T.2.1 (a4u x _ K.1));have g1:=b4o x ((x.c i).p x.sub.toNat).key;have g2:=b4o (uX x ((x.c i).p x.sub.toNat).key) ((x.c i).p x.sub.toNat).val;have L:(uX (uX x ((x.c i).p x.sub.toNat).key) ((x.c i).p x.sub.toNat).val).E=x.E:=by rw[(a0b (uX x ((x.c i).p x.sub.toNat).key) ((x.c i).p x.sub.toNat).val).2.2.1,T.2.2.1]
  refine a3f L C ?_;rw[A x a,A _ (by show(uX (uX x ((x.c i).p x.sub.toNat).key) ((x.c i).p x.sub.toNat).val).E=2;rw[L];exact a)];show sm D2 (uX (uX x ((x.c i).p x.sub.toNat).key) ((x.c i).p x.sub.toNat).val).A-(x.sub+1).toNat<_;omega;grind[a3f,sm,D2,uZ.A,yQ.set,a1w,Hp.c,b4n,Hp.c_eq,mu]
 | nil=>
  have H:=(h.look a).1;unfold dW at s ⊢;rw[d]at s ⊢;simp only at s ⊢;by_cases D:(zX x).D=[];rw[if_pos D]at s ⊢;exact a9x s (by show(3:Int)=x.E+1;omega) ⟨by omega,by omega⟩;rw[if_neg D];refine a3f H.E C ?_;rw[A x a,A _ (H.E▸a),H.sub,B.2.1 (by rw[d];rfl)];have r:sm D2 (zX x).A+(zX x).D.length=sm D2 x.A+x.D.length:=c0p x.B x (λy V=>by
   obtain⟨i,k,e⟩:=mQ V;rw[<-e];exact h.good_reg i k);have:(zX x).D.length≠0:=λe=>D (mU e)
  rw[d]at r;simp only[List.length_nil]at r;simp only[Int.toNat_zero];omega
 by_cases w:x.E=3;have s:=h.u3 w;have e3:∀z:Hp,z.E=3->part z=((z.A.length:Int)-z.I).toNat:=λz l=>by grind[part,uZ.A,Snd.I,mu,cJ]
 rw[show cJ x=dD x by unfold cJ;rw[if_neg j,if_neg a,if_pos w]];unfold dD at s ⊢;split;rename_i e;rw[if_pos e]at s;exact a9x s (by show(4:Int)=x.E+1;omega) ⟨by omega,by omega⟩;grind[a3f,mu,cJ];by_cases u:x.E=4;have s:=h.u4 u;have N:∀z:Hp,z.E=4->part z=sm D4 z.A:=λz l=>by
  unfold part;rw[if_neg (by omega),if_pos l]
 rw[show cJ x=unit4 x by unfold cJ;rw[if_neg j,if_neg a,if_neg w,if_pos u]];unfold unit4 at s ⊢;split;rename_i e;rw[if_pos e]at s;exact a9x s (by show(5:Int)=x.E+1;omega) ⟨by omega,by omega⟩;rename_i e;have U:=a0i x;obtain⟨q,_⟩|⟨f,q,hf,v,_⟩:=a1y x x.A.length
 ·omega
 rw[q]at e ⊢;have ef:((f:Int)).toNat=f:=by omega
 rw[ef];have⟨t,ht⟩:=obE (uE x);rw[<-ht]at U e ⊢;refine a3f rfl C ?_;rw[N x u];refine Nat.lt_of_le_of_lt (Nat.le_of_eq (N _ ?_)) ?_;exact u;show sm D4 ((x.A.set t (x.c f)).set f (mvC t))<_;have a1:=b4n D4 x.A t (x.c f) (by omega);have a2:=b4n D4 (x.A.set t (x.c f)) f (mvC t) (by rw[List.length_set];exact hf);have a3:(x.A.set t (x.c f))[f]'(by rw[List.length_set];exact hf)=x.c f:=by
  rw[List.getElem_set,if_neg (by omega),Hp.c_eq]
 rw[a3]at a2;rw[Hp.c_eq x t (by omega)]at a1;have b2:D4 (mvC t)=0:=by simp[D4,mvC]
 have b3:D4 (x.c t)=1:=by simp[D4,U.2.2 (by omega)]
 omega;by_cases o:x.E=5;have s:=h.u5 o;have B:=h.r6.2.2.1 o;have P:∀z:Hp,z.E=5->part z=sm D5 (z.A.drop z.I.toNat)-z.sub.toNat:=λz l=>by
  unfold part;rw[if_neg (by omega),if_neg (by omega),if_pos l]
 rw[show cJ x=dK x by unfold cJ;rw[if_neg j,if_neg a,if_neg w,if_neg u,if_pos o]];unfold dK at s ⊢;split;rename_i e;rw[if_pos e]at s;exact a9x s (by show(6:Int)=x.E+1;omega) ⟨by omega,by omega⟩;rename_i e;have⟨i,k⟩:∃i:Nat,x.I=(i:Int):=⟨x.I.toNat,by omega⟩;have b:i<x.A.length:=by omega
 have S:x.I.toNat=i:=by omega
 rw[S]at B ⊢;have M:x.sub<=(x.c i).F.length:=by grind[Hp.c,mu,cJ]
 have dr:=sm_drop D5 x.A i b;have d5:D5 x.A[i]=(x.c i).F.length+1:=by rw[Hp.c_eq x i b];rfl
 split;refine a3f rfl C ?_;rw[P x o];refine Nat.lt_of_le_of_lt (Nat.le_of_eq (P _ ?_)) ?_
 ·exact o
 show sm D5 ((x.A.set i (zK x (x.c i) x.sub.toNat)).drop x.I.toNat)-(x.sub+1).toNat<_;rw[c0o D5 x.A i _ _ b (by rw[Hp.c_eq x i b];simp[D5,zK]),S];omega;grind[a3f,sm,D5,uZ.A,Snd.drop,Snd.I,mu,cJ];grind[part,Snd.I,cJ,dX,mu,tZ,dV,a3f]
def itU:Nat->Hp->Hp
 | 0,x=>x
 | k+1,x=>cJ (itU k x)
theorem Snd.itU{x:Hp}(h:Snd x):∀k,Snd (itU k x)
 | 0=>h
 | k+1=>(Snd.itU h k).unit
def kY(x:Hp)(k:Nat):Prop:=∀j,j<k->(itU j x).E≠0
def b2v(x:Hp)(k:Nat):Prop:=(itU k x).E=0/\kY x k
theorem kY.zero(x:Hp):kY x 0:=λj h=>by omega
theorem kY.succ(h:kY x k)(a:(itU k x).E≠0):kY x (k+1):=by grind[kY,itU,Snd.itU]
theorem b2v.uniq(a:b2v x j)(b:b2v x k):j=k:=by
 obtain h|h|h:=nY j k;exact(b.2 j h a.1).elim;exact h;exact(a.2 k h b.1).elim
theorem kY.mu{x:Hp}(s:Snd x):∀k,kY x k->mu (itU k x)+k<=mu x
 | 0,_=>by simp[Go.Proofs.YtgkpaibbdkggiaaGreatDoor.itU]
 | k+1,h=>by
  have h1:=kY.mu s k (λj hj=>h j (by omega));have h2:=(s.itU k).less (h k (by omega));simp only[Go.Proofs.YtgkpaibbdkggiaaGreatDoor.itU];omega
theorem kY.le(s:Snd x)(h:kY x k):k<=14000000:=by
 have:=kY.mu s k h;have:=s.mu_le;omega
def a2f(x:Hp)(n k:Nat):Prop:=kY x k/\k<=n/\(k=n\/(itU k x).E=0)
theorem a2f.uniq(a:a2f x n j)(b:a2f x n k):j=k:=by
 obtain h|h|h:=nY j k;obtain e|e:=a.2.2
 ·have:=b.2.1;omega
 exact(b.1 j h e).elim;exact h;obtain e|e:=b.2.2
 ·have:=a.2.1;omega
 exact(a.1 k h e).elim
def regTo(x:Hp)(r:Nat)(y:Wd):Hp:={ x with B:=x.B.set r y }
theorem Snd.regTo(h:Snd x)(r:Nat)(y:Wd)(hy:hE x y False):Snd (regTo x r y) where
 r1:=⟨h.r1.M,by simp[Proofs.YtgkpaibbdkggiaaGreatDoor.regTo];exact h.r1.B,h.r1.A,h.r1.D,h.r1.born,h.r1.Q,h.r1.S,h.r1.per,h.r1.V,h.r1.E,h.r1.I,h.r1.sub⟩
 r2:=h.r2
 r3:=h.r3
 r4:=⟨λi hi=>by
  have hi2:i<x.B.length:=by simpa[Proofs.YtgkpaibbdkggiaaGreatDoor.regTo]using hi
  by_cases e:r=i;subst e;have:(Proofs.YtgkpaibbdkggiaaGreatDoor.regTo x r y).B[r]=y:=by simp[Proofs.YtgkpaibbdkggiaaGreatDoor.regTo]
  rw[this];exact hy;have:(Proofs.YtgkpaibbdkggiaaGreatDoor.regTo x r y).B[i]=x.B[i]:=by simp[Proofs.YtgkpaibbdkggiaaGreatDoor.regTo,List.getElem_set_ne e]
  rw[this];exact h.r4.1 i hi2,h.r4.2⟩
 r5:=h.r5
 r6:=h.r6
 r7:=h.r7
 r8:=h.r8
def paceTo(x:Hp)(p s:Int):Hp:={ x with per:=p,V:=s }
theorem Snd.paceTo(h:Snd x)(p s:Int)(hp:0<=p/\p<=64)(hs:0<=s/\s<=4000):Snd (paceTo x p s) where
 r1:=⟨h.r1.M,h.r1.B,h.r1.A,h.r1.D,h.r1.born,h.r1.Q,h.r1.S,hp,hs,h.r1.E,h.r1.I,h.r1.sub⟩
 r2:=h.r2
 r3:=h.r3
 r4:=h.r4
 r5:=h.r5
 r6:=h.r6
 r7:=h.r7
 r8:=h.r8
def forceTo(x:Hp):Hp:={ x with S:=if x.S<1000000000 then x.S+1 else x.S }
theorem Snd.forceTo(h:Snd x):Snd (forceTo x) where
 r1:=⟨h.r1.M,h.r1.B,h.r1.A,h.r1.D,h.r1.born,h.r1.Q,by have:=h.r1.S;show 0<=(if x.S<1000000000 then x.S+1 else x.S)/\(if x.S<1000000000 then x.S+1 else x.S)<=1000000000;split <;> omega,h.r1.per,h.r1.V,h.r1.E,h.r1.I,h.r1.sub⟩
 r2:=h.r2
 r3:=h.r3
 r4:=h.r4
 r5:=h.r5
 r6:=h.r6
 r7:=h.r7
 r8:=h.r8
def a8z(x:Hp)(y:Hp):Prop:=∃k,b2v x k/\y=itU k x
theorem a8z.uniq(h:a8z x y)(g:a8z x z):y=z:=by
 have⟨j,a,b⟩:=h;have⟨k,c,d⟩:=g;rw[b,d,a.uniq c]
theorem a8z.snd(s:Snd x)(h:a8z x y):Snd y/\y.E=0:=by
 have⟨k,a,b⟩:=h;rw[b];exact⟨s.itU k,a.1⟩
def stepH(x:Hp)(n:Nat):Hp:=if x.E=0/\n≠0 then dC x 1 0 else x
theorem Snd.stepH(s:Snd x)(n:Nat):Snd (stepH x n):=by grind[stepH,Snd.begin]
def zV(x:Hp)(u:Nat):Bool:=decide (x.K+u<=x.M)
def a9y(x z:Hp):Prop:=∃y,a8z x y/\a8z (dC y 1 0) z
theorem a9y.uniq(h:a9y x y)(k:a9y x z):y=z:=by
 have⟨a,c,d⟩:=h;have⟨b,g,f⟩:=k;have e:=c.uniq g;subst e;exact d.uniq f
theorem a9y.snd(s:Snd x)(h:a9y x z):Snd z:=by grind[a9y,a8z.snd,qU.snd,Snd.begin]
def tY(x:Hp)(u:Nat)(y:Hp):Prop:=(zV x u=true/\y=x)\/(zV x u=false/\a9y (forceTo x) y)
theorem tY.uniq(h:tY x u y)(k:tY x u z):y=z:=by
 obtain⟨h1,h2⟩|⟨h1,h2⟩:=h <;> obtain⟨k1,k2⟩|⟨k1,k2⟩:=k
 rw[h2,k2];rw[h1]at k1;cases k1;rw[h1]at k1;cases k1;exact h2.uniq k2
theorem tY.snd(s:Snd x)(h:tY x u y):Snd y:=by
 obtain⟨_,h⟩|⟨_,h⟩:=h;rw[h];exact s;exact h.snd s.forceTo
def a3v(x:Hp)(u:Nat):Bool:=x.per == 0 || (u == 0 || (x.E == 0 && decide (x.K<=x.V)))
def tL(x:Hp)(u:Nat)(y:Hp):Prop:=(a3v x u=true/\y=x)\/(a3v x u=false/\∃k,a2f (stepH x (x.per.toNat*u)) (x.per.toNat*u) k/\y=itU k (stepH x (x.per.toNat*u)))
theorem tL.uniq(h:tL x u y)(k:tL x u z):y=z:=by
 obtain⟨h1,h2⟩|⟨h1,j,h2,h3⟩:=h <;> obtain⟨k1,k2⟩|⟨k1,i,k2,k3⟩:=k
 rw[h2,k2];rw[h1]at k1;cases k1;rw[h1]at k1;cases k1;rw[h3,k3,h2.uniq k2]
theorem tL.snd(s:Snd x)(h:tL x u y):Snd y:=by grind[tL,stepH,Snd.stepH,itU,Snd.itU]
theorem GAt.turn[qr](h:GAt B w g x ar kr ac kc vg br bc pb pa pk role)(cs:List Cl)(H:cs.length=x.A.length)(n:Nat->Nat)(A:Nat->Option Addr)(t:Nat->Nat)(i:Nat->Nat)(F:0<x.A.length)
  (o:uZ (λq=>q=bc) w w') (O:Nf1 bc w')
  (P:∀q,q<x.A.length->S7 w' bc (q*8) (({ x with A:=cs }:Hp).c q))
  (N:∀q,q<x.A.length->w'.cell? (aA bc (q*8+7))=some (.slice (A q) (({ x with A:=cs }:Hp).c q).F.length (t q)))
  (E:∀q,q<x.A.length->(({ x with A:=cs }:Hp).c q).F.length<=t q)
  (G:∀q,q<x.A.length->0<t q->(n q<x.A.length/\t q=pk (n q))/\(x.c (n q)).F=(({ x with A:=cs }:Hp).c q).F/\A q=pa (n q)/\i (pb (n q))=6+q)
  (m:∀q,role q<6->i q=role q) (J:∀j,x.A.length*8<=j->w'.cell? (aA bc j)=w.cell? (aA bc j)) :
  GAt B w' g { x with A:=cs } ar kr ac kc vg br bc (λq=>pb (n q)) A t i:=by
 have l:∀q,q<w.heap.size->role q≠3->w'.heap[q]?=w.heap[q]?:=λq b z=>o.block q b (λe=>z (e▸h.sp.c F))
 have f:({ x with A:=cs }:Hp).A.length=x.A.length:=H;have L:=l g h.nf.1 (by rw[h.sp.g];omega);have M:∀q,q<x.A.length->0<pk q->w'.heap[pb q]?=w.heap[pb q]?:=λq b H=>l (pb q) (h.rw.pl q b H).2.1.1 (by rw[h.sp.p q b H];omega)
 refine⟨?_,uY h.nf L o.size,h.lo,h.ha,λ_=>h.hc F,⟨λk u=>?_,λq b=>?_,λq b=>?_,λq b k u=>?_,λq b s=>?_,λz=>⟨uY (h.rw.nr z).1 (l br (h.rw.nr z).1.1 (by rw[h.sp.r z];omega)) o.size,(h.rw.nr z).2⟩,λ_=>⟨O,(h.rw.nc F).2⟩,λ_=>h.rw.d F,λq q' b Q R D Z=>?_,λq b=>?_⟩,h.gr.block (λq b=>l q (h.gr.lt q b).2 (by rw[h.sp.y q b];omega)),⟨?_,λz=>?_,λ_=>?_,λq b=>?_,λq b s=>?_⟩,f▸h.kl,h.pr.of (λq b D=>l q b (by rw[D];omega)) (λq _ D=>(m q (by rw[D];omega))▸D),λu=>(h.cc u).A (m bc (by rw[(h.cc u).ro];omega)) O (λj v _ T=>?_),λn=>h.rob n (l br (h.rw.nr n).1.1 (by rw[h.sp.r n];omega))⟩;rw[f];exact(h.bx.block L);exact(h.rw.r k u).of λj _=>cOb br _ (l br (h.rw.nr (by have:k<x.B.length:=u;omega)).1.1 (by rw[h.sp.r (by have:k<x.B.length:=u;omega)];omega))
 rw[f]at b;exact P q b;rw[f]at b;exact N q b;rw[f]at b;have⟨⟨C,_⟩,I,_⟩:=G q b (by have:=E q b;omega);have W:(({ x with A:=cs }:Hp).c q).p k=(x.c (n q)).p k:=by simp only[Cl.p,I]
 rw[<-I]at u;rw[W];exact(h.rw.p (n q) C k u).of λj _=>cOb (pb (n q)) _ (M (n q) C (h.rw.pw C (by omega)))
 rw[f]at b;have⟨⟨C,K⟩,I,S,_⟩:=G q b s;rw[K]at s;have⟨X,U,V⟩:=h.rw.pl (n q) C s;exact⟨S.trans X,K▸eN U (M (n q) C s) o.size,V⟩;grind[Grw.at,Nf1,S7,Hp.c];rw[f]at b;exact E q b;rw[m g (by rw[h.sp.g];omega)];exact h.sp.g;have:=h.sp.r z;rw[m br (by omega)];exact this;have:=h.sp.c F;rw[m bc (by omega)];exact this;have:=h.sp.y q b;rw[m q (by omega)];exact this;grind[Grw.at,Nf1,S7,Hp.c];by_cases e:x.A.length*8<=j
 ·exact⟨v,(J j e).trans T⟩
 by_cases Y:j % 8=7
 ·have:=N (j / 8) (by omega);rw[show j / 8*8+7=j by omega]at this;exact⟨_,this⟩
 have:=(P (j / 8) (by omega)).some (j % 8) (by omega);rw[show j / 8*8+j % 8=j by omega]at this;exact this
theorem GAt.clear[qr](h:GAt B w g x ar kr ac kc vg br bc pb pa pk role)(i:Nat)(m:i<x.A.length)(b:Cl)(r:b.F=[])(o:uZ (λq=>q=bc) w w')(n:Nf1 bc w')(u:S7 w' bc (i*8) b)(t:w'.cell? (aA bc (i*8+7))=some (.slice none 0 0))(f:∀k,(k<i*8\/i*8+8<=k)->w'.cell? (aA bc k)=w.cell? (aA bc k)):
  GAt B w' g { x with A:=x.A.set i b } ar kr ac kc vg br bc pb (λq=>if q=i then none else pa q) (λq=>if q=i then 0 else pk q) role:=by
 have c:=Hp.c_set x i b m;refine h.turn (x.A.set i b) (by simp) (λq=>q) _ _ role (by omega) o n (λq a=>?_) (λq a=>?_) (λq a=>?_) (λq a d=>?_) (λ_ _=>rfl) (λj l=>f j (by omega));rw[c q];by_cases e:q=i
 ·grind[Nf1,S7]
 rw[if_neg e];exact(h.rw.s q a).of λj l=>f _ (by omega)
 rw[c q];by_cases e:q=i
 ·grind[Nf1,S7]
 simp only[if_neg e];rw[f _ (by omega)];exact h.rw.p7 q a;rw[c q];by_cases e:q=i
 ·rw[if_pos e,r];simp
 rw[if_neg e,if_neg e];exact h.rw.kp q a;rw[c q];by_cases e:q=i
 ·rw[if_pos e]at d;omega
 rw[if_neg e]at d;exact⟨⟨a,if_neg e⟩,by rw[if_neg e],if_neg e,h.sp.p q a d⟩
theorem GOk.set1[qr](h:GOk B w g x)(v:Int):GOk B (w.setCell (aA g 1) (iv v)) g { x with K:=v }:=by
 have⟨b,i,m,l,e,f,j,k,c,d,a,h⟩:=h;exact⟨_,_,_,_,_,_,_,_,_,_,_,h.boxed (x':={ x with K:=v }) (tJ w g 1 _) (h.nf.set _ _) rfl rfl rfl (h.bx.set1 v)⟩
theorem a1e(n:Int)(a:-1000000<=n)(b:n<=1000000):wrap64 n=n:=by unfold wrap64;omega
theorem dJ{p:Addr}{u:Value}(h:w.cell? p=some u):(w.setCell p v).cell? p=some v:=kM _ _ _ h
def zD(w:World)(b o:Nat)(st tv:Int):World:=(((((((w.setCell ⟨b,o,none⟩ (iv st)).setCell ⟨b,o+1,none⟩ (iv 0)).setCell ⟨b,o+2,none⟩ (iv 0)).setCell ⟨b,o+3,none⟩ (iv 0)).setCell ⟨b,o+4,none⟩ (iv 0)).setCell ⟨b,o+5,none⟩ (iv 0)).setCell ⟨b,o+6,none⟩ (iv tv)).setCell ⟨b,o+7,none⟩ (.slice none 0 0)
theorem a0c(w:World)(b o:Nat)(c a:Int):uZ (λq=>q=b) w (zD w b o c a):=
 uZ.setCell (S:=λq=>q=b) (uZ.setCell (S:=λq=>q=b) (uZ.setCell (S:=λq=>q=b) (uZ.setCell (S:=λq=>q=b) (uZ.setCell (S:=λq=>q=b) (uZ.setCell (S:=λq=>q=b) (uZ.setCell (S:=λq=>q=b) (tJ w b o _) (p:=(aA b (o+1))) rfl _) (p:=(aA b (o+2))) rfl _) (p:=(aA b (o+3))) rfl _) (p:=(aA b (o+4))) rfl _) (p:=(aA b (o+5))) rfl _) (p:=(aA b (o+6))) rfl _) (p:=(aA b (o+7))) rfl _
theorem a9z(h:Nf1 b w)(o:Nat)(c a:Int):Nf1 b (zD w b o c a):=(((((((h.set _ _).set _ _).set _ _).set _ _).set _ _).set _ _).set _ _).set _ _
theorem a3x(w:World)(b o:Nat)(c a:Int)(k:Nat)(d:k<o\/o+8<=k):(zD w b o c a).cell? (aA b k)=w.cell? (aA b k):=by
 unfold zD;rw[uC _ (.inr (by omega)),uC _ (.inr (by omega)),uC _ (.inr (by omega)),uC _ (.inr (by omega)),uC _ (.inr (by omega)),uC _ (.inr (by omega)),uC _ (.inr (by omega)),uC _ (.inr (by omega))]
theorem a4v(w:World)(b o:Nat)(d a:Int)(c:Cl)(v:Value)(h:S7 w b o c)(m:w.cell? (aA b (o+7))=some v):S7 (zD w b o d a) b o ⟨d,0,0,0,0,0,a,[]⟩/\(zD w b o d a).cell? (aA b (o+7))=some (.slice none 0 0):=by
 have⟨g,i,j,e,l,f,k⟩:=h;unfold zD;refine⟨⟨?_,?_,?_,?_,?_,?_,?_⟩,?_⟩
 ·iterate 7 rw[uC _ (.inr (by omega))]
  exact kM _ _ _ g
 ·iterate 6 rw[uC _ (.inr (by omega))]
  exact kM _ _ _ ((uC _ (.inr (by omega))).trans i)
 ·iterate 5 rw[uC _ (.inr (by omega))]
  refine dJ (u:=iv c.T) ?_;iterate 2 rw[uC _ (.inr (by omega))]
  exact j
 ·iterate 4 rw[uC _ (.inr (by omega))]
  refine dJ (u:=iv c.U) ?_;iterate 3 rw[uC _ (.inr (by omega))]
  exact e
 ·iterate 3 rw[uC _ (.inr (by omega))]
  refine dJ (u:=iv c.born) ?_;iterate 4 rw[uC _ (.inr (by omega))]
  exact l
 ·iterate 2 rw[uC _ (.inr (by omega))]
  refine dJ (u:=iv c.J) ?_;iterate 5 rw[uC _ (.inr (by omega))]
  exact f
 ·rw[uC _ (.inr (by omega))];refine dJ (u:=iv c.to) ?_;iterate 6 rw[uC _ (.inr (by omega))]
  exact k
 refine dJ (u:=v) ?_;iterate 7 rw[uC _ (.inr (by omega))]
 exact m
theorem GAt.wipe[qr](h:GAt B w g x ar kr ac kc vg br bc pb pa pk role)(i:Nat)(a:i<x.A.length)(c b:Int):GOk B (zD w bc (i*8) c b) g { x with A:=x.A.set i ⟨c,0,0,0,0,0,b,[]⟩ }:=by
 have⟨d,f⟩:=a4v w bc (i*8) c b _ _ (h.rw.s i a) (h.rw.p7 i a);exact⟨_,_,_,_,_,_,_,_,_,_,_,h.clear i a _ rfl (a0c _ _ _ _ _) (a9z (h.rw.nc (by omega)).1 _ _ _) d f (λk e=>a3x _ _ _ _ _ k e)⟩
theorem d1c(y:Wd)(b:Nat)(w:World)(a:(y.k == 2)=false):
  Calls prog 127 #[pP b,y.v] w λe w'=>e=.returned y.v/\Ext w w':=by
 go_in;go_wp21;go_quiet (fail);go_wp2;refine bodyPost_ret (v:=y.v) (by simp[results,results127,go_sem]) rfl ⟨rfl,?_⟩;repeat (first|exact hO _|refine Ext.drewN ?_ _|refine mJ ?_ _|refine mW ?_ (by show w.heap.size<=w.heap.size+1;omega) _)
theorem c7r(b bc n f i:Nat)(a:Int)(w:World)(d:w.cell? (aA b 4)=some (sS bc n f))(g:w.cell? (aA bc (i*8))=some (iv a))(l:i<n)(m:(a == 2)=false):
  Calls prog 127 #[pP b,.agg #[iv 2,iv 0,iv i]] w λe w'=>e=.returned (.agg #[iv 2,iv 0,iv i])/\Ext w w':=by
 have h:=cLt d;have c:=cLt g;have j:=i0N i;have k:(i:Int)<(n:Int):=by omega
 go_in;go_wp21;go_quiet (fail);go_wp2;refine bodyPost_ret (v:=.agg #[iv 2,iv 0,iv i]) (by simp[results,results127,go_sem]) rfl ⟨rfl,?_⟩;repeat (first|exact hO _|refine Ext.drewN ?_ _|refine mJ ?_ _|refine mW ?_ (by show w.heap.size<=w.heap.size+1;omega) _)
theorem c4g(b bc n g i:Nat)(c a:Int)(w:World)(f:w.cell? (aA b 4)=some (sS bc n g))(h:w.cell? (aA bc (i*8))=some (iv c))(p:w.cell? (aA bc (i*8+6))=some (iv a))(m:i<n)(o:(c == 2)=true):
  Calls prog 127 #[pP b,.agg #[iv 2,iv 0,iv i]] w λe w'=>e=.returned (.agg #[iv 2,iv 0,iv a])/\Ext w w':=by
 have j:=cLt f;have d:=cLt h;have k:=i0N i;have l:(i:Int)<(n:Int):=by omega
 go_in;go_wp21;go_quiet (fail);go_wp21;go_region;all_goals
  go_wp2;refine bodyPost_ret (v:=.agg #[iv 2,iv 0,iv a]) (by simp[results,results127,go_sem]) rfl ⟨rfl,?_⟩;repeat (first|exact hO _|refine Ext.drewN ?_ _|refine mf ?_|refine mJ ?_ _|refine mW ?_ (by show w.heap.size<=w.heap.size+1;omega) _)
theorem a6z[qr](y:Wd)(w:World)(h:GAt B w g x ar kr ac kc vg br bc pb pa pk role)(o:uJ y x.A.length):
  Calls prog 127 #[pP g,y.v] w λe w'=>e=.returned (zL x y).v/\Ext w w':=by
 cases q:(y.k == 2)
 have e:zL x y=y:=by
  unfold zL;rw[if_neg];intro h;simp[h.1]at q
 rw[e];exact d1c y g w q;have j:y.k=2:=by simpa using q
 obtain⟨k,n,a⟩:=y;simp only at j;subst j;unfold uJ at o;simp only at o;obtain⟨i,rfl⟩:∃i:Nat,a=(i:Int):=⟨a.toNat,by omega⟩;obtain rfl:n=0:=by omega
 have d:i<x.A.length:=by omega
 have p:0<x.A.length:=by omega
 have f:=h.bx.2.2.2.2.1;rw[h.hc p]at f;obtain⟨m,_,_,_,_,_,r⟩:=h.rw.s i d;have l:((i:Int)).toNat=i:=by omega
 cases b:((x.c i).st == 2)
 have e:zL x ⟨2,0,i⟩=⟨2,0,i⟩:=by
  unfold zL;rw[if_neg];intro h;simp only[l]at h;simp[h.2]at b
 rw[e];exact c7r g bc _ kc i _ w f m d b;have e:zL x ⟨2,0,i⟩=⟨2,0,(x.c i).to⟩:=by
  unfold zL;simp only[l];rw[if_pos ⟨trivial,by simpa using b⟩]
 rw[e];exact c4g g bc _ kc i _ _ w f m r d b
theorem GAt.setp[qr](h:GAt B w g x ar kr ac kc vg br bc pb pa pk role)(i:Nat)(L:i<x.A.length)(k:Nat)(G:k<(x.c i).F.length)(u:Pr)(o:uZ (λq=>q=pb i) w w')(Z:Nf1 (pb i) w')(hp:qY w' (pb i) (k*6) u)(X:∀j,(j<k*6\/k*6+6<=j)->w'.cell? (aA (pb i) j)=w.cell? (aA (pb i) j)):
  GAt B w' g { x with A:=x.A.set i { x.c i with F:=(x.c i).F.set k u } } ar kr ac kc vg br bc pb pa pk role:=by
 have H:0<(x.c i).F.length:=by omega
 have f:∀q,q<w.heap.size->role q≠6+i->w'.heap[q]?=w.heap[q]?:=λq b C=>o.block q b (λe=>C (by rw[e];exact h.sp.p i L (h.rw.pw L H)))
 have A:0<x.A.length:=by omega
 have l:({ x with A:=x.A.set i { x.c i with F:=(x.c i).F.set k u } }:Hp).A.length=x.A.length:=by simp
 have M:=Hp.c_set x i { x.c i with F:=(x.c i).F.set k u } L;have n:∀q,q≠i->(({ x with A:=x.A.set i { x.c i with F:=(x.c i).F.set k u } }:Hp).c q)=x.c q:=λq e=>by rw[M q,if_neg e]
 have F:(({ x with A:=x.A.set i { x.c i with F:=(x.c i).F.set k u } }:Hp).c i)={ x.c i with F:=(x.c i).F.set k u }:=by rw[M i,if_pos rfl]
 have z:∀q,(({ x with A:=x.A.set i { x.c i with F:=(x.c i).F.set k u } }:Hp).c q).F.length=(x.c q).F.length:=λq=>by grind[Hp.c,Nf1,qY]
 have N:=f g h.nf.1 (by rw[h.sp.g];omega);have I:=f bc (h.rw.nc A).1.1 (by rw[h.sp.c A];omega);have O:∀q,q<x.A.length->q≠i->0<pk q->w'.heap[pb q]?=w.heap[pb q]?:=λq b R l=>f (pb q) (h.rw.pl q b l).2.1.1 (by rw[h.sp.p q b l];omega)
 refine⟨?_,uY h.nf N o.size,h.lo,h.ha,λ_=>h.hc A,⟨λj v=>?_,λq b=>?_,λq b=>?_,λq b j v=>?_,λq b t=>?_,λC=>⟨uY (h.rw.nr C).1 (f br (h.rw.nr C).1.1 (by rw[h.sp.r C];omega)) o.size,(h.rw.nr C).2⟩,λ_=>⟨uY (h.rw.nc A).1 I o.size,(h.rw.nc A).2⟩,λ_=>h.rw.d A,λq W b D n K V=>?_,λq b=>?_⟩,h.gr.block (λq b=>f q (h.gr.lt q b).2 (by rw[h.sp.y q b];omega)),⟨h.sp.g,h.sp.r,λ_=>h.sp.c A,h.sp.y,λq b t=>?_⟩,l▸h.kl,h.pr.of (λq b K=>f q b (by rw[K];omega)) (λ_ _ h=>h),λG=>(h.cc G).block rfl (f bc (h.cc G).nf.1 (by rw[(h.cc G).ro];omega)) o.size,λn=>h.rob n (f br (h.rw.nr n).1.1 (by rw[h.sp.r n];omega))⟩;rw[l];exact(h.bx.block N);exact(h.rw.r j v).of λm _=>cOb br _ (f br (h.rw.nr (by have:j<x.B.length:=v;omega)).1.1 (by rw[h.sp.r (by have:j<x.B.length:=v;omega)];omega))
 rw[l]at b;have E:S7 w' bc (q*8) (x.c q):=(h.rw.s q b).of λm _=>cOb bc _ I
 by_cases e:q=i;subst e;rw[F];exact E;rw[n q e];exact E;rw[l]at b;rw[z q,cOb bc _ I];exact h.rw.p7 q b;rw[l]at b;rw[z q]at v;by_cases e:q=i
 ·subst e;rw[F];by_cases T:j=k
  ·grind[Hp.c,Cl.p,Nf1,qY]
  have:({ x.c q with F:=(x.c q).F.set k u }:Cl).p j=(x.c q).p j:=by
   have J:k≠j:=λe=>T e.symm
   simp[Cl.p,List.getElem?_set_ne J]
  rw[this];exact(h.rw.p q b j v).of λm Y=>X _ (by omega)
 rw[n q e];exact(h.rw.p q b j v).of λm _=>cOb (pb q) _ (O q b e (h.rw.pw b (by omega)))
 rw[l]at b;have⟨U,S,Q⟩:=h.rw.pl q b t;by_cases e:q=i
 ·grind[b9y,Hp.c,Nf1,qY]
 exact⟨U,eN S (O q b e t) o.size,Q⟩;rw[l]at b D;exact h.rw.dp q W b D n K V;rw[l]at b;rw[z q];exact h.rw.kp q b;rw[l]at b;exact h.sp.p q b t
def tK(c:Cl)(n:Nat):Cl:={ c with F:=c.F++List.replicate n Pr0 }
def zJ(x:Hp)(i n:Nat):Hp:={ x with A:=x.A.set i (tK (x.c i) n),K:=x.K+n }
theorem a2u(x:Hp)(i n:Nat)(a:i<x.A.length)(q:Nat):(zJ x i n).c q=if q=i then tK (x.c i) n else x.c q:=Hp.c_set x i (tK (x.c i) n) a q
theorem a0h(x:Hp)(i n:Nat):(zJ x i n).A.length=x.A.length:=by simp[zJ]
theorem a0s(x:Hp)(i n:Nat)(a:i<x.A.length)(q:Nat):((zJ x i n).c q).st=(x.c q).st/\((zJ x i n).c q).kind=(x.c q).kind/\((zJ x i n).c q).T=(x.c q).T/\((zJ x i n).c q).U=(x.c q).U/\((zJ x i n).c q).born=(x.c q).born/\((zJ x i n).c q).J=(x.c q).J/\((zJ x i n).c q).to=(x.c q).to:=by
 rw[a2u x i n a q];by_cases e:q=i;rw[if_pos e,e];exact⟨rfl,rfl,rfl,rfl,rfl,rfl,rfl⟩;grind[zJ,Hp.c]
theorem c6j(c:Cl)(n k:Nat):(tK c n).p k=if k<c.F.length then c.p k else Pr0:=by
 unfold Cl.p tK;by_cases h:k<c.F.length;grind[Hp.c,tK,Cl.p,Pr0];grind[Hp.c,tK,Cl.p,Pr0]
theorem a3g(x:Hp)(i n:Nat)(b:i<x.A.length)(q:Nat):uW (zJ x i n) q↔uW x q:=by
 have a:=a0s x i n b q;unfold uW;rw[a.1,a.2.2.2.2.2.1];exact Iff.rfl
theorem a7b(x:Hp)(i n:Nat)(b:i<x.A.length)(y:Wd)(m:Prop):hE (zJ x i n) y m↔hE x y m:=by
 unfold hE;rw[a0h,(a0s x i n b y.a.toNat).1,a3g x i n b]
theorem Snd.grow(h:Snd x)(i n:Nat)(l:i<x.A.length)(I:(x.c i).st=1)(hl:(x.c i).F.length+n<=200)(hu:x.K+n<=x.M):Snd (zJ x i n) where
 r1:=⟨h.r1.M,h.r1.B,by rw[a0h];exact h.r1.A,by rw[a0h];exact h.r1.D,h.r1.born,h.r1.Q,h.r1.S,h.r1.per,h.r1.V,h.r1.E,by rw[a0h];exact h.r1.I,h.r1.sub⟩
 r2:=⟨λq f=>by
  rw[a0h]at f;have K:=h.r2.1 q f;by_cases e:q=i;subst e;obtain o|o|o:=K
  ·omega
  omega;refine .inr (.inr ⟨?_,?_⟩)
  ·rw[a2u x q n l q,if_pos rfl];exact I
  rw[a2u x q n l q,if_pos rfl];have⟨_,O,T,R,o4,W,o6,o7⟩:=o;exact⟨O,T,R,o4,W,o6,by simp[tK];omega⟩;have X:(zJ x i n).c q=x.c q:=by rw[a2u x i n l q,if_neg e]
  unfold cQ;rw[X];obtain o|⟨o,m⟩|o:=K;exact .inl o;refine .inr (.inl ⟨o,m.1,m.2.1,m.2.2.1,m.2.2.2.1,by rw[(a0s x i n l (x.c q).to.toNat).1];exact m.2.2.2.2.1,λA k t=>?_⟩);have C:=a0s x i n l k;rw[C.1];exact m.2.2.2.2.2 A k t;exact .inr (.inr o),λq f N k t=>by
  rw[a0h]at f;have z:=a0s x i n l q;have C:=a0s x i n l k;rw[z.1]at N;rw[C.1,C.2.2.2.2.1,C.2.2.2.2.2.2,z.1,z.2.2.2.2.1,z.2.2.2.2.2.2];exact h.r2.2 q f N k t⟩
 r3:=by
  have u:=a1x x.A i (tK (x.c i) n) l;rw[Hp.c_eq x i l]at u;have S:cL (x.c i)=1+(x.c i).F.length:=by unfold cL;rw[if_pos I]
  have Y:cL (tK (x.c i) n)=1+((x.c i).F.length+n):=by
   unfold cL;rw[if_pos (show(tK (x.c i) n).st=1 from I)];simp[tK]
  rw[S,Y]at u;refine⟨?_,hu⟩;show x.K+(n:Int)=(dZ (x.A.set i (tK (x.c i) n)):Nat);have:=h.r3.1;omega
 r4:=⟨λj hj=>(a7b x i n l _ _).2 (h.r4.1 j hj),λq f=>by
  rw[a0h]at f;have z:=a0s x i n l q;refine⟨λ⟨d,s⟩=>(h.r4.2 q f).1 ⟨(a3g x i n l q).1 d,by unfold dH at s ⊢;rw[z.2.2.2.1]at s;exact s⟩,λk t=>?_⟩;have B:∀p:Pr,a3d x q k p->a3d (zJ x i n) q k p:=λp o=>⟨λd=>by rw[a0h];exact o.1 ((a3g x i n l q).1 d),λd=>by
   have:=o.2 (λd2=>d ((a3g x i n l q).2 d2));exact⟨(a7b x i n l _ _).2 this.1,(a7b x i n l _ _).2 this.2⟩⟩
  by_cases e:q=i;subst e;rw[a2u x q n l q,if_pos rfl]at t ⊢;rw[c6j];by_cases v:k<(x.c q).F.length
  ·rw[if_pos v];exact B _ ((h.r4.2 q f).2 k v)
  rw[if_neg v];have E:∀m:Prop,hE x ⟨0,0,0⟩ m:=λm=>⟨.inl ⟨rfl,rfl,rfl⟩,λh=>by simp at h⟩
  exact B _ ⟨λ_=>⟨(E True).1,(E True).1⟩,λ_=>⟨E _,E _⟩⟩;rw[a2u x i n l q,if_neg e]at t ⊢;exact B _ ((h.r4.2 q f).2 k t)⟩
 r5:=⟨h.r5.1,λq f=>by
  rw[a0h]at f;have z:=a0s x i n l q;unfold a0n;rw[z.2.2.2.2.2.1];exact h.r5.2.1 q f,λg F=>by rw[a0h];exact h.r5.2.2 g F⟩
 r6:=by
  have L:∀q,(x.c q).F.length<=((zJ x i n).c q).F.length:=λq=>by
   rw[a2u x i n l q];by_cases e:q=i;rw[if_pos e,e];simp[tK];rw[if_neg e];exact hT _
  have⟨a,b,c,d⟩:=h.r6;refine⟨a,λA=>⟨(b A).1,(b A).2.1,λF=>?_⟩,λA=>⟨λf=>(c A).1 ?_,λf=>?_⟩,d⟩;have Z:=(b A).2.2 F;have V:=L x.g0;show x.sub<=(((zJ x i n).c x.g0).F.length:Int);omega;rw[a0h]at f;have:=a0s x i n l x.I.toNat;obtain f|f:=f
  ·exact .inl f
  exact .inr (this.1▸f);rw[a0h]at f;have Z:=(c A).2 ⟨f.1,by rw[<-(a0s x i n l x.I.toNat).1];exact f.2⟩;have V:=L x.I.toNat;show x.sub<=(((zJ x i n).c x.I.toNat).F.length:Int);omega
 r7:=λP q f=>by
  rw[a0h]at f;have z:=a0s x i n l q;have o:=h.r7 P q f;refine⟨λG=>o.1 ⟨by have:=G.1;unfold dH at this ⊢;rw[z.2.2.2.1]at this;exact this,z.2.2.2.2.2.1▸G.2.1,G.2.2⟩,λk t=>?_⟩;have M:∀y:Wd,eQ (zJ x i n) y->eQ x y:=λy J=>⟨J.1,(a0s x i n l y.a.toNat).2.2.2.2.2.1▸J.2⟩
  have H:∀p:Pr,p=Pr0->¬eQ (zJ x i n) p.key/\¬eQ (zJ x i n) p.val:=λp e=>by subst e;exact⟨λw=>by have:=w.1;simp[Pr0]at this,λw=>by have:=w.1;simp[Pr0]at this⟩
  have D:∀k,k<eZ x q->(k<(x.c q).F.length->True)->¬eQ (zJ x i n) ((x.c q).p k).key/\¬eQ (zJ x i n) ((x.c q).p k).val:=λk t _=>⟨λw=>(o.2 k t).1 (M _ w),λw=>(o.2 k t).2 (M _ w)⟩
  by_cases e:q=i;subst e;rw[a2u x q n l q,if_pos rfl,c6j];by_cases v:k<(x.c q).F.length
  ·rw[if_pos v];refine D k ?_ (λ_=>trivial);unfold eZ at t ⊢;rw[z.2.2.2.2.2.1]at t;split at t;grind[Hp.c,zJ];grind[Hp.c,zJ]
  rw[if_neg v];exact H _ rfl;rw[a2u x i n l q,if_neg e];refine D k ?_ (λ_=>trivial);unfold eZ at t ⊢;rw[a2u x i n l q,if_neg e]at t;exact t
 r8:=λq f=>by
  rw[a0h]at f;rw[(a0s x i n l q).1];exact h.r8 q f
def tE(b k:Int)(n:Nat)(col:Int):Cl:=⟨1,k,0,0,b,col,0,List.replicate n Pr0⟩
def qN(x:Hp)(t:Nat):Int:=if x.E=1\/x.E=2\/(x.E=3/\x.I<=(t:Int)) then 2 else 0
def yC(x:Hp)(t:Nat)(c:Cl):List Cl:=if t<x.A.length then x.A.set t c else x.A++[c]
def tW(x:Hp)(k:Int)(n:Nat):Hp:={ x with born:=x.born+1,K:=x.K+(1+n),A:=yC x (uE x) (tE (x.born+1) k n (qN x (uE x))) }
theorem a3n(x:Hp)(t:Nat)(c:Cl):(yC x t c).length=if t<x.A.length then x.A.length else x.A.length+1:=by
 unfold yC;split <;> simp
theorem b9b(x z:Hp)(t:Nat)(c:Cl)(a:t<=x.A.length)(b:z.A=yC x t c)(q:Nat):z.c q=if q=t then c else x.c q:=by grind[Hp.c,uZ.A,yC]
theorem Snd.crowd{x:Hp}(h:Snd x)(H:∀i,i<x.A.length->(x.c i).st≠0):x.A.length<=2*dZ x.A:=by
 have f:=h.r2;let U:=(List.range x.A.length).filter (λi=>(x.c i).st == 1);let M:=(List.range x.A.length).filter (λi=>(x.c i).st == 2);have K:U.length<=dZ x.A:=by
  have d:∀m,m<=x.A.length->((List.range m).filter (λi=>(x.c i).st == 1)).length<=dZ (x.A.take m):=λm=>by
   induction m with
   | zero=>intro _;simp
   | succ m ih=>
    intro q;have s:=ih (by omega);have D:x.A.take (m+1)=x.A.take m++[x.A[m]'(by omega)]:=kx (by omega);rw[mn,mH,ko,D];have C:dZ (x.A.take m++[x.A[m]'(by omega)])=dZ (x.A.take m)+cL (x.c m):=by simp[dZ,Hp.c_eq x m (by omega)]
    rw[C];by_cases e:(x.c m).st=1;grind[cL,Hp.c,dZ];simp[e];omega
  have:=d x.A.length (hT _);rw[mG]at this;exact this
 have J:M.length<=U.length:=by
  have F:(M.map (λi=>(x.c i).to.toNat)).Nodup:=by
   rw[List.nodup_iff_pairwise_ne,qG];have G:M.Pairwise (· < ·):=List.Pairwise.filter _ List.pairwise_lt_range;refine ql (λ{a b} A r o e=>?_) G;have g:=mZ.1 A;have k:=mZ.1 r;have p:=me.1 k.1;have P:(x.c a).st=2:=by simpa using g.2
   have O:(x.c b).st=2:=by simpa using k.2
   have u:=f.1 a (me.1 g.1);have B:=f.1 b p;unfold cQ qD a5d at u B;exact f.2 b p (by omega) a o ⟨by omega,by omega,by omega⟩
  have l:∀z,z∈M.map (λi=>(x.c i).to.toNat)->z∈U:=λz v=>by
   have⟨i,t,e⟩:=mg.1 v;have j:=mZ.1 t;have w:=me.1 j.1;have N:(x.c i).st=2:=by simpa using j.2
   have y:=f.1 i w;unfold cQ qD at y;have st:(x.c (x.c i).to.toNat).st=1:=by grind[Hp.c,dZ]
   rw[<-e];exact mZ.2 ⟨me.2 (by omega),by simpa using st⟩
  have:=qm F l;simpa using this
 have L:x.A.length<=U.length+M.length:=by
  have d:∀m,m<=x.A.length->m<=((List.range m).filter (λi=>(x.c i).st == 1)).length+((List.range m).filter (λi=>(x.c i).st == 2)).length:=λm=>by
   induction m with
   | zero=>intro _;omega
   | succ m ih=>
    intro q;have s:=ih (by omega);rw[mn,mH,mH,ko,ko];have:=f.1 m (by omega);have I:=H m (by omega);have n:(x.c m).st=1\/(x.c m).st=2:=by unfold cQ at this;omega
    obtain e|e:=n;simp[e];omega;simp[e];omega
  exact d x.A.length (hT _)
 omega
theorem newC_p(b k:Int)(n:Nat)(a:Int)(j:Nat):(tE b k n a).p j=Pr0:=by grind[tE,Cl.p,Pr0]
theorem Snd.make(h:Snd x)(k:Int)(n:Nat)(hk:0<=k/\k<=255)(hn:n<=200)(hb:x.born<1000000000)(hu:x.K+(1+n)<=x.M):Snd (tW x k n)/\((tW x k n).c (uE x)).st=1/\uE x<(tW x k n).A.length/\¬uW (tW x k n) (uE x):=by
 have⟨f1,f2,f3⟩:=a0i x;have⟨t,ht⟩:=obE (uE x);have⟨c,I⟩:=obE (tE (x.born+1) k n (qN x t));have⟨z,G⟩:=obE (tW x k n);rw[<-ht]at f1 f2 f3 ⊢;have P:z.A=yC x t c:=by rw[G,I,ht];rfl
 have zc:∀q,z.c q=if q=t then c else x.c q:=b9b x z t c f1 P;have zl:z.A.length=if t<x.A.length then x.A.length else x.A.length+1:=P▸a3n x t c
 have ab:x.A.length<=z.A.length:=by rw[zl];split <;> omega
 have Q:∀q,q<z.A.length->q=t\/(q≠t/\q<x.A.length):=λq D=>by grind[uZ.A,tW,Hp.c,uE,uW]
 have tl:t<z.A.length:=by rw[zl];split <;> omega
 have u:∀q,q≠t->z.c q=x.c q:=λq e=>by rw[zc q,if_neg e]
 have K:z.c t=c:=by rw[zc t,if_pos rfl]
 have V:∀q,q<x.A.length->(x.c q).st≠0->q≠t:=λq D hs e=>by subst e;exact hs (f3 D)
 have M:z.M=x.M:=by rw[G];rfl
 have Y:z.K=x.K+(1+n):=by rw[G];rfl
 have X:z.born=x.born+1:=by rw[G];rfl
 have L:z.B=x.B:=by rw[G];rfl
 have r:z.E=x.E:=by rw[G];rfl
 have A:z.I=x.I:=by rw[G];rfl
 have E:z.sub=x.sub:=by rw[G];rfl
 have C:z.D=x.D:=by rw[G];rfl
 have B:z.per=x.per/\z.V=x.V/\z.Q=x.Q/\z.S=x.S:=G▸⟨rfl,rfl,rfl,rfl⟩;have O:c.st=1:=by rw[I];rfl
 have ah:c.born=x.born+1:=by rw[I];rfl
 have ac:c.to=0:=by rw[I];rfl
 have ai:c.U=0:=by rw[I];rfl
 have W:c.J=qN x t:=by rw[I];rfl
 have Z:c.F.length=n:=by rw[I];simp[tE]
 have cp:∀j,c.p j=Pr0:=λj=>I▸newC_p _ _ _ _ j
 have R:¬uW z t:=λd=>by grind[uW,qN,tW,Hp.c,uE]
 have dm:∀q,q≠t->(uW z q↔uW x q):=λq e=>by unfold uW;rw[r,A,u q e]
 have fm:∀y:Wd,uJ y x.A.length->uJ y z.A.length:=λy f=>by unfold uJ at f ⊢;omega
 have ld:∀(y:Wd)(m:Prop),hE x y m->hE z y m:=λy m l=>⟨fm y l.1,λhk=>by grind[hE,uJ,uZ.A,tW,Hp.c,uE,uW]⟩
 have nl:∀m:Prop,hE z ⟨0,0,0⟩ m:=λm=>⟨.inl ⟨rfl,rfl,rfl⟩,λh=>by simp at h⟩
 have us:x.K=(dZ x.A:Nat):=h.r3.1;rw[<-G];refine⟨⟨?_,?_,?_,?_,?_,?_,?_,?_⟩,K▸O,tl,R⟩;refine⟨by rw[M];exact h.r1.M,L▸h.r1.B,?_,C▸kA h.r1.D ab,by rw[X];have:=h.r1.born;omega,B.2.2.1▸h.r1.Q,B.2.2.2▸h.r1.S,B.1▸h.r1.per,B.2.1▸h.r1.V,r▸h.r1.E,by rw[A];have:=h.r1.I;omega,E▸h.r1.sub⟩;rw[M,zl];by_cases e:t<x.A.length
 ·rw[if_pos e];exact h.r1.A
 grind[Snd.crowd,tW,Hp.c,uE,uW];refine⟨λq D=>?_,λq D h0 j H N=>?_⟩
 ·obtain e|⟨e,v⟩:=Q q D
  ·subst e;refine .inr (.inr ⟨K▸O,?_⟩);rw[K];have cc:0<=c.J/\c.J<=2:=by rw[W];unfold qN;split <;> omega
   have ck:c.kind=k:=by rw[I];rfl
   have cw:c.T=0:=by rw[I];rfl
   have:=h.r1.born;exact⟨ck▸hk,by omega,by omega,by rw[X];omega,cc,ac,by omega⟩
  have U:=h.r2.1 q v;unfold cQ;rw[u q e];obtain o|⟨o,m⟩|⟨o,m⟩:=U
  ·exact .inl o
  have mt:=m.2.2.2.2.1;have tt:=m.2.2.2.1;have J:=V (x.c q).to.toNat (by omega) (by rw[mt];omega);refine .inr (.inl ⟨o,m.1,r▸m.2.1,m.2.2.1,tt,u _ J▸mt,λF j H=>?_⟩);rw[r]at F;have:=m.2.2.2.2.2 F j H;by_cases ej:j=t
  ·rw[ej,K];omega
  rw[u j ej];exact this;grind[a2m,tW,Hp.c,uE,uW]
 have ag:∀a,a≠t->a<x.A.length->(x.c a).st=1->(x.c a).born<=x.born:=λa _ ha hs=>by
  have:=h.r2.1 a ha;unfold cQ a2m at this;omega
 obtain e|⟨e,v⟩:=Q q D;grind[tW,Hp.c,uE,uW];obtain J|⟨J,af⟩:=Q j (by omega)
 ·grind[tW,Hp.c,uE,uW]
 rw[u j J,u q e]at N;rw[u q e]at h0;exact h.r2.2 q v h0 j H N;refine⟨?_,by rw[Y,M];exact hu⟩;rw[Y,P];have uc:cL c=1+n:=by unfold cL;rw[if_pos O,Z]
 unfold yC;by_cases e:t<x.A.length;grind[a1x,uZ.A,Hp.c,Hp.c_eq,cL,tW,uE,uW];grind[dZ,uZ.A,Hp.c,cL,tW,uE,uW];refine⟨λi hi=>?_,λq D=>?_⟩
 ·have e:z.B[i]=x.B[i]'(L▸hi):=by simp only[L]
  rw[e];exact ld _ _ (h.r4.1 i (L▸hi))
 obtain e|⟨e,v⟩:=Q q D
 ·subst e;refine⟨λd=>R d.1,λj H=>?_⟩;rw[K,cp j];exact⟨λd=>(R d).elim,λ_=>⟨nl _,nl _⟩⟩
 have o:=h.r4.2 q v;have md:∀j,cN z q j↔cN x q j:=λj=>by unfold cN;rw[r,A,E]
 rw[u q e];refine⟨λd=>o.1 ⟨(dm q e).1 d.1,d.2⟩,λj H=>?_⟩;have p:=o.2 j H;refine⟨λd=>?_,λd=>?_⟩;have:=p.1 ((dm q e).1 d);exact⟨fm _ this.1,fm _ this.2⟩;have:=p.2 (λd2=>d ((dm q e).2 d2));have em:(¬cN z q j)=(¬cN x q j):=propext (not_congr (md j));rw[em];exact⟨ld _ _ this.1,ld _ _ this.2⟩;refine⟨λT=>C▸h.r5.1 (λm=>T (by unfold uD at m ⊢;rw[r];exact m)),λq D=>?_,λg S=>?_⟩
 ·obtain e|⟨e,v⟩:=Q q D
  ·subst e;have c0:cnt x.D q=0:=by
    by_cases e:q<x.A.length;have U:=h.r2.1 q e;have s0:=f3 e;have:(x.c q).J≠1:=by unfold cQ a5d at U;omega
    exact(h.r5.2.1 q e).2.1 this;unfold cnt;rw[nV];intro S;have:=h.r5.2.2 _ S;omega
   unfold a0n;rw[K,C,r,A,W];refine⟨λe1=>?_,λ_=>c0,λJ=>?_⟩;unfold qN at e1;split at e1 <;> omega
   grind[qN,uD,tW,Hp.c,uE,uW]
  have o:=h.r5.2.1 q v;unfold a0n at o ⊢;rw[u q e,C,r,A];exact⟨o.1,o.2.1,λJ=>by grind[uD,tW,Hp.c,uE,uW]⟩
 rw[C]at S;have:=h.r5.2.2 g S;omega;have⟨a,b,d,e⟩:=h.r6;refine⟨λF=>by rw[r]at F;rw[A,E];exact a F,λF=>?_,λF=>?_,λF=>by rw[r]at F;rw[E];exact e F⟩
 ·rw[r]at F;have b2:=b F;have eg:z.g0=x.g0:=by unfold Hp.g0;rw[C]
  rw[A,C,E,eg];refine⟨b2.1,b2.2.1,λS=>?_⟩;have gl:(x.D.getD 0 0)∈x.D:=by grind[yH.nil,tW,Hp.c,uE,uW]
  have gr:=h.r5.2.2 _ gl;have ad:x.g0<x.A.length:=by unfold Hp.g0;omega
  by_cases J:x.g0=t;have s0:=f3 (by omega);rw[<-J]at s0;have U:=h.r2.1 x.g0 ad;have p0:(x.c x.g0).F.length=0:=by unfold cQ a5d at U;omega
  rw[J,K,Z];omega;rw[u _ J];exact b2.2.2 S
 rw[r]at F;have hh:=h.r1.I;rw[A,E];have ae:x.I.toNat=t\/x.I.toNat≠t:=by omega
 refine⟨λD=>?_,λD=>?_⟩;grind[tW,Hp.c,uE,uW];grind[uZ.A,tW,Hp.c,uE,uW];intro T q D;have aa:uD x:=by unfold uD at T ⊢;rw[r]at T;exact T
 have wh:∀y:Wd,eQ z y->eQ x y:=λy hy=>⟨hy.1,by grind[eQ,qN,uD,tW,Hp.c,uE,uW]⟩
 obtain e|⟨e,v⟩:=Q q D;subst e;rw[K];refine⟨λs=>?_,λj _=>?_⟩
 ·have:=s.1;unfold dH at this;omega
 rw[cp j];exact⟨λw=>by have:=w.1;simp[Pr0]at this,λw=>by have:=w.1;simp[Pr0]at this⟩;have o:=h.r7 aa q v;rw[u q e,r,A];refine⟨o.1,λj H=>?_⟩;have lk:eZ z q=eZ x q:=by unfold eZ;rw[u q e,r,C,E]
 rw[lk]at H;exact⟨λw=>(o.2 j H).1 (wh _ w),λw=>(o.2 j H).2 (wh _ w)⟩;intro q D;rw[r,A];obtain e|⟨e,v⟩:=Q q D
 ·subst e;rw[K];intro N;omega
 rw[u q e];exact h.r8 q v
def b2x(x:Hp)(i:Nat):Bool:=((x.c i).st == 1) && (((x.c i).U == 1) || ((x.c i).U == 2))
theorem b7h:b2x x i=true↔(x.c i).st=1/\dH (x.c i):=by simp[b2x,dH]
def b0b(x:Hp)(k:Nat):List Int:=tU (b2x x) a6s k
structure Rw1(w:World)(base:Nat)(v:Value)(M:List Int):Prop where
 own:w.ownsRow base 3 1 v M.length (M.map iv)
theorem Rw1.ext(h:Rw1 w base v M)(e:Ext w w'):Rw1 w' base v M:=⟨uN h.own (λk a=>e.block k (h.own.lt k a).2)⟩
theorem Rw1.cell(h:Rw1 w base (sS g n cap) M)(i:Nat)(a:i<M.length):w.cell? (aA g i)=some (iv (it M i))/\w.frozen? (aA g i)=false/\n=M.length:=by
 obtain⟨h0,_⟩|⟨g',cap',cur,h0,hb,hg,hr⟩:=h.own.2
 cases h0
 cases h0;have:=nR (w:=w) (base:=base) (e:=3) (size:=1) (g:=g) (n:=M.length) (cap:=cap) (xs:=M.map iv) h.own i (by omega);exact⟨by rw[this];simp[it,a],nN (w:=w) (base:=base) (e:=3) (size:=1) (g:=g) (n:=M.length) (cap:=cap) (xs:=M.map iv) h.own i,rfl⟩
theorem Rw1.base_le(h:Rw1 w base (sS g n cap) M):base<=g/\g<w.heap.size:=h.own.lt g rfl
theorem Rw1.swap(h:Rw1 w base (sS g n cap) M)(i j:Nat):
  Rw1 ((w.setCell (aA g i) (iv (it M j))).setCell (aA g j) (iv (it M i))) base (sS g n cap) (swp M i j):=by
 have b:n=M.length:=by
  obtain⟨h0,_⟩|⟨g',cap',cur,h0,_⟩:=h.own.2
  cases h0
  cases h0;rfl
 subst b;have⟨a,_⟩:=World.ownsRow.stored h.own i (iv (it M j));have⟨c,_⟩:=World.ownsRow.stored a j (iv (it M i));refine⟨?_⟩;rw[a1s];unfold swp;rw[List.map_set,List.map_set];exact c
theorem Rw1.ext_of{w2:World}{z:Int}(h:Rw1 w base v M)(j:W=w.alloc o)(b:w2.ownsRow base 3 1 (sS g (M.length+1) cap) (M.length+1) (M.map iv++[iv z]))(c:W.grownBy w2 v.ownBlock)(f:Ext a w)(m:a.heap.size<=base):
  Rw1 w2 base (sS g (M.length+1) cap) (M++[z])/\Ext a w2/\w.heap.size<=w2.heap.size:=by
 subst j;have l:w.heap.size+1<=w2.heap.size:=by have:=c.size;simpa using this
 refine⟨⟨by simpa using b⟩,?_,by omega⟩;refine mV f ⟨c.os,c.tape,c.output,by omega,λk i=>?_⟩;have d:k<w.heap.size:=kF i f.size;rw[c.block k (by simp;omega) (λe=>by have:=(h.own.lt k e.symm).1;omega),mF _ o k d]
theorem c1b(x:Hp)(b:Nat)(w:World){ar:Option Addr}{kr:Nat}{ac:Option Addr}{kc:Nat}{ag:Option Addr}{kg:Nat}(h:HAt w b x ar kr ac kc ag kg)(ay:x.A.length<=8000):
  Calls prog 197 #[pP b] w λe w'=>∃v M,Hid (e=.returned v)/\Rw1 w' w.heap.size v M/\M.Perm (b0b x x.A.length)/\Ext w w':=by
 obtain⟨i0,U,S,aa,ab⟩:=info_parts c1a;have R:=h.c4;have HH:=uU h;clear h;go_in;go_wp21;go_loopw [3,14] (λv i wr=>∃(k:Nat)(M:List Int),k<=x.A.length/\i=iv k/\Rw1 wr w.heap.size v M/\Hid (M.Perm (b0b x k))/\Ext w wr) (λ_ i _=>x.A.length-(intOf i).toNat)
 case atStart=>exact⟨0,[],kB _,rfl,⟨mB _ _ _ _⟩,nE _,hO _⟩
 case round=>
  clear R;obtain⟨k,M,y,rfl,a,m,d⟩:=hrel;by_cases ae:k<x.A.length
  ·have r:=HH.ext d;obtain⟨b',o,ap,kp,rfl,p0,p1,p2,p3,p4,p5,p6,p7,lp,P⟩:=r.cell k ae;have f:=uU a;have ax:=i0N k;have aw:(k:Int)<(x.A.length:Int):=by omega
   have K:=d.alloc (oCl (x.c k) (.slice ap (x.c k).F.length kp));clear P r a;have am:M.length<=k:=by have:=m.length_eq;have:=a2q (b2x x) a6s k;unfold b0b at *;omega
   have go_no:b2x x k=false->Hid (M.Perm (b0b x (k+1))):=λq=>by
    have:=uH m;unfold b0b at *;rw[a2p _ _ _ q];exact this
   have GN:=uU go_no;clear go_no;go_upto_region 5 with fail;go_cut [31] from 19 to 30 (λv W=>∃u:Bool,v=.bool u/\Hid (b2x x k= !u)/\W=wr.alloc (oCl (x.c k) (.slice ap (x.c k).F.length kp)))
   case first=>cases Q:((x.c k).st != 1) <;> cases t2:((x.c k).U != 1) <;> cases t3:((x.c k).U != 2) <;> (go_wp21;go_meet;exact⟨_,rfl,by simp at Q t2 t3;show _=_;simp[b2x,Q,t2,t3],rfl⟩)
   case rest=>
   obtain⟨u,rfl,QW,rfl⟩:=hcut;cases u;rotate_left
   ·have P2:=uH GN QW;go_wp21;go_roundw
    case rel=>exact⟨k+1,M,by omega,by go_num,f.ext (eAl wr _),P2,K⟩
    simp[intOf];omega
   go_wp2_with (at_builtin;refine wpList_append_lies _ rfl _ _ 25 rfl w.heap.size 3 i0 (iv 0) 1 8 underlying25 U S aa ab rfl (by decide) _ M.length (M.map iv) rfl ((f.own.alloc _).alloc _) _ 1 1 [iv k] rfl rfl ?c1 ?c2 (by decide) ?c3 ?R ?c5 _ rfl ?_)
   case c1=>
    intro q u y;match q,y with
    | 0,y=>simp at y;subst y;simp[Addr.add,go_sem]
   case c2=>intro u hu;simp at hu;subst hu;rfl
   case c3=>unfold maxLen;omega
   case R=>omega
   case c5=>have:=d.size;simp;omega
   intro g C w2 n l E X;obtain⟨R1,L,S1⟩:=Rw1.ext_of (f.ext (eAl wr _)) rfl n l K (hT _);have Y:=uU (show(M++[(k:Int)]).Perm (b0b x (k+1)) by
    have:=uH m;unfold b0b at *;rw[a3t _ _ _ (uH QW)];exact this.append_right _)
   have T:=uU R1;clear R1 n l E p0 p1 p2 p3 p4 p5 p6 p7 K S1 f m GN;go_wp21;go_loopw [6] (λI wi=>∃(j:Nat)(N:List Int),j<N.length/\I=iv j/\N.length=M.length+1/\Rw1 wi w.heap.size (sS g (M.length+1) C) N/\Hid (N.Perm (b0b x (k+1)))/\Ext w wi) (λI _=>(intOf I).toNat)
   case atStart=>exact⟨M.length,M++[(k:Int)],by simp,by go_num,by simp,T,Y,L⟩
   case round=>
    clear T Y L d;obtain⟨j,N,W,rfl,t,a,m,d⟩:=hrel;have f:=uU a;have r:=HH.ext d;have d4:=r.c4;cases j with
    | zero=>
     clear a r;go_wp21;go_quiet (fail);go_wp21;go_roundw
     case rel=>exact⟨k+1,N,by omega,by go_num,(by have q:=uH f;rw[<-t]at q ⊢;exact q.ext ((hO _).drewN _)),m,d.drewN _⟩
     simp[intOf];omega
    | succ j=>
     obtain⟨a1,a2,a3⟩:=a.cell j (by omega);obtain⟨b1,b2,b3⟩:=a.cell (j+1) (by omega);have p:∀z,z∈N->∃q:Nat,z=(q:Int)/\q<x.A.length:=λz hz=>by
      obtain⟨q,hq,_,e⟩:=(a1j _ _ _ _).1 (m.mem_iff.1 hz);exact⟨q,e.symm,by omega⟩
     obtain⟨A,G,H⟩:=p _ (a3s N j (by omega));obtain⟨B,D,J⟩:=p _ (a3s N (j+1) W);obtain⟨au,o1,ad,ah,e1,O⟩:=r.cell A H;cases e1;obtain⟨ak,o2,af,av,e2,CB⟩:=r.cell B J;cases e2;have pa:=O.p4;have pb:=CB.p4;have V:=uU (a.swap j (j+1));rw[G,D]at V;have s:=a.base_le;have F:=uU ((a9p N j (j+1) (by omega) W).trans m);rw[G]at a1;rw[D]at b1;have j0:=i0N j;have j1:(j:Int)<(M.length:Int)+1:=by omega
     have j2:(j:Int)+1<(M.length:Int)+1:=by omega
     have j3:(0:Int)<=(j:Int)+1:=by omega
     have j4:((j:Int)+1).toNat=j+1:=by omega
     have j5:(0:Int)<(j:Int)+1:=by omega
     have q0:=i0N A;have q1:(A:Int)<(x.A.length:Int):=by omega
     have q2:=i0N B;have q3:(B:Int)<(x.A.length:Int):=by omega
     have ai:M.length<=8000:=by omega
     clear a r O CB p a3 b3 G D;cases Z:decide ((x.c B).born<(x.c A).born)
     ·go_wp21;go_quiet (fail);go_wp21;go_roundw
      case rel=>exact⟨k+1,N,by omega,by go_num,(by have q:=uH f;rw[<-t]at q ⊢;exact q.ext ((hO _).drewN _)),m,d.drewN _⟩
      simp[intOf];omega
     have aj:=of_decide_eq_true Z;clear Z;go_wp21;go_quiet (fail);go_wp21;go_roundw
     case rel=>exact⟨j,swp N j (j+1),by rw[a1s];omega,by go_num,by rw[a1s];omega,⟨uN V.own (λq _=>rfl)⟩,F,((d.drewN _).setCell s.1 _).setCell s.1 _⟩
     simp[intOf]
  have aq:k=x.A.length:=by omega
  subst aq;have f:=uU a;clear a;go_wp21;go_ret;exact⟨_,M,rfl,f,m,d⟩
theorem Sn.V(w:World)(n:Nat)(t:TypeId):Sn (w.alloc (.cells (madeCells #[.bool false] n) t)) w.heap.size w.heap.size n (.slice none 0 0) []:=by
 have e:(w.alloc (.cells (madeCells #[.bool false] n) t)).heap[w.heap.size]?=some (.cells (madeCells #[.bool false] n) t):=heap_alloc_new w _;refine⟨⟨hT _,by simp⟩,λi a=>?_,λi a=>(a7u w _ n t i a).2,mB _ _ _ _,by simp[Value.ownBlock],List.nodup_nil,λz b=>by cases b⟩;rw[cell_of_row _ w.heap.size i _ _ (0,0) e,<-qB,toList_madeCells_one];simp[a]
def b0d(x:Hp)(L:List Int):Prop:=∀z,z∈L->∃i:Nat,z=(i:Int)/\cU x i
def a4b(x:Hp)(k:Nat)(L:List Int):Prop:=∀j (h:j<x.B.length),j<k->x.B[j].k=2->(tgt x x.B[j]:Int)∈L
def c6m(M:List Int)(k:Nat)(L:List Int):Prop:=∀j,j<k->it M j∈L
def a3h(x:Hp)(j k:Nat)(L:List Int):Prop:=∀p,p<k->(((x.c j).p p).key.k=2->(tgt x ((x.c j).p p).key:Int)∈L)/\(((x.c j).p p).val.k=2->(tgt x ((x.c j).p p).val:Int)∈L)
def b0e(x:Hp)(i:Nat)(L:List Int):Prop:=∀q,q<i->a3h x (it L q).toNat (x.c (it L q).toNat).F.length L
theorem b0d.add{y:Wd}(h:b0d x L)(a:Add x y L L')(b:y.k=2->cU x (tgt x y)):b0d x L':=by grind[b0d,Sn.add,Add,cU,tgt,Add.new]
theorem b1q{R:List Int}(h:q<L.length):it (L++R) q=it L q:=by grind[it]
theorem a3h.mono(h:a3h x j k L)(s:∀z,z∈L->z∈L'):a3h x j k L':=by grind[a3h,Cl.p]
theorem b0e.add{y:Wd}(h:b0e x i L)(a:Add x y L L')(g:i<=L.length):b0e x i L':=λq c=>by
 have⟨R,e⟩:=a.pre;have f:∀z,z∈L->z∈L':=λz b=>a.sub b
 have d:it L' q=it L q:=e▸b1q (by omega);rw[d];exact(h q c).mono f
def WIn(x:Hp)(L:List Int):Prop:=∀i,i<x.A.length->(x.c i).st=1->dH (x.c i)->(i:Int)∈L
structure b1r(x:Hp)(i:Nat)(L:List Int):Prop where
 o:b0d x L
 r:a4b x x.B.length L
 w:WIn x L
 c:b0e x i L
theorem b1r.add{y:Wd}(h:b1r x i L)(a:Add x y L L')(l:i<=L.length)(m:y.k=2->cU x (tgt x y)):b1r x i L':=
 ⟨h.o.add a m,λj b f e=>a.sub (h.r j b f e),λj b d g=>a.sub (h.w j b d g),h.c.add a l⟩
theorem b1r.done(h:b1r x L.length L):∀i:Nat,(i:Int)∈L↔cU x i:=
 c4n h.o (λk a e=>h.r k a a e) h.w (λj f=>by
  have⟨q,b,e⟩:=mQ f;have:=h.c q b;rw[<-b2m L q b,e]at this;have d:a3h x j (x.c j).F.length L:=by simpa using this
  exact d)
theorem b1r.step(h:b1r x i L)(e:it L i=(j:Int))(a:a3h x j (x.c j).F.length L):b1r x (i+1) L:=
 ⟨h.o,h.r,h.w,λq b=>by
  by_cases k:q=i;rw[k,e];simpa using a;exact h.c q (by omega)⟩
theorem Rw1.form(h:Rw1 w base v M):∃ad cap,v=.slice ad M.length cap/\(0<M.length->∃g,ad=some (aA g 0)):=by
 obtain⟨h1,h2⟩|⟨g,cap,cur,h1,_⟩:=h.own.2;grind;grind
theorem Rw1.mfr(h:Rw1 w base vw M)(q:Mfr bs v v' w w')(b:vw.ownBlock≠some bs)(c:∀k,vw.ownBlock=some k->v.ownBlock≠some k):Rw1 w' base vw M:=
 ⟨uN h.own (λk a=>q.block k (h.own.lt k a).2 (λe=>b (e ▸ a)) (c k a))⟩
theorem c7y(h:Rw1 w base vw M)(q:Mfr bs v v' w w')(c:∀k,vw.ownBlock=some k->v.ownBlock≠some k):∀k,vw.ownBlock=some k->v'.ownBlock≠some k:=λk a=>by
 obtain e|⟨g,e,b⟩:=q.own;grind;rw[e];intro f;cases f;have:=(h.own.lt k a).2;omega
theorem Sn.mext(h:Sn w a.heap.size bs n v L)(q:Mfr bs v v' w w')(e:Ext a w):Ext a w':=q.ext e h.hb.1 (λk b=>(h.own.lt k b).1)
theorem Sn.form(h:Sn w base bs n v L):∃ad cap,v=.slice ad L.length cap/\(0<L.length->∃g,ad=some (aA g 0)):=(Rw1.mk h.own).form
theorem c1c(x:Hp)(b:Nat)(w:World)(h:HAt w b x ar kr ac kc ag kg)(r2:R2 x)(r4:R4 x)(N:x.A.length<=8000):
  Calls prog 135 #[.pointer (some ⟨b,0,none⟩)] w λe w'=>∃v L,Hid (e=.returned (.tuple #[.slice (some ⟨w.heap.size,0,none⟩) x.A.length x.A.length,v]))/\Sn w' w.heap.size w.heap.size x.A.length v L/\Hid (∀i:Nat,(i:Int)∈L↔cU x i)/\Ext w w':=by
 have c4:=h.c4;have c3:=h.c3;have lr:=h.lr;have hb:=cLt c4;have Z:=uU h;clear h;obtain⟨z,ba,hz⟩:=c6k x.A.length (by omega) w;have S0:=uU (Sn.V w x.A.length 4);rw[<-hz]at S0;clear hz;go_in;go_wp21;go_loopw [5,24] (λv i wr=>∃(k:Nat)(L:List Int),k<=x.B.length/\i=.int .i64 k/\Sn wr w.heap.size w.heap.size x.A.length v L/\Hid (b0d x L/\a4b x k L)/\Ext w wr) (λ_ i _=>x.B.length-(intOf i).toNat)
 case atStart=>exact⟨0,[],kB _,rfl,S0,⟨(λz hz=>by cases hz),λj _ O=>by omega⟩,(hO w).alloc _⟩
 case round=>
  clear S0 ba c4 c3;obtain⟨k,L,hk,rfl,A,d,l⟩:=hrel;have y:=uU A;clear A;by_cases t:k<x.B.length
  ·have hh:=Z.ext l;have⟨b',o,e1,p0,p1,p2⟩:=hh.R k t;have d3:=hh.c3;rw[e1]at d3;have bd:=i0N k;have az:(k:Int)<(x.B.length:Int):=by omega
   have E:=(hO wr).alloc (.cells #[iv x.B[k].k,iv x.B[k].n,iv x.B[k].a] 48);subst e1;clear hh;go_wp21;refine(a0y x x.B[k] b w.heap.size w.heap.size _ L _ (Z.ext (l.trans E)) (b0c r2 r4 k t) (y.ext E) (l.trans E).size N).mono ?_;rintro e w2 ⟨v',Q,rfl,G,S,hm⟩;have R:=uU (show Sn w2 w.heap.size w.heap.size x.A.length v' Q/\(b0d x Q/\a4b x (k+1) Q)/\Ext w w2 from
    ⟨G,⟨d.1.add S (λe=>cU.reg k t e),λj O am e=>by
     by_cases q:j=k;subst q;exact S.has e;exact S.sub (d.2 j O (by omega) e)⟩,(y.ext E).mext hm (l.trans E)⟩)
   clear G S hm E;go_wp21;go_roundw
   case rel=>exact⟨k+1,Q,by omega,by go_num,R.1,R.2.1,R.2.2⟩
   simp[intOf];omega
  have bc:k=x.B.length:=by omega
  subst bc;go_wp21;refine(c1b x b _ (Z.ext l) N).mono ?_;rintro e w3 ⟨vw,M,rfl,s,U,hq⟩;have ao:=l.trans hq;have⟨BW,aw⟩:∃n,n=wr.heap.size:=⟨_,rfl⟩;rw[<-aw]at s;obtain⟨H,m,rfl,al⟩:=s.form;have bn:M.length<=8000:=by have:=U.length_eq;have:=a2q (b2x x) a6s x.A.length;unfold b0b at *;omega
  have WM:=uU (show ∀j,j<M.length->∃q:Nat,it M j=(q:Int)/\q<x.A.length/\(x.c q).st=1/\dH (x.c q) from λj O=>by
   obtain⟨q,I,B,e⟩:=(a1j _ _ _ _).1 (U.mem_iff.1 (a3s M j O));exact⟨q,e.symm,I,b7h.1 B⟩)
  have WA:=uU (show ∀i,i<x.A.length->(x.c i).st=1->dH (x.c i)->(i:Int)∈M from λi hi h1 h2=>U.mem_iff.2 ((a1j _ _ _ _).2 ⟨i,hi,b7h.2 ⟨h1,h2⟩,rfl⟩));have S3:=uU (y.ext hq);have AP:∀q,(Value.slice H M.length m).ownBlock=some q->¬(Value.ownBlock (Value.slice H M.length m)=some w.heap.size):=λq _ e=>by
   have:=(s.own.lt _ e).1;have:=y.hb.2;omega
  have ah:=λq e=>(λq (e:(Value.slice H M.length m).ownBlock=some q)=>(show ∀u:Value,Sn wr w.heap.size w.heap.size x.A.length u L->u.ownBlock≠some q from λu hu f=>by
   have:=(hu.own.lt q f).2;have:=(s.own.lt q e).1;omega)) q e _ y;have RW:=uU s;have HI:=uH d;clear s U hq t hk d y aw;go_wp21;go_loopw [5,37] (λv i wx=>∃(k:Nat)(K:List Int),k<=M.length/\i=.int .i64 k/\Sn wx w.heap.size w.heap.size x.A.length v K/\Rw1 wx BW (.slice H M.length m) M/\Hid (∀q,(Value.slice H M.length m).ownBlock=some q->v.ownBlock≠some q)/\Hid (b0d x K/\a4b x x.B.length K/\c6m M k K)/\Ext w wx) (λ_ i _=>M.length-(intOf i).toNat)
  case atStart=>exact⟨0,L,kB _,rfl,S3,RW,ah,⟨HI.1,HI.2,λj O=>by omega⟩,ao⟩
  case round=>
   clear S3 RW ah HI l ao;obtain⟨k,K,hk,rfl,A,s,aa,d,l⟩:=hrel;have y:=uU A;have RW:=uU s;by_cases t:k<M.length
   ·obtain⟨g,rfl⟩:=al (by omega);have⟨a1,a2,a3⟩:=s.cell k t;have⟨q,eq,I,B,ae⟩:=uH WM k t;rw[eq]at a1;have EQ:=uU eq;have bd:=i0N k;have az:(k:Int)<(M.length:Int):=by omega
    have et:tgt x ⟨2,0,(q:Int)⟩=q:=by unfold tgt a2h;simp[B]
    have MY:a0m x ⟨2,0,(q:Int)⟩:=λ_=>⟨rfl,by simp,by simpa using I,(λh=>by simp[B]at h),by rw[et];exact b1p r4 q I B ae⟩
    have ay:=uU MY;have RQ:=uU (show cU x (tgt x ⟨2,0,(q:Int)⟩) by rw[et];exact cU.U q I B ae);have ET:=uU et;clear A s a3 eq et MY B ae;go_wp21;refine(a0y x ⟨2,0,(q:Int)⟩ b w.heap.size w.heap.size _ K _ (Z.ext l) ay y l.size N).mono ?_;rintro e w2 ⟨v',Q,rfl,G,S,hm⟩;have R:=uU (show Sn w2 w.heap.size w.heap.size x.A.length v' Q/\Rw1 w2 BW (.slice (some ⟨g,0,none⟩) M.length m) M/\(∀q,(Value.slice (some ⟨g,0,none⟩) M.length m).ownBlock=some q->v'.ownBlock≠some q)/\(b0d x Q/\a4b x x.B.length Q/\c6m M (k+1) Q)/\Ext w w2 from
     ⟨G,RW.mfr hm (show(Value.slice (some ⟨g,0,none⟩) M.length m).ownBlock≠some w.heap.size from λe=>uH AP _ rfl e) aa,c7y RW hm aa,⟨d.1.add S (λ_=>uH RQ),λj O am e=>S.sub (d.2.1 j O am e),λj O=>by
      by_cases q2:j=k;rw[q2,uH EQ];have:=S.has rfl;rw[uH ET]at this;exact this;exact S.sub (d.2.2 j (by omega))⟩,y.mext hm l⟩)
    clear G S hm;go_wp21;go_roundw
    case rel=>exact⟨k+1,Q,by omega,by go_num,R.1,R.2.1,R.2.2.1,R.2.2.2.1,R.2.2.2.2⟩
    simp[intOf];omega
   have G0:b1r x 0 K:=⟨d.1,d.2.1,λi hi h1 h2=>by
    have⟨j,O,e⟩:=mQ (WA i hi h1 h2);rw[b2m M j O]at e;rw[<-e];exact d.2.2 j (by omega),λq hq=>by omega⟩
   clear A s RW aa d WM WA AP al;go_wp21;go_loopw [5,10] (λv i wy=>∃(c:Nat)(J:List Int),c<=J.length/\i=.int .i64 c/\Sn wy w.heap.size w.heap.size x.A.length v J/\Hid (b1r x c J)/\Ext w wy) (λ_ i _=>x.A.length-(intOf i).toNat)
   case atStart=>exact⟨0,K,kB _,rfl,y,G0,l⟩
   case round=>
    clear G0 y l;obtain⟨c,J,hc,rfl,A,X,l⟩:=hrel;have y:=uU A;obtain⟨ad,bg,rfl,ax⟩:=A.form;have bi:=A.len;by_cases t:c<J.length
    ·obtain⟨g,rfl⟩:=ax (by omega);have⟨a1,a2,a3⟩:=(Rw1.mk A.own).cell c t;have⟨j,ej,ab⟩:=X.o _ (a3s J c t);rw[ej]at a1;have W:=ab.good r2 r4;have⟨b',o,ap,kp,e1,C⟩:=Z.cell j W.1;have d4:=(Z.ext l).c4;rw[e1]at d4;have p7:=l.keep C.p7;have lp:=C.lp;have HP:=uU C.P;have EJ:=uU ej;have GJ:=uU W;have bk:=W.1;have c0:=i0N c;have c1:(c:Int)<(J.length:Int):=by omega
     have j0:=i0N j;have j1:(j:Int)<(x.A.length:Int):=by omega
     clear A C e1 ej W a3 a2;go_wp21;go_quiet (fail);go_wp21;go_loopw [5,66] (λv i wz=>∃(p:Nat)(T:List Int),p<=(x.c j).F.length/\i=.int .i64 p/\Sn wz w.heap.size w.heap.size x.A.length v T/\Hid (b1r x c T/\it T c=(j:Int)/\c<T.length/\a3h x j p T)/\Ext w wz) (λ_ i _=>(x.c j).F.length-(intOf i).toNat)
     case atStart=>exact⟨0,J,kB _,rfl,y.ext ((hO _).drewN _),⟨X,EJ,t,λp hp=>by omega⟩,l.drewN _⟩
     case round=>
      clear y X a1 d4 p7 l;obtain⟨p,T,hp,rfl,A,d,r⟩:=hrel;have y:=uU A;have bj:=A.len;by_cases Y:p<(x.c j).F.length
      ·obtain⟨b2,o2,rfl,q0,q1,q2,q3,q4,q5⟩:=uH HP p Y;have e0:=r.keep q0;have e1:=r.keep q1;have e2:=r.keep q2;have e3:=r.keep q3;have e4:=r.keep q4;have e5:=r.keep q5;have bh:=cLt e0;clear q0 q1 q2 q3 q4 q5 A;have bf:=i0N p;have bl:(p:Int)<((x.c j).F.length:Int):=by omega
       have E:=(hO wr).alloc (oPr ((x.c j).p p));have ak:=uU (a4a r2 r4 j p GJ Y);have wW:Ext w wr:=r;go_wp21;refine(a0y x ((x.c j).p p).key b w.heap.size w.heap.size _ T _ (Z.ext (wW.trans E)) ak.1 (y.ext E) (wW.trans E).size N).mono ?_;rintro e w5 ⟨v5,T5,rfl,au,aj,V⟩;have x5:Ext w w5:=(y.ext E).mext V (wW.trans E);have be:=(y.ext E).own.lt;have u:=λ(o:Nat) (v:Value) (hc:(wr.alloc (oPr ((x.c j).p p))).cell? ⟨wr.heap.size,o,none⟩=some v)=>(kT (w':=w5) (a:=⟨wr.heap.size,o,none⟩) (V.block wr.heap.size (by simp) (by have:=y.hb.2;omega) (λf=>by have:=(y.own.lt _ f).2;omega))).trans hc
       have u3:=u 3 _ (by simp[go_sem];rfl);have u4:=u 4 _ (by simp[go_sem];rfl);have u5:=u 5 _ (by simp[go_sem];rfl);have bm:wr.heap.size<w5.heap.size:=by have:=V.size;simp at this;omega
       have A5:=uU aj;clear u V aj e0 e1 e2 e3 e4 e5 be E;go_wp21;refine(a0y x ((x.c j).p p).val b w.heap.size w.heap.size _ T5 _ (Z.ext x5) ak.2 au x5.size N).mono ?_;rintro e w6 ⟨v6,T6,rfl,ai,F,av⟩;have R:Sn w6 w.heap.size w.heap.size x.A.length v6 T6/\(b1r x c T6/\it T6 c=(j:Int)/\c<T6.length/\a3h x j (p+1) T6)/\Ext w w6:=by
        have⟨i1,i2,i3,i4⟩:=uH d;have⟨R5,r5⟩:=A5.pre;have⟨R6,r6⟩:=F.pre;have l5:T.length<=T5.length:=by rw[r5];simp
        have l6:T5.length<=T6.length:=by rw[r6];simp
        refine⟨ai,⟨(i1.add A5 (by omega) (λe=>cU.key j p ab Y e)).add F (by omega) (λe=>cU.val j p ab Y e),?_,by omega,λq hq=>?_⟩,au.mext av x5⟩;rw[r6,b1q (by omega),r5,b1q i3];exact i2;by_cases qe:q=p
        ·subst qe;exact⟨λe=>F.sub (A5.has e),λe=>F.has e⟩
        exact((i4.mono (λz hz=>F.sub (A5.sub hz))) q (by omega))
       clear ai F av;go_wp21;go_roundw
       case rel=>exact⟨p+1,T6,by omega,by go_num,R.1,R.2.1,R.2.2⟩
       simp[intOf];omega
      have af:p=(x.c j).F.length:=by omega
      have R:b1r x (c+1) T/\c+1<=T.length:=by
       have⟨i1,i2,i3,i4⟩:=uH d;rw[af]at i4;exact⟨i1.step i2 i4,i3⟩
      clear A af;go_wp21;go_roundw
      case rel=>exact⟨c+1,T,R.2,by go_num,y,R.1,r⟩
      simp[intOf];omega
    have an:c=J.length:=by omega
    have D:=uU (show ∀i:Nat,(i:Int)∈J↔cU x i by have:=uH X;rw[an]at this;exact this.done);clear A an;go_wp21;go_ret2;exact⟨_,J,rfl,y,D,l⟩
theorem GAt.prow[qr](h:GAt B w g x ar kr ac kc vg br bc pb pa pk role)(i:Nat)(hi:i<x.A.length)(r0:0<x.B.length)(L:List Pr)(G:Nat)(S:Option Addr)(K:Nat)(o:uZ (λq=>q=bc) w w')(M:Nf1 bc w')(c7:w'.cell? (aA bc (i*8+7))=some (.slice S L.length K))(co:∀j,j≠i*8+7->w'.cell? (aA bc j)=w.cell? (aA bc j))
  (hp:∀k,k<L.length->qY w' G (k*6) (L.getD k Pr0)) (aa:L.length<=K) (R:0<K->S=some (aA G 0)/\Nfp G K w'/\w.heap.size<=G/\B<=G) :
  GAt B w' g { x with A:=x.A.set i { x.c i with F:=L } } ar kr ac kc vg br bc (λq=>if q=i then G else pb q) (λq=>if q=i then S else pa q) (λq=>if q=i then K else pk q) (λd=>if w.heap.size<=d then 6+i else role d):=by
 have E:0<x.A.length:=by omega
 have u:∀q,q<w.heap.size->role q≠3->w'.heap[q]?=w.heap[q]?:=λq b t=>o.block q b (λe=>t (e▸h.sp.c E))
 have l:∀q,q<w.heap.size->(if w.heap.size<=q then 6+i else role q)=role q:=λq b=>if_neg (by omega)
 have n:({ x with A:=x.A.set i { x.c i with F:=L } }:Hp).A.length=x.A.length:=by simp
 have U:=Hp.c_set x i { x.c i with F:=L } hi;have A:∀q,q≠i->(({ x with A:=x.A.set i { x.c i with F:=L } }:Hp).c q)=x.c q:=λq e=>by rw[U q,if_neg e]
 have I:(({ x with A:=x.A.set i { x.c i with F:=L } }:Hp).c i)={ x.c i with F:=L }:=by rw[U i,if_pos rfl]
 have X:=u g h.nf.1 (by rw[h.sp.g];omega);have Y:∀q,q<x.A.length->0<pk q->w'.heap[pb q]?=w.heap[pb q]?:=λq b n=>u (pb q) (h.rw.pl q b n).2.1.1 (by rw[h.sp.p q b n];omega)
 have W:0<x.B.length->w'.heap[br]?=w.heap[br]?:=λt=>u br (h.rw.nr t).1.1 (by rw[h.sp.r t];omega)
 refine⟨?_,uY h.nf X o.size,h.lo,h.ha,λ_=>h.hc E,⟨λj D=>?_,λq b=>?_,λq b=>?_,λq b j D=>?_,λq b f=>?_,λt=>⟨uY (h.rw.nr t).1 (W t) o.size,(h.rw.nr t).2⟩,λ_=>⟨M,(h.rw.nc E).2⟩,λ_=>h.rw.d E,λq N b C J z F=>?_,λq b=>?_⟩,h.gr.block (λq b=>u q (h.gr.lt q b).2 (by rw[h.sp.y q b];omega)),⟨?_,λt=>?_,λ_=>?_,λq b=>?_,λq b f=>?_⟩,n▸h.kl,h.pr.of (λq b z=>u q b (by rw[z];omega)) (λq b z=>by(try dsimp only);rw[if_neg (by omega)];exact z),λT=>(h.cc T).A (l bc (h.cc T).nf.1) M (λj v _ hv=>?_),λn=>h.rob n (W n)⟩;rw[n];exact h.bx.block X;exact(h.rw.r j D).of λm _=>cOb br _ (W (by have:j<x.B.length:=D;omega))
 rw[n]at b;have H:S7 w' bc (q*8) (x.c q):=(h.rw.s q b).of λm hm=>co _ (by omega)
 by_cases e:q=i;subst e;rw[I];exact H;rw[A q e];exact H;rw[n]at b;by_cases e:q=i
 ·grind[Nf1,qY,Pr0,Hp.c]
 rw[A q e];simp only[if_neg e];rw[co _ (by omega)];exact h.rw.p7 q b;rw[n]at b;by_cases e:q=i
 ·subst e;rw[I]at D ⊢;simp only[if_true];exact hp j D
 rw[A q e]at D ⊢;simp only[if_neg e];exact(h.rw.p q b j D).of λm _=>cOb (pb q) _ (Y q b (h.rw.pw b (by omega)))
 rw[n]at b;by_cases e:q=i
 ·subst e;simp only[if_true]at f ⊢;have⟨Q,P,V,O⟩:=R f;refine⟨Q,P,⟨λe=>?_,λe=>?_⟩,O⟩
  ·have:=(h.rw.nr r0).1.1;omega
  have:=(h.rw.nc E).1.1;omega
 simp only[if_neg e]at f ⊢;have⟨Q,P,V,O⟩:=h.rw.pl q b f;exact⟨Q,eN P (Y q b f) o.size,V,O⟩;rw[n]at b C;by_cases e:q=i
 ·subst e;have e':N≠q:=λe=>J e.symm
  simp only[if_true,if_neg e']at z F ⊢;have:=(h.rw.pl N C F).2.1.1;have:=(R z).2.2.1;omega
 by_cases Z:N=i
 ·subst Z;simp only[if_true,if_neg e]at z F ⊢;have:=(h.rw.pl q b z).2.1.1;have:=(R F).2.2.1;omega
 simp only[if_neg e,if_neg Z]at z F ⊢;exact h.rw.dp q N b C J z F;rw[n]at b;by_cases e:q=i
 ·grind[Nf1,qY,Pr0,Hp.c]
 rw[A q e];simp only[if_neg e];exact h.rw.kp q b;rw[l g h.nf.1];exact h.sp.g;rw[l br (h.rw.nr t).1.1];exact h.sp.r t;rw[l bc (h.rw.nc E).1.1];exact h.sp.c E;rw[l q (h.gr.lt q b).2];exact h.sp.y q b;rw[n]at b;by_cases e:q=i
 ·grind[Grw.at,Nf1,qY,Pr0,Hp.c]
 simp only[if_neg e]at f ⊢;rw[l (pb q) (h.rw.pl q b f).2.1.1];exact h.sp.p q b f;grind[Nf1,qY,Pr0,Hp.c]
structure b0u(B U:Nat)(w:World)(x:Hp)(br kr bc kc bg kg:Nat)(pb:Nat->Nat)(pa:Nat->Option Addr)(pk:Nat->Nat):Prop where
 r:SlW w (.slice (some ⟨br,0,none⟩) x.B.length kr) x.B
 s:∀q,q<x.A.length->w.cell? ⟨bc,q*8,none⟩=some (iv (x.c q).st)/\w.cell? ⟨bc,q*8+1,none⟩=some (iv (x.c q).kind)/\w.cell? ⟨bc,q*8+2,none⟩=some (iv (x.c q).T)/\w.cell? ⟨bc,q*8+3,none⟩=some (iv (x.c q).U)/\w.cell? ⟨bc,q*8+4,none⟩=some (iv (x.c q).born)/\w.cell? ⟨bc,q*8+5,none⟩=some (iv (x.c q).J)/\w.cell? ⟨bc,q*8+6,none⟩=some (iv (x.c q).to)
 p:∀q,q<x.A.length->SlP w (.slice (pa q) (x.c q).F.length (pk q)) (x.c q).F
 g:SlI w (.slice (some ⟨bg,0,none⟩) x.D.length kg) x.D
 p7:∀q,q<x.A.length->w.cell? ⟨bc,q*8+7,none⟩=some (.slice (pa q) (x.c q).F.length (pk q))
 pl:∀q,q<x.A.length->0<(x.c q).F.length->pa q=some ⟨pb q,0,none⟩/\Nf1 (pb q) w/\(pb q≠br/\pb q≠bc/\pb q≠bg)/\B<=pb q/\pb q<U
 nr:Nf1 br w
 nc:Nf1 bc w
 ng:Nf1 bg w
 d:br≠bc/\br≠bg/\bc≠bg
 dp:∀q q',q<x.A.length->q'<x.A.length->q≠q'->0<(x.c q).F.length->0<(x.c q').F.length->pb q≠pb q'
 b:(B<=br/\br<U)/\(B<=bc/\bc<U)/\(B<=bg/\bg<U)
 l:x.B.length<=100/\x.A.length<=8000/\x.D.length<=8000/\∀q,q<x.A.length->(x.c q).F.length<=200
 k:∀q,q<x.A.length->(x.c q).F.length<=pk q
theorem b0v(h:Nf1 B w)(k:uZ S w w')(a:¬S B):Nf1 B w':=⟨kF h.1 k.size,λj=>k.frozen h.1 a▸h.2 j⟩
theorem b0u.only(h:b0u B U w x br kr bc kc bg kg pb pa pk)(e:uZ S w w')(m:∀q,B<=q->q<U->¬S q):b0u B U w' x br kr bc kc bg kg pb pa pk:=by
 have t:=m _ h.b.1.1 h.b.1.2;have f:=m _ h.b.2.1.1 h.b.2.1.2;have v:=m _ h.b.2.2.1 h.b.2.2.2;refine⟨yH.mono2 h.r λb o n c z A y j=>?_,λq i=>let ⟨a0,a1,a2,a3,a4,a5,a6⟩:=h.s q i;⟨e.keep f a0,e.keep f a1,e.keep f a2,e.keep f a3,e.keep f a4,e.keep f a5,e.keep f a6⟩,λq i=>?_,yH.mono2 h.g λb o n c z A y j=>?_,λq i=>e.keep f (h.p7 q i),λq i C=>let ⟨a,b,c⟩:=h.pl q i C;⟨a,b0v b e (m _ c.2.1 c.2.2),c⟩,b0v h.nr e t,b0v h.nc e f,b0v h.ng e v,h.d,h.dp,h.b,h.l,h.k⟩;simp only[Value.slice.injEq,Option.some.injEq,Addr.mk.injEq]at z;obtain⟨⟨rfl,_,_⟩,_,_⟩:=z;exact⟨e.keep t j.1,e.keep t j.2.1,e.keep t j.2.2⟩;obtain z|z:=mN (x.c q).F.length
 ·grind[Hp.c,yH,yH.nil]
 have⟨a,_,c⟩:=h.pl q i z;refine d0k e (λb o n k u=>?_) (h.p q i);rw[a]at u;simp only[Value.slice.injEq,Option.some.injEq,Addr.mk.injEq]at u;rw[<-u.1.1];exact m _ c.2.1 c.2.2;simp only[Value.slice.injEq,Option.some.injEq,Addr.mk.injEq]at z;obtain⟨⟨rfl,_,_⟩,_,_⟩:=z;exact e.keep v j
theorem b0u.cs(h:b0u B U w x br kr bc kc bg kg pb pa pk):SlC w (sS bc x.A.length kc) x.A:=by
 refine⟨_,_,rfl,by have:=h.l.2.1;omega,λi a=>⟨bc,0,rfl,?_⟩⟩;have e:x.c i=x.A[i]:=(Hp.c_eq x i a).symm;have⟨f,g,k,b,n,d,m⟩:=h.s i a;have o:=h.p i a;have j:=h.p7 i a;rw[e]at f g k b n d m o j;rw[kO];exact⟨_,f,g,k,b,n,d,m,j,o⟩
theorem b7a(n:Int)(w:World):
  Calls prog 54 #[iv n,.nilIface] w λe w'=>e=.returned (tD 0 n)/\Ext w w':=by
 go_in;go_wp21;refine(as_none _ _).mono ?_;rintro e a ⟨rfl,rfl⟩;go_wp21;refine bodyPost_ret (v:=tD 0 n) (by simp[results,results54,go_sem]) rfl ⟨rfl,?_⟩;repeat (first|exact hO _|refine mJ ?_ _|refine mW ?_ (by first|exact hT _|(show w.heap.size<=w.heap.size+1;omega)) _)
theorem c3p(n c:Int)(w:World)(p:w.cell? (aA 0 0)=some (rty 112)):
  Calls prog 54 #[iv n,.iface 146 (.agg #[iv c])] w λe w'=>e=.returned (tD c 0)/\Ext w w':=by
 have g:Ext w ((w.alloc (.cells #[iv 0,iv 0] 33)).alloc (.cells #[iv 0] 146)):=(eAl w _).alloc _;have d:((w.alloc (.cells #[iv 0,iv 0] 33)).alloc (.cells #[iv 0] 146)).cell? (aA w.heap.size 0)=some (iv 0):=by simp[go_sem]
 have h:((w.alloc (.cells #[iv 0,iv 0] 33)).alloc (.cells #[iv 0] 146)).cell? (aA w.heap.size 1)=some (iv 0):=by simp[go_sem]
 have f:∀o,((w.alloc (.cells #[iv 0,iv 0] 33)).alloc (.cells #[iv 0] 146)).frozen? (aA w.heap.size o)=false:=λo=>by simp[go_sem]
 go_in;go_wp21;refine(as_hit c (w.heap.size+1) (iv 0) ((w.alloc (.cells #[iv 0,iv 0] 33)).alloc (.cells #[iv 0] 146)) (g.keep p) (by simp[go_sem]) (by simp[go_sem])).mono ?_;rintro e l ⟨rfl,s,a⟩;have m:=a.keep (b:=w.heap.size) (by omega) d;have j:=a.keep (b:=w.heap.size) (by omega) h;have r:=(a.frozen (b:=w.heap.size) (o:=0) (uQ d) (by omega)).trans (f 0);have t:=(a.frozen (b:=w.heap.size) (o:=1) (uQ d) (by omega)).trans (f 1);have k:Ext w l:=a.ext g (λq u e=>by omega);go_wp21;refine bodyPost_ret (v:=tD c 0) (by simp[results,results54,go_sem,m,j]) rfl ⟨rfl,?_⟩;repeat (first|exact k|refine mW ?_ (hT _) _)
