import Derived.Test.YtddkhnclmeikfaaGreatRw
import Derived.Deep.DeepCutAuto
import Derived.Deep.LoopGhost
import Derived.Deep.RegionLaw
import Derived.Deep.RegionWith
import Derived.Laws.Bits64b
set_option maxRecDepth 100000
set_option maxHeartbeats 4000000
namespace Go.Proofs.YtddkhnclmeikfaaGreat
open Go.RowKit Tryz
attribute [local go_sem ↓] Go.wp_at_zero Go.wp_at_succ
variable{x:Hp}{w w' v w5 w4 w1 w2:World}{B br k i c m bc q g kr kc:Nat}{pb pk cB cO role:Nat->Nat}{pa:Nat->Option Addr}{vg vr vc:Value}{ar ac:Option Addr}{r:Int}
def a6x(x:Hp)(y:Wd):Bool:=mkB x && (y.k == 2 && (x.c y.a.toNat).J == 0)
def a5w(x:Hp)(y:Wd):Hp:=if a6x x y=true then { x with A:=x.A.set y.a.toNat (tQ (x.c y.a.toNat)),D:=x.D++[y.a] } else x
theorem GAt.setc[Inhabited uQ]{c':Cl}(h:GAt B w g x ar kr ac kc vg br bc pb pa pk role)(P:i<x.A.length)(T:c'.F=(x.c i).F)(o:uX (λq=>q=bc) w w')(Q:S7 w' bc (i*8) c')(H:∀k,(k<i*8\/i*8+7<=k)->w'.cell? (aA bc k)=w.cell? (aA bc k))(G:Nf1 bc w'):
  GAt B w' g { x with A:=x.A.set i c' } ar kr ac kc vg br bc pb pa pk role:=by
 have A:0<x.A.length:=by omega
 have f:∀q,q<w.heap.size->role q≠3->w'.heap[q]?=w.heap[q]?:=λq b u=>o.block q b (λe=>u (by rw[e];exact h.sp.c A))
 have l:({ x with A:=x.A.set i c' }:Hp).A.length=x.A.length:=by simp
 have I:=Hp.c_set x i c' P
 have m:∀q,(({ x with A:=x.A.set i c' }:Hp).c q).F=(x.c q).F:=λq=>by grind [Hp.c,S7,Nf1]
 have E:=f g h.nf.1 (by rw[h.sp.g];omega);have F:∀q,q<x.A.length->0<pk q->w'.heap[pb q]?=w.heap[pb q]?:=λq b l=>f (pb q) (h.rw.pl q b l).2.1.1 (by rw[h.sp.p q b l];omega)
 refine⟨?_,uJ h.nf E o.size,h.lo,h.ha,λ_=>h.hc A,⟨λk t=>?_,λq b=>?_,λq b=>?_,λq b k t=>?_,λq b n=>?_,λu=>⟨uJ (h.rw.nr u).1 (f br (h.rw.nr u).1.1 (by rw[h.sp.r u];omega)) o.size,(h.rw.nr u).2⟩,λ_=>⟨G,(h.rw.nc A).2⟩,λ_=>h.rw.d A,λq N b z C D M=>?_,λq b=>?_⟩,h.gr.block (λq b=>f q (h.gr.lt q b).2 (by rw[h.sp.y q b];omega)),⟨h.sp.g,h.sp.r,λ_=>h.sp.c A,h.sp.y,λq b n=>?_⟩,by rw[l];exact h.kl,h.pr.of (λq b D=>f q b (by rw[D];omega)) (λ_ _ h=>h),λt=>(h.cc t).A rfl G (λj v _ R=>?_)⟩
 ·rw[l];exact(h.bx.block E)
 ·exact(h.rw.r k t).of λj _=>World.cell?_of_block (a:=(aA br _)) (f br (h.rw.nr (by have:k<x.B.length:=t;omega)).1.1 (by rw[h.sp.r (by have:k<x.B.length:=t;omega)];omega))
 ·rw[l] at b;rw[I q];by_cases e:q=i
  ·subst e;rw[if_pos rfl];exact Q
  ·rw[if_neg e];exact(h.rw.s q b).of λj S=>H _ (by omega)
 ·rw[l] at b;rw[m q,H _ (by omega)];exact h.rw.p7 q b
 ·rw[l] at b;have O:(({ x with A:=x.A.set i c' }:Hp).c q).p k=(x.c q).p k:=by simp only [Cl.p,m q]
  rw[m q] at t;rw[O];exact(h.rw.p q b k t).of λj _=>World.cell?_of_block (a:=(aA (pb q) _)) (F q b (h.rw.pw b (by omega)))
 ·rw[l] at b;obtain⟨L,K,J⟩:=h.rw.pl q b n;exact⟨L,a0g K (F q b n) o.size,J⟩
 ·rw[l] at b z;exact h.rw.dp q N b z C D M
 ·rw[l] at b;rw[m q];exact h.rw.kp q b
 ·rw[l] at b;exact h.sp.p q b n
 ·grind [S7.some,Grw.at,Hp.c,S7,Nf1]
theorem GAt.push[Inhabited uQ]{W:World}{i:Int}{gb go cap:Nat}(h:GAt B W g x ar kr ac kc vg br bc pb pa pk role)(C:W.grownBy w5 vg.ownBlock)(G:Grw w5 B (sO gb go (x.D.length+1) cap) (x.D++[i]))(A:vg.ownBlock=some gb\/gb=W.heap.size):
  GAt B (w5.setCell (aA g 8) (sO gb go (x.D.length+1) cap)) g { x with D:=x.D++[i] } ar kr ac kc (sO gb go (x.D.length+1) cap) br bc pb pa pk (λq=>if q=gb then 4 else role q):=by
 have m:∀q,q<W.heap.size->role q≠4->q≠gb:=λq f t e=>by
  rcases A with a | a
  ·exact t (by rw[e];exact h.sp.y gb a)
  ·omega
 have u:∀q,q<W.heap.size->role q≠4->w5.heap[q]?=W.heap[q]?:=λq f t=>C.block q f (λe=>t (h.sp.y q e.symm))
 have D:=h.nf.1;have F:role g≠4:=by rw[h.sp.g];omega
 have E:=u g D F;have o:=m g D F;have k:∀q,q<W.heap.size->role q≠4->q≠g->(w5.setCell (aA g 8) (sO gb go (x.D.length+1) cap)).heap[q]?=W.heap[q]?:=λq f t z=>(Below.heap_setCell _ _ _ _ z).trans (u q f t)
 have v:W.heap.size<=(w5.setCell (aA g 8) (sO gb go (x.D.length+1) cap)).heap.size:=by have:=C.size;simpa [World.setCell] using this
 have j:=h.rw.same v (λb=>k br (h.rw.nr b).1.1 (by rw[h.sp.r b];omega) (λe=>by have l:=h.sp.r b;have w:=h.sp.g;rw[e] at l;omega)) (λb=>k bc (h.rw.nc b).1.1 (by rw[h.sp.c b];omega) (λe=>by have l:=h.sp.c b;have w:=h.sp.g;rw[e] at l;omega)) (λq f b=>k (pb q) (h.rw.pl q f b).2.1.1 (by rw[h.sp.p q f b];omega) (λe=>by have l:=h.sp.p q f b;have w:=h.sp.g;rw[e] at l;omega));refine⟨(h.bx.block E).set8 _,(uJ h.nf E C.size).set _ _,h.lo,h.ha,h.hc,⟨j.r,j.s,j.p7,j.p,j.pl,j.nr,j.nc,j.d,j.dp,j.kp⟩,?_,⟨?_,λb=>?_,λb=>?_,λq f=>?_,λq f b=>?_⟩,h.kl,h.pr.of (λq f l=>k q f (by rw[l];omega) (λe=>by have w:=h.sp.g;rw[e] at l;omega)) (λq f l=>by(try dsimp only);rw[if_neg (m q f (by rw[l];omega))];exact l),λn=>(h.cc n).block (if_neg (m bc (h.cc n).nf.1 (by rw[(h.cc n).ro];omega))) (k bc (h.cc n).nf.1 (by rw[(h.cc n).ro];omega) (λe=>by have l:=(h.cc n).ro;have w:=h.sp.g;rw[e] at l;omega)) v⟩
 ·exact G.block (w':=w5.setCell (aA g 8) (sO gb go (x.D.length+1) cap)) (λq f=>Below.heap_setCell _ _ _ _ (λe=>o (by simp [Value.ownBlock] at f;rw[f];exact e.symm)))
 ·rw[if_neg o];exact h.sp.g
 ·rw[if_neg (m br (h.rw.nr b).1.1 (by rw[h.sp.r b];omega))];exact h.sp.r b
 ·rw[if_neg (m bc (h.rw.nc b).1.1 (by rw[h.sp.c b];omega))];exact h.sp.c b
 ·simp [Value.ownBlock] at f;rw[if_pos f.symm]
 ·rw[if_neg (m (pb q) (h.rw.pl q f b).2.1.1 (by rw[h.sp.p q f b];omega))];exact h.sp.p q f b
theorem a9a(x:Hp)(b:Nat)(w:World)(a:w.cell? (aA b 5)=some (iv x.E)):
  Calls prog 250 #[pP b] w λe w'=>e=.returned (.bool (mkB x))/\w'=w:=by
 cases q:(x.E == 1)
 ·have E:=uU (show mkB x=(x.E == 2) by simp [mkB,q]);go_enter func250,ntmps250;go_wp2;go_ret;exact⟨by rw[uH E];rfl,rfl⟩
 ·have E:=uU (show mkB x=true by simp [mkB,q]);go_enter func250,ntmps250;go_wp2;go_ret;exact⟨by rw[uH E];rfl,rfl⟩
def zZ(x:Hp)(k:Nat)(r:Int):Prop:=(r = -1/\∀i,i<k->(x.c i).U≠2)\/∃i:Nat,r=(i:Int)/\i<k/\(x.c i).U=2/\∀j,j<k->(x.c j).U=2->(x.c i).born<=(x.c j).born
theorem zZ.no(h:zZ x k r)(a:(x.c k).U≠2):zZ x (k+1) r:=by grind [zZ,Hp.c]
theorem zZ.first(h:zZ x k (-1))(a:(x.c k).U=2):zZ x (k+1) k:=by grind [zZ,Hp.c]
theorem zZ.less(h:zZ x k i)(b:(x.c k).U=2)(e:(x.c k).born<(x.c i).born):zZ x (k+1) k:=by
 rcases h with⟨h,n⟩ | ⟨i',h,hi,di,mi⟩
 ·omega
 ·obtain rfl:i'=i:=by omega
  exact .inr ⟨k,rfl,by omega,b,λj d a=>by rcases (by omega:j<k\/j=k) with q | q;have:=mi j q a;omega;subst q;omega⟩
theorem zZ.more(h:zZ x k i)(b:(x.c i).born<=(x.c k).born):zZ x (k+1) i:=by
 rcases h with⟨h,n⟩ | ⟨i',h,hi,di,mi⟩
 ·omega
 ·obtain rfl:i'=i:=by omega
  exact .inr ⟨i',rfl,by omega,di,λj d a=>by rcases (by omega:j<k\/j=k) with q | q;exact mi j q a;subst q;exact b⟩
theorem zZ.form(h:zZ x k r):r = -1\/∃i:Nat,r=(i:Int)/\i<k:=by grind [zZ,dW.form]
structure Cpl(w w4 wr:World)(x:Hp)(vr vc vg:Value)(pv vp:Nat->Value)(k:Nat):Prop where
 bx:dK wr w.heap.size x vr vc vg
 s:∀q,q<x.A.length->S7 wr (qJ vc) (q*8) (x.c q)
 p7:∀q,q<x.A.length->wr.cell? ⟨qJ vc,q*8+7,none⟩=some (if q<k then pv q else vp q)
 pr:∀q,q<x.A.length->q<k->wr.ownsRow w4.heap.size 154 6 (pv q) (x.c q).F.length ((x.c q).F.flatMap fP)
 dp:∀q q',q<k->q'<k->q≠q'->∀b,(pv q).ownBlock=some b->(pv q').ownBlock≠some b
 on:uX (λq=>q=qJ vc/\0<x.A.length) w4 wr
 nf:0<x.A.length->Nf1 (qJ vc) wr
theorem Cpl.step{wr:World}{v':Value}{pv vp:Nat->Value}(h:Cpl w w4 wr x vr vc vg pv vp k)(D:k<x.A.length)(B:w.heap.size+2<=qJ vc/\qJ vc<w4.heap.size)(e:Ext wr w5)(o:w5.ownsRow wr.heap.size 154 6 v' (x.c k).F.length ((x.c k).F.flatMap fP)):
  Cpl w w4 (w5.setCell (aA (qJ vc) (k*8+7)) v') x vr vc vg (λq=>if q=k then v' else pv q) vp (k+1):=by
 have z:=h.on.size;have n:∀b,b≠qJ vc->(w5.setCell (aA (qJ vc) (k*8+7)) v').heap[b]?=w5.heap[b]?:=λb a=>Below.heap_setCell _ _ _ _ a
 refine⟨(h.bx.ext e).far _ _ _ (.inl (by omega)),λq d=>?_,λq d=>?_,λq d f=>?_,λq u d y r b a=>?_,?_,λA=>((h.nf A).ext e).set _ _⟩
 ·refine(h.s q d).of λj C=>?_
  rw[uC _ (.inr (by omega))];exact e.cell (p:=(aA (qJ vc) _)) (by show qJ vc<_;omega)
 ·by_cases f:q=k
  ·subst f;rw[if_pos (by omega),if_pos rfl];exact World.cell?_setCell_same _ _ _ (e.keep (h.p7 q d))
  ·rw[uC _ (.inr (by omega)),if_neg f];have:=e.keep (h.p7 q d);rw[this];by_cases l:q<k
   ·rw[if_pos l,if_pos (by omega)]
   ·rw[if_neg l,if_neg (by omega)]
 ·by_cases m:q=k
  ·subst m;simp only [if_pos];exact a6z (uN o (λb a=>n b (by have:=(o.lt b a).1;omega))) z
  ·simp only [if_neg m];have g:=h.pr q d (by omega);exact uN g (λb a=>(n b (by have:=(g.lt b a).1;omega)).trans (e.block b (g.lt b a).2))
 ·by_cases v:q=k <;> by_cases t:u=k
  ·omega
  ·rw[if_pos v] at a;rw[if_neg t];intro i;have:=(o.lt b a).1;have:=((h.pr u (by omega) (by omega)).lt b i).2;omega
  ·rw[if_neg v] at a;rw[if_pos t];intro i;have:=(o.lt b i).1;have:=((h.pr q (by omega) (by omega)).lt b a).2;omega
  ·rw[if_neg v] at a;rw[if_neg t];exact h.dp q u (by omega) (by omega) r b a
 ·exact(h.on.trans (uX.of_ext e)).setCell ⟨rfl,by omega⟩ _
theorem CvAt.ext{w w':World}(e:Ext w w'){b o:Nat}{z:Cl×Value}(h:CvAt w b o z):CvAt w' b o z:=λj c=>by
 have:=h j c;cases a:(fC z)[j]? with
 | none=>match j,c with | 0,_ | 1,_ | 2,_ | 3,_ | 4,_ | 5,_ | 6,_ | 7,_=>simp [fC] at a
 | some y=>rw[a] at this;exact e.keep this
theorem Cpl.V{v4:Value}{L:List (Cl×Value)}(k:L.map (·.1)=x.A)(i:dK w4 w.heap.size x vr v4 vg)(e:w4.ownsRow B 62 8 vc L.length (L.flatMap fC))(n:w.heap.size<B):
  Cpl w (w4.setCell (aA w.heap.size 4) vc) (w4.setCell (aA w.heap.size 4) vc) x vr vc vg (λ_=>.slice none 0 0) (λq=>(L.getD q (Cl0,.slice none 0 0)).2) 0:=by
 have b:L.length=x.A.length:=by rw[<-k,List.length_map]
 have g:∀q,q<x.A.length->∀j,j<8->(w4.setCell (aA w.heap.size 4) vc).cell? (aA (qJ vc) (q*8+j))=(fC (L.getD q (Cl0,.slice none 0 0)))[j]?:=λq a j h=>by
  have d:=b8k e (by omega);rw[uC _ (.inl (by have:=d.2;omega)),b1o (f:=fC) (λ_=>rfl) e q (by omega) j h]
  congr 2
  simp [b,a]
 have d:∀q,q<x.A.length->(L.getD q (Cl0,.slice none 0 0)).1=x.c q:=λq a=>by grind [uX.A,QFr.A,Cl0,Hp.c,Hp.c_eq,dK,fC]
 refine⟨i.set4 vc,λq a=>?_,λq a=>?_,λq _ a=>by omega,λq l a=>by omega,uX.refl _ _,λm=>(b8k e (by omega)).1.set _ _⟩
 ·have:=g q a;rw[<-d q a];exact⟨this 0 (by omega),this 1 (by omega),this 2 (by omega),this 3 (by omega),this 4 (by omega),this 5 (by omega),this 6 (by omega)⟩
 ·rw[if_neg (by omega)];exact g q a 7 (by omega)
def CapP(x:Hp)(pk:Nat->Nat):Prop:=∀q,q<x.A.length->(x.c q).F.length<=pk q
theorem d1x{t:TypeId}{n:Nat}{v:Value}{xs:List Value}(h:w.ownsRow B t c v n xs):n<=a5v v:=by
 rcases h.2 with⟨rfl,rfl⟩ | ⟨g,cap,cur,rfl,_,_,h4,_⟩
 ·exact Nat.le_refl _
 ·exact h4
def HOwn(B:Nat)(w:World)(x:Hp)(vr vc:Value):Prop:=∃br bc pb pa pk ar kr ac kc,vr=.slice ar x.B.length kr/\(0<x.B.length->ar=some ⟨br,0,none⟩)/\vc=.slice ac x.A.length kc/\(0<x.A.length->ac=some ⟨bc,0,none⟩)/\Rws B w x br bc pb pa pk/\CapP x pk
theorem c4z(x:Hp)(M:Option Addr)(K N:Nat)(w:World){ar:Option Addr}{kr:Nat}{ac:Option Addr}{kc:Nat}(hR:SlW w (.slice ar x.B.length kr) x.B)(hC:SlC w (.slice ac x.A.length kc) x.A)(n1:x.B.length<=1048576)(n2:x.A.length<=8000)(n3:∀q,q<x.A.length->(x.c q).F.length<=200):
  Calls prog 139 #[x.v (.slice ar x.B.length kr) (.slice ac x.A.length kc) (.slice M K N)] w λe w'=>∃vr vc,e=.returned (x.v vr vc (.slice M K N))/\Hid (HOwn w.heap.size w' x vr vc)/\Ext w w':=by
 obtain⟨L,hL,ab,an⟩:=c9y hC;have y:L.length=x.A.length:=by rw[<-hL,List.length_map]
 have au:=uU ab;have S:=uU an;have HL:=uU hL;have SR:=uU hR;have xa:=((Ext.refl w).alloc (.cells #[iv x.M,iv x.K,iv x.born,.slice ar x.B.length kr,.slice ac x.A.length kc,iv x.E,iv x.I,iv x.sub,(.slice M K N),iv x.per,iv x.V,iv x.Q,iv x.S] 34)).alloc (.cells #[iv 0,iv 0,iv 0,.slice none 0 0,.slice none 0 0,iv 0,iv 0,iv 0,.slice none 0 0,iv 0,iv 0,iv 0,iv 0] 34);have B2:=(dK.new w x (.slice ar x.B.length kr) (.slice ac x.A.length kc) (.slice M K N) 34).ext ((Ext.refl _).alloc (.cells #[iv 0,iv 0,iv 0,.slice none 0 0,.slice none 0 0,iv 0,iv 0,iv 0,.slice none 0 0,iv 0,iv 0,iv 0,iv 0] 34));go_enter func139,ntmps139;go_wp2_with fail;refine(c3o x.B _ _ (SlW.ext xa SR) n1).mono ?_;rintro e t ⟨vr,rfl,X,Q⟩;obtain⟨l,n,aj⟩:∃a k,vr=.slice a x.B.length k:=⟨_,_,(a1d X).1⟩;subst aj;have ay:w.heap.size+2<=t.heap.size:=by have:=Q.size;simp at this;omega
 have B3:=uU (B2.ext Q);have X3:=xa.trans Q;have OR:=uU X;have c3:=B3.2.2.2.1;have c4:=B3.2.2.2.2.1;have fz:∀o,t.frozen? ⟨w.heap.size,o,none⟩=false:=λo=>((uK Q).2 w.heap.size o (by simp;omega)).trans (by simp [go_sem])
 have f3:=fz 3;have FZ:=uU fz;have rc:=uU (show ∀o v,((w.alloc (.cells #[iv x.M,iv x.K,iv x.born,.slice ar x.B.length kr,.slice ac x.A.length kc,iv x.E,iv x.I,iv x.sub,(.slice M K N),iv x.per,iv x.V,iv x.Q,iv x.S] 34)).alloc (.cells #[iv 0,iv 0,iv 0,.slice none 0 0,.slice none 0 0,iv 0,iv 0,iv 0,.slice none 0 0,iv 0,iv 0,iv 0,iv 0] 34)).cell? ⟨w.heap.size+1,o,none⟩=some v->t.cell? ⟨w.heap.size+1,o,none⟩=some v from λo v h=>Q.keep h);have RF:=uU (show ∀o,t.frozen? ⟨w.heap.size+1,o,none⟩=false from λo=>((uK Q).2 (w.heap.size+1) o (by simp)).trans (by simp [go_sem]));go_wp2_with fail;have V:Ext w (t.setCell ⟨w.heap.size,3,none⟩ (.slice l x.B.length n)):=X3.setCell (Nat.le_refl _) _;refine(c3r L _ _ (by rw[<-y];exact(show tJ (CvAt _) 8 (.slice ac L.length kc) L from by have:=uH au;rw[<-y] at this;exact this.mono λ_ _ _ k=>k.ext V)) (λz hz=>slP_one (S z hz)) (by omega)).mono ?_;rintro e J ⟨vc,rfl,E,O⟩;obtain⟨m,j,ao⟩:∃a k,vc=.slice a x.A.length k:=⟨_,_,by have:=(a1d E).1;rw[y] at this;exact this⟩;subst ao;have D:(t.setCell ⟨w.heap.size,3,none⟩ (.slice l x.B.length n)).heap.size=t.heap.size:=by simp [World.setCell]
 have B4:=uU ((B3.set3 (.slice l x.B.length n)).ext O);have ST:=uU (Cpl.V HL B4 E (by omega));have CB:=uU (a1d E).2;have U:=uU (λh=>b8k E h);have bb:t.heap.size<=J.heap.size:=by have:=O.size;omega
 have d4:=B4.2.2.2.2.1;have g4:J.frozen? ⟨w.heap.size,4,none⟩=false:=((uK O).2 w.heap.size 4 (by omega)).trans (by rw[World.frozen?_setCell];exact FZ 4);have bf:=uU (show ∀o,J.frozen? ⟨w.heap.size,o,none⟩=false from λo=>((uK O).2 w.heap.size o (by omega)).trans (by rw[World.frozen?_setCell];exact FZ o));have X4:=V.trans O;have Q4:=uU O;go_wp2_with fail;obtain⟨W5,H⟩:∃W,W=J.setCell ⟨w.heap.size,4,none⟩ (.slice m x.A.length j):=⟨_,rfl⟩;rw[<-H] at ST ⊢;have s5:W5.heap.size=J.heap.size:=by rw[H];simp [World.setCell]
 have X5:Ext w W5:=by rw[H];exact X4.setCell (Nat.le_refl _) _
 have ah:=uU H;go_loopw [15] (λi wr=>∃(k:Nat) (pv:Nat->Value),k<=x.A.length/\i=.int .i64 k/\Hid (Cpl w W5 wr x (.slice l x.B.length n) (.slice m x.A.length j) (.slice M K N) pv (λq=>(L.getD q (Cl0,.slice none 0 0)).2) k)) (λi _=>x.A.length-(intOf i).toNat)
 case atStart=>exact⟨0,_,Nat.zero_le _,rfl,ST⟩
 case round=>
  obtain⟨k,pv,hk,rfl,f⟩:=hrel;by_cases r:k<x.A.length
  ·obtain⟨bc,am⟩:∃bc,m=some ⟨bc,0,none⟩:=⟨_,(CB (by omega)).1⟩;subst am;have av:t.heap.size<=bc/\bc<J.heap.size:=by have C:=(U (by omega)).2;have h2:=(U (by omega)).1.1;rw[D] at C;exact⟨C,h2⟩
   have XR:Ext w wr:=f.on.ext X5 (λq p e=>by have e1:q=bc:=e.1;omega)
   have hm:L.getD k (Cl0,.slice none 0 0)∈L:=by
    have:L.getD k (Cl0,.slice none 0 0)=L[k]'(by omega):=by simp [y,r]
    rw[this];exact List.getElem_mem _
   have C:(L.getD k (Cl0,.slice none 0 0)).1=x.c k:=by
    have e:x.A[k]=(L.map (·.1))[k]'(by simpa [y] using r):=by simp [uH HL]
    rw[<-Hp.c_eq x k r,e];simp [y,r]
   have G:=uH S _ hm;rw[C] at G;obtain⟨aa,af,T⟩:∃a c,(L.getD k (Cl0,.slice none 0 0)).2=.slice a (x.c k).F.length c:=let ⟨a,c,e,_⟩:=G;⟨a,c,e⟩;rw[T] at G;have SP:=uU G
   have p7:wr.cell? ⟨bc,k*8+7,none⟩=some (.slice aa (x.c k).F.length af):=by
    have:=f.p7 k r;rw[if_neg (by omega),T] at this;exact this
   have c4:wr.cell? ⟨w.heap.size,4,none⟩=some (.slice (some ⟨bc,0,none⟩) x.A.length j):=f.bx.2.2.2.2.1;have f7:wr.frozen? ⟨bc,k*8+7,none⟩=false:=(f.nf (by omega)).2 _;have be:=n3 k r;have ad:bc<wr.heap.size:=uL p7;have bl:(0:Int)<=(k:Int):=by omega
   have ba:(k:Int)<(x.A.length:Int):=by omega
   have A:¬w.heap.size=bc:=by omega
   have aw:¬bc=w.heap.size:=by omega
   go_wp2_with fail;go_region_with (go_at_call 212;refine(c3p (x.c k).F _ _ (SlP.ext XR.drew SP) (by omega)).mono ?_;rintro e w6 ⟨v',rfl,Y,P⟩;obtain⟨a',k',ai⟩:∃a c,v'=.slice a (x.c k).F.length c:=⟨_,_,(a1d Y).1⟩;subst ai;have P:=Ext.trans ((Ext.refl wr).drew) P;have d4:=P.keep c4;have d7:=P.keep p7;have g7:=((uK P).2 bc (k*8+7) ad).trans f7;have R:=uU (f.step r ⟨by show w.heap.size+2<=bc;omega,by show bc<_;omega⟩ P Y))
   all_goals
    go_wp2;go_roundw
    case rel=>exact⟨k+1,_,by omega,by go_num,R⟩
    case measure=>simp [intOf];omega
  ·have ap:k=x.A.length:=by omega
   subst ap
   have XR:Ext w wr:=f.on.ext X5 (λq p e=>by
    have e1:q=qJ (.slice m x.A.length j):=e.1;have C:=(U (by have:=e.2;omega)).2;rw[D] at C;omega)
   have u:0<x.A.length->t.heap.size<=qJ (.slice m x.A.length j)/\qJ (.slice m x.A.length j)<J.heap.size:=λh=>by
    have C:=(U (by omega)).2;rw[D] at C;exact⟨C,(U (by omega)).1.1⟩
   have WB:∀b,b<t.heap.size->b≠w.heap.size->wr.heap[b]?=t.heap[b]?:=λb B A=>by
    have e1:J.heap[b]?=t.heap[b]?:=(Q4.block b (by rw[D];exact B)).trans (Below.heap_setCell _ _ _ _ A);have e2:W5.heap[b]?=J.heap[b]?:=by rw[uH ah];exact Below.heap_setCell _ _ _ _ A
    exact(f.on.block b (by omega) (λe=>by have e1:b=qJ (.slice m x.A.length j):=e.1;have:=(u e.2).1;omega)).trans (e2.trans e1)
   have Z:=uU (show Rws (w.heap.size+2) wr x _ _ _ _ _ from by
    have I:∀b,(Value.slice l x.B.length n).ownBlock=some b->w.heap.size+2<=b/\b<t.heap.size:=λb B=>by have:=OR.lt b B;simp at this;omega
    have bi:qJ (.slice l x.B.length n)<t.heap.size:=by
     unfold qJ;cases e:(Value.slice l x.B.length n).ownBlock with
     | none=>simp;omega
     | some b=>simp;exact(I b e).2
    refine Rws.of (vr:=.slice l x.B.length n) (bc:=qJ (.slice m x.A.length j)) (pv:=pv) (uN (a6z OR (by simp)) (λb B=>WB b (I b B).2 (by have:=(I b B).1;omega))) f.s (λq p=>by have:=f.p7 q p;rw[if_pos p] at this;exact this) (λh=>⟨f.nf h,by have:=(u h).1;omega⟩) (λh=>by have:=(u h).1;omega) (λq p=>⟨a6z (f.pr q p p) (by omega),λb B=>?_⟩) (λq q' p ae A b B=>f.dp q q' p ae A b B);have C:=((f.pr q p p).lt b B).1;have h2:=u (by omega);omega)
   have RG:=uU (a1d OR).2;have CP:=uU (show CapP x (λq=>a5v (pv q)) from λq p=>d1x (f.pr q p p))
   have d:∀o v,((w.alloc (.cells #[iv x.M,iv x.K,iv x.born,.slice ar x.B.length kr,.slice ac x.A.length kc,iv x.E,iv x.I,iv x.sub,(.slice M K N),iv x.per,iv x.V,iv x.Q,iv x.S] 34)).alloc (.cells #[iv 0,iv 0,iv 0,.slice none 0 0,.slice none 0 0,iv 0,iv 0,iv 0,.slice none 0 0,iv 0,iv 0,iv 0,iv 0] 34)).cell? ⟨w.heap.size+1,o,none⟩=some v->wr.cell? ⟨w.heap.size+1,o,none⟩=some v:=λo v h=>
    (World.cell?_of_block (a:=⟨w.heap.size+1,o,none⟩) (WB (w.heap.size+1) (by omega) (by omega))).trans (rc o v h)
   have g:∀o,wr.frozen? ⟨w.heap.size+1,o,none⟩=false:=λo=>(World.frozen?_of_block (a:=⟨w.heap.size+1,o,none⟩) (WB (w.heap.size+1) (by omega) (by omega))).trans (RF o)
   have r0:=d 0 (iv 0) (by simp [go_sem]);have r1:=d 1 (iv 0) (by simp [go_sem]);have r2:=d 2 (iv 0) (by simp [go_sem]);have r3:=d 3 (.slice none 0 0) (by simp [go_sem]);have r4:=d 4 (.slice none 0 0) (by simp [go_sem]);have r5:=d 5 (iv 0) (by simp [go_sem]);have r6:=d 6 (iv 0) (by simp [go_sem]);have r7:=d 7 (iv 0) (by simp [go_sem]);have r8:=d 8 (.slice none 0 0) (by simp [go_sem]);have r9:=d 9 (iv 0) (by simp [go_sem]);have al:=d 10 (iv 0) (by simp [go_sem]);have ak:=d 11 (iv 0) (by simp [go_sem]);have aq:=d 12 (iv 0) (by simp [go_sem]);have f0:=g 0;have f1:=g 1;have f2:=g 2;have f3:=g 3;have f4:=g 4;have f5:=g 5;have f6:=g 6;have f7:=g 7;have f8:=g 8;have f9:=g 9;have ax:=g 10;have bj:=g 11;have bd:=g 12;obtain⟨b0,b1,b2,b3,b4,b5,b6,b7,b8,b9,bk,bh,bg⟩:=f.bx;have I:w.heap.size<wr.heap.size:=uL b0;have az:w.heap.size+1<wr.heap.size:=uL r0;go_wp2;refine bodyPost_ret (v:=x.v (.slice l x.B.length n) (.slice m x.A.length j) (.slice M K N)) (by simp [results,results139,go_sem,r0,r1,r2,r3,r4,r5,r6,r7,r8,r9,al,ak,aq]) rfl ⟨_,_,rfl,?_⟩;refine(λ(F:uX (λq=>q=w.heap.size+1) wr _)=>⟨⟨_,_,_,_,_,_,_,_,_,rfl,λh=>(RG h).1,rfl,λh=>(CB (by omega)).1,(Z.only F (λh e=>by have:=(Z.nr h).2;omega) (λh e=>by have:=(Z.nc h).2;omega) (λq p hl e=>by have:=(Z.pl q p hl).2.2.2;omega)).less (by omega),CP⟩,F.ext XR (λq p e=>by omega)⟩) ?_
   repeat (first | refine uX.setCell ?_ (by simp) _ | exact uX.refl _ _)
structure Rwn(B:Nat)(w:World)(x:Hp)(br:Nat)(cB cO:Nat->Nat)(pb:Nat->Nat)(pa:Nat->Option Addr)(pk:Nat->Nat):Prop where
 r:∀i (hi:i<x.B.length),yU w br (i*3) x.B[i]
 s:∀q,q<x.A.length->S7 w (cB q) (cO q) (x.c q)
 p7:∀q,q<x.A.length->w.cell? ⟨cB q,cO q+7,none⟩=some (.slice (pa q) (x.c q).F.length (pk q))
 p:∀q,q<x.A.length->∀k,k<(x.c q).F.length->qN w (pb q) (k*6) ((x.c q).p k)
 pl:∀q,q<x.A.length->0<pk q->pa q=some ⟨pb q,0,none⟩/\Nfp (pb q) (pk q) w/\(pb q≠br/\∀j,j<x.A.length->pb q≠cB j)/\B<=pb q
 nr:0<x.B.length->Nf1 br w/\B<=br
 nc:∀q,q<x.A.length->Nf1 (cB q) w/\B<=cB q
 d:∀q,q<x.A.length->br≠cB q
 dp:∀q q',q<x.A.length->q'<x.A.length->q≠q'->0<pk q->0<pk q'->pb q≠pb q'
 dc:∀q q',q<x.A.length->q'<x.A.length->q≠q'->cB q≠cB q'\/cO q+8<=cO q'\/cO q'+8<=cO q
 kp:CapP x pk
theorem Rwn.pw(h:Rwn B w x br cB cO pb pa pk)(b:q<x.A.length)(a:0<(x.c q).F.length):0<pk q:=Nat.lt_of_lt_of_le a (h.kp q b)
theorem Rwn.same(h:Rwn B w x br cB cO pb pa pk)(l:w.heap.size<=w'.heap.size)
  (n:0<x.B.length->w'.heap[br]?=w.heap[br]?) (g:∀q,q<x.A.length->w'.heap[cB q]?=w.heap[cB q]?) (m:∀q,q<x.A.length->0<pk q->w'.heap[pb q]?=w.heap[pb q]?):Rwn B w' x br cB cO pb pa pk where
 r:=λi o=>(h.r i o).of λj _=>World.cell?_of_block (a:=(aA br _)) (n (by omega))
 s:=λq e=>(h.s q e).of λj _=>World.cell?_of_block (a:=(aA (cB q) _)) (g q e)
 p7:=λq e=>(World.cell?_of_block (a:=(aA (cB q) _)) (g q e)).trans (h.p7 q e)
 p:=λq e k t=>(h.p q e k t).of λj _=>World.cell?_of_block (a:=(aA (pb q) _)) (m q e (h.pw e (by omega)))
 pl:=λq e f=>let ⟨a,b,c⟩:=h.pl q e f;⟨a,a0g b (m q e f) l,c⟩
 nr:=λf=>⟨uJ (h.nr f).1 (n f) l,(h.nr f).2⟩
 nc:=λq e=>⟨uJ (h.nc q e).1 (g q e) l,(h.nc q e).2⟩
 d:=h.d
 dp:=h.dp
 dc:=h.dc
 kp:=h.kp
theorem Rwn.ext(h:Rwn B w x br cB cO pb pa pk)(e:Ext w w'):Rwn B w' x br cB cO pb pa pk:=
 h.same e.size (λa=>e.block _ (h.nr a).1.1) (λq b=>e.block _ (h.nc q b).1.1) (λq b a=>e.block _ (h.pl q b a).2.1.1)
theorem Rwn.only{S:Nat->Prop}(h:Rwn B w x br cB cO pb pa pk)(e:uX S w w')(f:0<x.B.length->¬S br)(c:∀q,q<x.A.length->¬S (cB q))(d:∀q,q<x.A.length->0<pk q->¬S (pb q)):Rwn B w' x br cB cO pb pa pk:=
 h.same e.size (λa=>e.block _ (h.nr a).1.1 (f a)) (λq b=>e.block _ (h.nc q b).1.1 (c q b)) (λq b a=>e.block _ (h.pl q b a).2.1.1 (d q b a))
theorem Rwn.slW(h:Rwn B w x br cB cO pb pa pk){ad:Option Addr}(b:Nat)(c:0<x.B.length->ad=some (aA br 0))(d:x.B.length<=1048576):SlW w (.slice ad x.B.length b) x.B:=
 ⟨_,_,rfl,by omega,λi a=>⟨br,0,c (by omega),by rw[Nat.zero_add];exact h.r i a⟩⟩
theorem Rwn.far8(h:Rwn B w x br cB cO pb pa pk)(g:i<x.A.length)(c:q<x.A.length)(e:q≠i)(j:w.heap.size<=w1.heap.size)(o:uX (λd=>d=cB i) w1 w2)(f:∀k,(k<cO i\/cO i+8<=k)->w2.cell? (aA (cB i) k)=w1.cell? (aA (cB i) k))(k:Nat)(l:k<8):w2.cell? (aA (cB q) (cO q+k))=w1.cell? (aA (cB q) (cO q+k)):=by
 by_cases b:cB q=cB i
 ·rw[b];rcases h.dc q i c g e with d | d | d
  ·exact(d b).elim
  ·exact f _ (by omega)
  ·exact f _ (by omega)
 ·exact World.cell?_of_block (a:=(aA (cB q) _)) (o.block (cB q) (Nat.lt_of_lt_of_le (h.nc q c).1.1 j) b)
theorem a7w(h:Nf1 (cB q) w1)(n:Nf1 (cB i) w2)(o:uX (λd=>d=cB i) w1 w2):Nf1 (cB q) w2:=by
 by_cases a:cB q=cB i
 ·rw[a];exact n
 ·exact uJ h (o.block (cB q) h.1 a) o.size
theorem Rws.rwn(h:Rws B w x br bc pb pa pk):Rwn B w x br (λ_=>bc) (λq=>q*8) pb pa pk where
 r:=h.r
 s:=h.s
 p7:=h.p7
 p:=h.p
 pl:=λq f g=>let ⟨a,b,c,d⟩:=h.pl q f g;⟨a,b,⟨c.1,λ_ _=>c.2⟩,d⟩
 nr:=h.nr
 nc:=λq f=>h.nc (by omega)
 d:=λq f=>h.d (by omega)
 dp:=h.dp
 dc:=λq i _ _ e=>.inr (by omega)
 kp:=h.kp
def Cu(v w:World)(c m:Nat):Prop:=Ext v w/\v.heap.size<=c/\Nf1 c w/\∃(ad:Option Addr) (n k:Nat) (a s:Int),w.cell? ⟨c,0,none⟩=some (.slice ad n k)/\w.cell? ⟨c,1,none⟩=some (iv a)/\w.cell? ⟨c,2,none⟩=some (.int .u64 s)/\0<=a/\a<=m/\n<=1048576/\∀i,i<n->∃b o z,ad=some ⟨b,o,none⟩/\v.cell? ⟨b,o+i,none⟩=some (.int .u8 z)/\0<=z/\z<256
theorem Cu.drew(h:Cu v w c m):Cu v w.drew c m:=by
 obtain⟨e,l,d,ad,n,k,a,s,g,b,f,r⟩:=h;exact⟨e.drew,l,d,ad,n,k,a,s,g,b,f,r⟩
theorem Cu.put1(h:Cu v w c m){i:Int}(o:0<=i)(j:i<=k):Cu v (w.setCell (aA c 1) (iv i)) c k:=by
 obtain⟨e,l,b,ad,n,k,a,s,g,d,f,_,_,r⟩:=h;exact⟨e.setCell l _,l,b.set _ _,ad,n,k,i,s,by rw[uC _ (.inr (by omega))];exact g,qC.same ⟨⟨_,d⟩,b.2 1⟩ _,by rw[uC _ (.inr (by omega))];exact f,o,j,r⟩
theorem Cu.put2(h:Cu v w c m)(u:Int):Cu v (w.setCell (aA c 2) (.int .u64 u)) c m:=by
 obtain⟨e,l,b,ad,n,k,a,s,g,d,f,r⟩:=h;exact⟨e.setCell l _,l,b.set _ _,ad,n,k,a,u,by rw[uC _ (.inr (by omega))];exact g,by rw[uC _ (.inr (by omega))];exact d,qC.same ⟨⟨_,f⟩,b.2 2⟩ _,r⟩
def c4g(v w:World)(c m:Nat)(n:Int)(e:Ending)(w':World):Prop:=∃r:Int,Hid (e=.returned (iv r))/\0<=r/\r<n/\Hid (Cu v w' c m)/\Hid (uX (λq=>q=c) w w')
theorem and255(x:Int)(n:Nat):0<=wrap64 (bits .and .u64 (IntKind.u64.wrap x / n) 255)/\wrap64 (bits .and .u64 (IntKind.u64.wrap x / n) 255)<256:=by
 have c:0<=IntKind.u64.wrap x/\IntKind.u64.wrap x<18446744073709551616:=by rw[IntKind.wrap_u64];omega
 obtain⟨k,a⟩:∃k:Nat,IntKind.u64.wrap x=k:=⟨(IntKind.u64.wrap x).toNat,by omega⟩;rw[a] at c ⊢;have e:((k:Int) / (n:Int))=((k / n:Nat):Int):=by simp
 have f:k / n<=k:=Nat.div_le_self _ _;have b:=bits_and_u64_nat (k / n) 255 (by omega) (by omega);rw[e,show(255:Int)=((255:Nat):Int) from rfl,b];have d:k / n &&& 255<=255:=Nat.and_le_right;unfold wrap64;omega
theorem b7q(v w:World)(c m:Nat)(h:Cu v w c m)(I:m<=1000000000):
  Calls prog 98 #[pP c] w λe w'=>c4g v w c (m+1) 256 e w':=by
 have H:=uU h;obtain⟨e,l,d,ad,n,k,a,s,G,y,A,x,u,F,t⟩:=h;have D:=d.2 1;have E:=d.2 2;by_cases C:a<n
 ·obtain⟨b,o,z,rfl,f,q,g⟩:=t a.toNat (by omega);have j:=e.keep f;have p:b<v.heap.size:=uL f
  obtain⟨i,rfl⟩:∃i:Nat,a=i:=⟨a.toNat,by omega⟩;simp only [Int.toNat_natCast] at j;go_enter func98,ntmps98;go_wp2_with fail
  go_region
  go_wp2_with fail
  go_region
  go_wp2;go_ret;exact⟨z,rfl,q,g,((H.put1 (by omega) (by omega)).put2 _).drew.drew,(((uX.refl _ w).setCell (by rfl) _).setCell (by rfl) _).drew.drew⟩
 ·have r:(a<(n:Int))=False:=by simp;omega
  go_enter func98,ntmps98;go_wp2_with fail
  go_region
  go_wp2_with fail;have B:=and255 (IntKind.u64.wrap (s*6364136223846793005)+1442695040888963407) 1099511627776;go_ret;exact⟨_,rfl,B.1,B.2,((H.put2 _).put1 (by omega) (by omega)).drew,(((uX.refl _ w).setCell (by rfl) _).setCell (by rfl) _).drew⟩
theorem Cu.more(h:Cu v w c m)(a:m<=k):Cu v w c k:=by grind [Cu]
theorem d0v(v w:World)(c m:Nat)(n:Int)(h:Cu v w c m)(y:m<=999999999)(z:n<=1000000)(A:-1000000<=n):
  Calls prog 54 #[pP c,iv n] w λe w'=>c4g v w c (m+2) (if n<=1 then 1 else n) e w':=by
 have H:=uU h;have Q:=uU (b7q v w c m h (by omega));by_cases g:n<=1
 ·rw[if_pos g]
  go_enter func54,ntmps54;go_wp2;go_ret;exact⟨0,rfl,by omega,by omega,H.more (by omega),uX.refl _ _⟩
 ·rw[if_neg g];by_cases s:n > 200
  ·go_enter func54,ntmps54;go_wp2_with fail;refine Q.mono ?_;rintro e i ⟨r,b,j,o,f,d⟩;have a:=uH b;subst a;have p:=uU (b7q v i c (m+1) f (by omega));go_wp2_with fail;refine p.mono ?_;rintro e q ⟨t,b,x,u,l,k⟩;have a:=uH b;subst a;go_wp2;go_ret;exact⟨_,rfl,Int.emod_nonneg _ (by omega),Int.emod_lt_of_pos _ (by omega),l,d.trans k⟩
  ·go_enter func54,ntmps54;go_wp2_with fail;refine Q.mono ?_;rintro e i ⟨r,b,j,o,f,d⟩;have a:=uH b;subst a;go_wp2;go_ret;exact⟨_,rfl,Int.emod_nonneg _ (by omega),Int.emod_lt_of_pos _ (by omega),f.more (by omega),d⟩
theorem b9d(v w:World)(c m:Nat)(n:Int)(h:Cu v w c m)(a:m<=999999999)(b:n<=1000000)(d:1<=n):
  Calls prog 54 #[pP c,iv n] w λe w'=>c4g v w c (m+2) n e w':=by
 have:=d0v v w c m n h a b (by omega);have e:(if n<=1 then 1 else n)=n:=by split <;> omega
 rw[e] at this;exact this
def c7n(v w:World)(c m:Nat)(e:Ending)(w':World):Prop:=∃r:Int,Hid (e=.returned (iv r))/\Hid (-9223372036854775808<=r/\r<=9223372036854775807)/\Hid (Cu v w' c m)/\Hid (uX (λq=>q=c) w w')
theorem c7o(v w:World)(c m:Nat)(h:Cu v w c m)(s:m<=99999999):
  Calls prog 196 #[pP c] w λe w'=>c7n v w c (m+4) e w':=by
 have Q:=uU (b9d v w c m 6 h (by omega) (by omega) (by omega));go_enter func196,ntmps196;go_wp2_with fail;refine Q.mono ?_;rintro e i ⟨r,a,o,p,g,d⟩;have b:=uH a;subst b;have K:=uU (λ(n:Int) (h1:1<=n) (h2:n<=1000000)=>b9d v i c (m+2) n g (by omega) h2 h1);go_wp2_with fail
 all_goals
  refine(K _ (by omega) (by omega)).mono ?_;rintro e l ⟨t,a,q,k,j,f⟩;have b:=uH a;subst b;go_wp2;go_ret;exact⟨_,rfl,⟨by omega,by omega⟩,j,d.trans f⟩
def ByAt(w:World)(v:Value):Prop:=∃(ad:Option Addr) (n k:Nat),v=.slice ad n k/\n<=1048576/\∀i,i<n->∃b o z,ad=some ⟨b,o,none⟩/\w.cell? ⟨b,o+i,none⟩=some (.int .u8 z)/\0<=z/\z<256
theorem c0q(xs:List Wd)(v g:Value)(w:World)(h:SlW w v xs)(I:SlW w g xs):
  Calls prog 63 #[v,g] w λe w'=>e=.returned (.bool true)/\Ext w w':=by
 obtain⟨ad,l,rfl,L,G⟩:=h;obtain⟨E,f,rfl,_,d⟩:=I;have x:=uU G;have C:=uU d;go_enter func63,ntmps63;go_wp2_with fail;go_loopw [5,13] (λ_i i wr=>∃k:Nat,k<=xs.length/\i=iv k/\Ext w wr) (λ_ i _=>xs.length-(intOf i).toNat)
 case atStart=>exact⟨0,Nat.zero_le _,rfl,Ext.refl _⟩
 case round=>
  obtain⟨k,J,rfl,a⟩:=hrel;by_cases c:k<xs.length
  ·obtain⟨b,o,rfl,B,p,q⟩:=uH x k c;obtain⟨M,K,rfl,s,D,t⟩:=uH C k c;have u:=a.keep B;have n:=a.keep s;have r:=a.keep p;have F:=a.keep D;have A:=a.keep q;have H:=a.keep t;have z:(0:Int)<=(k:Int):=by omega
   have m:(k:Int)<(xs.length:Int):=by omega
   obtain⟨y,j⟩:∃y,y=xs[k]:=⟨_,rfl⟩;rw[<-j] at u n r F A H;go_wp2_with fail
   go_region
   go_wp2;go_roundw
   ·exact⟨k+1,by omega,by go_num,a.drew⟩
   ·simp [intOf];omega
  ·go_wp2;go_ret;exact⟨rfl,a⟩
theorem c0r(xs:List Pr)(v g:Value)(w:World)(h:SlP w v xs)(U:SlP w g xs):
  Calls prog 64 #[v,g] w λe w'=>e=.returned (.bool true)/\Ext w w':=by
 obtain⟨ad,l,rfl,X,S⟩:=h;obtain⟨z,f,rfl,_,d⟩:=U;have J:=uU S;have P:=uU d;go_enter func64,ntmps64;go_wp2_with fail;go_loopw [5,13] (λ_i i wr=>∃k:Nat,k<=xs.length/\i=iv k/\Ext w wr) (λ_ i _=>xs.length-(intOf i).toNat)
 case atStart=>exact⟨0,Nat.zero_le _,rfl,Ext.refl _⟩
 case round=>
  obtain⟨k,V,rfl,a⟩:=hrel;by_cases c:k<xs.length
  ·obtain⟨b,o,rfl,O,q,r,E,H,s⟩:=uH J k c;obtain⟨Y,W,rfl,u,Q,A,n,K,B⟩:=uH P k c;have I:=a.keep O;have p:=a.keep u;have t:=a.keep q;have R:=a.keep Q;have M:=a.keep r;have T:=a.keep A;have F:=a.keep E;have D:=a.keep n;have x:=a.keep H;have G:=a.keep K;have C:=a.keep s;have N:=a.keep B;have L:(0:Int)<=(k:Int):=by omega
   have m:(k:Int)<(xs.length:Int):=by omega
   obtain⟨y,j⟩:∃y,y=xs[k]:=⟨_,rfl⟩;rw[<-j] at I p t R M T F D x G C N;go_wp2_with fail
   go_region
   go_wp2;go_roundw
   ·exact⟨k+1,by omega,by go_num,a.drew⟩
   ·simp [intOf];omega
  ·go_wp2;go_ret;exact⟨rfl,a⟩
theorem b1p(w:World)(u:Value)(i:Nat)(v:i<1000)(h:ByAt w u):
  Calls prog 29 #[u,iv i] w λe w'=>∃r:Int,Hid (e=.returned (iv r))/\0<=r/\r<256/\w'=w:=by
 obtain⟨ad,n,k,rfl,t,d⟩:=h;by_cases m:n=0
 ·subst m;go_enter func29,ntmps29;go_wp2_with fail;go_ret;exact⟨_,rfl,by omega,by omega,rfl⟩
 ·obtain⟨b,o,z,rfl,l,g,f⟩:=d (i % n) (Nat.mod_lt _ (by omega));have s:((n:Int) == 0)=false:=by simp;omega
  have c:((i:Int) % (n:Int))=((i % n:Nat):Int):=by simp
  obtain⟨j,a⟩:∃j,j=i % n:=⟨_,rfl⟩;have p:j<n:=by rw[a];exact Nat.mod_lt _ (by omega)
  rw[<-a] at l c;have q:(0:Int)<=(j:Int):=by omega
  have j1:(j:Int)<(n:Int):=by omega
  clear d a;go_enter func29,ntmps29;go_wp2_with fail;rw[c];go_wp2_with fail;go_ret;exact⟨_,rfl,g,f,rfl⟩
end Go.Proofs.YtddkhnclmeikfaaGreat
