import Derived.Test.YtddkhnclmeikfaaGreatSpecI
import Derived.Test.YtddkhnclmeikfaaGreatGg1
import Derived.Test.YtddkhnclmeikfaaGreatWk2
set_option maxRecDepth 100000
set_option maxHeartbeats 4000000
namespace Go.Proofs.YtddkhnclmeikfaaGreat
open Go.RowKit Tryz
attribute [local go_sem ↓] Go.wp_at_zero Go.wp_at_succ
variable{x:Hp}{w wr w':World}{k kr B kn b br bn hd kc kg:Nat}{v1 v2 vf v4 v8 vk:Value}{L1 L2 F:List Int}{ar ac ag:Option Addr}{cB cO pb pk role:Nat->Nat}{pa:Nat->Option Addr}{K:List Nat}
theorem GOk.set11[Inhabited uQ]{g:Nat}(h:GOk B w g x)(v:Int):GOk B (w.setCell (aA g 11) (iv v)) g { x with Q:=v }:=by
 obtain⟨b,i,m,l,e,f,j,k,c,d,a,h⟩:=h;exact⟨_,_,_,_,_,_,_,_,_,_,_,h.boxed (x':={ x with Q:=v }) (uX.setCell (S:=λq=>q=g) (uX.refl _ w) (p:=(aA g 11)) rfl _) (h.nf.set _ _) rfl rfl rfl (h.bx.set11 v)⟩
theorem c1t[Inhabited uQ](B g:Nat)(x:Hp)(w:World)(h:GOk B w g x)(s:Snd x)(a:World)(y:a.heap.size<=B)(v:Ext a w)(k:x.I=0):
  Calls prog 192 #[pP g] w λe w'=>e=.returned (.tuple #[])/\GOk B w' g (hE x)/\Ext a w':=by
 have n:=uU h;obtain⟨u,_,_,_,L,q⟩:=h.box;rw[k] at u;have E:=uU (show hE x={ cZ x 0 0 with Q:=if x.Q<1000000000 then x.Q+1 else x.Q } by unfold hE;rw[if_pos k];rfl);have M:=s.r1.Q;go_enter func192,ntmps192;go_wp2_with fail;refine(a1h B g x 0 0 _ n a y v).mono ?_;rintro e l ⟨rfl,c,f⟩;have j:=uU c
 have r:l.cell? (aA g 11)=some (iv x.Q):=by
  obtain⟨z,H,K,G,C,J,D,F,A,I,i,h⟩:=c;exact h.bx.2.2.2.2.2.2.2.2.2.2.2.1
 have m:=(c.box).2.2.2.1 11;by_cases b:x.Q<1000000000
 ·have d:=uU (show hE x={ cZ x 0 0 with Q:=x.Q+1 } by rw[uH E,if_pos b]);have t:=uU (j.set11 (x.Q+1));have o:=uU (f.setCell (p:=(aA g 11)) (show a.heap.size<=g by omega) (iv (x.Q+1)));have wr:wrap64 (x.Q+1)=x.Q+1:=by unfold wrap64;omega
  go_wp2_with fail
  try simp only [Exit.inBlock,Exit.then]
  refine bodyPost_ret (results_none rfl _ _ _) rfl ?_;exact⟨rfl,by rw[uH d];exact uH t,o⟩
 ·have d:=uU (show hE x={ cZ x 0 0 with Q:=x.Q } by rw[uH E,if_neg b]);go_wp2_with fail
  try simp only [Exit.inBlock,Exit.then]
  refine bodyPost_ret (results_none rfl _ _ _) rfl ?_;exact⟨rfl,by rw[uH d];exact uH j,f⟩
theorem b9g[Inhabited uQ](B g:Nat)(x:Hp)(w:World)(h:GOk B w g x)(s:Snd x)(a:World)(ha:a.heap.size<=B)(hx:Ext a w)(i:Nat)(hi:x.I=(i:Int)+1):
  Calls prog 192 #[pP g] w λe w'=>e=.returned (.tuple #[])/\GOk B w' g (hE x)/\Ext a w':=by
 obtain⟨Q,X,ac,C,T,br,l,V,R,Y,r,h⟩:=h;have H:=uU h;have t:=h.bx.2.2.2.2.1;have y:=h.bx.2.2.2.2.2.2.1;have aa:g<w.heap.size:=uL t;have lo:=h.lo;have n8:=s.ok.n8;have j:i<x.A.length:=by have:=s.r1.I;omega
 have z:0<x.A.length:=by omega
 rw[h.hc z] at t;rw[hi] at y;have v:=(h.rw.s i j).1;have o:l<w.heap.size:=uL v;have f6:=h.nf.2 6
 have L:=uU (show hE x=qE (cJ x i) i by
  have e:(x.I-1).toNat=i:=by omega
  unfold hE;rw[if_neg (by omega),e])
 have O:=uU (show ¬g=l from λe=>by have h1:=h.sp.g;have h2:=h.sp.c z;rw[e] at h1;omega);have ab:¬g=l:=uH O;have ae:¬l=g:=λe=>uH O e.symm
 have ad:(((i:Int)+1) == 0)=false:=by simp;omega
 have i0:(0:Int)<=(i:Int):=by omega
 have i1:(i:Int)<(x.A.length:Int):=by omega
 have d:=uU (show GAt B (w.setCell (aA g 6) (iv i)) g { x with I:=(i:Int) } Q X ac C T br l V R Y r from h.boxed (x':={ x with I:=(i:Int) }) (uX.setCell (S:=λq=>q=g) (uX.refl _ w) (p:=(aA g 6)) rfl _) (h.nf.set _ _) rfl rfl rfl (h.bx.set6 _));have U:=uU (hx.setCell (p:=(aA g 6)) (show a.heap.size<=g by omega) (iv i));clear h s hi;go_enter func192,ntmps192;go_wp2_with fail;obtain⟨D,N⟩:∃W,W=w.setCell (aA g 6) (iv i):=⟨_,rfl⟩;rw[<-N] at d U ⊢;clear N t y v f6 o;have t:=d.bx.2.2.2.2.1;rw[H.hc z] at t;have y:D.cell? (aA g 6)=some (iv i):=d.bx.2.2.2.2.2.2.1;have v:D.cell? (aA l (i*8))=some (iv (x.c i).st):=(d.rw.s i j).1;have F:g<D.heap.size:=uL y;have o:l<D.heap.size:=uL v;have P:=d.nf.2 4;cases q2:((x.c i).st == 2)
 ·have I:=uU (show({ x with I:=(i:Int) }:Hp)=cJ x i by unfold cJ;rw[if_neg (by intro e;simp [e] at q2)]);go_quiet (fail);obtain⟨b,f⟩:∃W,W=D.drewN nq:=⟨_,rfl⟩;have m:=uU (show GAt B b g (cJ x i) Q X ac C T br l V R Y r by rw[f,<-uH I];exact d.ext ((Ext.refl D).drewN _));have J:=uU (show Ext a b by rw[f];exact U.drewN _);have u:=uU (show(cJ x i).A.length=x.A.length by rw[<-uH I]);have SZ:=uU (show((cJ x i).c i).st=(x.c i).st by rw[<-uH I];rfl);go_wp2_with fail;rw[<-f];clear f t y v F o P;have t:=m.bx.2.2.2.2.1;rw[H.hc z,uH u] at t;have y:b.cell? (aA g 6)=some (iv i):=m.bx.2.2.2.2.2.2.1;have v:b.cell? (aA l (i*8))=some (iv (x.c i).st):=by have:=(m.rw.s i (by rw[uH u];exact j)).1;rw[uH SZ] at this;exact this
  have P:=m.nf.2 4;have F:g<b.heap.size:=uL y;have o:l<b.heap.size:=uL v;cases G:((i:Int) == (x.A.length:Int)-1)
  ·have E:=uU (show hE x=cJ x i by rw[uH L];unfold qE;rw[if_neg];intro e;have:=e.1;rw[uH u] at this;simp at G;omega);go_quiet (fail);go_wp2_with fail
   go_end0
   exact⟨rfl,by rw[uH E];exact⟨_,_,_,_,_,_,_,_,_,_,_,m.ext ((Ext.refl b).drewN _)⟩,J.drewN _⟩
  ·cases q0:((x.c i).st == 0)
   ·have E:=uU (show hE x=cJ x i by rw[uH L];unfold qE;rw[if_neg];intro e;have:=e.2;rw[uH SZ] at this;simp [this] at q0);go_quiet (fail);go_wp2_with fail
    go_end0
    exact⟨rfl,by rw[uH E];exact⟨_,_,_,_,_,_,_,_,_,_,_,m.ext ((Ext.refl b).drewN _)⟩,J.drewN _⟩
   ·have Z:=uU (show((cJ x i).c i).st=0 by rw[uH SZ];simpa using q0);have E:=uU (show hE x={ cJ x i with A:=(cJ x i).A.take i } by rw[uH L];unfold qE;rw[if_pos ⟨by rw[uH u];simp at G;omega,Z⟩])
    have M:=uU (show ∀n,GOk B ((b.drewN n).setCell (aA g 4) (sS l i C)) g { cJ x i with A:=(cJ x i).A.take i }/\Ext a ((b.drewN n).setCell (aA g 4) (sS l i C)) from λn=>by
     have A:=(m.ext ((Ext.refl b).drewN n)).drop i (by rw[uH u];simp at G;omega);rw[H.hc z] at A;exact⟨A,(J.drewN n).setCell (p:=(aA g 4)) (show a.heap.size<=g by omega) _⟩)
    have kl:(i:Int)<=(C:Int):=by have:=H.kl;omega
    go_quiet (fail);go_wp2_with fail
    go_region
    all_goals
     go_wp2_with fail
     go_end0
     exact⟨rfl,by rw[uH E];exact(M _).1,(M _).2⟩
 ·obtain⟨r0,r1,r2,r3,r4,r5,r6⟩:=d.rw.s i j;have r7:=d.rw.p7 i j;have fc:=(d.rw.nc z).1.2;go_quiet (fail);go_wp2_with fail
  go_region
  all_goals
   obtain⟨b,f⟩:∃W,W=qW (D.drewN (nq+1)) l (i*8) 0 0:=⟨_,rfl⟩;have I:=uU (show({ x with A:=x.A.set i ⟨0,0,0,0,0,0,0,[]⟩,I:=(i:Int) }:Hp)=cJ x i by unfold cJ;rw[if_pos (by simpa using q2)];rfl)
   have m:=uU (show GAt B b g (cJ x i) Q X ac C T br l V (λq=>if q=i then none else R q) (λq=>if q=i then 0 else Y q) r by
    have A:=d.ext ((Ext.refl D).drewN (nq+1));obtain⟨k1,k2⟩:=a5k (D.drewN (nq+1)) l (i*8) 0 0 _ _ (A.rw.s i j) (A.rw.p7 i j);rw[f,<-uH I];exact A.clear i j _ rfl (a0i _ _ _ _ _) (b0w (A.rw.nc z).1 _ _ _) k1 k2 (λk hk=>a4k _ _ _ _ _ k hk))
   have J:=uU (show Ext a b by rw[f];exact(a0i _ _ _ _ _).ext (U.drewN _) (λq hq e=>by have:=(H.rw.nc z).2;omega));have u:=uU (show(cJ x i).A.length=x.A.length by rw[<-uH I];simp)
   have K:=uU (show((cJ x i).c i).st=0 by
    have:=Hp.c_set x i ⟨0,0,0,0,0,0,0,[]⟩ j i;rw[<-uH I];have e2:({ x with A:=x.A.set i ⟨0,0,0,0,0,0,0,[]⟩,I:=(i:Int) }:Hp).c i=({ x with A:=x.A.set i ⟨0,0,0,0,0,0,0,[]⟩ }:Hp).c i:=rfl;rw[e2,this,if_pos rfl])
   unfold qW at f;go_wp2_with fail;rw[<-f];clear f t y v F o P r0 r1 r2 r3 r4 r5 r6 r7 fc;have t:=m.bx.2.2.2.2.1;rw[H.hc z,uH u] at t;have y:b.cell? (aA g 6)=some (iv i):=m.bx.2.2.2.2.2.2.1;have v:b.cell? (aA l (i*8))=some (iv 0):=by have:=(m.rw.s i (by rw[uH u];exact j)).1;rw[uH K] at this;exact this
   have P:=m.nf.2 4;have F:g<b.heap.size:=uL y;have o:l<b.heap.size:=uL v;cases G:((i:Int) == (x.A.length:Int)-1)
   ·have E:=uU (show hE x=cJ x i by rw[uH L];unfold qE;rw[if_neg];intro e;have:=e.1;rw[uH u] at this;simp at G;omega);go_quiet (fail);go_wp2_with fail
    go_end0
    exact⟨rfl,by rw[uH E];exact⟨_,_,_,_,_,_,_,_,_,_,_,m.ext ((Ext.refl b).drewN _)⟩,J.drewN _⟩
   ·skip
    have E:=uU (show hE x={ cJ x i with A:=(cJ x i).A.take i } by rw[uH L];unfold qE;rw[if_pos ⟨by rw[uH u];simp at G;omega,K⟩])
    have M:=uU (show ∀n,GOk B ((b.drewN n).setCell (aA g 4) (sS l i C)) g { cJ x i with A:=(cJ x i).A.take i }/\Ext a ((b.drewN n).setCell (aA g 4) (sS l i C)) from λn=>by
     have A:=(m.ext ((Ext.refl b).drewN n)).drop i (by rw[uH u];simp at G;omega);rw[H.hc z] at A;exact⟨A,(J.drewN n).setCell (p:=(aA g 4)) (show a.heap.size<=g by omega) _⟩)
    have kl:(i:Int)<=(C:Int):=by have:=H.kl;omega
    go_quiet (fail);go_wp2_with fail
    go_region
    all_goals
     go_wp2_with fail
     go_end0
     exact⟨rfl,by rw[uH E];exact(M _).1,(M _).2⟩
theorem c1u[Inhabited uQ](B g:Nat)(x:Hp)(w:World)(h:GOk B w g x)(s:Snd x)(a:World)(c:a.heap.size<=B)(b:Ext a w):
  Calls prog 192 #[pP g] w λe w'=>e=.returned (.tuple #[])/\GOk B w' g (hE x)/\Ext a w':=by
 by_cases d:x.I=0
 ·exact c1t B g x w h s a c b d
 ·exact b9g B g x w h s a c b (x.I-1).toNat (by have:=s.r1.I;omega)
structure Two(w wr:World)(x:Hp)(k:Nat)(v1 v2:Value)(L1 L2:List Int):Prop where
 e:Ext w wr
 s1:dW wr w.heap.size w.heap.size 0 v1 L1
 s2:dW wr w.heap.size (w.heap.size+1) 0 v2 L2
 d1:v1.ownBlock≠some (w.heap.size+1)
 d2:v2.ownBlock≠some w.heap.size
 d3:∀k,v2.ownBlock=some k->v1.ownBlock≠some k
 h1:Ho L1
 h2:Ho L2
 p1:L1.Perm (a7e x k)
 p2:L2.Perm (a4o x k)
theorem Two.len(h:Two w wr x k v1 v2 L1 L2):L1.length<=k/\L2.length<=k:=
 ⟨by rw[h.p1.length_eq];exact a2z _ _ _,by rw[h.p2.length_eq];exact a2z _ _ _⟩
theorem Two.ext(h:Two w wr x k v1 v2 L1 L2)(e:Ext wr w'):Two w w' x k v1 v2 L1 L2:=
 ⟨h.e.trans e,h.s1.ext e,h.s2.ext e,h.d1,h.d2,h.d3,h.h1,h.h2,h.p1,h.p2⟩
theorem Two.skip(h:Two w wr x k v1 v2 L1 L2)(a:a5z x 1 k=false)(b:a5z x 2 k=false):Two w wr x (k+1) v1 v2 L1 L2:=
 ⟨h.e,h.s1,h.s2,h.d1,h.d2,h.d3,h.h1,h.h2,by unfold a7e;rw[a2y _ _ _ a];exact h.p1,by unfold a4o;rw[a2y _ _ _ b];exact h.p2⟩
theorem Two.put1{v1':Value}{L1':List Int}(h:Two w wr x k v1 v2 L1 L2)(c:a5z x 1 k=true)(d:a5z x 2 k=false)
  (l:dW w' w.heap.size w.heap.size 0 v1' L1') (o:Ho L1') (p:L1'.Perm (c3w x k::L1)) (q:QFr w.heap.size 0 v1 v1' wr w'):Two w w' x (k+1) v1' v2 L1' L2:=by
 have i:=h.s2.hlt;refine⟨q.ext h.e (Nat.le_refl _) (λk a=>(h.s1.rlt k a).1),l,h.s2.other q (by omega) h.d1 h.d2 h.d3,?_,h.d2,?_,o,h.h2,?_,by unfold a4o;rw[a2y _ _ _ d];exact h.p2⟩
 ·rcases q.own with e | ⟨g,e,b⟩
  ·rw[e];exact h.d1
  ·rw[e];intro f;cases f;omega
 ·intro k a;rcases q.own with e | ⟨g,e,b⟩
  ·rw[e];exact h.d3 k a
  ·rw[e];intro f;cases f;have:=(h.s2.rlt k a).2;omega
 ·unfold a7e;rw[a2x _ _ _ c];exact(p.trans (h.p1.cons _)).trans (List.perm_append_singleton _ _).symm
theorem Two.put2{v2':Value}{L2':List Int}(h:Two w wr x k v1 v2 L1 L2)(i:a5z x 1 k=false)(j:a5z x 2 k=true)
  (l:dW w' w.heap.size (w.heap.size+1) 0 v2' L2') (o:Ho L2') (p:L2'.Perm (toOf x k::L2)) (q:QFr (w.heap.size+1) 0 v2 v2' wr w'):Two w w' x (k+1) v1 v2' L1 L2':=by
 have m:=h.s1.hlt;refine⟨q.ext h.e (by omega) (λk a=>(h.s2.rlt k a).1),h.s1.other q (by omega) h.d2 h.d1 (λk d c=>h.d3 k c d),l,h.d1,?_,?_,h.h1,o,by unfold a7e;rw[a2y _ _ _ i];exact h.p1,?_⟩
 ·rcases q.own with e | ⟨g,e,b⟩
  ·rw[e];exact h.d2
  ·rw[e];intro f;cases f;omega
 ·intro k a f;rcases q.own with e | ⟨g,e,b⟩
  ·rw[e] at a;exact h.d3 k a f
  ·rw[e] at a;cases a;have:=(h.s1.rlt _ f).2;omega
 ·unfold a4o;rw[a2x _ _ _ j];exact(p.trans (h.p2.cons _)).trans (List.perm_append_singleton _ _).symm
theorem Two.V(w:World)(x:Hp)(a b:TypeId):Two w ((w.alloc (.cells #[.slice none 0 0] a)).alloc (.cells #[.slice none 0 0] b)) x 0 (.slice none 0 0) (.slice none 0 0) [] []:=by
 refine⟨((Ext.refl w).alloc _).alloc _,dW.nil (by simp [go_sem]) (by simp [go_sem]),dW.nil (by simp [go_sem]) (by simp [go_sem]),by simp [Value.ownBlock],by simp [Value.ownBlock],by simp [Value.ownBlock],Ho.nil,Ho.nil,List.Perm.refl _,List.Perm.refl _⟩
theorem b4d{s:Int}(t:Int)(h:((x.c k).st == s)=true)(a:s≠t):a5z x t k=false:=by
 simp [a5z] at *;omega
theorem b7b(x:Hp)(b:Nat)(w:World){an:Option Addr}{base:Nat}(h:VAt w b x ar kr ac kc ag kg an kn)(hF:FAt w b x base vf F)(hn:x.A.length<=8000):
  Calls prog 108 #[pP b] w λe w'=>∃r:Bool,Hid (e=.returned (.bool r))/\(r=true↔R2 x)/\Ext w w':=by
 have M:=h.n13;have hb:b<w.heap.size:=uL M;have HV:=uU h;have X:=uU hF;clear h hF;go_enter func108,ntmps108;go_wp2_with fail;go_loopw [12] (λi wr=>∃(k:Nat) (z y:Value) (t n:List Int),k<=x.A.length/\i=iv k/\Hid (∀j,j<k->hJ x j)/\Two w wr x k z y t n) (λi _=>x.A.length-(intOf i).toNat)
 case atStart=>exact⟨0,_,_,[],[],Nat.zero_le _,rfl,λj hj=>by omega,Two.V w x _ _⟩
 case round=>
  clear M;obtain⟨k,z,y,t,n,T,rfl,HA,a⟩:=hrel;have m:=uU a;by_cases l:k<x.A.length
  ·have E:=HV.ext a.e;have G:=X.ext a.e;obtain⟨Z,on,bc,oc,rfl,rfl,m0,W⟩:=E.N k l;obtain⟨ae,ad,ap,kp,e2,C⟩:=E.H.cell k l;cases e2;have p0:=C.p0;have p4:=C.p4;have p6:=C.p6;have af:=E.n13;have HC:=uU C;have J:=uU E;have Y:=uU G;have ah:(0:Int)<=(k:Int):=by omega
   have ab:(k:Int)<(x.A.length:Int):=by omega
   have Q:w.heap.size<=wr.heap.size:=a.e.size;have R:t.length<=1000000000:=by have:=a.len.1;omega
   have K:n.length<=1000000000:=by have:=a.len.2;omega
   clear a C E G
   have u:hJ x k->Hid (∀j,j<k+1->hJ x j):=λhc j hj=>by
    by_cases e:j=k
    ·rw[e];exact hc
    ·exact HA j (by omega)
   have ST:=uU u;clear u;cases U:((x.c k).st == 0)
   ·cases L:((x.c k).st == 1)
    ·cases P:((x.c k).st == 2)
     ·have N:=uU (show ¬R2 x from λr=>by
       have:=r.1 k l;unfold hJ at this;simp at U L P;omega)
      go_wp2_with fail;go_ret;exact⟨false,rfl,⟨λf=>by simp at f,λr=>(N r).elim⟩,m.e⟩
     ·go_wp2_with fail;refine(b6z x b k _ J Y l Z on rfl).mono ?_;rintro e w2 ⟨r,rfl,g,p⟩;have s:=uU (m.ext p);cases r
      ·have N:=uU (show ¬R2 x from λr=>by
        have d:=r.1 k l;unfold hJ at d;have h3:(x.c k).st=2:=by simpa using P
        have:=g.2 (by rcases d with d | d | d <;> first | exact d.2 | omega);simp at this)
       clear g;go_wp2_with fail;go_ret;exact⟨false,rfl,⟨λf=>by simp at f,λr=>(N r).elim⟩,s.e⟩
      ·have I:=uU (ST (.inr (.inl ⟨by simpa using P,g.1 rfl⟩)));have u6:=p.keep p6;have um:=p.keep W;clear g;go_wp2_with fail;refine(b4w _ w.heap.size (w.heap.size+1) 0 y n (x.c k).to s.s2 (Nat.le_trans Q p.size) s.h2 (by omega)).mono ?_;rintro e w3 ⟨rfl,V,L3,O,B,D,o⟩;have A:=uU (s.put2 (b4d 1 P (by omega)) P O B D o);clear O B D o;go_wp2_with fail;go_roundw
       case rel=>exact⟨k+1,z,V,t,L3,by omega,by go_num,I,A⟩
       case measure=>simp [intOf];omega
    ·go_wp2_with fail;refine(b8r x (x.c k) b Z (on+k*2) _ _ ap kp _ J.H.c2 W HC).mono ?_;rintro e w2 ⟨r,rfl,g,p⟩;have s:=uU (m.ext p);cases r
     ·have N:=uU (show ¬R2 x from λr=>by
       have d:=r.1 k l;unfold hJ at d;have h3:(x.c k).st=1:=by simpa using L
       have:=g.2 (by rcases d with d | d | d <;> first | exact d.2 | omega);simp at this)
      clear g;go_wp2_with fail;go_ret;exact⟨false,rfl,⟨λf=>by simp at f,λr=>(N r).elim⟩,s.e⟩
     ·have I:=uU (ST (.inr (.inr ⟨by simpa using L,g.1 rfl⟩)));have u4:=p.keep p4;have um:=p.keep W;clear g;go_wp2_with fail;refine(b4w _ w.heap.size w.heap.size 0 z t (x.c k).born s.s1 (Nat.le_trans Q p.size) s.h1 (by omega)).mono ?_;rintro e w3 ⟨rfl,V,L3,O,B,D,o⟩;have A:=uU (s.put1 L (b4d 2 L (by omega)) O B D o);clear O B D o;go_wp2_with fail;go_roundw
      case rel=>exact⟨k+1,V,y,L3,n,by omega,by go_num,I,A⟩
      case measure=>simp [intOf];omega
   ·have S0:=uU (show(x.c k).st=0 by simpa using U);go_wp2_with fail;refine(c0u (x.c k) Z (on+k*2) _ _ ap kp _ W HC).mono ?_;rintro e w2 ⟨rfl,rfl⟩;cases tb:b0g (x.c k)
    ·have N:=uU (show ¬R2 x from λr=>by
      have d:=r.1 k l;unfold hJ at d;have h3:=uH S0;have:yV (x.c k):=by rcases d with d | d | d <;> first | exact d.2.1 | omega
      rw[<-a8j,tb] at this;simp at this)
     go_wp2_with fail;go_ret;exact⟨false,rfl,⟨λf=>by simp at f,λr=>(N r).elim⟩,m.e⟩
    ·cases S:((x.c k).to == 0)
     ·have aa:((x.c k).to != 0)=true:=by simpa using S
      have N:=uU (show ¬R2 x from λr=>by
       have d:=r.1 k l;unfold hJ at d;have h3:=uH S0;simp at S;omega)
      go_wp2_with fail;go_ret;exact⟨false,rfl,⟨λf=>by simp at f,λr=>(N r).elim⟩,m.e⟩
     ·have aa:((x.c k).to != 0)=false:=by simpa using S
      have I:=uU (ST (.inl ⟨S0,a8j.1 tb,by simpa using S⟩));have A:=uU (m.skip (b4d 1 U (by omega)) (b4d 2 U (by omega)));go_wp2_with fail;go_roundw
      case rel=>exact⟨k+1,z,y,t,n,by omega,by go_num,I,A⟩
      case measure=>simp [intOf];omega
  ·have v:k=x.A.length:=by omega
   have A1:=uU (show ∀j,j<x.A.length->hJ x j from λj hj=>uH HA j (by omega));have AP:=uU (c6z x A1);have P1:=uU (show t.Nodup↔(a7e x x.A.length).Nodup by have:=a.p1;rw[v] at this;exact this.nodup_iff);have P2:=uU (show n.Nodup↔(a4o x x.A.length).Nodup by have:=a.p2;rw[v] at this;exact this.nodup_iff);have R:t.length<=1000000000:=by have:=a.len.1;omega
   have K:n.length<=1000000000:=by have:=a.len.2;omega
   clear a v;go_wp2_with fail;refine(b4x _ w.heap.size w.heap.size 0 z t m.s1 m.h1 R).mono ?_;rintro e w2 ⟨r,rfl,g,V,o⟩;have E2:=uU (o.ext m.e (Nat.le_refl _) (λk T=>(m.s1.rlt k T).1));have S2:=uU (m.s2.other o (by omega) m.d1 m.d2 m.d3);clear o;cases r
   ·have N:=uU (show ¬R2 x from λr=>by
     have:=g.2 (P1.2 (AP.1 r.2).1);simp at this)
    clear g;go_wp2_with fail;go_ret;exact⟨false,rfl,⟨λf=>by simp at f,λr=>(N r).elim⟩,E2⟩
   ·have B1:=uU (P1.1 (g.1 rfl));clear g;go_wp2_with fail;refine(b4x _ w.heap.size (w.heap.size+1) 0 y n S2 m.h2 K).mono ?_;rintro e w3 ⟨r,rfl,g,v4,q4⟩;have E3:=uU (q4.ext E2 (by omega) (λk T=>(S2.rlt k T).1));have RR:=uU (show r=true↔R2 x from⟨λe=>⟨A1,AP.2 ⟨B1,P2.1 (g.1 e)⟩⟩,λq=>g.2 (P2.2 (AP.1 q.2).2)⟩);clear q4 g;go_wp2_with fail;go_ret;exact⟨r,rfl,RR,E3⟩
theorem SAt.turned[Inhabited uQ](h:SAt B w b x ar kr v4 v8 br cB cO bn pb pa pk kn hd vf F vk K role)(cs:List Cl)(M:cs.length=x.A.length)(v:Nat->Nat)(D:Nat->Option Addr)(y:Nat->Nat)(s:Nat->Nat)
  (o:uX (λq=>∃j,j<x.A.length/\q=cB j) w w') (Y:∀j,j<x.A.length->Nf1 (cB j) w') (J:CapP { x with A:=cs } y)
  (Z:∀q,q<x.A.length->S7 w' (cB q) (cO q) (({ x with A:=cs }:Hp).c q))
  (X:∀q,q<x.A.length->w'.cell? (aA (cB q) (cO q+7))=some (.slice (D q) (({ x with A:=cs }:Hp).c q).F.length (y q)))
  (E:∀q,q<x.A.length->0<y q->(v q<x.A.length/\y q=pk (v q))/\(x.c (v q)).F=(({ x with A:=cs }:Hp).c q).F/\D q=pa (v q)/\s (pb (v q))=6+q)
  (t:∀q,role q<6->s q=role q) :
  SAt B w' b { x with A:=cs } ar kr v4 v8 br cB cO bn (λq=>pb (v q)) D y kn hd vf F vk K s:=by
 have m:∀q,q<w.heap.size->role q≠3->w'.heap[q]?=w.heap[q]?:=λq g A=>o.block q g (λ⟨j,L,e⟩=>A (by rw[e];exact h.sp.c j L))
 have i:({ x with A:=cs }:Hp).A.length=x.A.length:=M;have Q:∀q,q<x.A.length->0<pk q->w'.heap[pb q]?=w.heap[pb q]?:=λq g M=>m (pb q) (h.rw.pl q g M).2.1.1 (by rw[h.sp.p q g M];omega)
 have l:=h.sb.same o.size (m b h.sb.nb.1 (by rw[h.sp.b];omega)) (m bn h.sb.lo.2.2.1 (by rw[h.sp.n];omega)) (λq g=>m q (h.sb.fr.own.lt q g).2 (by rw[h.sp.f q g];omega)) (λq g=>m q (h.sb.kp.lt q g).2 (by rw[h.sp.k q g];omega));refine⟨⟨l.bx,l.ha,by rw[i];exact l.n13,λk z=>l.nd k (by rw[i] at z;exact z),l.fr,l.rg,l.k0,l.kp,l.nb,l.lo⟩,⟨λk z=>?_,λq g=>?_,λq g=>?_,λq g k z=>?_,λq g u=>?_,λA=>⟨uJ (h.rw.nr A).1 (m br (h.rw.nr A).1.1 (by rw[h.sp.r A];omega)) o.size,(h.rw.nr A).2⟩,λq g=>⟨Y q (by rw[i] at g;exact g),(h.rw.nc q (by rw[i] at g;exact g)).2⟩,λq g=>h.rw.d q (by rw[i] at g;exact g),λq P g C H I h2=>?_,λq P g C H=>h.rw.dc q P (by rw[i] at g;exact g) (by rw[i] at C;exact C) H,J⟩,⟨?_,?_,λA=>?_,λq g=>?_,λq g=>?_,λq g=>?_,λq g u=>?_⟩,h.pr.of (λq g I=>m q g (by rw[I];omega)) (λq _ I=>by rw[t q (by rw[I];omega)];exact I)⟩
 ·exact(h.rw.r k z).of λj _=>World.cell?_of_block (a:=(aA br _)) (m br (h.rw.nr (by have:k<x.B.length:=z;omega)).1.1 (by rw[h.sp.r (by have:k<x.B.length:=z;omega)];omega))
 ·rw[i] at g;exact Z q g
 ·rw[i] at g;exact X q g
 ·rw[i] at g;obtain⟨⟨G,_⟩,N,_⟩:=E q g (by have:=J q (by rw[i];exact g);omega);have U:(({ x with A:=cs }:Hp).c q).p k=(x.c (v q)).p k:=by simp only [Cl.p,N]
  rw[<-N] at z;rw[U];exact(h.rw.p (v q) G k z).of λj _=>World.cell?_of_block (a:=(aA (pb (v q)) _)) (Q (v q) G (h.rw.pw G (by omega)))
 ·rw[i] at g;obtain⟨⟨G,O⟩,N,S,_⟩:=E q g u;rw[O] at u;obtain⟨W,T,R,V⟩:=h.rw.pl (v q) G u;exact⟨S.trans W,by rw[O];exact a0g T (Q (v q) G u) o.size,⟨R.1,λj L=>R.2 j (by rw[i] at L;exact L)⟩,V⟩
 ·grind [Grw.at,Nf1,CapP,S7,Hp.c]
 ·rw[t b (by rw[h.sp.b];omega)];exact h.sp.b
 ·rw[t bn (by rw[h.sp.n];omega)];exact h.sp.n
 ·have:=h.sp.r A;rw[t br (by omega)];exact this
 ·rw[i] at g;have:=h.sp.c q g;rw[t (cB q) (by omega)];exact this
 ·have:=h.sp.f q g;rw[t q (by omega)];exact this
 ·have:=h.sp.k q g;rw[t q (by omega)];exact this
 ·rw[i] at g;exact(E q g u).2.2.2
theorem SAt.wiped[Inhabited uQ](h:SAt B w b x ar kr v4 v8 br cB cO bn pb pa pk kn hd vf F vk K role)(i:Nat)(c:i<x.A.length)(f d:Int):
  SAt B (qW w (cB i) (cO i) f d) b { x with A:=x.A.set i ⟨f,0,0,0,0,0,d,[]⟩ } ar kr v4 v8 br cB cO bn pb (λq=>if q=i then none else pa q) (λq=>if q=i then 0 else pk q) kn hd vf F vk K role:=by
 have g:=Hp.c_set x i ⟨f,0,0,0,0,0,d,[]⟩ c;obtain⟨r,o⟩:=a5k w (cB i) (cO i) f d _ _ (h.rw.s i c) (h.rw.p7 i c);have m:=a4k w (cB i) (cO i) f d;refine h.turned (x.A.set i ⟨f,0,0,0,0,0,d,[]⟩) (by simp) (λq=>q) _ _ role ((a0i _ _ _ _ _).mono (λq e=>⟨i,c,e⟩)) (λq a=>a7w (h.rw.nc q a).1 (b0w (h.rw.nc i c).1 _ _ _) (a0i _ _ _ _ _)) (λq a=>?_) (λq a=>?_) (λq a=>?_) (λq a l=>?_) (λ_ _=>rfl)
 ·have k:q<x.A.length:=by simpa using a
  rw[g q];by_cases e:q=i
  ·grind [qW]
  ·simp only [if_neg e];exact h.rw.kp q k
 ·rw[g q];by_cases e:q=i
  ·grind [qW]
  ·rw[if_neg e];exact(h.rw.s q a).of λj n=>h.rw.far8 c a e (Nat.le_refl _) (a0i _ _ _ _ _) m j (by omega)
 ·rw[g q];by_cases e:q=i
  ·grind [qW]
  ·simp only [if_neg e];rw[h.rw.far8 c a e (Nat.le_refl _) (a0i _ _ _ _ _) m 7 (by omega)];exact h.rw.p7 q a
 ·rw[g q];by_cases e:q=i
  ·rw[if_pos e] at l;omega
  ·rw[if_neg e] at l;exact⟨⟨a,if_neg e⟩,by rw[if_neg e],if_neg e,h.sp.p q a l⟩
theorem c6w(x:Hp)(b:Nat)(w:World)(h:HAt w b x ar kr ac kc ag kg)(fo:∀i,i<x.A.length->∀k,k<(x.c i).F.length->uW ((x.c i).p k).key x.A.length/\uW ((x.c i).p k).val x.A.length)(r6:R6 x)(r1:R1 x)(q1:(x.E == 1)=false)(q2:(x.E == 2)=true):
  Calls prog 132 #[pP b] w λe w'=>∃r:Bool,e=.returned (.bool r)/\(r=true↔R7 x)/\Ext w w':=by
 have ah:x.E=2:=by simpa using q2
 have MK:=uU (show uY x from Or.inr ah);have F:=uU ah;have ao:(x.E != 1)=true:=by simpa using q1
 have aq:(x.E != 2)=false:=by simpa using q2
 have c4:=h.c4;have c5:=h.c5;have lc:=h.lc;have lg:=h.lg;have ad:=r1.sub.1;have ak:=uU fo;have ab:=uU r6;go_enter func132,ntmps132;go_wp2_with fail;go_loopw [25] (λi wr=>∃k:Nat,k<=x.A.length/\i=iv k/\(∀j,j<k->¬(hQ (x.c j)/\(x.c j).J=0/\(x.E=2\/(j:Int)<x.I))/\∀l,l<hD x j->¬hY x ((x.c j).p l).key/\¬hY x ((x.c j).p l).val)/\Ext w wr) (λi _=>x.A.length-(intOf i).toNat)
 case atStart=>exact⟨0,Nat.zero_le _,rfl,λj h=>by omega,Ext.refl _⟩
 case round=>
  obtain⟨k,hk,rfl,q,D⟩:=hrel;have HA:=uU q;by_cases A:k<x.A.length
  ·have t:=h.ext D;obtain⟨b',o,Q,E,rfl,p0,p1,p2,p3,p4,p5,p6,p7,lp,P⟩:=t.cell k A;have HP:=uU P;have FO:=uU (ak k A);have e5:=t.c5;have e6:=t.c6;have e7:=t.c7;have e8:=t.c8;have av:b'<wr.heap.size:=uL p0;have hb:b<wr.heap.size:=uL e8;have au:(0:Int)<=(k:Int):=by omega
   have an:(k:Int)<(x.A.length:Int):=by omega
   have g:=D.alloc (.cells #[iv (x.c k).st,iv (x.c k).kind,iv (x.c k).T,iv (x.c k).U,iv (x.c k).born,iv (x.c k).J,iv (x.c k).to,.slice Q (x.c k).F.length E] 62);have B:=(Ext.refl wr).alloc (.cells #[iv (x.c k).st,iv (x.c k).kind,iv (x.c k).T,iv (x.c k).U,iv (x.c k).born,iv (x.c k).J,iv (x.c k).to,.slice Q (x.c k).F.length E] 62);cases d0:((x.c k).J == 0)
   ·have D0:=uU (show(x.c k).J≠0 by simpa using d0)
    have U:=uU (show(∀l,l<hD x k->¬hY x ((x.c k).p l).key/\¬hY x ((x.c k).p l).val)->Hid (∀j,j<k+1->¬(hQ (x.c j)/\(x.c j).J=0/\(x.E=2\/(j:Int)<x.I))/\∀l,l<hD x j->¬hY x ((x.c j).p l).key/\¬hY x ((x.c j).p l).val) from λhn j hj=>by
     by_cases e:j=k
     ·subst e;exact⟨λhb=>uH D0 hb.2.1,hn⟩
     ·exact HA j (by omega))
    rcases (show((x.c k).U == 1)=true\/(((x.c k).U == 1)=false/\((x.c k).U == 2)=true)\/(((x.c k).U == 1)=false/\((x.c k).U == 2)=false) by cases ((x.c k).U == 1) <;> cases ((x.c k).U == 2) <;> simp) with w1 | ⟨w1,w2⟩ | ⟨w1,w2⟩
    all_goals
     cases R:((x.c k).J == 2)
     ·skip
      by_cases O:0<x.D.length
      ·obtain⟨bg,og,rfl,N⟩:=(h.ext D).G 0 O;unfold a6w at N;simp only [Nat.zero_mul,Nat.add_zero] at N;have al:bg<wr.heap.size:=uL N;have aj:(0:Int)<(x.D.length:Int):=by omega
       cases d3:(x.D[0] == (k:Int))
       ·have z:=uU (show hD x k=0 by have J:¬(x.c k).J=2:=(by simpa using R);have e2:x.D.getD 0 0=x.D[0]:=(by simp [O]);have K:¬x.D[0]=(k:Int):=(by simpa using d3);unfold hD;rw[if_neg J,if_neg (by rw[e2];exact λc=>K c.2.2)]);go_wp2_with fail;go_loopw [7] (λi m=>i=iv 0/\m=wr.alloc (.cells #[iv (x.c k).st,iv (x.c k).kind,iv (x.c k).T,iv (x.c k).U,iv (x.c k).born,iv (x.c k).J,iv (x.c k).to,.slice Q (x.c k).F.length E] 62)) (λ_ _=>0)
        case atStart=>exact⟨rfl,rfl⟩
        case round=>
         obtain⟨rfl,rfl⟩:=hrel;have S:=uH U (λl M=>by rw[uH z] at M;omega);go_wp2;go_roundw
         case rel=>exact⟨k+1,by omega,by go_num,S,g⟩
         case measure=>simp [intOf];omega
       ·obtain⟨L,C⟩:=Int.eq_ofNat_of_zero_le ad;have K:x.D[0]=(k:Int):=by simpa using d3
        have z:=uU (show hD x k=L by have J:¬(x.c k).J=2:=(by simpa using R);have e2:x.D.getD 0 0=x.D[0]:=(by simp [O]);unfold hD;rw[if_neg J,if_pos ⟨uH F,by omega,by rw[e2];exact K⟩,C];simp)
        have am:L<=(x.c k).F.length:=by
         have e4:=(ab.2.1 F).2.2 (by omega);have e5:x.g0=k:=by simp [Hp.g0,O,K]
         rw[e5,C] at e4;omega
        rw[C] at e7;rw[K] at N;go_wp2_with fail;obtain⟨X,H⟩:∃W:World,W=wr:=⟨_,rfl⟩;subst H;go_loopw [7] (λi m=>∃l:Nat,l<=L/\i=iv l/\(∀j,j<l->¬hY x ((x.c k).p j).key/\¬hY x ((x.c k).p j).val)/\Ext w m/\Ext (X.alloc (.cells #[iv (x.c k).st,iv (x.c k).kind,iv (x.c k).T,iv (x.c k).U,iv (x.c k).born,iv (x.c k).J,iv (x.c k).to,.slice Q (x.c k).F.length E] 62)) m) (λi _=>L-(intOf i).toNat)
        case atStart=>exact⟨0,Nat.zero_le _,rfl,λj h=>by omega,g,Ext.refl _⟩
        case round=>
         obtain⟨l,M,rfl,q,s,a⟩:=hrel;have V:=uU q;by_cases ae:l<L
         ·obtain⟨b2,o2,rfl,q0,q1,q2,q3,q4,q5⟩:=uH HP l (by omega);have g0:=(Ext.trans B a).keep q0;have g1:=(Ext.trans B a).keep q1;have g2:=(Ext.trans B a).keep q2;have g3:=(Ext.trans B a).keep q3;have g4:=(Ext.trans B a).keep q4;have g5:=(Ext.trans B a).keep q5;have f7:=a.keep (b:=X.heap.size) (o:=7) (v:=sO b2 o2 (x.c k).F.length E) (by simp [go_sem]);have af:(0:Int)<=(l:Int):=by omega
          have ai:(l:Int)<((x.c k).F.length:Int):=by omega
          have Z:=uU (FO l (by omega));go_wp2_with fail;refine(a1g x b ((x.c k).p l).key _ (h.ext s) (λe=>a2i Z.1 e)).mono ?_;rintro e w3 ⟨rfl,d⟩;have u7:=d.keep f7;have u3:=d.keep g3;have u4:=d.keep g4;have u5:=d.keep g5;have y:Ext w w3:=s.trans d;cases tk:a2d x ((x.c k).p l).key
          ·go_wp2_with fail;refine(a1g x b ((x.c k).p l).val _ (h.ext y) (λe=>a2i Z.2 e)).mono ?_;rintro e w4 ⟨rfl,n⟩;cases T:a2d x ((x.c k).p l).val
           ·have S:=uU (show ∀j,j<l+1->¬hY x ((x.c k).p j).key/\¬hY x ((x.c k).p j).val from λj hj=>by
             by_cases e:j=l
             ·subst e;exact⟨λt=>by rw[<-a0c,tk] at t;simp at t,λt=>by rw[<-a0c,T] at t;simp at t⟩
             ·exact V j (by omega))
            go_wp2;go_roundw
            case rel=>exact⟨l+1,by omega,by go_num,S,y.trans n,Ext.trans (Ext.trans a d) n⟩
            case measure=>simp [intOf];omega
           ·have u:=uU (show ¬R7 x from λr=>((r MK k A).2 l (by rw[uH z];omega)).2 (a0c.1 T));go_wp2;go_ret
            first | (exact Or.inl ⟨rfl,u,y.trans n⟩) | (exact⟨false,rfl,⟨λf=>by simp at f,λr=>(u r).elim⟩,y.trans n⟩)
          ·have u:=uU (show ¬R7 x from λr=>((r MK k A).2 l (by rw[uH z];omega)).1 (a0c.1 tk));go_wp2;go_ret
           first | (exact Or.inl ⟨rfl,u,y⟩) | (exact⟨false,rfl,⟨λf=>by simp at f,λr=>(u r).elim⟩,y⟩)
         ·have S:=uH U (λl' I=>uH V l' (by rw[uH z] at I;omega));go_wp2;go_roundw
          case rel=>exact⟨k+1,by omega,by go_num,S,s⟩
          case measure=>simp [intOf];omega
      ·have z:=uU (show hD x k=0 by have J:¬(x.c k).J=2:=(by simpa using R);unfold hD;rw[if_neg J,if_neg (by omega)]);go_wp2_with fail;go_loopw [7] (λi m=>i=iv 0/\m=wr.alloc (.cells #[iv (x.c k).st,iv (x.c k).kind,iv (x.c k).T,iv (x.c k).U,iv (x.c k).born,iv (x.c k).J,iv (x.c k).to,.slice Q (x.c k).F.length E] 62)) (λ_ _=>0)
       case atStart=>exact⟨rfl,rfl⟩
       case round=>
        obtain⟨rfl,rfl⟩:=hrel;have S:=uH U (λl M=>by rw[uH z] at M;omega);go_wp2;go_roundw
        case rel=>exact⟨k+1,by omega,by go_num,S,g⟩
        case measure=>simp [intOf];omega
     ·have z:=uU (show hD x k=(x.c k).F.length by simp at R;simp [hD,R]);go_wp2_with fail;obtain⟨X,H⟩:∃W:World,W=wr:=⟨_,rfl⟩;subst H;go_loopw [7] (λi m=>∃l:Nat,l<=(x.c k).F.length/\i=iv l/\(∀j,j<l->¬hY x ((x.c k).p j).key/\¬hY x ((x.c k).p j).val)/\Ext w m/\Ext (X.alloc (.cells #[iv (x.c k).st,iv (x.c k).kind,iv (x.c k).T,iv (x.c k).U,iv (x.c k).born,iv (x.c k).J,iv (x.c k).to,.slice Q (x.c k).F.length E] 62)) m) (λi _=>(x.c k).F.length-(intOf i).toNat)
      case atStart=>exact⟨0,Nat.zero_le _,rfl,λj h=>by omega,g,Ext.refl _⟩
      case round=>
       obtain⟨l,M,rfl,q,s,a⟩:=hrel;have V:=uU q;by_cases ae:l<(x.c k).F.length
       ·obtain⟨b2,o2,rfl,q0,q1,q2,q3,q4,q5⟩:=uH HP l (by omega);have g0:=(Ext.trans B a).keep q0;have g1:=(Ext.trans B a).keep q1;have g2:=(Ext.trans B a).keep q2;have g3:=(Ext.trans B a).keep q3;have g4:=(Ext.trans B a).keep q4;have g5:=(Ext.trans B a).keep q5;have f7:=a.keep (b:=X.heap.size) (o:=7) (v:=sO b2 o2 (x.c k).F.length E) (by simp [go_sem]);have af:(0:Int)<=(l:Int):=by omega
        have ai:(l:Int)<((x.c k).F.length:Int):=by omega
        have Z:=uU (FO l (by omega));go_wp2_with fail;refine(a1g x b ((x.c k).p l).key _ (h.ext s) (λe=>a2i Z.1 e)).mono ?_;rintro e w3 ⟨rfl,d⟩;have u7:=d.keep f7;have u3:=d.keep g3;have u4:=d.keep g4;have u5:=d.keep g5;have y:Ext w w3:=s.trans d;cases tk:a2d x ((x.c k).p l).key
        ·go_wp2_with fail;refine(a1g x b ((x.c k).p l).val _ (h.ext y) (λe=>a2i Z.2 e)).mono ?_;rintro e w4 ⟨rfl,n⟩;cases T:a2d x ((x.c k).p l).val
         ·have S:=uU (show ∀j,j<l+1->¬hY x ((x.c k).p j).key/\¬hY x ((x.c k).p j).val from λj hj=>by
           by_cases e:j=l
           ·subst e;exact⟨λt=>by rw[<-a0c,tk] at t;simp at t,λt=>by rw[<-a0c,T] at t;simp at t⟩
           ·exact V j (by omega))
          go_wp2;go_roundw
          case rel=>exact⟨l+1,by omega,by go_num,S,y.trans n,Ext.trans (Ext.trans a d) n⟩
          case measure=>simp [intOf];omega
         ·have u:=uU (show ¬R7 x from λr=>((r MK k A).2 l (by rw[uH z];omega)).2 (a0c.1 T));go_wp2;go_ret
          first | (exact Or.inl ⟨rfl,u,y.trans n⟩) | (exact⟨false,rfl,⟨λf=>by simp at f,λr=>(u r).elim⟩,y.trans n⟩)
        ·have u:=uU (show ¬R7 x from λr=>((r MK k A).2 l (by rw[uH z];omega)).1 (a0c.1 tk));go_wp2;go_ret
         first | (exact Or.inl ⟨rfl,u,y⟩) | (exact⟨false,rfl,⟨λf=>by simp at f,λr=>(u r).elim⟩,y⟩)
       ·have S:=uH U (λl' I=>uH V l' (by rw[uH z] at I;omega));go_wp2;go_roundw
        case rel=>exact⟨k+1,by omega,by go_num,S,s⟩
        case measure=>simp [intOf];omega
   ·have D0:=uU (show(x.c k).J=0 by simpa using d0);have R:((x.c k).J == 2)=false:=by simp at d0 ⊢;omega
    by_cases aa:hQ (x.c k)/\True
    ·have u:=uU (show ¬R7 x from λr=>(r MK k A).1 ⟨aa.1,D0,Or.inl F⟩);cases w1:((x.c k).U == 1)
     ·have w2:((x.c k).U == 2)=true:=by have:=aa.1;unfold hQ at this;simp at w1 ⊢;omega
      go_wp2;go_ret
      first | (exact Or.inl ⟨rfl,u,g⟩) | (exact⟨false,rfl,⟨λf=>by simp at f,λr=>(u r).elim⟩,g⟩)
     ·go_wp2;go_ret
      first | (exact Or.inl ⟨rfl,u,g⟩) | (exact⟨false,rfl,⟨λf=>by simp at f,λr=>(u r).elim⟩,g⟩)
    ·have BD:=uU aa
     have U:=uU (show(∀l,l<hD x k->¬hY x ((x.c k).p l).key/\¬hY x ((x.c k).p l).val)->Hid (∀j,j<k+1->¬(hQ (x.c j)/\(x.c j).J=0/\(x.E=2\/(j:Int)<x.I))/\∀l,l<hD x j->¬hY x ((x.c j).p l).key/\¬hY x ((x.c j).p l).val) from λhn j hj=>by
      by_cases e:j=k
      ·subst e;exact⟨λhb=>uH BD ⟨hb.1,trivial⟩,hn⟩
      ·exact HA j (by omega))
     have w1:((x.c k).U == 1)=false:=by have:=uH BD;unfold hQ at this;simp at this ⊢;omega
     have w2:((x.c k).U == 2)=false:=by have:=uH BD;unfold hQ at this;simp at this ⊢;omega
     by_cases O:0<x.D.length
     ·obtain⟨bg,og,rfl,N⟩:=(h.ext D).G 0 O;unfold a6w at N;simp only [Nat.zero_mul,Nat.add_zero] at N;have al:bg<wr.heap.size:=uL N;have aj:(0:Int)<(x.D.length:Int):=by omega
      cases d3:(x.D[0] == (k:Int))
      ·have z:=uU (show hD x k=0 by have J:¬(x.c k).J=2:=(by simpa using R);have e2:x.D.getD 0 0=x.D[0]:=(by simp [O]);have K:¬x.D[0]=(k:Int):=(by simpa using d3);unfold hD;rw[if_neg J,if_neg (by rw[e2];exact λc=>K c.2.2)]);go_wp2_with fail;go_loopw [7] (λi m=>i=iv 0/\m=wr.alloc (.cells #[iv (x.c k).st,iv (x.c k).kind,iv (x.c k).T,iv (x.c k).U,iv (x.c k).born,iv (x.c k).J,iv (x.c k).to,.slice Q (x.c k).F.length E] 62)) (λ_ _=>0)
       case atStart=>exact⟨rfl,rfl⟩
       case round=>
        obtain⟨rfl,rfl⟩:=hrel;have S:=uH U (λl M=>by rw[uH z] at M;omega);go_wp2;go_roundw
        case rel=>exact⟨k+1,by omega,by go_num,S,g⟩
        case measure=>simp [intOf];omega
      ·obtain⟨L,C⟩:=Int.eq_ofNat_of_zero_le ad;have K:x.D[0]=(k:Int):=by simpa using d3
       have z:=uU (show hD x k=L by have J:¬(x.c k).J=2:=(by simpa using R);have e2:x.D.getD 0 0=x.D[0]:=(by simp [O]);unfold hD;rw[if_neg J,if_pos ⟨uH F,by omega,by rw[e2];exact K⟩,C];simp)
       have am:L<=(x.c k).F.length:=by
        have e4:=(ab.2.1 F).2.2 (by omega);have e5:x.g0=k:=by simp [Hp.g0,O,K]
        rw[e5,C] at e4;omega
       rw[C] at e7;rw[K] at N;go_wp2_with fail;obtain⟨X,H⟩:∃W:World,W=wr:=⟨_,rfl⟩;subst H;go_loopw [7] (λi m=>∃l:Nat,l<=L/\i=iv l/\(∀j,j<l->¬hY x ((x.c k).p j).key/\¬hY x ((x.c k).p j).val)/\Ext w m/\Ext (X.alloc (.cells #[iv (x.c k).st,iv (x.c k).kind,iv (x.c k).T,iv (x.c k).U,iv (x.c k).born,iv (x.c k).J,iv (x.c k).to,.slice Q (x.c k).F.length E] 62)) m) (λi _=>L-(intOf i).toNat)
       case atStart=>exact⟨0,Nat.zero_le _,rfl,λj h=>by omega,g,Ext.refl _⟩
       case round=>
        obtain⟨l,M,rfl,q,s,a⟩:=hrel;have V:=uU q;by_cases ae:l<L
        ·obtain⟨b2,o2,rfl,q0,q1,q2,q3,q4,q5⟩:=uH HP l (by omega);have g0:=(Ext.trans B a).keep q0;have g1:=(Ext.trans B a).keep q1;have g2:=(Ext.trans B a).keep q2;have g3:=(Ext.trans B a).keep q3;have g4:=(Ext.trans B a).keep q4;have g5:=(Ext.trans B a).keep q5;have f7:=a.keep (b:=X.heap.size) (o:=7) (v:=sO b2 o2 (x.c k).F.length E) (by simp [go_sem]);have af:(0:Int)<=(l:Int):=by omega
         have ai:(l:Int)<((x.c k).F.length:Int):=by omega
         have Z:=uU (FO l (by omega));go_wp2_with fail;refine(a1g x b ((x.c k).p l).key _ (h.ext s) (λe=>a2i Z.1 e)).mono ?_;rintro e w3 ⟨rfl,d⟩;have u7:=d.keep f7;have u3:=d.keep g3;have u4:=d.keep g4;have u5:=d.keep g5;have y:Ext w w3:=s.trans d;cases tk:a2d x ((x.c k).p l).key
         ·go_wp2_with fail;refine(a1g x b ((x.c k).p l).val _ (h.ext y) (λe=>a2i Z.2 e)).mono ?_;rintro e w4 ⟨rfl,n⟩;cases T:a2d x ((x.c k).p l).val
          ·have S:=uU (show ∀j,j<l+1->¬hY x ((x.c k).p j).key/\¬hY x ((x.c k).p j).val from λj hj=>by
            by_cases e:j=l
            ·subst e;exact⟨λt=>by rw[<-a0c,tk] at t;simp at t,λt=>by rw[<-a0c,T] at t;simp at t⟩
            ·exact V j (by omega))
           go_wp2;go_roundw
           case rel=>exact⟨l+1,by omega,by go_num,S,y.trans n,Ext.trans (Ext.trans a d) n⟩
           case measure=>simp [intOf];omega
          ·have u:=uU (show ¬R7 x from λr=>((r MK k A).2 l (by rw[uH z];omega)).2 (a0c.1 T));go_wp2;go_ret
           first | (exact Or.inl ⟨rfl,u,y.trans n⟩) | (exact⟨false,rfl,⟨λf=>by simp at f,λr=>(u r).elim⟩,y.trans n⟩)
         ·have u:=uU (show ¬R7 x from λr=>((r MK k A).2 l (by rw[uH z];omega)).1 (a0c.1 tk));go_wp2;go_ret
          first | (exact Or.inl ⟨rfl,u,y⟩) | (exact⟨false,rfl,⟨λf=>by simp at f,λr=>(u r).elim⟩,y⟩)
        ·have S:=uH U (λl' I=>uH V l' (by rw[uH z] at I;omega));go_wp2;go_roundw
         case rel=>exact⟨k+1,by omega,by go_num,S,s⟩
         case measure=>simp [intOf];omega
     ·have z:=uU (show hD x k=0 by have J:¬(x.c k).J=2:=(by simpa using R);unfold hD;rw[if_neg J,if_neg (by omega)]);go_wp2_with fail;go_loopw [7] (λi m=>i=iv 0/\m=wr.alloc (.cells #[iv (x.c k).st,iv (x.c k).kind,iv (x.c k).T,iv (x.c k).U,iv (x.c k).born,iv (x.c k).J,iv (x.c k).to,.slice Q (x.c k).F.length E] 62)) (λ_ _=>0)
      case atStart=>exact⟨rfl,rfl⟩
      case round=>
       obtain⟨rfl,rfl⟩:=hrel;have S:=uH U (λl M=>by rw[uH z] at M;omega);go_wp2;go_roundw
       case rel=>exact⟨k+1,by omega,by go_num,S,g⟩
       case measure=>simp [intOf];omega
  ·have Y:=uU (show R7 x from λ_ i hi=>uH HA i (by omega));go_wp2;go_ret
   first | (exact Or.inr ⟨rfl,Y,D⟩) | (exact⟨true,rfl,⟨λ_=>uH Y,λ_=>rfl⟩,D⟩)
def Gave[Inhabited uQ](B:Nat)(w w':World)(b:Nat)(y:Hp)(ar:Option Addr)(kr:Nat)(v4 v8:Value)(br:Nat)(cB cO:Nat->Nat)(bn:Nat)(pb:Nat->Nat)(kn hd:Nat)(vf:Value)(F:List Int)(vk:Value)(K:List Nat)(i:Nat):Prop:=
 (∃pa' pk' vf' F' role',SAt B w' b y ar kr v4 v8 br cB cO bn pb pa' pk' kn hd vf' F' vk K role'/\Ho F'/\F'.Perm ((i:Int)::F))/\∀q,q<w.heap.size->q≠b->q≠cB i->vf.ownBlock≠some q->w'.heap[q]?=w.heap[q]?
theorem b1d[Inhabited uQ](h:SAt B w b x ar kr v4 v8 br cB cO bn pb pa pk kn hd vf F vk K role)(i:Nat)(m:i<x.A.length)(P:Ho F)(O:F.length<=1000000000)(a:World)(ha:a.heap.size<=B)(hx:Ext a w):
  Calls prog 332 #[pP b,ndp bn i] w λe w'=>e=.returned (.tuple #[])/\Gave B w w' b { x with A:=x.A.set i Cl0 } ar kr v4 v8 br cB cO bn pb kn hd vf F vk K i/\Ext a w':=by
 obtain⟨u,U⟩:=h.sb.nd i m;obtain⟨e0,X,e2,e3,Y,e5,T⟩:=h.rw.s i m;have S:=h.rw.p7 i m;have V:=(h.rw.nc i m).1.2;have y:=uU (show ¬bn=cB i from λe=>by have A:=h.sp.n;have M:=h.sp.c i m;rw[e] at A;omega);have z:¬bn=cB i:=uH y
 have r:bn<w.heap.size:=uL u;have f:=uU (h.wiped i m 0 0);have C:=uU ((a0i w (cB i) (cO i) 0 0).ext hx (λq t e=>by have:=(h.rw.nc i m).2;omega));have E:=uU (And.intro P O);have N:=uU ((World.cell?_of_block (a:=(aA bn (i*2))) ((a0i w (cB i) (cO i) 0 0).block bn r z)).trans u);obtain⟨o,d⟩:∃W,W=qW w (cB i) (cO i) 0 0:=⟨_,rfl⟩;rw[<-d] at f C N;have I:=uU (show uX (λq=>q=cB i) w o by rw[d];exact a0i w (cB i) (cO i) 0 0);unfold qW at d;clear h P O;go_enter func332,ntmps332;go_wp2_with fail;rw[<-d];clear d u U e0 X e2 e3 Y e5 T S V;have k0:=uH N;have R:B<=o.heap.size:=by have:=f.sb.lo.2.1;have:=f.sb.lo.2.2.1;omega
 go_region_with (go_at_call 107;refine(b4w _ B b 14 vf F i (f.sb.fr.ext (Ext.refl o).drew) (by simpa using R) E.1 E.2).mono ?_;rintro e J ⟨rfl,v3,L3,H,G,L,D⟩;have p:=uU D;have R3:=uU (And.intro H (And.intro G L));clear H G L D)
 all_goals
  have NF:=uU (show Nf1 b J from⟨Nat.lt_of_lt_of_le f.sb.nb.1 (by have:=p.size;simpa using this),λj=>(p.hfr j).trans ((f.sb.nb.ext (Ext.refl o).drew).2 j)⟩);have G3:=uU ((f.ext (Ext.refl o).drew).freed R3.1 p NF)
  have FN:=uU (show Gave B w J b { x with A:=x.A.set i Cl0 } ar kr v4 v8 br cB cO bn pb kn hd vf F vk K i by
   obtain⟨l,g⟩:=G3;refine⟨⟨_,_,v3,L3,l,g,R3.2.1,R3.2.2⟩,λq t A M h3=>?_⟩;have v:q<o.heap.size:=Nat.lt_of_lt_of_le t I.size;exact(p.block q (by simpa using v) A h3).trans (I.block q t M))
  have Z:=uU (p.ext C.drew (by have:=f.sb.lo.1;omega) (λk Q=>by have:=(f.sb.fr.own.lt k Q).1;omega));go_wp2_with fail
  go_end0
  exact⟨rfl,FN,Z⟩
end Go.Proofs.YtddkhnclmeikfaaGreat
