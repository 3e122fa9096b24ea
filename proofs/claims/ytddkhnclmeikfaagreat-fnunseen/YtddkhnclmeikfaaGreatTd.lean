import Derived.Test.YtddkhnclmeikfaaGreatSpecI
import Derived.Test.YtddkhnclmeikfaaGreatGg1
import Derived.Test.YtddkhnclmeikfaaGreatWk2
import Derived.Test.YtddkhnclmeikfaaGreatImpI
import Derived.Laws.EntriesVeiled
set_option maxRecDepth 100000
set_option maxHeartbeats 4000000
namespace Go.Proofs.YtddkhnclmeikfaaGreat
open Go.RowKit Tryz
attribute [local go_sem ↓] Go.wp_at_zero Go.wp_at_succ
variable{x:Hp}{ar ac ag an:Option Addr}{kr kn bn B b br hd kc kg i hd':Nat}{w w1 w':World}{pa:Nat->Option Addr}{pk pb cB cO role:Nat->Nat}{vf v4 v8 vk:Value}{F G:List Int}{K:List Nat}
theorem a2n:a2a x=true↔uY x:=by simp [a2a,uY]
theorem a9k(x:Hp)(b:Nat)(s:Bool)(c:a2a x=s)(w:World)(a:w.cell? (aA b 5)=some (iv x.E)):
  Calls prog 145 #[pP b] w λe w'=>e=.returned (.bool s)/\w'=w:=by
 rw[<-c];exact b3b x b w a
def a0x(x:Hp)(i:Nat):Bool:=a2a x || ((x.E == 3) && decide (x.I<=(i:Int)))
theorem a9c:a0x x i=true↔a4f x i:=by
 simp [a0x,a4f,a2n]
theorem b4y(x:Hp)(b g q i:Nat)(w:World)(k:w.cell? (aA b 5)=some (iv x.E))(l:w.cell? (aA b 6)=some (iv x.I))(m:w.cell? (aA g q)=some (iv i)):
  Calls prog 180 #[pP b,pQ g q] w λe w'=>e=.returned (.bool (a0x x i))/\Ext w w':=by
 have c:=uU (λn s (j:a2a x=s)=>a9k x b s j (w.drewN n) (((Ext.refl w).drewN n).keep k));cases a:a2a x
 ·cases f:(x.E == 3)
  ·have E:=uU (show a0x x i=false by simp [a0x,a,f]);go_enter func180,ntmps180;go_wp2_with fail;go_quiet ((go_at_call 145;exact Calls.quiet_of_same (c _ _ a)));go_wp2;go_ret;exact⟨by rw[uH E];rfl,(Ext.refl w).drewN _⟩
  ·by_cases d:x.I<=(i:Int)
   ·have E:=uU (show a0x x i=true by simp [a0x,f,d]);go_enter func180,ntmps180;go_wp2_with fail;go_quiet ((go_at_call 145;exact Calls.quiet_of_same (c _ _ a)));go_wp2;go_ret;exact⟨by rw[uH E];rfl,(Ext.refl w).drewN _⟩
   ·have E:=uU (show a0x x i=false by simp [a0x,a];omega);have h:decide (x.I<=(i:Int))=false:=decide_eq_false d;go_enter func180,ntmps180;go_wp2_with fail;go_quiet ((go_at_call 145;exact Calls.quiet_of_same (c _ _ a)));go_wp2;go_ret;exact⟨by rw[uH E];rfl,(Ext.refl w).drewN _⟩
 ·have E:=uU (show a0x x i=true by simp [a0x,a]);go_enter func180,ntmps180;go_wp2_with fail;go_quiet ((go_at_call 145;exact Calls.quiet_of_same (c _ _ a)));go_wp2;go_ret;exact⟨by rw[uH E];rfl,(Ext.refl w).drewN _⟩
def b8s(x:Hp):Prop:=(∀g,g∈x.D->(0<=g/\g<x.A.length)/\(x.c g.toNat).J=1)/\x.D.Nodup
theorem b8t(x:Hp)(k:Nat)(h:k<x.D.length):x.D[k]=it x.D k:=b2z _ _ h
theorem b0i(x:Hp)(b:Nat)(w:World)(h:VAt w b x ar kr ac kc ag kg an kn)(hn:x.D.length<=8000):
  Calls prog 181 #[pP b] w λe w'=>∃r:Bool,Hid (e=.returned (.bool r))/\(r=true↔b8s x)/\Ext w w':=by
 have c8:=h.H.c8;have hb:b<w.heap.size:=uL c8;have lc:=h.H.lc;have HV:=uU h;go_enter func181,ntmps181;go_wp2_with fail;go_loopw [12] (λi wr=>∃(k:Nat) (v:Value) (m:List Int),k<=x.D.length/\i=iv k/\Hid (∀j,j<k->(0<=it x.D j/\it x.D j<x.A.length)/\(x.c (it x.D j).toNat).J=1)/\dW wr w.heap.size w.heap.size 0 v m/\Ho m/\m.Perm (x.D.take k)/\Ext w wr) (λi _=>x.D.length-(intOf i).toNat)
 case atStart=>exact⟨0,_,[],Nat.zero_le _,rfl,λj J=>by omega,dW.nil (by simp [go_sem]) (by simp [go_sem]),Ho.nil,by simp,(Ext.refl w).alloc _⟩
 case round=>
  obtain⟨k,v,m,B,rfl,HA,ls,ho,T,a⟩:=hrel;have l:=uU ls;have W:=uU ho;have Y:=uU T;have s:m.length<=1000000000:=by have:=T.length_eq;simp at this;omega
  by_cases d:k<x.D.length
  ·have F:=HV.ext a;obtain⟨bg,og,rfl,u⟩:=F.H.G k d;unfold a6w at u;rw[b8t x k d] at u;have ae:=F.n13;have o:=uU F;have af:(0:Int)<=(k:Int):=by omega
   have aa:(k:Int)<(x.D.length:Int):=by omega
   obtain⟨y,O⟩:∃z,it x.D k=z:=⟨_,rfl⟩;rw[O] at u;have U:=uU O;have p:=uU (show y∈x.D by rw[<-O];exact a2w _ _ d);have S:w.heap.size<=wr.heap.size:=a.size;simp only [Nat.mul_one] at u;cases n:cQ y 0 ((x.A.length:Int)-1)
   ·have N:=uU (show ¬b8s x from λr=>by have:=a4w n;have:=(r.1 y p).1;omega);go_wp2_with fail;refine(a0h _ _ _ false n _).mono ?_;rintro e K ⟨rfl,rfl⟩;go_wp2;go_ret;exact⟨false,rfl,⟨λf=>by simp at f,λr=>(N r).elim⟩,a⟩
   ·obtain⟨i,hi⟩:∃i:Nat,y=(i:Int):=⟨y.toNat,by have:=a0e n;omega⟩;subst hi;have t:i<x.A.length:=by have:=a0e n;omega
    obtain⟨bn,on,bc,oc,e1,e2,m0,m1⟩:=o.N i t;subst e1;subst e2;obtain⟨ad,ab,ap,kp,e3,C⟩:=o.H.cell i t;cases e3;have p5:=C.p5;have I:(0:Int)<=(i:Int):=by omega
    have Q:(i:Int)<(x.A.length:Int):=by omega
    cases D:((x.c i).J == 1)
    ·have M:((x.c i).J != 1)=true:=by simpa using D
     have N:=uU (show ¬b8s x from λr=>by have:=(r.1 _ p).2;simp at this D;omega);go_wp2_with fail;refine(a0h _ _ _ true n _).mono ?_;rintro e K ⟨rfl,rfl⟩;go_wp2;go_ret;exact⟨false,rfl,⟨λf=>by simp at f,λr=>(N r).elim⟩,a⟩
    ·have M:((x.c i).J != 1)=false:=by simpa using D
     have OK:=uU (show ∀j,j<k+1->(0<=it x.D j/\it x.D j<x.A.length)/\(x.c (it x.D j).toNat).J=1 from λj J=>by
      by_cases e:j=k
      ·rw[e,uH U];exact⟨⟨I,Q⟩,by simpa using D⟩
      ·exact HA j (by omega))
     have TK:=uU (show x.D.take (k+1)=x.D.take k++[(i:Int)] by
      rw[<-uH U,<-b8t x k d];exact(List.take_append_getElem d).symm)
     go_wp2_with fail;refine(a0h _ _ _ true n _).mono ?_;rintro e K ⟨rfl,rfl⟩;go_wp2_with fail;refine(b4w _ w.heap.size w.heap.size 0 v m (i:Int) l S W (by omega)).mono ?_;rintro e X ⟨rfl,L,A,l3,o3,p3,E⟩
     have R:=uU (show dW X w.heap.size w.heap.size 0 L A/\Ho A/\A.Perm (x.D.take (k+1))/\Ext w X from
      ⟨l3,o3,by rw[uH TK];exact(p3.trans (Y.cons _)).trans (List.perm_append_singleton _ _).symm,E.ext a (Nat.le_refl _) (λk B=>(l.rlt k B).1)⟩)
     go_wp2;go_roundw
     case rel=>exact⟨k+1,L,A,by omega,by go_num,OK,R⟩
     case measure=>simp [intOf];omega
  ·have P:k=x.D.length:=by omega
   have V:=uU (show m.Nodup↔x.D.Nodup by have:=uH Y;rw[P,List.take_length] at this;exact this.nodup_iff)
   have A1:=uU (show ∀g,g∈x.D->(0<=g/\g<x.A.length)/\(x.c g.toNat).J=1 from λg hg=>by
    obtain⟨j,J,e⟩:=List.getElem_of_mem hg;rw[b8t x j J] at e;rw[<-e];exact HA j (by omega))
   go_wp2_with fail;refine(b4x _ w.heap.size w.heap.size 0 v m l W s).mono ?_;rintro e K ⟨r,rfl,Z,L,E⟩;have E2:=uU (E.ext a (Nat.le_refl _) (λk B=>(l.rlt k B).1));have RR:=uU (show r=true↔b8s x from⟨λe=>⟨A1,V.1 (Z.1 e)⟩,λq=>Z.2 (V.2 q.2)⟩);go_wp2;go_ret;exact⟨r,rfl,RR,E2⟩
theorem b4z(x:Hp)(b:Nat)(w:World)(h:VAt w b x ar kr ac kc ag kg an kn)(R:x.D.length<=8000)(Q:x.A.length<=8000):
  Calls prog 111 #[pP b] w λe w'=>∃r:Bool,Hid (e=.returned (.bool r))/\(r=true↔R5 x)/\Ext w w':=by
 have Y:=h.n13;have HV:=uU h;go_enter func111,ntmps111;go_wp2_with fail;go_loopw [3,11] (λs i wr=>∃(k u:Nat),k<=x.A.length/\i=iv k/\s=iv u/\u<=k/\Hid (u=(a6p x k).length)/\Hid (∀j,j<k->(x.c j).J=2->a4f x j)/\Ext w wr) (λ_ i _=>x.A.length-(intOf i).toNat)
 case atStart=>exact⟨0,0,Nat.zero_le _,rfl,rfl,Nat.le_refl _,rfl,λj O=>by omega,Ext.refl _⟩
 case round=>
  obtain⟨k,u,hk,rfl,rfl,S,G,HA,a⟩:=hrel;by_cases g:k<x.A.length
  ·have z:=HV.ext a;obtain⟨bn,on,bc,oc,rfl,rfl,m0,m1⟩:=z.N k g;obtain⟨Z,W,ap,kp,e2,C⟩:=z.H.cell k g;cases e2;have p5:=C.p5;have ad:=z.n13;have d:=uU z;have aa:(0:Int)<=(k:Int):=by omega
   have V:(k:Int)<(x.A.length:Int):=by omega
   have v:((x.c k).J=2->a4f x k)->Hid (∀j,j<k+1->(x.c j).J=2->a4f x j):=λQ j O=>by
    by_cases e:j=k
    ·rw[e];exact Q
    ·exact HA j (by omega)
   have E:=uU v;cases y:((x.c k).J == 1)
   ·have A:=uU (show u=(a6p x (k+1)).length by have:=uH G;unfold a6p at *;rw[a2y _ _ _ (by simpa [a7g] using y)];exact this);cases I:((x.c k).J == 2)
    ·have t:=uH E (λe=>by rw[e] at I;simp at I);go_wp2;go_roundw
     case rel=>exact⟨k+1,u,by omega,by go_num,rfl,by omega,A,t,a⟩
     case measure=>simp [intOf];omega
    ·go_wp2_with fail;refine(b4y x b bn (on+k*2) k _ d.H.c5 d.H.c6 m0).mono ?_;rintro e T ⟨rfl,o⟩;have L:=a.trans o;cases K:a0x x k
     ·have N:=uU (show ¬R5 x from λr=>by
       have:=((a9i x).1 r).1 k g (by simpa using I);rw[<-a9c,K] at this;simp at this)
      go_wp2;go_ret;exact⟨false,rfl,⟨λf=>by simp at f,λr=>(N r).elim⟩,L⟩
     ·have t:=uH E (λ_=>a9c.1 K);go_wp2;go_roundw
      case rel=>exact⟨k+1,u,by omega,by go_num,rfl,by omega,A,t,L⟩
      case measure=>simp [intOf];omega
   ·have A:=uU (show u+1=(a6p x (k+1)).length by have:=uH G;unfold a6p at *;rw[a2x _ _ _ (by simpa [a7g] using y)];simp;exact this);have t:=uH E (λe=>by rw[e] at y;simp at y);go_wp2;go_roundw
    case rel=>exact⟨k+1,u+1,by omega,by go_num,by go_num,by omega,A,t,a⟩
    case measure=>simp [intOf];omega
  ·have B:k=x.A.length:=by omega
   have U:=uU (show u=(a6p x x.A.length).length by have:=uH G;rw[B] at this;exact this);have J:=uU (show ∀j,j<x.A.length->(x.c j).J=2->a4f x j from λj O=>uH HA j (by omega));have M:=HV.ext a;have d8:=M.H.c8;have d:=uU M;go_wp2_with fail;refine(b3b x b _ d.H.c5).mono ?_;rintro e T ⟨rfl,rfl⟩;cases P:a2a x
   ·have NM:=uU (show ¬uY x from λm=>by rw[<-a2n,P] at m;simp at m);by_cases ab:0<u
    ·have N:=uU (show ¬R5 x from λr=>by
      have:=((a9i x).1 r).2.1 NM;have:=uH U;omega)
     go_wp2;go_ret;exact⟨false,rfl,⟨λf=>by simp at f,λr=>(N r).elim⟩,a⟩
    ·have p:u=0:=by omega
     subst p;cases n:((x.D.length:Int) == 0)
     ·have N:=uU (show ¬R5 x from λr=>by
       have:=((a9i x).1 r).2.2.1;have:=uH U;have ae:=beq_eq_false_iff_ne.1 n;omega)
      go_wp2;go_ret;exact⟨false,rfl,⟨λf=>by simp at f,λr=>(N r).elim⟩,a⟩
     ·go_wp2_with fail;refine(b0i x b _ d R).mono ?_;rintro e w3 ⟨r,rfl,l,o⟩;have D:=a.trans o
      have F:=uU (show r=true↔R5 x by
       rw[a9i];refine⟨λe=>⟨J,λ_=>U.symm,?_,(l.1 e).1,(l.1 e).2⟩,λq=>l.2 ⟨q.2.2.2.1,q.2.2.2.2⟩⟩;have:=uH U;simp at n;rw[n];exact this)
      go_wp2;go_ret;exact⟨r,rfl,F,D⟩
   ·have YM:=uU (a2n.1 P);cases n:((x.D.length:Int) == (u:Int))
    ·have N:=uU (show ¬R5 x from λr=>by
      have:=((a9i x).1 r).2.2.1;have:=uH U;simp at n;omega)
     go_wp2;go_ret;exact⟨false,rfl,⟨λf=>by simp at f,λr=>(N r).elim⟩,a⟩
    ·go_wp2_with fail;refine(b0i x b _ d R).mono ?_;rintro e w3 ⟨r,rfl,l,o⟩;have D:=a.trans o
     have F:=uU (show r=true↔R5 x by
      rw[a9i];refine⟨λe=>⟨J,λX=>(X YM).elim,?_,(l.1 e).1,(l.1 e).2⟩,λq=>l.2 ⟨q.2.2.2.1,q.2.2.2.2⟩⟩;have:=uH U;simp at n;omega)
     go_wp2;go_ret;exact⟨r,rfl,F,D⟩
theorem c1b(x:Hp)(w:World)(c:Option Addr)(d:Nat)(h:Option Addr)(g:Nat)(e:Option Addr)(f:Nat):
  ∀o v,#[iv x.M,iv x.K,iv x.born,.slice c x.B.length d,.slice h x.A.length g,iv x.E,iv x.I,iv x.sub,.slice e x.D.length f,iv x.per,iv x.V,iv x.Q,iv x.S][o]?=some v->((w.alloc (.cells #[iv x.M,iv x.K,iv x.born,.slice c x.B.length d,.slice h x.A.length g,iv x.E,iv x.I,iv x.sub,.slice e x.D.length f,iv x.per,iv x.V,iv x.Q,iv x.S] 34)).alloc (.cells #[iv x.M,iv x.K,iv x.born,.slice c x.B.length d,.slice h x.A.length g,iv x.E,iv x.I,iv x.sub,.slice e x.D.length f,iv x.per,iv x.V,iv x.Q,iv x.S,.slice none 0 0,.slice none 0 0] 121)).cell? (aA (w.heap.size+1) o)=some v:=λo v a=>by
 have i:o<13:=by
  rcases Nat.lt_or_ge o 13 with b | b
  ·exact b
  ·rw[Array.getElem?_eq_none (by simpa using b)] at a;cases a
 match o,i with
 | 0,_ | 1,_ | 2,_ | 3,_ | 4,_ | 5,_ | 6,_ | 7,_ | 8,_ | 9,_ | 10,_ | 11,_ | 12,_=>simp [go_sem];exact Option.some.inj a
theorem SlC.nth(h:SlC w (.slice ac x.A.length kc) x.A)(k:Nat)(e:k<x.A.length):∃bc oc,ac=some (aA bc oc)/\bc<w.heap.size/\ClAt w bc (oc+k*8) (x.c k):=by
 obtain⟨_,_,v,_,C⟩:=h;obtain⟨b,d,a,p⟩:=C k e;rw[Hp.c_eq] at p;simp only [Value.slice.injEq] at v;exact⟨b,d,v.1.trans a,let ⟨_,p0,_⟩:=p;uL p0,p⟩
theorem Opn.V(z:Array Value)
  (a:Ext ((w.alloc (.cells #[iv x.M,iv x.K,iv x.born,.slice ar x.B.length kr,.slice ac x.A.length kc,iv x.E,iv x.I,iv x.sub,.slice ag x.D.length kg,iv x.per,iv x.V,iv x.Q,iv x.S] 34)).alloc (.cells #[iv x.M,iv x.K,iv x.born,.slice ar x.B.length kr,.slice ac x.A.length kc,iv x.E,iv x.I,iv x.sub,.slice ag x.D.length kg,iv x.per,iv x.V,iv x.Q,iv x.S,.slice none 0 0,.slice none 0 0] 121)) w1) :
  Opn w ((w1.alloc (.cells (madeCells z (x.A.length*2)) 124)).setCell (aA (w.heap.size+1) 13) (sS w1.heap.size x.A.length x.A.length)) x w.heap.size (w.heap.size+1) w1.heap.size 0 0 ar kr ac kc ag kg (.slice none 0 0) []:=by
 have m:Ext w ((w.alloc (.cells #[iv x.M,iv x.K,iv x.born,.slice ar x.B.length kr,.slice ac x.A.length kc,iv x.E,iv x.I,iv x.sub,.slice ag x.D.length kg,iv x.per,iv x.V,iv x.Q,iv x.S] 34)).alloc (.cells #[iv x.M,iv x.K,iv x.born,.slice ar x.B.length kr,.slice ac x.A.length kc,iv x.E,iv x.I,iv x.sub,.slice ag x.D.length kg,iv x.per,iv x.V,iv x.Q,iv x.S,.slice none 0 0,.slice none 0 0] 121)):=((Ext.refl w).alloc _).alloc _;have l:w.heap.size+2<=w1.heap.size:=by have:=a.size;simp at this;omega
 have b:∀o v,w1.cell? (aA (w.heap.size+1) o)=some v->o≠13->((w1.alloc (.cells (madeCells z (x.A.length*2)) 124)).setCell (aA (w.heap.size+1) 13) (sS w1.heap.size x.A.length x.A.length)).cell? (aA (w.heap.size+1) o)=some v:=λo v h n=>by
  rw[uC _ (.inr (λe=>n e.symm))];exact((Ext.refl w1).alloc _).keep h
 have g:(w1.alloc (.cells (madeCells z (x.A.length*2)) 124)).cell? (aA (w.heap.size+1) 13)=some (.slice none 0 0):=((Ext.refl w1).alloc _).keep (a.keep (by simp [go_sem]));have d:w1.cell? (aA (w.heap.size+1) 14)=some (.slice none 0 0):=a.keep (by simp [go_sem])
 have f:w1.frozen? (aA (w.heap.size+1) 14)=false:=by
  rw[a.frozen (p:=(aA (w.heap.size+1) 14)) (by simp)];simp [go_sem]
 refine⟨((m.trans a).alloc _).setCell (by show _<=w.heap.size+1;omega) _,⟨Nat.le_refl _,by omega,by omega,by simp [World.setCell]⟩,?_,λo v c=>b o v (a.keep (c1b x w ar kr ac kc ag kg o v c)) ?_,World.cell?_setCell_same _ _ _ g,λi q=>by omega,λj k=>(a2s _ _ _ _ _ k).set _ _,dW.nil (b 14 _ d (by omega)) ?_,Ho.nil,List.Perm.refl _⟩
 ·rw[uC _ (.inl (by omega))];exact((Ext.refl w1).alloc _).keep (a.keep (by simp [go_sem]))
 ·intro e;rw[e] at c;simp at c
 ·rw[World.frozen?_setCell,((Ext.refl w1).alloc _).frozen (p:=(aA (w.heap.size+1) 14)) (by show w.heap.size+1<w1.heap.size;omega)];exact f
theorem c1c(x:Hp)(w:World)(hR:SlW w (.slice ar x.B.length kr) x.B)(Q:SlC w (.slice ac x.A.length kc) x.A)(Z:SlI w (.slice ag x.D.length kg) x.D):
  Calls prog 67 #[x.v (.slice ar x.B.length kr) (.slice ac x.A.length kc) (.slice ag x.D.length kg)] w λe w'=>∃b,Hid (e=.returned (pP b))/\Ext w w'/\Hid ((¬R1 x/\HAt w' b x ar kr ac kc ag kg)\/(R1 x/\∃bx bn vf F,Opn w w' x bx b bn x.A.length x.A.length ar kr ac kc ag kg vf F)):=by
 have j:=uU (And.intro hR (And.intro Q Z));have lc:x.A.length<=35184372088832:=let ⟨_,_,_,l,_⟩:=Q;l;clear hR Q Z;go_enter func67,ntmps67;go_wp2_with fail;have s:Ext w ((w.alloc (.cells #[iv x.M,iv x.K,iv x.born,.slice ar x.B.length kr,.slice ac x.A.length kc,iv x.E,iv x.I,iv x.sub,.slice ag x.D.length kg,iv x.per,iv x.V,iv x.Q,iv x.S] 34)).alloc (.cells #[iv x.M,iv x.K,iv x.born,.slice ar x.B.length kr,.slice ac x.A.length kc,iv x.E,iv x.I,iv x.sub,.slice ag x.D.length kg,iv x.per,iv x.V,iv x.Q,iv x.S,.slice none 0 0,.slice none 0 0] 121)):=((Ext.refl w).alloc _).alloc _;have y:=d0p x _ (w.heap.size+1) (c1b x w ar kr ac kc ag kg) (SlW.ext s j.1) (SlC.ext s j.2.1) (SlI.ext s j.2.2);refine(a4g x (w.heap.size+1) _ y).mono ?_;rintro e d ⟨r,rfl,A,g⟩;have X1:=uU (s.trans g);cases r
 ·have N:=uU (show ¬R1 x from λr=>by have:=A.2 r;simp at this);have H1:=uU (y.ext g);clear A g y s;go_wp2_with fail;go_ret;exact⟨w.heap.size+1,rfl,X1,.inl ⟨N,H1⟩⟩
 have Y:=uU (A.1 rfl);have ab:x.A.length<=8000:=by have:=Y.M;have:=Y.A;omega
 have ah:w.heap.size+2<=d.heap.size:=by have:=g.size;simp at this;omega
 have ad:w.heap.size<d.heap.size:=by omega
 have H:w.heap.size+1<d.heap.size:=by omega
 obtain⟨z,J⟩:=mkNodes x.A.length (by omega) d;have q:=Opn.V z g;rw[World.setCell_alloc_past _ _ _ _ H] at q;have S0:=uU q;clear q;have b4:d.cell? (aA w.heap.size 4)=some (.slice ac x.A.length kc):=g.keep (by simp [go_sem]);have O:d.cell? (aA (w.heap.size+1) 13)=some (.slice none 0 0):=g.keep (by simp [go_sem])
 have I:d.frozen? (aA (w.heap.size+1) 13)=false:=by
  rw[g.frozen (p:=(aA (w.heap.size+1) 13)) (by simp)];simp [go_sem]
 clear A y s g;go_wp2_with fail;go_loopw [22] (λi wr=>∃(k:Nat) (vf:Value) (F:List Int),k<=x.A.length/\i=iv k/\Opn w wr x w.heap.size (w.heap.size+1) d.heap.size k k ar kr ac kc ag kg vf F) (λi _=>x.A.length-(intOf i).toNat)
 case atStart=>exact⟨0,_,_,Nat.zero_le _,rfl,S0⟩
 case round=>
  clear S0 b4 O I J;obtain⟨k,vf,F,hk,rfl,a⟩:=hrel;have HO:=uU a;by_cases n:k<x.A.length
  ·obtain⟨bc,oc,h,af,vp,t,_⟩:=SlC.nth j.2.1 k n;have P0:=uU t;clear t;have V:=a.x4;have B:=a.n13;rw[h] at V;obtain⟨⟨u1,v1⟩,f1⟩:=a.o (k*2) (by omega);obtain⟨⟨u2,v2⟩,f2⟩:=a.o (k*2+1) (by omega);have ae:(0:Int)<=(k:Int):=by omega
   have aa:(k:Int)<(x.A.length:Int):=by omega
   have M:d.heap.size<wr.heap.size:=a.hb.2.2.2;have X:=uU (a.lay h n);have L:=uU h;clear a h;go_wp2_with fail
   go_region
   generalize u:((wr.setCell (aA d.heap.size (k*2)) (iv k)).setCell (aA d.heap.size (k*2+1)) (pQ bc (oc+k*8))).drew=W2;have m:=uU (X.same (w':=W2) (by rw[<-u];rfl) (by rw[<-u];rfl) (by rw[<-u];rfl) (by rw[<-u];rfl));have P:=m.x4;rw[uH L] at P;have p0:=m.e.keep P0;have W:F.length<=1000000000:=by have:=m.len;omega
   have K:d.heap.size+1<=W2.heap.size:=m.hb.2.2.2;clear u X V B v1 v2 f1 f2 M;cases q:((x.c k).st == 0)
   ·have C:=uU (m.skip q);go_wp2_with fail;go_roundw
    case rel=>exact⟨k+1,vf,F,by omega,by go_num,C⟩
    case measure=>simp [intOf];omega
   ·go_wp2_with fail;refine(b4w _ (d.heap.size+1) (w.heap.size+1) 14 vf F (k:Int) m.f K m.fo (by omega)).mono ?_;rintro e w3 ⟨rfl,v3,F3,T,S,U,R⟩;have C:=uU (m.put q T S U R);clear T S U R;go_wp2_with fail;go_roundw
    case rel=>exact⟨k+1,v3,F3,by omega,by go_num,C⟩
    case measure=>simp [intOf];omega
  ·have G:k=x.A.length:=by omega
   subst G;have D:=uU a;have E:=uU a.e;clear a hk n;go_wp2_with fail;go_ret;exact⟨w.heap.size+1,rfl,E,.inr ⟨Y,_,_,_,_,D⟩⟩
theorem d0q(x:Hp)(w:World)(d:SlW w (.slice ar x.B.length kr) x.B)(a:SlC w (.slice ac x.A.length kc) x.A)(c:SlI w (.slice ag x.D.length kg) x.D):
  Calls prog 67 #[x.v (.slice ar x.B.length kr) (.slice ac x.A.length kc) (.slice ag x.D.length kg)] w λe w'=>∃b,Hid (e=.returned (pP b))/\Ext w w'/\Hid ((¬R1 x/\HAt w' b x ar kr ac kc ag kg)\/(R1 x/\∃an kn base vf F,VAt w' b x ar kr ac kc ag kg an kn/\FAt w' b x base vf F/\Hid (∃bn on,an=some (aA bn on)))):=
 (c1c x w d a c).mono λ_ _ ⟨b,g,j,h⟩=>⟨b,g,j,by
  rcases h with h | ⟨i,k,bn,vf,F,f⟩
  ·exact .inl h
  ·exact .inr ⟨i,_,_,_,_,_,(f.done d a c).1,(f.done d a c).2,⟨_,_,rfl⟩⟩⟩
theorem SAt.ring[Inhabited uQ](h:SAt B w b x ar kr v4 v8 br cB cO bn pb pa pk kn hd vf F vk K role)(r:RAt w' b bn hd' G)(o:uX (λq=>q=b) w w')(n:Nf1 b w')(c:∀k,(k<15\/k=4017)->w'.cell? (aA b k)=w.cell? (aA b k)):
  SAt B w' b { x with D:=G } ar kr v4 v8 br cB cO bn pb pa pk kn hd' vf F vk K role:=by
 have g:∀q,q<w.heap.size->role q≠0->w'.heap[q]?=w.heap[q]?:=λq i t=>o.block q i (λe=>t (by rw[e];exact h.sp.b))
 have m:=g bn h.sb.lo.2.2.1 (by rw[h.sp.n];omega);refine⟨⟨h.sb.bx.of λk l=>c k (by omega),h.sb.ha,(c 13 (by omega)).trans h.sb.n13,λk l=>⟨(World.cell?_of_block (a:=(aA bn _)) m).trans (h.sb.nd k l).1,(World.cell?_of_block (a:=(aA bn _)) m).trans (h.sb.nd k l).2⟩,⟨(c 14 (by omega)).trans h.sb.fr.hd,n.2 14,uN h.sb.fr.own (λq i=>g q (h.sb.fr.own.lt q i).2 (by rw[h.sp.f q i];omega)),h.sb.fr.apart⟩,r,(c 4017 (by omega)).trans h.sb.k0,uN h.sb.kp (λq i=>g q (h.sb.kp.lt q i).2 (by rw[h.sp.k q i];omega)),n,⟨h.sb.lo.1,h.sb.lo.2.1,h.sb.lo.2.2.of m o.size⟩⟩,?_,⟨h.sp.b,h.sp.n,h.sp.r,h.sp.c,h.sp.f,h.sp.k,h.sp.p⟩,h.pr.of (λq i u=>g q i (by rw[u];omega)) (λ_ _ h=>h)⟩;have:=h.rw.same o.size (λj=>g br (h.rw.nr j).1.1 (by rw[h.sp.r j];omega)) (λq i=>g (cB q) (h.rw.nc q i).1.1 (by rw[h.sp.c q i];omega)) (λq i j=>g (pb q) (h.rw.pl q i j).2.1.1 (by rw[h.sp.p q i j];omega));exact⟨this.r,this.s,this.p7,this.p,this.pl,this.nr,this.nc,this.d,this.dp,this.dc,this.kp⟩
theorem SAt.V[Inhabited uQ]{w2:World}{bx b2:Nat}{bc:Nat}{Z:Array Value}{T:TypeId}(hz:∀q,(default:uQ).z q=none)
  (ho:Opn w1 w2 x bx b2 bn x.A.length x.A.length ar kr ac kc ag kg vf F) (hrw:Rws B w1 x br bc pb pa pk) (hB:B<=w1.heap.size) (har:0<x.B.length->ar=some ⟨br,0,none⟩) (hac:0<x.A.length->ac=some ⟨bc,0,none⟩) (hr:0<x.B.length)
  (hZ:Z.size=4018/\(Z[0]?=some (iv x.M)/\Z[1]?=some (iv x.K)/\Z[2]?=some (iv x.born)/\Z[3]?=some (.slice ar x.B.length kr)/\Z[4]?=some (.slice ac x.A.length kc)/\Z[5]?=some (iv x.E)/\Z[6]?=some (iv x.I)/\Z[7]?=some (iv x.sub)/\Z[8]?=some (.slice ag x.D.length kg)/\Z[9]?=some (iv x.per)/\Z[10]?=some (iv x.V)/\Z[11]?=some (iv x.Q)/\Z[12]?=some (iv x.S)/\Z[13]?=some (.slice (some ⟨bn,0,none⟩) x.A.length x.A.length)/\Z[14]?=some vf)/\Z[4015]?=some (iv 0)/\Z[4016]?=some (iv 0)/\Z[4017]?=some (.slice none 0 0)) :
  ∃role,SAt B (w2.alloc (.cells Z T)) w2.heap.size { x with D:=[] } ar kr (.slice ac x.A.length kc) (.slice ag x.D.length kg) br (λ_=>bc) (λq=>q*8) bn pb pa pk x.A.length 0 vf F (.slice none 0 0) [] role:=by
 obtain⟨hZs,⟨z0,z1,z2,z3,z4,z5,z6,z7,z8,z9,z10,z11,z12,z13,z14⟩,y0,y1,y2⟩:=hZ;obtain⟨hb1,hb2,hb3,hb4⟩:=ho.hb;have xe:Ext w1 (w2.alloc (.cells Z T)):=ho.e.alloc _;have x2:Ext w2 (w2.alloc (.cells Z T)):=(Ext.refl w2).alloc _;have hnew:(w2.alloc (.cells Z T)).heap[w2.heap.size]?=some (.cells Z T):=heap_alloc_new w2 _;have cz:∀o,(w2.alloc (.cells Z T)).cell? ⟨w2.heap.size,o,none⟩=Z[o]?:=λo=>cell_of_row _ w2.heap.size o _ _ (0,0) hnew
 have nz:Nf1 w2.heap.size (w2.alloc (.cells Z T)):=⟨by simp,λj=>by simp [go_sem]⟩;have lr:=(hrw.nr hr).1.1;have lsz:=ho.e.size;have lp:∀q,q<x.A.length->0<pk q->pb q<w1.heap.size:=λq hq hl=>(hrw.pl q hq hl).2.1.1
 have lf:∀q,vf.ownBlock=some q->bn+1<=q/\q<w2.heap.size:=λq hq=>ho.f.own.lt q hq
 refine⟨λq=>if q=w2.heap.size then 0 else if q=bn then 1 else if q=br then 2 else if 0<x.A.length/\q=bc then 3 else
  (open Classical in if h:∃i,i<x.A.length/\0<pk i/\pb i=q then 6+Classical.choose h else 4),⟨⟨(cz 0).trans z0,(cz 1).trans z1,(cz 2).trans z2,(cz 3).trans z3,(cz 4).trans z4,(cz 5).trans z5,(cz 6).trans z6,(cz 7).trans z7,(cz 8).trans z8,(cz 9).trans z9,(cz 10).trans z10,(cz 11).trans z11,(cz 12).trans z12⟩,har,(cz 13).trans z13,λi hi=>?_,⟨(cz 14).trans z14,nz.2 14,a6z (ho.f.own.alloc _) (by omega),λe=>by have:=(lf _ e).2;omega⟩,⟨by omega,by simp,(cz 4015).trans y0,(cz 4016).trans y1,λi hi=>by simp at hi,λj hj=>⟨Z[15+j]'(by omega),(cz _).trans (by simp)⟩⟩,(cz 4017).trans y2,World.ownsRow_nil _ _ _ _,nz,⟨by omega,by omega,by simp;omega,λj hj=>(ho.o j hj).ext x2⟩⟩,?_,?_,λq o h=>by rw[hz q] at h;cases h⟩
 ·obtain⟨bc',oc,e,p,q⟩:=ho.n i hi;have e2:=(hac (Nat.lt_of_le_of_lt (Nat.zero_le _) hi)).symm.trans e;simp only [Option.some.injEq,Addr.mk.injEq] at e2;obtain⟨rfl,rfl,_⟩:=e2;rw[Nat.zero_add] at q;exact⟨x2.keep p,x2.keep q⟩
 ·have:=(hrw.ext xe).rwn;exact⟨this.r,this.s,this.p7,this.p,this.pl,this.nr,this.nc,this.d,this.dp,this.dc,this.kp⟩
 ·refine⟨if_pos rfl,?_,λ_=>?_,λq hq=>?_,λq hq=>?_,λq hq=>by simp [Value.ownBlock] at hq,λq hq hl=>?_⟩
  ·rw[if_neg (by omega),if_pos rfl]
  ·rw[if_neg (by omega),if_neg (by omega),if_pos rfl]
  ·have hl:0<x.A.length:=by have:q<x.A.length:=hq;omega
   have l1:=(hrw.nc hl).1.1;have l2:=hrw.d hl;rw[if_neg (by omega),if_neg (by omega),if_neg (λe=>l2 e.symm),if_pos ⟨hl,rfl⟩]
  ·have l1:=lf q hq;rw[if_neg (by omega),if_neg (by omega),if_neg (by omega),if_neg (λe=>by have:=(hrw.nc e.1).1.1;omega),dif_neg (λ⟨i,h1,h2,h3⟩=>by have:=lp i h1 h2;omega)]
  ·have l1:=lp q hq hl;have l2:=(hrw.pl q hq hl).2.2.1;have hex:∃i,i<x.A.length/\0<pk i/\pb i=pb q:=⟨q,hq,hl,rfl⟩;rw[if_neg (by omega),if_neg (by omega),if_neg l2.1,if_neg (λe=>l2.2 e.2),dif_pos hex];have sp:=Classical.choose_spec hex
   have:Classical.choose hex=q:=by
    rcases Nat.decEq (Classical.choose hex) q with h | h
    ·exact absurd sp.2.2 (hrw.dp _ q sp.1 hq h sp.2.1 hl)
    ·exact h
   rw[this]
theorem SAt.setc[Inhabited uQ]{c':Cl}
  (h:SAt B w b x ar kr v4 v8 br cB cO bn pb pa pk kn hd vf F vk K role) (I:i<x.A.length) (X:c'.F=(x.c i).F) (o:uX (λq=>q=cB i) w w') (W:S7 w' (cB i) (cO i) c') (J:∀k,(k<cO i\/cO i+7<=k)->w'.cell? (aA (cB i) k)=w.cell? (aA (cB i) k)) (V:Nf1 (cB i) w') :
  SAt B w' b { x with A:=x.A.set i c' } ar kr v4 v8 br cB cO bn pb pa pk kn hd vf F vk K role:=by
 have m:∀q,q<w.heap.size->role q≠3->w'.heap[q]?=w.heap[q]?:=λq g D=>o.block q g (λe=>D (by rw[e];exact h.sp.c i I))
 have l:({ x with A:=x.A.set i c' }:Hp).A.length=x.A.length:=by simp
 have Q:=Hp.c_set x i c' I
 have y:∀q,(({ x with A:=x.A.set i c' }:Hp).c q).F=(x.c q).F:=λq=>by grind [uX.A,QFr.A,Hp.c,S7,Nf1]
 have v:=h.sb.same o.size (m b h.sb.nb.1 (by rw[h.sp.b];omega)) (m bn h.sb.lo.2.2.1 (by rw[h.sp.n];omega)) (λq g=>m q (h.sb.fr.own.lt q g).2 (by rw[h.sp.f q g];omega)) (λq g=>m q (h.sb.kp.lt q g).2 (by rw[h.sp.k q g];omega));have O:∀q,q<x.A.length->0<pk q->w'.heap[pb q]?=w.heap[pb q]?:=λq g l=>m (pb q) (h.rw.pl q g l).2.1.1 (by rw[h.sp.p q g l];omega)
 have M:∀q,q<x.A.length->cB q≠cB i->w'.heap[cB q]?=w.heap[cB q]?:=λq g e=>o.block (cB q) (h.rw.nc q g).1.1 e
 have N:∀q,q<x.A.length->q≠i->∀k,k<8->w'.cell? (aA (cB q) (cO q+k))=w.cell? (aA (cB q) (cO q+k)):=λq g e k u=>by
  by_cases A:cB q=cB i
  ·rw[A];rcases h.rw.dc q i g I e with d | d | d
   ·exact(d A).elim
   ·exact J _ (by omega)
   ·exact J _ (by omega)
  ·exact World.cell?_of_block (a:=(aA (cB q) _)) (M q g A)
 have P:∀q,q<x.A.length->Nf1 (cB q) w':=λq g=>by
  by_cases A:cB q=cB i
  ·rw[A];exact V
  ·exact uJ (h.rw.nc q g).1 (M q g A) o.size
 refine⟨⟨v.bx,v.ha,by rw[l];exact v.n13,λk u=>v.nd k (by rw[l] at u;exact u),v.fr,v.rg,v.k0,v.kp,v.nb,v.lo⟩,⟨λk u=>?_,λq g=>?_,λq g=>?_,λq g k u=>?_,λq g z=>?_,λD=>⟨uJ (h.rw.nr D).1 (m br (h.rw.nr D).1.1 (by rw[h.sp.r D];omega)) o.size,(h.rw.nr D).2⟩,λq g=>⟨P q (by rw[l] at g;exact g),(h.rw.nc q (by rw[l] at g;exact g)).2⟩,λq g=>h.rw.d q (by rw[l] at g;exact g),λq E g t C G U=>?_,λq E g t C=>h.rw.dc q E (by rw[l] at g;exact g) (by rw[l] at t;exact t) C,λq g=>?_⟩,⟨h.sp.b,h.sp.n,h.sp.r,λq g=>h.sp.c q (by rw[l] at g;exact g),h.sp.f,h.sp.k,λq g z=>?_⟩,h.pr.of (λq g G=>m q g (by rw[G];omega)) (λ_ _ h=>h)⟩
 ·exact(h.rw.r k u).of λj _=>World.cell?_of_block (a:=(aA br _)) (m br (h.rw.nr (by have:k<x.B.length:=u;omega)).1.1 (by rw[h.sp.r (by have:k<x.B.length:=u;omega)];omega))
 ·rw[l] at g;rw[Q q];by_cases e:q=i
  ·subst e;rw[if_pos rfl];exact W
  ·rw[if_neg e];exact(h.rw.s q g).of λj H=>N q g e j (by omega)
 ·rw[l] at g;rw[y q];by_cases e:q=i
  ·subst e;rw[J _ (by omega)];exact h.rw.p7 q g
  ·rw[N q g e 7 (by omega)];exact h.rw.p7 q g
 ·rw[l] at g;have A:(({ x with A:=x.A.set i c' }:Hp).c q).p k=(x.c q).p k:=by simp only [Cl.p,y q]
  rw[y q] at u;rw[A];exact(h.rw.p q g k u).of λj _=>World.cell?_of_block (a:=(aA (pb q) _)) (O q g (h.rw.pw g (by omega)))
 ·rw[l] at g;obtain⟨T,S,L,R⟩:=h.rw.pl q g z;exact⟨T,a0g S (O q g z) o.size,⟨L.1,λj H=>L.2 j (by rw[l] at H;exact H)⟩,R⟩
 ·rw[l] at g t;exact h.rw.dp q E g t C G U
 ·rw[l] at g;rw[y q];exact h.rw.kp q g
 ·rw[l] at g;exact h.sp.p q g z
theorem b9r(x:Hp)(b:Nat)(w:World)(a:w.cell? (aA b 5)=some (iv x.E)):
  Calls prog 145 #[pP b] w λe w'=>e=.returned (.bool (mkB x))/\w'=w:=by
 cases q:(x.E == 1)
 ·have E:=uU (show mkB x=(x.E == 2) by simp [mkB,q]);go_enter func145,ntmps145;go_wp2;go_ret;exact⟨by rw[uH E];rfl,rfl⟩
 ·have E:=uU (show mkB x=true by simp [mkB,q]);go_enter func145,ntmps145;go_wp2;go_ret;exact⟨by rw[uH E];rfl,rfl⟩
theorem a6m(c:Cl)(b i d a:Nat)(w:World)(h:w.cell? (aA b (i*2+1))=some (pQ d a))(s:S7 w d a c):
  Calls prog 146 #[ndp b i] w λe w'=>e=.returned (.bool (whB c))/\w'=w:=by
 have g:=s.1;have f:=s.2.2.2.2.2.1;cases q:(c.st == 1)
 ·have E:=uU (show whB c=false by simp [whB,q]);go_enter func146,ntmps146;go_wp2;go_ret;exact⟨by rw[uH E];rfl,rfl⟩
 ·have E:=uU (show whB c=(c.J == 0) by simp [whB,q]);go_enter func146,ntmps146;go_wp2;go_ret;exact⟨by rw[uH E];rfl,rfl⟩
theorem b2p[Inhabited uQ](i:Nat)(w:World)
  (h:SAt B w b x ar kr v4 v8 br cB cO bn pb pa pk kn hd vf F vk K role) (f:i<x.A.length) (Y:eQ x i=true->x.D.length<4000) (a:World) (z:a.heap.size<=B) (r:Ext a w) :
  Calls prog 82 #[pP b,ndp bn i] w λe w'=>e=.returned (.tuple #[])/\Hid (SAt B w' b (uD x i) ar kr v4 v8 br cB cO bn pb pa pk kn hd vf F vk K role)/\Ext a w'/\Hid (∀q,q<w.heap.size->q≠b->q≠cB i->w'.heap[q]?=w.heap[q]?):=by
 have H:=uU h;have P:=h.sb.bx.2.2.2.2.2.1;obtain⟨m0,L⟩:=h.sb.nd i f;have S:=uU (h.rw.s i f);go_enter func82,ntmps82;go_wp2_with fail;refine(b9r x b _ P).mono ?_;rintro e w1 ⟨rfl,rfl⟩;cases y:mkB x
 ·have E:=uU (show uD x i=x by unfold uD;rw[if_neg (by simp [eQ,y])]);go_wp2_with fail
  try simp only [Exit.inBlock,Exit.then]
  refine bodyPost_ret (results_none rfl _ _ _) rfl ?_;exact⟨rfl,by rw[uH E];exact uH H,r,λ_ _ _ _=>rfl⟩
 ·go_wp2_with fail;refine(a6m (x.c i) bn i (cB i) (cO i) _ L S).mono ?_;rintro e g ⟨rfl,rfl⟩;cases v:whB (x.c i)
  ·have E:=uU (show uD x i=x by unfold uD;rw[if_neg (by simp [eQ,v])]);go_wp2_with fail
   try simp only [Exit.inBlock,Exit.then]
   refine bodyPost_ret (results_none rfl _ _ _) rfl ?_;exact⟨rfl,by rw[uH E];exact uH H,r,λ_ _ _ _=>rfl⟩
  ·have t:eQ x i=true:=by simp [eQ,y,v]
   have E:=uU (show uD x i={ x with A:=x.A.set i (tQ (x.c i)),D:=x.D++[(i:Int)] } by unfold uD;rw[if_pos t]);have j:=Y t;have s5:=S.2.2.2.2.2.1;have Z:=(H.rw.nc i f).1.2 (cO i+5)
   have C:=uU (show SAt B (g.setCell (aA (cB i) (cO i+5)) (iv 1)) b { x with A:=x.A.set i (tQ (x.c i)) } ar kr v4 v8 br cB cO bn pb pa pk kn hd vf F vk K role from
    H.setc f rfl (uX.setCell (S:=λq=>q=cB i) (uX.refl _ g) (p:=(aA (cB i) (cO i+5))) rfl _) (by
     obtain⟨N,U,O,M,I,D,J⟩:=S;refine⟨?_,?_,?_,?_,?_,World.cell?_setCell_same _ _ _ D,?_⟩
     ·rw[uC _ (.inr (by omega))];exact N
     ·rw[uC _ (.inr (by omega))];exact U
     ·rw[uC _ (.inr (by omega))];exact O
     ·rw[uC _ (.inr (by omega))];exact M
     ·rw[uC _ (.inr (by omega))];exact I
     ·rw[uC _ (.inr (by omega))];exact J) (λk hk=>uC _ (.inr (by omega))) ((H.rw.nc i f).1.set _ _))
   have A:=uU (r.setCell (p:=(aA (cB i) (cO i+5))) (show a.heap.size<=cB i from Nat.le_trans z (H.rw.nc i f).2) (iv 1));have W:=uU (Nat.le_trans z H.sb.lo.1);go_wp2_with fail;refine(c2k b bn hd i x.D _ C.sb.rg C.sb.nb j).mono ?_;rintro e T ⟨rfl,m,d,l,n⟩;have R:=uU (C.ring m d l (λo ho=>n o (by omega)));have Q:=uU (show ∀q,q<g.heap.size->q≠b->q≠cB i->T.heap[q]?=g.heap[q]? from λq u X V=>(d.block q (by simpa [World.setCell] using u) X).trans (Below.heap_setCell _ _ _ _ V));have G:=uU (d.ext A (λq u e=>by have:=uH W;omega));go_wp2_with fail
   go_end0
   exact⟨rfl,by rw[uH E];exact uH R,G,Q⟩
theorem c5a[Inhabited uQ](i:Nat)(w:World)
  (h:SAt B w b x ar kr v4 v8 br cB cO bn pb pa pk kn hd vf F vk K role) (g:i<x.A.length) (j:eQ x i=true->x.D.length<4000) (a:World) (l:a.heap.size<=B) (k:Ext a w) :
  Calls prog 82 #[pP b,ndp bn i] w λe w'=>e=.returned (.tuple #[])/\Hid (SAt B w' b (uD x i) ar kr v4 v8 br cB cO bn pb pa pk kn hd vf F vk K role)/\Ext a w':=
 (b2p i w h g j a l k).mono λ_ _ ⟨f,d,c,_⟩=>⟨f,d,c⟩
theorem b3n(b d c:Nat)(w:World)(h:RAt w b d c []):
  Calls prog 235 #[pQ b 15] w λe w'=>e=.returned (.pointer none)/\Ext w w':=by
 have a:=h.r1;simp only [List.length_nil] at a;go_enter func235,ntmps235;go_wp2;go_ret;exact⟨rfl,Ext.refl _⟩
theorem a8a(b d a:Nat)(g:Int)(G:List Int)(w:World)(h:RAt w b d a (g::G)):
  Calls prog 235 #[pQ b 15] w λe w'=>e=.returned (ndp d g.toNat)/\Ext w w':=by
 have j:=h.r0;have f:=h.r1;have m:=h.hl;have o:=h.h0;have c:=h.rg 0 (by simp);have e:(a+0) % 4000=a:=by omega
 rw[e] at c;simp only [List.getElem_cons_zero] at c;have i:(((g::G).length:Nat):Int)=(G.length:Int)+1:=by simp
 rw[i] at f;have l:(((G.length:Int)+1) == 0)=false:=by simp;omega
 have n:(0:Int)<=(a:Int):=by omega
 have k:(a:Int)<4000:=by omega
 go_enter func235,ntmps235;go_wp2_with fail;go_quiet (fail);go_wp2;go_ret;exact⟨rfl,(Ext.refl _).drewN _⟩
theorem c8v:(prog.info? 126).map (λi=>(i.zero,i.size,i.bytes))=some (some (.pointer none),1,8):=by kernel_rfl
theorem SAt.white[Inhabited uQ](h:SAt B w b x ar kr v4 v8 br cB cO bn pb pa pk kn hd vf F vk K role)(i:Nat)(a:i<x.A.length):SAt B (w.setCell (aA (cB i) (cO i+5)) (iv 0)) b { x with A:=x.A.set i (qX (x.c i)) } ar kr v4 v8 br cB cO bn pb pa pk kn hd vf F vk K role:=by
 refine h.setc a rfl (uX.setCell (S:=λq=>q=cB i) (uX.refl _ w) (p:=(aA (cB i) (cO i+5))) rfl _) ?_ (λk n=>uC _ (.inr (by omega))) ((h.rw.nc i a).1.set _ _);obtain⟨f,g,j,d,m,e,l⟩:=h.rw.s i a;refine⟨?_,?_,?_,?_,?_,World.cell?_setCell_same _ _ _ e,?_⟩
 ·rw[uC _ (.inr (by omega))];exact f
 ·rw[uC _ (.inr (by omega))];exact g
 ·rw[uC _ (.inr (by omega))];exact j
 ·rw[uC _ (.inr (by omega))];exact d
 ·rw[uC _ (.inr (by omega))];exact m
 ·rw[uC _ (.inr (by omega))];exact l
theorem c5h[Inhabited uQ](h:SAt B w b x ar kr v4 v8 br cB cO bn pb pa pk kn hd vf F vk K role)(n8:x.A.length<=8000)(hp:x.E=3)(i:Nat)(U:x.I=(i:Int))(f:i<x.A.length)(hs:((x.c i).st == 1)=true)(hc:((x.c i).J == 0)=false)(hK:K.length<=8000)(a:World)(ha:a.heap.size<=B)(hx:Ext a w):
  Calls prog 331 #[.agg #[pP b]] w λe w'=>e=.returned (zV (cY x).E b)/\Hid (∃vk' role',SAt B w' b (cY x) ar kr v4 v8 br cB cO bn pb pa pk kn hd vf F vk' (K++[i]) role')/\Ext a w':=by
 have ei:x.I.toNat=i:=by omega
 have E:=uU (show cY x={ x with A:=x.A.set i (qX (x.c i)),I:=(i:Int)+1 } by
  unfold cY;rw[if_neg (by omega),ei,if_neg (by simp [whB,hc]),U])
 have EP:=uU (show(cY x).E=3 by rw[uH E];exact hp);have H:=uU h;obtain⟨i0,ae,ab,aa,ac⟩:=info_parts c8v;have T:=(Ext.refl w).alloc (.cells #[pP b] 235);have S:=h.sb.bx.2.2.2.2.2.2.1;rw[U] at S;have QA:=uU (a1v b x.A.length kn bn i _ (T.keep S) (T.keep h.sb.n13) f);have N:=uU T;have ak:b<w.heap.size:=h.sb.nb.1;have lo:=h.sb.lo.1;have hn:0<x.A.length:=by omega
 have HI:=uU U;have WH:=uU (show whB (x.c i)=false by simp [whB,hc]);have O:=uU (h.rw.nc i f);clear h hp T U S ei hc;go_enter func331,ntmps331;go_wp2_with fail;refine QA.mono ?_;rintro e w1 ⟨rfl,x1⟩;have r0:w1.cell? (aA w.heap.size 0)=some (pP b):=x1.keep (by simp [go_sem]);have X1:=uU (N.trans x1);have D:=uU (H.ext X1);have m1:=(D.sb.nd i f).2;have p0:=(D.rw.s i f).1;have p5:=(D.rw.s i f).2.2.2.2.2.1;have fc:=(D.rw.nc i f).1.2 (cO i+5);have QS:=uU (a6m (x.c i) bn i (cB i) (cO i) w1 m1 (D.rw.s i f));rw[uH WH] at QS;clear x1 N QA;go_wp2_with fail;refine QS.mono ?_;rintro e w2 ⟨rfl,ah⟩;subst ah;have t:=uU (D.white i f);obtain⟨l,n⟩:∃W,W=w2.setCell (aA (cB i) (cO i+5)) (iv 0):=⟨_,rfl⟩;rw[<-n] at t;have X2:=uU (show Ext a l by rw[n];exact(hx.trans X1).setCell (p:=(aA (cB i) (cO i+5))) (Nat.le_trans ha O.2) _)
 have s0:l.cell? (aA w.heap.size 0)=some (pP b):=by
  rw[n,uC _ (.inl (by have:=O.1.1;omega))];exact r0
 have P:=t.sb.k0;have J:w.heap.size<l.heap.size:=uL s0;have M:b<l.heap.size:=uL P;have L:cB i<w2.heap.size:=uL p5;obtain⟨r,m,ad⟩:∃a k,vk=.slice a K.length k:=⟨_,_,(a1d t.sb.kp).1⟩;subst ad;have Y:=t.sb.nb.2 4017;have hB:B<=l.heap.size:=by have:=t.sb.lo.1;omega
 have I:=uU t.sb.kp;have al:¬w.heap.size=b:=by omega
 have af:¬b=w.heap.size:=by omega
 go_wp2_with fail;rw[<-n];have NK:=uU (show ∀q,(Value.slice r K.length m).ownBlock=some q->q<w.heap.size from λq A=>(H.sb.kp.lt q A).2);have ag:=uU (show ∀q,(Value.slice r K.length m).ownBlock=some q->q≠b from λq A e=>by have h1:=t.sp.k q A;have h2:=t.sp.b;rw[e] at h1;omega);clear n m1 p0 p5 fc r0 L;have X:=uU (show ∀o,(l.drew.alloc o).ownsRow B 126 1 (.slice r K.length m) K.length (K.map (ndp bn))/\((l.alloc o).drew).ownsRow B 126 1 (.slice r K.length m) K.length (K.map (ndp bn)) from λo=>⟨uN I (λq A=>((Ext.refl l).drew.alloc o).block q (I.lt q A).2),uN I (λq A=>((Ext.refl l).alloc o).drew.block q (I.lt q A).2)⟩);go_region_law (refine step_append_lies _ rfl _ _ 130 rfl B 126 i0 (.pointer none) 1 8 underlying130 ae ab aa ac rfl (by decide) (.slice r K.length m) K.length (K.map (ndp bn)) (by first | rfl | simp [Act.eval,Act.put]) (by first | exact(X _).1 | exact(X _).2 | exact I.alloc _) _ 1 1 [ndp bn i] (by first | rfl | simp [Act.eval,Act.put];rfl) rfl (by intro j u Q;match j,Q with | 0,Q=>simp at Q;subst Q;simp [Addr.add,go_sem]) (by intro u hu;simp at hu;subst hu;rfl) (by decide) (by unfold maxLen;omega) (by omega) (by simp;omega) _ rfl ?_;intro g y C v d G ai;have z:=Ext.trans ((Ext.refl l).alloc (.cells #[ndp bn i] 126)) ((Ext.refl (l.alloc (.cells #[ndp bn i] 126))).drew);have R:=uU ((t.ext z).push d v (by simpa using G));have Z:C.heap[b]?=l.heap[b]?:=(d.block b (Nat.lt_of_lt_of_le M z.size) (λe=>uH ag b e.symm rfl)).trans (z.block b M);have es:C.heap[w.heap.size]?=l.heap[w.heap.size]?:=(d.block w.heap.size (Nat.lt_of_lt_of_le J z.size) (λe=>Nat.lt_irrefl _ (NK _ e.symm))).trans (z.block w.heap.size J);have t0:=(World.cell?_of_block (a:=(aA w.heap.size 0)) es).trans s0;have V:=(World.cell?_of_block (a:=(aA b 4017)) Z).trans P;have aj:=(World.frozen?_of_block (a:=(aA b 4017)) Z).trans Y;have an:b<C.heap.size:=uL V;have am:w.heap.size<C.heap.size:=uL t0;have X5:=uU (show Ext a (C.setCell (aA b 4017) (sS g (K.length+1) y)) from(a2g (X2.trans z) ((X _).2) ha d).setCell (p:=(aA b 4017)) (Nat.le_trans ha lo) _);clear v d G z Z es)
 all_goals
  have S:(C.setCell (aA b 4017) (sS g (K.length+1) y)).cell? (aA b 6)=some (iv i):=by have:=R.sb.bx.2.2.2.2.2.2.1;exact this.trans (by rw[uH HI])
  have f6:=R.sb.nb.2 6;have t1:(C.setCell (aA b 4017) (sS g (K.length+1) y)).cell? (aA w.heap.size 0)=some (pP b):=by rw[uC _ (.inl af)];exact t0
  have FN:=uU (R.I ((i:Int)+1));have XN:=uU (X5.setCell (p:=(aA b 6)) (show a.heap.size<=b by omega) (iv ((i:Int)+1)));go_wp2_with fail;go_ret;exact⟨by rw[uH EP];rfl,by rw[uH E];exact⟨_,_,FN⟩,XN⟩
theorem RAt.dropped{m:Nat}{g:Int}(h:RAt w b bn hd (g::G))(a:m=(hd+1) % 4000):
  RAt ((w.setCell (aA b 4015) (iv m)).setCell (aA b 4016) (iv G.length)) b bn m G:=by
 have l:=h.hl;simp at l;refine⟨by rw[a];exact Nat.mod_lt _ (by omega),by omega,?_,?_,λk d=>?_,λj i=>?_⟩
 ·rw[uC _ (.inr (by omega))];exact World.cell?_setCell_same _ _ _ h.r0
 ·have:(w.setCell (aA b 4015) (iv m)).cell? (aA b 4016)=some (iv (g::G).length):=by rw[uC _ (.inr (by omega))];exact h.r1
  exact World.cell?_setCell_same _ _ _ this
 ·have f:(m+k) % 4000<4000:=Nat.mod_lt _ (by omega);rw[uC _ (.inr (by omega)),uC _ (.inr (by omega))];have:=h.rg (k+1) (by simpa using d);have e:(hd+(k+1)) % 4000=(m+k) % 4000:=by rw[a];omega
  rw[e] at this
  simpa using this
 ·obtain⟨v,c⟩:=h.ro j i;exact⟨v,by rw[uC _ (.inr (by omega)),uC _ (.inr (by omega))];exact c⟩
theorem c8r(b f a:Nat)(g:Int)(G:List Int)(w:World)(h:RAt w b f a (g::G))(d:Nf1 b w):
  Calls prog 327 #[pQ b 15] w λe w'=>e=.returned (.tuple #[])/\Hid (RAt w' b f ((a+1) % 4000) G/\uX (λq=>q=b) w w'/\Nf1 b w'/\∀o,(o<15\/o=4017)->w'.cell? (aA b o)=w.cell? (aA b o)):=by
 have r:=h.r0;have k:=h.r1;have i:=h.hl;have v:=h.h0;have j:(((g::G).length:Nat):Int)=(G.length:Int)+1:=by simp
 rw[j] at k;have l:G.length+1<=4000:=by simpa using i
 have s:=d.2 4015;have u:=d.2 4016;obtain⟨m,c⟩:∃m,m=(a+1) % 4000:=⟨_,rfl⟩;have x:((a:Int)+1).tmod 4000=(m:Int):=by have:=b6h (a+1);rw[<-c] at this;simpa using this
 have n:=uU (show RAt ((w.setCell (aA b 4015) (iv m)).setCell (aA b 4016) (iv G.length)) b f m G/\uX (λq=>q=b) w ((w.setCell (aA b 4015) (iv m)).setCell (aA b 4016) (iv G.length))/\Nf1 b ((w.setCell (aA b 4015) (iv m)).setCell (aA b 4016) (iv G.length))/\∀o,(o<15\/o=4017)->((w.setCell (aA b 4015) (iv m)).setCell (aA b 4016) (iv G.length)).cell? (aA b o)=w.cell? (aA b o) from
  ⟨h.dropped c,uX.setCell (S:=λq=>q=b) (uX.setCell (S:=λq=>q=b) (uX.refl _ w) (p:=(aA b 4015)) rfl _) (p:=(aA b 4016)) rfl _,(d.set _ _).set _ _,λo t=>by rw[uC _ (.inr (by omega)),uC _ (.inr (by omega))]⟩)
 rw[<-c];clear h j i c d;go_enter func327,ntmps327;go_wp2_with fail
 go_end0
 exact⟨rfl,n⟩
theorem SAt.rdrop[Inhabited uQ](h:SAt B w b x ar kr v4 v8 br cB cO bn pb pa pk kn hd vf F vk K role)(r:RAt w' b bn hd' G/\uX (λq=>q=b) w w'/\Nf1 b w'/\∀o,(o<15\/o=4017)->w'.cell? (aA b o)=w.cell? (aA b o)):SAt B w' b { x with D:=G } ar kr v4 v8 br cB cO bn pb pa pk kn hd' vf F vk K role:=h.ring r.1 r.2.1 r.2.2.1 r.2.2.2
theorem c5c[Inhabited uQ](h:SAt B w b x ar kr v4 v8 br cB cO bn pb pa pk kn hd vf F vk K role)(s:Snd x)(J:x.E=1)(i:Nat)(v:x.I=(i:Int))(d:i<x.A.length)(a:World)(V:a.heap.size<=B)(L:Ext a w):
  Calls prog 328 #[.agg #[pP b]] w λe w'=>e=.returned (zV (dC x).E b)/\Hid (SAt B w' b (dC x) ar kr v4 v8 br cB cO bn pb pa pk kn hd vf F vk K role)/\Ext a w':=by
 have T:x.I.toNat=i:=by omega
 have k:=uU (show dC x={ (if yZ (x.c i)=true then uD x i else x) with I:=(i:Int)+1 } by unfold dC;rw[if_neg (by omega),T,v]);have H:=uU h;have A:=uU (show(dC x).E=1 by rw[uH k];split;exact((cU x i).2.2.2.2.2.1).trans J;exact J);have Y:=s.ok.n8;have t:=(Ext.refl w).alloc (.cells #[pP b] 233);have g:=h.sb.bx.2.2.2.2.2.2.1;rw[v] at g;have R:=uU (a1v b x.A.length kn bn i _ (t.keep g) (t.keep h.sb.n13) d);have M:=uU ((a4b s.ok).2 i d);have u:=uU t;have U:b<w.heap.size:=h.sb.nb.1;have X:=h.sb.lo.1;have G:=uU v;go_enter func328,ntmps328;go_wp2_with fail;refine R.mono ?_;rintro e I ⟨rfl,D⟩;have z:I.cell? (aA w.heap.size 0)=some (pP b):=D.keep (by simp [go_sem]);have j:=uU (u.trans D);have f:=uU (H.ext j);have Q:=uU (c2m (x.c i) bn i (cB i) (cO i) I (f.sb.nd i d).2 (f.rw.s i d));go_wp2_with fail;refine Q.mono ?_;rintro e y ⟨rfl,m⟩;subst m;cases q:yZ (x.c i)
 ·have E:=uU (show dC x={ x with I:=(i:Int)+1 } by rw[uH k,q];rfl);have g:y.cell? (aA b 6)=some (iv i):=by have:=f.sb.bx.2.2.2.2.2.2.1;rw[uH G] at this;exact this
  have O:=f.sb.nb.2 6;have n:=uU (f.I ((i:Int)+1));have l:=uU ((L.trans j).setCell (p:=(aA b 6)) (show a.heap.size<=b by omega) (iv ((i:Int)+1)));go_wp2;go_ret;exact⟨by rw[uH A];rfl,by rw[uH E];exact uH n,l⟩
 ·have E:=uU (show dC x={ uD x i with I:=(i:Int)+1 } by rw[uH k,q];rfl);go_wp2_with fail;refine(b2p i _ f d M a V (L.trans j)).mono ?_;rintro e C ⟨rfl,r,P,N⟩;have o:w.heap.size<y.heap.size:=uL z;have S:cB i<w.heap.size:=(H.rw.nc i d).1.1;have W:C.cell? (aA w.heap.size 0)=some (pP b):=(World.cell?_of_block (a:=(aA w.heap.size 0)) (N w.heap.size o (by omega) (by omega))).trans z;have g:C.cell? (aA b 6)=some (iv i):=by have:=r.sb.bx.2.2.2.2.2.2.1;rw[(cU x i).2.2.2.2.2.2.1,uH G] at this;exact this
  have O:=r.sb.nb.2 6;have n:=uU (r.I ((i:Int)+1));have l:=uU (P.setCell (p:=(aA b 6)) (show a.heap.size<=b by omega) (iv ((i:Int)+1)));go_wp2;go_ret;exact⟨by rw[uH A];rfl,by rw[uH E];exact uH n,l⟩
theorem c8u[Inhabited uQ](h:SAt B w b x ar kr v4 v8 br cB cO bn pb pa pk kn hd vf F vk K role)(o:x.E=3)(i:x.I=x.A.length)(a:World)(q:a.heap.size<=B)(p:Ext a w):
  Calls prog 331 #[.agg #[pP b]] w λe w'=>e=.returned (zV (cY x).E b)/\Hid (SAt B w' b (cY x) ar kr v4 v8 br cB cO bn pb pa pk kn hd vf F vk K role)/\Ext a w':=by
 have E:=uU (show cY x=cZ x (3+1) 0 by unfold cY;rw[if_pos i];rfl);have H:=uU h;have m:=uU o;have c:=(Ext.refl w).alloc (.cells #[pP b] 235);have j:=uU (a7x x.I b x.A.length kn (some (aA bn 0)) _ (c.keep h.sb.bx.2.2.2.2.2.2.1) (c.keep h.sb.n13) (by simpa using i));have d:=uU c;go_enter func331,ntmps331;go_wp2_with fail;refine j.mono ?_;rintro e l ⟨rfl,g⟩;have s:l.cell? (aA w.heap.size 0)=some (pP b):=g.keep (by simp [go_sem]);have f:=uU (d.trans g);go_wp2_with fail;refine(a7z (H.ext f) 3 m rfl rfl (by omega) a q (p.trans f)).mono ?_;rintro e r ⟨rfl,k,n⟩;go_wp2;go_ret;exact⟨by rw[uH E];rfl,by rw[uH E];exact uH k,n⟩
theorem b6k(s:Snd x)(i:Nat)(l:x.I=(i:Int))(d:i<x.A.length)(f:(x.c i).st≠1):cY x={ x with I:=(i:Int)+1 }:=by
 have g:x.I.toNat=i:=by omega
 have k:qX (x.c i)=x.c i:=by
  have h:(x.c i).J=0:=by
   rcases s.r2.1 i d with⟨_,b,_⟩ | ⟨_,b⟩ | ⟨a,_⟩
   ·exact b.2.2.2.2.1
   ·exact b.1.2.2.2.2.1
   ·exact absurd a f
  unfold qX;rw[<-h]
 have j:x.A.set i (x.c i)=x.A:=by
  rw[<-Hp.c_eq x i d];simp
 unfold cY;rw[if_neg (by omega),g,if_neg (by simp [whB];intro e;exact absurd e f),k,j,l]
theorem c5g[Inhabited uQ](h:SAt B w b x ar kr v4 v8 br cB cO bn pb pa pk kn hd vf F vk K role)(s:Snd x)(I:x.E=3)(i:Nat)(m:x.I=(i:Int))(d:i<x.A.length)(t:((x.c i).st == 1)=false)(a:World)(Q:a.heap.size<=B)(J:Ext a w):
  Calls prog 331 #[.agg #[pP b]] w λe w'=>e=.returned (zV (cY x).E b)/\Hid (SAt B w' b (cY x) ar kr v4 v8 br cB cO bn pb pa pk kn hd vf F vk K role)/\Ext a w':=by
 have E:=uU (b6k s i m d (by simpa using t));have z:=uU (show(cY x).E=3 by rw[uH E];exact I);have H:=uU h;have P:=s.ok.n8;have k:=(Ext.refl w).alloc (.cells #[pP b] 235);have j:=h.sb.bx.2.2.2.2.2.2.1;rw[m] at j;have D:=uU (a1v b x.A.length kn bn i _ (k.keep j) (k.keep h.sb.n13) d);have l:=uU k;have N:=h.sb.lo.1;have G:=uU m;have y:=uU (show whB (x.c i)=false by simp [whB,t]);go_enter func331,ntmps331;go_wp2_with fail;refine D.mono ?_;rintro e r ⟨rfl,q⟩;have L:r.cell? (aA w.heap.size 0)=some (pP b):=q.keep (by simp [go_sem]);have n:=uU (l.trans q);have f:=uU (H.ext n);have v:=(f.sb.nd i d).2;have O:=(f.rw.s i d).1;have o:=uU (a6m (x.c i) bn i (cB i) (cO i) r v (f.rw.s i d));rw[uH y] at o;go_wp2_with fail;refine o.mono ?_;rintro e u ⟨rfl,g⟩;subst g;have j:u.cell? (aA b 6)=some (iv i):=by have:=f.sb.bx.2.2.2.2.2.2.1;rw[uH G] at this;exact this
 have M:=f.sb.nb.2 6;have C:=uU (f.I ((i:Int)+1));have A:=uU ((J.trans n).setCell (p:=(aA b 6)) (show a.heap.size<=b by omega) (iv ((i:Int)+1)));go_wp2;go_ret;exact⟨by rw[uH z];rfl,by rw[uH E];exact uH C,A⟩
theorem c5r(b x p n:Nat)(G:List Int)(w:World)(h:RAt w b x p G)(A:∀i,i<n->w.cell? (aA x (i*2))=some (iv i))(B:∀g,g∈G->0<=g/\g<n):
  Calls prog 100 #[pQ b 15] w λe w'=>e=.returned (sS w.heap.size G.length G.length)/\SlI w' (sS w.heap.size G.length G.length) G/\Nf1 w.heap.size w'/\Ext w w':=by
 have C:=h.r1;have U:=h.hl;have H:=uU h;have D:=uU A;have E:=uU B;obtain⟨z,s⟩:=mkInts G.length (by omega) w;clear h A B;go_enter func100,ntmps100;go_wp2_with fail;go_loopw [12] (λi wr=>∃(k:Nat),k<=G.length/\i=iv k/\Hid ((∀j (c:j<G.length),j<k->a6w wr w.heap.size (0+j*1) G[j])/\(∀j,j<G.length*1->qC wr w.heap.size j)/\Ext w wr/\Nf1 w.heap.size wr)) (λi _=>G.length-(intOf i).toNat)
 case atStart=>exact⟨0,Nat.zero_le _,rfl,(λj _ h=>by omega),(λj c=>a2s _ _ _ _ _ (by omega)),(Ext.refl w).alloc _,Nf1.made _ _ _ _⟩
 case round=>
  clear s C;obtain⟨k,y,rfl,a⟩:=hrel;by_cases f:k<G.length
  ·have l:=a.2.2.1;obtain⟨m,o⟩:∃m,m=(p+k) % 4000:=⟨_,rfl⟩;have J:m<4000:=by rw[o];exact Nat.mod_lt _ (by omega)
   have T:((p:Int)+(k:Int)).tmod 4000=(m:Int):=by have:=b6h (p+k);rw[<-o] at this;simpa using this
   have W:(0:Int)<=(m:Int):=by omega
   have M:(m:Int)<4000:=by omega
   have I:=uH E G[k] (List.getElem_mem f);obtain⟨j,c⟩:∃j:Nat,G[k]=(j:Int):=⟨G[k].toNat,by omega⟩;have q:j<n:=by omega
   have N:=l.keep H.r0;have Q:=H.h0;have t:=l.keep (H.rg k f);rw[<-o,c] at t;have t:wr.cell? (aA b (15+m))=some (pQ x (j*2)):=t;have P:=l.keep (D j q);have R:=uU (c7j (w:=w) (wr:=wr) (xs:=G) (k:=k) f a.1 a.2.1 l a.2.2.2);rw[c] at R;obtain⟨⟨u,O⟩,X⟩:=a.2.1 k (by omega);have V:(0:Int)<=(k:Int):=by omega
   have S:(k:Int)<(G.length:Int):=by omega
   have v:¬w.heap.size=b:=λe=>by have:=uL H.r0;simp only at this;omega
   have F:¬b=w.heap.size:=λe=>v e.symm
   clear I c o;go_wp2_with fail
   go_region
   all_goals
    go_wp2_with fail;go_roundw
    case rel=>
     have d:=(Ext.refl (wr.setCell (aA w.heap.size k) (iv j))).drew;exact⟨k+1,by omega,by go_num,λj c y=>(R.1 j c y).ext d,λj c=>(R.2.1 j c).ext d,R.2.2.1.drew,R.2.2.2.ext d⟩
    case measure=>simp [intOf];omega
  ·have r:k=G.length:=by omega
   have L:=uU (show SlI wr (sS w.heap.size G.length G.length) G from⟨_,_,rfl,by omega,λi K=>⟨_,_,rfl,a.1 i K (by omega)⟩⟩);clear r;go_wp2_with fail;go_ret;exact⟨rfl,L,a.2.2.2,a.2.2.1⟩
theorem uX.setNew{S:Nat->Prop}{a:World}(h:uX S a w){p:Addr}(d:a.heap.size<=p.block)(u:Value):uX S a (w.setCell p u):=
 ⟨h.os,h.tape,h.output,by have:=h.size;simpa [World.setCell] using this,λk b c=>(Below.heap_setCell _ _ _ _ (by omega)).trans (h.block k b c)⟩
structure Tdl(w1 wr:World)(x:Hp)(t bN:Nat)(vr vc vg:Value)(pa:Nat->Option Addr)(pk:Nat->Nat)(k:Nat):Prop where
 bx:dK wr t x vr vc vg
 s:∀q,q<x.A.length->q<k->S7 wr bN (q*8) (x.c q)/\wr.cell? ⟨bN,q*8+7,none⟩=some (.slice (pa q) (x.c q).F.length (pk q))
 o:∀j,j<x.A.length*8->qC wr bN j
 nf:Nf1 bN wr
 on:uX (λq=>q=t) w1 wr
 lt:t<w1.heap.size/\w1.heap.size<=bN
theorem Tdl.step{wr:World}{t bN:Nat}{vr vc vg:Value}{k:Nat}(h:Tdl w1 wr x t bN vr vc vg pa pk k)(C:k<x.A.length):
  Tdl w1 ((((((((wr.setCell (aA bN (k*8)) (iv (x.c k).st)).setCell (aA bN (k*8+1)) (iv (x.c k).kind)).setCell (aA bN (k*8+2)) (iv (x.c k).T)).setCell (aA bN (k*8+3)) (iv (x.c k).U)).setCell (aA bN (k*8+4)) (iv (x.c k).born)).setCell (aA bN (k*8+5)) (iv (x.c k).J)).setCell (aA bN (k*8+6)) (iv (x.c k).to)).setCell (aA bN (k*8+7)) (.slice (pa k) (x.c k).F.length (pk k))).drew x t bN vr vc vg pa pk (k+1):=by
 have a:=h.lt;have n:qC wr bN (k*8):=h.o (k*8) (by omega);have u:=h.o (k*8+1) (by omega);have A:=h.o (k*8+2) (by omega);have z:=h.o (k*8+3) (by omega);have v:=h.o (k*8+4) (by omega);have m:=h.o (k*8+5) (by omega);have y:=h.o (k*8+6) (by omega);have w:=h.o (k*8+7) (by omega)
 have d:∀b o,(b≠bN\/o<k*8\/k*8+8<=o)->(((((((((wr.setCell (aA bN (k*8)) (iv (x.c k).st)).setCell (aA bN (k*8+1)) (iv (x.c k).kind)).setCell (aA bN (k*8+2)) (iv (x.c k).T)).setCell (aA bN (k*8+3)) (iv (x.c k).U)).setCell (aA bN (k*8+4)) (iv (x.c k).born)).setCell (aA bN (k*8+5)) (iv (x.c k).J)).setCell (aA bN (k*8+6)) (iv (x.c k).to)).setCell (aA bN (k*8+7)) (.slice (pa k) (x.c k).F.length (pk k))).drew).cell? (aA b o)=wr.cell? (aA b o):=λb o i=>by
  rw[a1f,uC _ (by omega),uC _ (by omega),uC _ (by omega),uC _ (by omega),uC _ (by omega),uC _ (by omega),uC _ (by omega),uC _ (by omega)]
 have f:∀b o,qC wr b o->qC ((((((((wr.setCell (aA bN (k*8)) (iv (x.c k).st)).setCell (aA bN (k*8+1)) (iv (x.c k).kind)).setCell (aA bN (k*8+2)) (iv (x.c k).T)).setCell (aA bN (k*8+3)) (iv (x.c k).U)).setCell (aA bN (k*8+4)) (iv (x.c k).born)).setCell (aA bN (k*8+5)) (iv (x.c k).J)).setCell (aA bN (k*8+6)) (iv (x.c k).to)).setCell (aA bN (k*8+7)) (.slice (pa k) (x.c k).F.length (pk k))).drew b o:=λb o i=>((((((((i.set _ _).set _ _).set _ _).set _ _).set _ _).set _ _).set _ _).set _ _).ext ((Ext.refl _).drew)
 refine⟨h.bx.of λo _=>d t o (.inl (by omega)),λq r B=>?_,λj l=>f bN j (h.o j l),((((((((h.nf.set _ _).set _ _).set _ _).set _ _).set _ _).set _ _).set _ _).set _ _).ext ((Ext.refl _).drew),?_,a⟩
 ·by_cases e:q=k
  ·subst e;refine⟨⟨?_,?_,?_,?_,?_,?_,?_⟩,?_⟩
   ·rw[a1f,uC _ (by omega),uC _ (by omega),uC _ (by omega),uC _ (by omega),uC _ (by omega),uC _ (by omega),uC _ (by omega)];exact n.same _
   ·rw[a1f,uC _ (by omega),uC _ (by omega),uC _ (by omega),uC _ (by omega),uC _ (by omega),uC _ (by omega)];exact(u.set _ _).same _
   ·rw[a1f,uC _ (by omega),uC _ (by omega),uC _ (by omega),uC _ (by omega),uC _ (by omega)];exact((A.set _ _).set _ _).same _
   ·rw[a1f,uC _ (by omega),uC _ (by omega),uC _ (by omega),uC _ (by omega)];exact(((z.set _ _).set _ _).set _ _).same _
   ·rw[a1f,uC _ (by omega),uC _ (by omega),uC _ (by omega)];exact((((v.set _ _).set _ _).set _ _).set _ _).same _
   ·rw[a1f,uC _ (by omega),uC _ (by omega)];exact(((((m.set _ _).set _ _).set _ _).set _ _).set _ _).same _
   ·rw[a1f,uC _ (by omega)];exact((((((y.set _ _).set _ _).set _ _).set _ _).set _ _).set _ _).same _
   ·rw[a1f];exact(((((((w.set _ _).set _ _).set _ _).set _ _).set _ _).set _ _).set _ _).same _
  ·have g:=h.s q r (by omega);exact⟨g.1.of λj l=>d bN _ (.inr (by omega)),(d bN _ (.inr (by omega))).trans g.2⟩
 ·exact((((((((h.on.setNew (p:=(aA bN (k*8))) a.2 _).setNew (p:=(aA bN (k*8+1))) a.2 _).setNew (p:=(aA bN (k*8+2))) a.2 _).setNew (p:=(aA bN (k*8+3))) a.2 _).setNew (p:=(aA bN (k*8+4))) a.2 _).setNew (p:=(aA bN (k*8+5))) a.2 _).setNew (p:=(aA bN (k*8+6))) a.2 _).setNew (p:=(aA bN (k*8+7))) a.2 _).drew
end Go.Proofs.YtddkhnclmeikfaaGreat
