import Derived.Test.YtolmnenlnpbcfaaGreatDoorHh
import Derived.Test.YtolmnenlnpbcfaaGreatDoorDd
import Derived.Test.YtolmnenlnpbcfaaGreatDoorAh
import Derived.Test.YtolmnenlnpbcfaaGreatDoorVn
set_option maxRecDepth 100000
set_option maxHeartbeats 4000000
namespace Go.Proofs.YtolmnenlnpbcfaaGreatDoor
open Go.RowKit Tryz
attribute [local go_sem ↓] Go.wp_at_zero Go.wp_at_succ
variable{x:Hp}{w w' wr:World}{b kr bn kn hd B br kc kg k bx base i j:Nat}{F L1 L2 G:List Int}{ar ac ag an:Option Addr}{vf v4 v8 vk v1 v2:Value}{cB cO pb pk role:Nat->Nat}{K:List Nat}{pa:Nat->Option Addr}
structure FAt(w:World)(b:Nat)(x:Hp)(base:Nat)(vf:Value)(F:List Int):Prop where
 L:eU w base b 14 vf F
 O:Ho F
 P:F.Perm (a6w x x.A.length)
theorem FAt.ext(h:FAt w b x base vf F)(e:Ext w w'):FAt w' b x base vf F:=⟨h.L.ext e,h.O,h.P⟩
theorem a4v(x:Hp)(k:Nat)(z:Int):z∈a6w x k↔∃i,i<k/\(x.c i).st=0/\(i:Int)=z:=by
 unfold a6w;rw[a1m];simp[a5o,a6u]
theorem d1x(P:F.Perm (a6w x x.A.length))(h:F.length=0)(k:Nat)(a:k<x.A.length):(x.c k).st≠0:=λe=>by
 have:(k:Int)∈F:=P.mem_iff.2 ((a4v _ _ _).2 ⟨k,a,e,rfl⟩);rw[nY.1 h]at this;cases this
theorem d1y(P:F.Perm (a6w x x.A.length))(O:Ho F)(h:0<F.length)(t:Nat)(d:t<x.A.length)(f:(x.c t).st=1):
  (t:Int)<it F 0↔∀k:Nat,k<t->(x.c k).st≠0:=by
 constructor;intro b k a e;have:=O.least (P.mem_iff.2 ((a4v _ _ _).2 ⟨k,by omega,e,rfl⟩));omega;grind[a4v,a3u,a6w,Ho,Hp.c,it]
theorem b6y(x:Hp)(b i:Nat)(w:World)(h:VAt w b x ar kr ac kc ag kg an kn)(hF:FAt w b x base vf F)(hi:i<x.A.length)(U V:Nat)(ha:an=some (aA U V)):
  Calls prog 124 #[pP b,pQ U (V+i*2)] w λe w'=>∃r:Bool,Hid (e=.returned (.bool r))/\(r=true↔qL x i (x.c i))/\Ext w w':=by
 obtain⟨az,ab,bc,oc,G,rfl,m0,m1⟩:=h.N i hi;rw[ha]at G;cases G;obtain⟨ao,ae,ap,kp,Q,C⟩:=h.H.cell i hi;cases Q;have c5:=h.H.c5;have av:=h.n13;have lc:=h.H.lc;have p6:=C.p6;have o:=uU (λn s (hs:a8r (x.c i)=s)=>bare_is (x.c i) U (V+i*2) bc (oc+i*8) ap kp s hs (w.drewN n) (((hO w).drewN n).keep m1) (C.ext ((hO w).drewN n)));have HV:=uU h;have a:=uU hF;subst ha;go_in;go_upto_region 1 with fail;go_cut [33] from 7 to 32 (λv W=>∃u:Bool,v=.bool u/\Hid (u=(decide (x.E<4) || !a8r (x.c i) || !cH (x.c i).to 0 ((i:Int)-1)))/\∃n,W=w.drewN n)
 case first=>
  cases K:decide (x.E<4)
  focus have bb:=of_decide_eq_false K
  rotate_left
  focus have bb:=of_decide_eq_true K
  rotate_left
  cases l:a8r (x.c i)
  rotate_left
  cases D:cH (x.c i).to 0 ((i:Int)-1)
  all_goals
   go_wp21;go_quiet (first|(go_at_call 122;exact Calls.quiet_of_same (o _ _ l))|(go_at_call 45;first|(refine Calls.quiet_of_same (a0r _ _ _ false ?_ _);assumption)|(refine Calls.quiet_of_same (a0r _ _ _ true ?_ _);assumption)));go_wp21;go_meet;exact⟨_,rfl,by show _=_;simp only[*];rfl,_,rfl⟩
 case rest=>
 obtain⟨u,rfl,U,n,rfl⟩:=hcut;cases u;rotate_left;have N:=uU (show ¬qL x i (x.c i) from λm=>by have:=uH U;rw[a8d.2 m.1,show cH (x.c i).to 0 ((i:Int)-1)=true from decide_eq_true ⟨m.2.2.1,by have:=m.2.2.2.1;omega⟩]at this;simp at this;have:=m.2.1;omega);go_wp2;go_ret;exact⟨false,rfl,fNo N,(hO w).drewN _⟩;have z:=uH U;simp at z;have am:=a0f z.2;obtain⟨t,B⟩:∃t:Nat,(x.c i).to=(t:Int):=⟨(x.c i).to.toNat,by omega⟩;have y:t<x.A.length:=by omega
 obtain⟨ak,aq,al,aj,G,Q,k0,k1⟩:=HV.N t y;cases G;cases Q;obtain⟨ah,ai,aa,ba,e3,C3⟩:=HV.H.cell t y;cases e3;have s0:=C3.p0;have aw:=i0N t;have ax:(t:Int)<(x.A.length:Int):=by omega
 have j:=uU (show qL x i (x.c i)↔(x.c t).st=1/\(x.E=4->∀k:Nat,k<t->(x.c k).st≠0) by
  unfold qL;rw[B];have e:∀k:Nat,(k:Int)<(t:Int)↔k<t:=λk=>by omega
  simp only[e,Int.toNat_natCast];simp[a8d.1 z.1.2,z.1.1];omega)
 rw[B]at p6;clear z am B;cases E:((x.c t).st == 1);have N:=uU (show ¬qL x i (x.c i) from λm=>by have:=(j.1 m).1;simp[this]at E);have R:((x.c t).st != 1)=true:=by simpa using E
 go_wp21;go_quiet (fail);go_wp2;go_ret;exact⟨false,rfl,fNo N,by first|exact((hO w).drewN _).drewN _|exact(hO w).drewN _⟩;have R:((x.c t).st != 1)=false:=by simpa using E
 obtain⟨g,d,T,Z⟩:∃(g:Int)(d:Bool),Hid (∀n,Calls prog 175 #[pQ b 14] (w.drewN n) λe w'=>e=.returned (.tuple #[iv g,.bool d])/\w'=w.drewN n)/\Hid ((d=true->g > (t:Int))↔∀k:Nat,k<t->(x.c k).st≠0):=by
  have a:=uH a;by_cases X:F.length=0;obtain⟨ad,d,rfl⟩:=a.L.empty X;exact⟨0,false,λn=>a5h _ b 14 ad d (((hO w).drewN n).keep a.L.hd),λ_ k M=>d1x a.P X k (by omega),nofun⟩;obtain⟨g,d,rfl,_⟩:=a.L.form (by omega);exact⟨_,true,λn=>a2s _ b 14 g 0 F.length d _ (by omega) (((hO w).drewN n).keep a.L.hd) (((hO w).drewN n).keep (a.L.cell 0 (by omega))),by show _↔_;rw[<-d1y a.P a.O (by omega) t y (by simpa using E)];simp⟩
 cases q:(x.E != 4) <;> cases d <;> by_cases S:g > (t:Int) <;> (go_wp21;go_quiet (fail);go_wp21;refine(T _).mono ?_;rintro e I ⟨rfl,rfl⟩;go_wp2;go_ret;refine⟨_,rfl,?_,by first|exact((hO w).drewN _).drewN _|exact(hO w).drewN _⟩;rw[uH j,<-uH Z];simp at E q;simp[E,q,S])
theorem a2i:a1k x=true↔uD x:=by simp[a1k,uD]
theorem a9d(x:Hp)(b:Nat)(s:Bool)(c:a1k x=s)(w:World)(a:w.cell? (aA b 5)=some (iv x.E)):
  Calls prog 132 #[pP b] w λe w'=>e=.returned (.bool s)/\w'=w:=by
 rw[<-c];exact b2x x b w a
def a0e(x:Hp)(i:Nat):Bool:=a1k x || ((x.E == 3) && decide (x.I<=(i:Int)))
theorem a8s:a0e x i=true↔a3x x i:=by
 simp[a0e,a3x,a2i]
theorem a6y(x:Hp)(b g q i:Nat)(w:World)(k:w.cell? (aA b 5)=some (iv x.E))(l:w.cell? (aA b 6)=some (iv x.I))(m:w.cell? (aA g q)=some (iv i)):
  Calls prog 131 #[pP b,pQ g q] w λe w'=>e=.returned (.bool (a0e x i))/\Ext w w':=by
 have c:=uU (λn s (j:a1k x=s)=>a9d x b s j (w.drewN n) (((hO w).drewN n).keep k));cases a:a1k x
 ·cases f:(x.E == 3)
  ·have E:=uU (show a0e x i=false by simp[a0e,a,f]);go_in;go_wp21;go_quiet ((go_at_call 132;exact Calls.quiet_of_same (c _ _ a)));go_wp2;go_ret;exact⟨by rw[uH E];rfl,(hO w).drewN _⟩
  ·by_cases d:x.I<=(i:Int)
   focus have E:=uU (show a0e x i=true by simp[a0e,f,d])
   rotate_left
   focus
    have E:=uU (show a0e x i=false by simp[a0e,a];omega);have h:decide (x.I<=(i:Int))=false:=decide_eq_false d
   all_goals
    go_in;go_wp21;go_quiet ((go_at_call 132;exact Calls.quiet_of_same (c _ _ a)));go_wp2;go_ret;exact⟨by rw[uH E];rfl,(hO w).drewN _⟩
 ·have E:=uU (show a0e x i=true by simp[a0e,a]);go_in;go_wp21;go_quiet ((go_at_call 132;exact Calls.quiet_of_same (c _ _ a)));go_wp2;go_ret;exact⟨by rw[uH E];rfl,(hO w).drewN _⟩
def b9i(x:Hp):Prop:=(∀g,g∈x.D->(0<=g/\g<x.A.length)/\(x.c g.toNat).J=1)/\x.D.Nodup
theorem b9j(x:Hp)(k:Nat)(h:k<x.D.length):x.D[k]=it x.D k:=b2s _ _ h
theorem b0b(x:Hp)(b:Nat)(w:World)(h:VAt w b x ar kr ac kc ag kg an kn)(hn:x.D.length<=8000):
  Calls prog 133 #[pP b] w λe w'=>∃r:Bool,Hid (e=.returned (.bool r))/\(r=true↔b9i x)/\Ext w w':=by
 have c8:=h.H.c8;have hb:=cLt c8;have lc:=h.H.lc;have HV:=uU h;go_in;go_wp21;go_loopw [12] (λi wr=>∃(k:Nat)(v:Value)(m:List Int),k<=x.D.length/\i=iv k/\Hid (∀j,j<k->(0<=it x.D j/\it x.D j<x.A.length)/\(x.c (it x.D j).toNat).J=1)/\eU wr w.heap.size w.heap.size 0 v m/\Ho m/\m.Perm (x.D.take k)/\Ext w wr) (λi _=>x.D.length-(intOf i).toNat)
 case atStart=>exact⟨0,_,[],kB _,rfl,λj J=>by omega,eU.nil (by simp[go_sem]) (by simp[go_sem]),Ho.nil,by simp,(hO w).alloc _⟩
 case round=>
  obtain⟨k,v,m,B,rfl,HA,ls,ho,T,a⟩:=hrel;have l:=uU ls;have W:=uU ho;have Y:=uU T;have s:m.length<=1000000000:=by have:=T.length_eq;simp at this;omega
  by_cases d:k<x.D.length
  ·have F:=HV.ext a;obtain⟨bg,og,rfl,u⟩:=F.H.G k d;unfold a8k at u;rw[b9j x k d]at u;have ae:=F.n13;have o:=uU F;have af:=i0N k;have aa:(k:Int)<(x.D.length:Int):=by omega
   obtain⟨y,O⟩:∃z,it x.D k=z:=⟨_,rfl⟩;rw[O]at u;have U:=uU O;have p:=uU (show y∈x.D by rw[<-O];exact a3u _ _ d);have S:w.heap.size<=wr.heap.size:=a.size;simp only[Nat.mul_one]at u;cases n:cH y 0 ((x.A.length:Int)-1)
   ·have N:=uU (show ¬b9i x from λr=>by have:=a8q n;have:=(r.1 y p).1;omega);go_wp21;refine(a0r _ _ _ false n _).mono ?_;rintro e K ⟨rfl,rfl⟩;go_wp2;go_ret;exact⟨false,rfl,fNo N,a⟩
   obtain⟨i,hi⟩:∃i:Nat,y=(i:Int):=⟨y.toNat,by have:=a0f n;omega⟩;subst hi;have t:i<x.A.length:=by have:=a0f n;omega
   obtain⟨bn,on,bc,oc,e1,e2,m0,m1⟩:=o.N i t;subst e1;subst e2;obtain⟨ad,ab,ap,kp,e3,C⟩:=o.H.cell i t;cases e3;have p5:=C.p5;have I:=i0N i;have Q:(i:Int)<(x.A.length:Int):=by omega
   cases D:((x.c i).J == 1)
   ·have M:((x.c i).J != 1)=true:=by simpa using D
    have N:=uU (show ¬b9i x from λr=>by have:=(r.1 _ p).2;simp at this D;omega);go_wp21;refine(a0r _ _ _ true n _).mono ?_;rintro e K ⟨rfl,rfl⟩;go_wp2;go_ret;exact⟨false,rfl,fNo N,a⟩
   have M:((x.c i).J != 1)=false:=by simpa using D
   have OK:=uU (show ∀j,j<k+1->(0<=it x.D j/\it x.D j<x.A.length)/\(x.c (it x.D j).toNat).J=1 from λj J=>by
    by_cases e:j=k;rw[e,uH U];exact⟨⟨I,Q⟩,by simpa using D⟩;exact HA j (by omega))
   have TK:=uU (show x.D.take (k+1)=x.D.take k++[(i:Int)] by
    rw[<-uH U,<-b9j x k d];exact(List.take_append_getElem d).symm)
   go_wp21;refine(a0r _ _ _ true n _).mono ?_;rintro e K ⟨rfl,rfl⟩;go_wp21;refine(b4p _ w.heap.size w.heap.size 0 v m (i:Int) l S W (by omega)).mono ?_;rintro e X ⟨rfl,L,A,l3,o3,p3,E⟩;have R:=uU (show eU X w.heap.size w.heap.size 0 L A/\Ho A/\A.Perm (x.D.take (k+1))/\Ext w X from
    ⟨l3,o3,by rw[uH TK];exact(p3.trans (Y.cons _)).trans (nI _ _).symm,E.ext a (hT _) (λk B=>(l.rlt k B).1)⟩)
   go_wp2;go_roundw
   case rel=>exact⟨k+1,L,A,by omega,by go_num,OK,R⟩
   simp[intOf];omega
  have P:k=x.D.length:=by omega
  have V:=uU (show m.Nodup↔x.D.Nodup by have:=uH Y;rw[P,kz]at this;exact this.nodup_iff);have A1:=uU (show ∀g,g∈x.D->(0<=g/\g<x.A.length)/\(x.c g.toNat).J=1 from λg hg=>by
   obtain⟨j,J,e⟩:=mJ hg;rw[b9j x j J]at e;rw[<-e];exact HA j (by omega))
  go_wp21;refine(b4q _ w.heap.size w.heap.size 0 v m l W s).mono ?_;rintro e K ⟨r,rfl,Z,L,E⟩;have E2:=uU (E.ext a (hT _) (λk B=>(l.rlt k B).1));have RR:=uU (show r=true↔b9i x from⟨λe=>⟨A1,V.1 (Z.1 e)⟩,λq=>Z.2 (V.2 q.2)⟩);go_wp2;go_ret;exact⟨r,rfl,RR,E2⟩
theorem b4r(x:Hp)(b:Nat)(w:World)(h:VAt w b x ar kr ac kc ag kg an kn)(R:x.D.length<=8000)(Q:x.A.length<=8000):
  Calls prog 78 #[pP b] w λe w'=>∃r:Bool,Hid (e=.returned (.bool r))/\(r=true↔R5 x)/\Ext w w':=by
 have Y:=h.n13;have HV:=uU h;go_in;go_wp21;go_loopw [3,11] (λs i wr=>∃(k u:Nat),k<=x.A.length/\i=iv k/\s=iv u/\u<=k/\Hid (u=(a6d x k).length)/\Hid (∀j,j<k->(x.c j).J=2->a3x x j)/\Ext w wr) (λ_ i _=>x.A.length-(intOf i).toNat)
 case atStart=>exact⟨0,0,kB _,rfl,rfl,hT _,rfl,λj O=>by omega,hO _⟩
 case round=>
  obtain⟨k,u,hk,rfl,rfl,S,G,HA,a⟩:=hrel;by_cases g:k<x.A.length
  ·have z:=HV.ext a;obtain⟨bn,on,bc,oc,rfl,rfl,m0,m1⟩:=z.N k g;obtain⟨Z,W,ap,kp,e2,C⟩:=z.H.cell k g;cases e2;have p5:=C.p5;have ad:=z.n13;have d:=uU z;have aa:=i0N k;have V:(k:Int)<(x.A.length:Int):=by omega
   have v:((x.c k).J=2->a3x x k)->Hid (∀j,j<k+1->(x.c j).J=2->a3x x j):=λQ j O=>by
    by_cases e:j=k;rw[e];exact Q;exact HA j (by omega)
   have E:=uU v;cases y:((x.c k).J == 1)
   ·have A:=uU (show u=(a6d x (k+1)).length by have:=uH G;unfold a6d at *;rw[a2t _ _ _ (by simpa[a6x]using y)];exact this);cases I:((x.c k).J == 2)
    ·have t:=uH E (λe=>by rw[e]at I;simp at I);go_wp2;go_roundw
     case rel=>exact⟨k+1,u,by omega,by go_num,rfl,by omega,A,t,a⟩
     simp[intOf];omega
    go_wp21;refine(a6y x b bn (on+k*2) k _ d.H.c5 d.H.c6 m0).mono ?_;rintro e T ⟨rfl,o⟩;have L:=a.trans o;cases K:a0e x k
    ·have N:=uU (show ¬R5 x from λr=>by
      have:=((a9c x).1 r).1 k g (by simpa using I);rw[<-a8s,K]at this;simp at this)
     go_wp2;go_ret;exact⟨false,rfl,fNo N,L⟩
    have t:=uH E (λ_=>a8s.1 K);go_wp2;go_roundw
    case rel=>exact⟨k+1,u,by omega,by go_num,rfl,by omega,A,t,L⟩
    simp[intOf];omega
   have A:=uU (show u+1=(a6d x (k+1)).length by have:=uH G;unfold a6d at *;rw[a3w _ _ _ (by simpa[a6x]using y)];simp;exact this);have t:=uH E (λe=>by rw[e]at y;simp at y);go_wp2;go_roundw
   case rel=>exact⟨k+1,u+1,by omega,by go_num,by go_num,by omega,A,t,a⟩
   simp[intOf];omega
  have B:k=x.A.length:=by omega
  have U:=uU (show u=(a6d x x.A.length).length by have:=uH G;rw[B]at this;exact this);have J:=uU (show ∀j,j<x.A.length->(x.c j).J=2->a3x x j from λj O=>uH HA j (by omega));have M:=HV.ext a;have d8:=M.H.c8;have d:=uU M;go_wp21;refine(b2x x b _ d.H.c5).mono ?_;rintro e T ⟨rfl,rfl⟩;cases P:a1k x
  ·have NM:=uU (show ¬uD x from λm=>by rw[<-a2i,P]at m;simp at m);by_cases ab:0<u
   ·have N:=uU (show ¬R5 x from λr=>by
     have:=((a9c x).1 r).2.1 NM;have:=uH U;omega)
    go_wp2;go_ret;exact⟨false,rfl,fNo N,a⟩
   have p:u=0:=by omega
   subst p;cases n:((x.D.length:Int) == 0)
   ·have N:=uU (show ¬R5 x from λr=>by
     have:=((a9c x).1 r).2.2.1;have:=uH U;have ae:=beq_eq_false_iff_ne.1 n;omega)
    go_wp2;go_ret;exact⟨false,rfl,fNo N,a⟩
   go_wp21;refine(b0b x b _ d R).mono ?_;rintro e w3 ⟨r,rfl,l,o⟩;have D:=a.trans o;have F:=uU (show r=true↔R5 x by
    rw[a9c];refine⟨λe=>⟨J,λ_=>U.symm,?_,(l.1 e).1,(l.1 e).2⟩,λq=>l.2 ⟨q.2.2.2.1,q.2.2.2.2⟩⟩;have:=uH U;simp at n;rw[n];exact this)
   go_wp2;go_ret;exact⟨r,rfl,F,D⟩
  have YM:=uU (a2i.1 P);cases n:((x.D.length:Int) == (u:Int))
  ·have N:=uU (show ¬R5 x from λr=>by
    have:=((a9c x).1 r).2.2.1;have:=uH U;simp at n;omega)
   go_wp2;go_ret;exact⟨false,rfl,fNo N,a⟩
  go_wp21;refine(b0b x b _ d R).mono ?_;rintro e w3 ⟨r,rfl,l,o⟩;have D:=a.trans o;have F:=uU (show r=true↔R5 x by
   rw[a9c];refine⟨λe=>⟨J,λX=>(X YM).elim,?_,(l.1 e).1,(l.1 e).2⟩,λq=>l.2 ⟨q.2.2.2.1,q.2.2.2.2⟩⟩;have:=uH U;simp at n;omega)
  go_wp2;go_ret;exact⟨r,rfl,F,D⟩
theorem a5b:(prog.info? 108).map (λi=>(i.zero,i.size,i.bytes))=some (some (.agg #[iv 0,.pointer none]),2,16):=by kernel_rfl
theorem mkNodes(n:Nat)(f:n<=1048576)(w:World):∃z,(Instr.makeSlice 100 (iv n) (iv n)).run prog w=.ok (sS w.heap.size n n) (w.alloc (.cells (madeCells z (n*2)) 108)):=by
 have⟨e,d,a,c,b⟩:=info_parts a5b;have h:=run_make (P:=prog) w 100 108 e _ underlying100 d a .i64 .i64 n n (by omega) (mx _) (by rw[b];omega) (by omega);rw[c]at h;simp only[Int.toNat_natCast]at h;exact⟨_,h⟩
theorem d2w(x:Hp)(w:World)(b:Nat)
  (c:∀o v,#[iv x.M,iv x.K,iv x.born,.slice ar x.B.length kr,.slice ac x.A.length kc,iv x.E,iv x.I,iv x.sub,.slice ag x.D.length kg,iv x.per,iv x.V,iv x.Q,iv x.S][o]?=some v->w.cell? (aA b o)=some v)
  (q:SlW w (.slice ar x.B.length kr) x.B) (m:SlC w (.slice ac x.A.length kc) x.A) (n:SlI w (.slice ag x.D.length kg) x.D):HAt w b x ar kr ac kc ag kg:=by
 have⟨y,u,f,k,R⟩:=q;have⟨t,s,e,l,C⟩:=m;have⟨r,z,d,h,G⟩:=n;simp only[Value.slice.injEq]at f e d;obtain⟨rfl,_,rfl⟩:=f;obtain⟨rfl,_,rfl⟩:=e;obtain⟨rfl,_,rfl⟩:=d;refine⟨c 0 _ rfl,c 1 _ rfl,c 2 _ rfl,c 3 _ rfl,c 4 _ rfl,c 5 _ rfl,c 6 _ rfl,c 7 _ rfl,c 8 _ rfl,c 9 _ rfl,c 10 _ rfl,c 11 _ rfl,c 12 _ rfl,k,l,h,R,?_,G⟩;intro i g;have⟨j,o,a,p⟩:=C i g;rw[Hp.c_eq]at p;exact⟨j,o,a,p⟩
structure Opn(w wr:World)(x:Hp)(bx b bn k j:Nat)(ar:Option Addr)(kr:Nat)(ac:Option Addr)(kc:Nat)(ag:Option Addr)(kg:Nat)(vf:Value)(F:List Int):Prop where
 e:Ext w wr
 hb:w.heap.size<=bx/\bx<b/\b<bn/\bn<wr.heap.size
 x4:wr.cell? ⟨bx,4,none⟩=some (.slice ac x.A.length kc)
 c:∀o v,#[iv x.M,iv x.K,iv x.born,.slice ar x.B.length kr,.slice ac x.A.length kc,iv x.E,iv x.I,iv x.sub,.slice ag x.D.length kg,iv x.per,iv x.V,iv x.Q,iv x.S][o]?=some v->wr.cell? ⟨b,o,none⟩=some v
 n13:wr.cell? ⟨b,13,none⟩=some (.slice (some ⟨bn,0,none⟩) x.A.length x.A.length)
 n:∀i,i<k->∃bc oc,ac=some ⟨bc,oc,none⟩/\wr.cell? ⟨bn,i*2,none⟩=some (iv i)/\wr.cell? ⟨bn,i*2+1,none⟩=some (.pointer (some ⟨bc,oc+i*8,none⟩))
 o:∀j,j<x.A.length*2->tJ wr bn j
 f:eU wr (bn+1) b 14 vf F
 fo:Ho F
 fp:F.Perm (a6w x j)
theorem Opn.len(h:Opn w wr x bx b bn k j ar kr ac kc ag kg vf F):F.length<=j:=by
 rw[h.fp.length_eq];exact a2u _ _ _
theorem Opn.same(h:Opn w wr x bx b bn k j ar kr ac kc ag kg vf F)(d:w'.heap=wr.heap)(r:w'.os=wr.os)(m:w'.tape=wr.tape)(s:w'.output=wr.output):
  Opn w w' x bx b bn k j ar kr ac kc ag kg vf F:=by
 have e:Ext wr w':=⟨r,m,s,d▸hT _,λk _=>by rw[d]⟩;exact⟨h.e.trans e,⟨h.hb.1,h.hb.2.1,h.hb.2.2.1,d▸h.hb.2.2.2⟩,e.keep h.x4,λo v q=>e.keep (h.c o v q),e.keep h.n13,λi g=>let ⟨bc,oc,a,p,q⟩:=h.n i g;⟨bc,oc,a,e.keep p,e.keep q⟩,λj l=>(h.o j l).ext e,h.f.ext e,h.fo,h.fp⟩
theorem Opn.lay{bc oc:Nat}(h:Opn w wr x bx b bn k k ar kr ac kc ag kg vf F)(z:ac=some (aA bc oc))(G:k<x.A.length):
  Opn w ((wr.setCell (aA bn (k*2)) (iv k)).setCell (aA bn (k*2+1)) (pQ bc (oc+k*8))) x bx b bn (k+1) k ar kr ac kc ag kg vf F:=by
 have⟨m,u,r,s⟩:=h.hb;have A:=h.o (k*2) (by omega);have C:=h.o (k*2+1) (by omega);have d:∀B O,B≠bn->((wr.setCell (aA bn (k*2)) (iv k)).setCell (aA bn (k*2+1)) (pQ bc (oc+k*8))).cell? (aA B O)=wr.cell? (aA B O):=λB O g=>by
  rw[uC _ (.inl (λe=>g e.symm)),uC _ (.inl (λe=>g e.symm))]
 have l:∀B:Nat,B≠bn->((wr.setCell (aA bn (k*2)) (iv k)).setCell (aA bn (k*2+1)) (pQ bc (oc+k*8))).heap[B]?=wr.heap[B]?:=λB g=>by
  rw[kP _ _ _ _ (g:B≠bn),kP _ _ _ _ (g:B≠bn)]
 refine⟨(h.e.setCell (by show w.heap.size<=bn;omega) _).setCell (by show w.heap.size<=bn;omega) _,⟨m,u,r,by simpa[World.setCell]using s⟩,by rw[d _ _ (by omega)];exact h.x4,λo v q=>by rw[d _ _ (by omega)];exact h.c o v q,by rw[d _ _ (by omega)];exact h.n13,λi E=>?_,λj D=>((h.o j D).set _ _).set _ _,⟨by rw[d _ _ (by omega)];exact h.f.hd,?_,?_,h.f.apart⟩,h.fo,h.fp⟩
 ·by_cases e:i=k
  ·subst e;refine⟨bc,oc,z,?_,(C.set _ _).same _⟩;rw[uC _ (.inr (by omega))];exact A.same _
  have⟨t,y,a,p,q⟩:=h.n i (by omega);refine⟨t,y,a,?_,?_⟩;all_goals
   rw[uC _ (.inr (by omega)),uC _ (.inr (by omega))];assumption
 rw[kS,kS];exact h.f.hf;exact uN h.f.own (λB g=>l B (by have:=(h.f.rlt B g).1;omega))
theorem Opn.skip(h:Opn w wr x bx b bn (k+1) k ar kr ac kc ag kg vf F)(a:a5o x 0 k=false):
  Opn w wr x bx b bn (k+1) (k+1) ar kr ac kc ag kg vf F:=
 ⟨h.e,h.hb,h.x4,h.c,h.n13,h.n,h.o,h.f,h.fo,by unfold a6w;rw[a2t _ _ _ a];exact h.fp⟩
theorem Opn.put{v':Value}{F':List Int}(h:Opn w wr x bx b bn (k+1) k ar kr ac kc ag kg vf F)(J:a5o x 0 k=true)
  (l:eU w' (bn+1) b 14 v' F') (o:Ho F') (p:F'.Perm ((k:Int)::F)) (q:QFr b 14 vf v' wr w'):Opn w w' x bx b bn (k+1) (k+1) ar kr ac kc ag kg v' F':=by
 have⟨m,t,s,g⟩:=h.hb;have d:∀B,B<=bn->vf.ownBlock≠some B:=λB y e=>by have:=(h.f.rlt B e).1;omega
 refine⟨q.ext h.e (by omega) (λB y=>by have:=(h.f.rlt B y).1;omega),⟨m,t,s,kF g q.size⟩,q.A h.x4 (by omega) (d _ (by omega)),λo v r=>?_,q.hdr 13 (by omega)▸h.n13,λi D=>?_,λj I=>?_,l,o,?_⟩;have K:o<13:=by
  obtain u|u:=km o 13;exact u;rw[me (by simpa using u)]at r;cases r
 rw[q.hdr o (by omega)];exact h.c o v r;have⟨z,E,a,A,C⟩:=h.n i D;exact⟨z,E,a,q.A A (by omega) (d _ (by omega)),q.A C (by omega) (d _ (by omega))⟩;have⟨⟨v,H⟩,G⟩:=h.o j I;refine⟨⟨v,q.A H (by omega) (d _ (by omega))⟩,?_⟩;rw[mL (w:=wr) (a:=(aA bn j)) (q.block bn g (by omega) (d _ (by omega)))];exact G;unfold a6w;rw[a3w _ _ _ J];exact(p.trans (h.fp.cons _)).trans (nI _ _).symm
theorem Opn.done(h:Opn w wr x bx b bn x.A.length x.A.length ar kr ac kc ag kg vf F)
  (k:SlW w (.slice ar x.B.length kr) x.B) (j:SlC w (.slice ac x.A.length kc) x.A) (g:SlI w (.slice ag x.D.length kg) x.D) :
  VAt wr b x ar kr ac kc ag kg (some (aA bn 0)) x.A.length/\FAt wr b x (bn+1) vf F:=
 ⟨⟨d2w x wr b h.c (SlW.ext h.e k) (SlC.ext h.e j) (SlI.ext h.e g),h.n13,λi d=>let ⟨bc,oc,a,p,q⟩:=h.n i d;⟨bn,0,bc,oc,rfl,a,by simpa using p,by simpa using q⟩⟩,h.f,h.fo,h.fp⟩
structure Two(w wr:World)(x:Hp)(k:Nat)(v1 v2:Value)(L1 L2:List Int):Prop where
 e:Ext w wr
 s1:eU wr w.heap.size w.heap.size 0 v1 L1
 s2:eU wr w.heap.size (w.heap.size+1) 0 v2 L2
 d1:v1.ownBlock≠some (w.heap.size+1)
 d2:v2.ownBlock≠some w.heap.size
 d3:∀k,v2.ownBlock=some k->v1.ownBlock≠some k
 h1:Ho L1
 h2:Ho L2
 p1:L1.Perm (a6v x k)
 p2:L2.Perm (a4j x k)
theorem Two.len(h:Two w wr x k v1 v2 L1 L2):L1.length<=k/\L2.length<=k:=
 ⟨by rw[h.p1.length_eq];exact a2u _ _ _,by rw[h.p2.length_eq];exact a2u _ _ _⟩
theorem Two.ext(h:Two w wr x k v1 v2 L1 L2)(e:Ext wr w'):Two w w' x k v1 v2 L1 L2:=
 ⟨h.e.trans e,h.s1.ext e,h.s2.ext e,h.d1,h.d2,h.d3,h.h1,h.h2,h.p1,h.p2⟩
theorem Two.skip(h:Two w wr x k v1 v2 L1 L2)(a:a5o x 1 k=false)(b:a5o x 2 k=false):Two w wr x (k+1) v1 v2 L1 L2:=
 ⟨h.e,h.s1,h.s2,h.d1,h.d2,h.d3,h.h1,h.h2,by unfold a6v;rw[a2t _ _ _ a];exact h.p1,by unfold a4j;rw[a2t _ _ _ b];exact h.p2⟩
theorem Two.put1{v1':Value}{L1':List Int}(h:Two w wr x k v1 v2 L1 L2)(c:a5o x 1 k=true)(d:a5o x 2 k=false)
  (l:eU w' w.heap.size w.heap.size 0 v1' L1') (o:Ho L1') (p:L1'.Perm (c4z x k::L1)) (q:QFr w.heap.size 0 v1 v1' wr w'):Two w w' x (k+1) v1' v2 L1' L2:=by
 have i:=h.s2.hlt;refine⟨q.ext h.e (hT _) (λk a=>(h.s1.rlt k a).1),l,h.s2.other q (by omega) h.d1 h.d2 h.d3,?_,h.d2,?_,o,h.h2,?_,by unfold a4j;rw[a2t _ _ _ d];exact h.p2⟩;obtain e|⟨g,e,b⟩:=q.own
 ·rw[e];exact h.d1
 rw[e];intro f;cases f;omega;intro k a;obtain e|⟨g,e,b⟩:=q.own
 ·rw[e];exact h.d3 k a
 rw[e];intro f;cases f;have:=(h.s2.rlt k a).2;omega;unfold a6v;rw[a3w _ _ _ c];exact(p.trans (h.p1.cons _)).trans (nI _ _).symm
theorem Two.put2{v2':Value}{L2':List Int}(h:Two w wr x k v1 v2 L1 L2)(i:a5o x 1 k=false)(j:a5o x 2 k=true)
  (l:eU w' w.heap.size (w.heap.size+1) 0 v2' L2') (o:Ho L2') (p:L2'.Perm (toOf x k::L2)) (q:QFr (w.heap.size+1) 0 v2 v2' wr w'):Two w w' x (k+1) v1 v2' L1 L2':=by
 have m:=h.s1.hlt;refine⟨q.ext h.e (by omega) (λk a=>(h.s2.rlt k a).1),h.s1.other q (by omega) h.d2 h.d1 (λk d c=>h.d3 k c d),l,h.d1,?_,?_,h.h1,o,by unfold a6v;rw[a2t _ _ _ i];exact h.p1,?_⟩;obtain e|⟨g,e,b⟩:=q.own
 ·rw[e];exact h.d2
 rw[e];intro f;cases f;omega;intro k a f;obtain e|⟨g,e,b⟩:=q.own
 ·rw[e]at a;exact h.d3 k a f
 rw[e]at a;cases a;have:=(h.s1.rlt _ f).2;omega;unfold a4j;rw[a3w _ _ _ j];exact(p.trans (h.p2.cons _)).trans (nI _ _).symm
theorem Two.V(w:World)(x:Hp)(a b:TypeId):Two w ((w.alloc (.cells #[.slice none 0 0] a)).alloc (.cells #[.slice none 0 0] b)) x 0 (.slice none 0 0) (.slice none 0 0) [] []:=by
 refine⟨(eAl w _).alloc _,eU.nil (by simp[go_sem]) (by simp[go_sem]),eU.nil (by simp[go_sem]) (by simp[go_sem]),by simp[Value.ownBlock],by simp[Value.ownBlock],by simp[Value.ownBlock],Ho.nil,Ho.nil,m9 _,m9 _⟩
theorem b3y{s:Int}(t:Int)(h:((x.c k).st == s)=true)(a:s≠t):a5o x t k=false:=by
 simp[a5o]at *;omega
theorem b7a(x:Hp)(b:Nat)(w:World)(h:VAt w b x ar kr ac kc ag kg an kn)(hF:FAt w b x base vf F)(hn:x.A.length<=8000):
  Calls prog 75 #[pP b] w λe w'=>∃r:Bool,Hid (e=.returned (.bool r))/\(r=true↔R2 x)/\Ext w w':=by
 have M:=h.n13;have hb:=cLt M;have HV:=uU h;have X:=uU hF;clear h hF;go_in;go_wp21;go_loopw [12] (λi wr=>∃(k:Nat)(z y:Value)(t n:List Int),k<=x.A.length/\i=iv k/\Hid (∀j,j<k->cZ x j)/\Two w wr x k z y t n) (λi _=>x.A.length-(intOf i).toNat)
 case atStart=>exact⟨0,_,_,[],[],kB _,rfl,λj hj=>by omega,Two.V w x _ _⟩
 case round=>
  clear M;obtain⟨k,z,y,t,n,T,rfl,HA,a⟩:=hrel;have m:=uU a;by_cases l:k<x.A.length
  ·have E:=HV.ext a.e;have G:=X.ext a.e;obtain⟨Z,on,bc,oc,rfl,rfl,m0,W⟩:=E.N k l;obtain⟨ae,ad,ap,kp,e2,C⟩:=E.H.cell k l;cases e2;have p0:=C.p0;have p4:=C.p4;have p6:=C.p6;have af:=E.n13;have HC:=uU C;have J:=uU E;have Y:=uU G;have ah:=i0N k;have ab:(k:Int)<(x.A.length:Int):=by omega
   have Q:w.heap.size<=wr.heap.size:=a.e.size;have R:t.length<=1000000000:=by have:=a.len.1;omega
   have K:n.length<=1000000000:=by have:=a.len.2;omega
   clear a C E G;have u:cZ x k->Hid (∀j,j<k+1->cZ x j):=λhc j hj=>by
    by_cases e:j=k;rw[e];exact hc;exact HA j (by omega)
   have ST:=uU u;clear u;cases U:((x.c k).st == 0)
   ·cases L:((x.c k).st == 1)
    ·cases P:((x.c k).st == 2)
     ·have N:=uU (show ¬R2 x from λr=>by
       have:=r.1 k l;unfold cZ at this;simp at U L P;omega)
      go_wp21;go_ret;exact⟨false,rfl,fNo N,m.e⟩
     go_wp21;refine(b6y x b k _ J Y l Z on rfl).mono ?_;rintro e w2 ⟨r,rfl,g,p⟩;have s:=uU (m.ext p);cases r
     ·have N:=uU (show ¬R2 x from λr=>by
       have d:=r.1 k l;unfold cZ at d;have h3:(x.c k).st=2:=by simpa using P
       have:=g.2 (by obtain d|d|d:=d <;> first|exact d.2|omega);simp at this)
      clear g;go_wp21;go_ret;exact⟨false,rfl,fNo N,s.e⟩
     have I:=uU (ST (.inr (.inl ⟨by simpa using P,g.1 rfl⟩)));have u6:=p.keep p6;have um:=p.keep W;clear g;go_wp21;refine(b4p _ w.heap.size (w.heap.size+1) 0 y n (x.c k).to s.s2 (kA Q p.size) s.h2 (by omega)).mono ?_;rintro e w3 ⟨rfl,V,L3,O,B,D,o⟩;have A:=uU (s.put2 (b3y 1 P (by omega)) P O B D o);clear O B D o;go_wp21;go_roundw
     case rel=>exact⟨k+1,z,V,t,L3,by omega,by go_num,I,A⟩
     simp[intOf];omega
    go_wp21;refine(b9h x (x.c k) b Z (on+k*2) _ _ ap kp _ J.H.c2 W HC).mono ?_;rintro e w2 ⟨r,rfl,g,p⟩;have s:=uU (m.ext p);cases r
    ·have N:=uU (show ¬R2 x from λr=>by
      have d:=r.1 k l;unfold cZ at d;have h3:(x.c k).st=1:=by simpa using L
      have:=g.2 (by obtain d|d|d:=d <;> first|exact d.2|omega);simp at this)
     clear g;go_wp21;go_ret;exact⟨false,rfl,fNo N,s.e⟩
    have I:=uU (ST (.inr (.inr ⟨by simpa using L,g.1 rfl⟩)));have u4:=p.keep p4;have um:=p.keep W;clear g;go_wp21;refine(b4p _ w.heap.size w.heap.size 0 z t (x.c k).born s.s1 (kA Q p.size) s.h1 (by omega)).mono ?_;rintro e w3 ⟨rfl,V,L3,O,B,D,o⟩;have A:=uU (s.put1 L (b3y 2 L (by omega)) O B D o);clear O B D o;go_wp21;go_roundw
    case rel=>exact⟨k+1,V,y,L3,n,by omega,by go_num,I,A⟩
    simp[intOf];omega
   have S0:=uU (show(x.c k).st=0 by simpa using U);go_wp21;refine(c0z (x.c k) Z (on+k*2) _ _ ap kp _ W HC).mono ?_;rintro e w2 ⟨rfl,rfl⟩;cases tb:a8r (x.c k)
   ·have N:=uU (show ¬R2 x from λr=>by
     have d:=r.1 k l;unfold cZ at d;have h3:=uH S0;have:a5g (x.c k):=by obtain d|d|d:=d <;> first|exact d.2.1|omega
     rw[<-a8d,tb]at this;simp at this)
    go_wp21;go_ret;exact⟨false,rfl,fNo N,m.e⟩
   cases S:((x.c k).to == 0)
   ·have aa:((x.c k).to != 0)=true:=by simpa using S
    have N:=uU (show ¬R2 x from λr=>by
     have d:=r.1 k l;unfold cZ at d;have h3:=uH S0;simp at S;omega)
    go_wp21;go_ret;exact⟨false,rfl,fNo N,m.e⟩
   have aa:((x.c k).to != 0)=false:=by simpa using S
   have I:=uU (ST (.inl ⟨S0,a8d.1 tb,by simpa using S⟩));have A:=uU (m.skip (b3y 1 U (by omega)) (b3y 2 U (by omega)));go_wp21;go_roundw
   case rel=>exact⟨k+1,z,y,t,n,by omega,by go_num,I,A⟩
   simp[intOf];omega
  have v:k=x.A.length:=by omega
  have A1:=uU (show ∀j,j<x.A.length->cZ x j from λj hj=>uH HA j (by omega));have AP:=uU (c8h x A1);have P1:=uU (show t.Nodup↔(a6v x x.A.length).Nodup by have:=a.p1;rw[v]at this;exact this.nodup_iff);have P2:=uU (show n.Nodup↔(a4j x x.A.length).Nodup by have:=a.p2;rw[v]at this;exact this.nodup_iff);have R:t.length<=1000000000:=by have:=a.len.1;omega
  have K:n.length<=1000000000:=by have:=a.len.2;omega
  clear a v;go_wp21;refine(b4q _ w.heap.size w.heap.size 0 z t m.s1 m.h1 R).mono ?_;rintro e w2 ⟨r,rfl,g,V,o⟩;have E2:=uU (o.ext m.e (hT _) (λk T=>(m.s1.rlt k T).1));have S2:=uU (m.s2.other o (by omega) m.d1 m.d2 m.d3);clear o;cases r
  ·have N:=uU (show ¬R2 x from λr=>by
    have:=g.2 (P1.2 (AP.1 r.2).1);simp at this)
   clear g;go_wp21;go_ret;exact⟨false,rfl,fNo N,E2⟩
  have B1:=uU (P1.1 (g.1 rfl));clear g;go_wp21;refine(b4q _ w.heap.size (w.heap.size+1) 0 y n S2 m.h2 K).mono ?_;rintro e w3 ⟨r,rfl,g,v4,q4⟩;have E3:=uU (q4.ext E2 (by omega) (λk T=>(S2.rlt k T).1));have RR:=uU (show r=true↔R2 x from⟨λe=>⟨A1,AP.2 ⟨B1,P2.1 (g.1 e)⟩⟩,λq=>g.2 (P2.2 (AP.1 q.2).2)⟩);clear q4 g;go_wp21;go_ret;exact⟨r,rfl,RR,E3⟩
abbrev ndp(bn i:Nat):Value:=.pointer (some ⟨bn,i*2,none⟩)
structure SSep(x:Hp)(role:Nat->Nat)(b br:Nat)(cB:Nat->Nat)(bn:Nat)(pb pk:Nat->Nat)(vf vk:Value):Prop where
 b:role b=0
 n:role bn=1
 r:0<x.B.length->role br=2
 c:∀q,q<x.A.length->role (cB q)=3
 f:∀q,vf.ownBlock=some q->role q=4
 k:∀q,vk.ownBlock=some q->role q=5
 p:∀q,q<x.A.length->0<pk q->role (pb q)=6+q
structure RAt(w:World)(b bn hd:Nat)(G:List Int):Prop where
 h0:hd<4000
 hl:G.length<=4000
 r0:w.cell? ⟨b,4015,none⟩=some (iv hd)
 r1:w.cell? ⟨b,4016,none⟩=some (iv G.length)
 rg:∀i (hi:i<G.length),w.cell? ⟨b,15+(hd+i) % 4000,none⟩=some (ndp bn G[i].toNat)
 ro:∀j,j<4000->∃v,w.cell? ⟨b,15+j,none⟩=some v
def NdB(w:World)(bn kn:Nat):Prop:=bn<w.heap.size/\∀j,j<kn*2->tJ w bn j
theorem NdB.of(h:NdB w bn kn)(e:w'.heap[bn]?=w.heap[bn]?)(f:w.heap.size<=w'.heap.size):NdB w' bn kn:=
 ⟨kF h.1 f,λj d=>by
  have⟨⟨v,c⟩,b⟩:=h.2 j d;exact⟨⟨v,(cOb bn j e).trans c⟩,(fOb bn j e).trans b⟩⟩
structure SB(B:Nat)(w:World)(b:Nat)(x:Hp)(ar:Option Addr)(kr:Nat)(v4 v8:Value)(br:Nat)(cB cO:Nat->Nat)(bn:Nat)(kn hd:Nat)(vf:Value)(F:List Int)(vk:Value)(K:List Nat):Prop where
 bx:cY w b x (.slice ar x.B.length kr) v4 v8
 ha:0<x.B.length->ar=some ⟨br,0,none⟩
 n13:w.cell? ⟨b,13,none⟩=some (.slice (some ⟨bn,0,none⟩) x.A.length kn)
 nd:∀i,i<x.A.length->w.cell? ⟨bn,i*2,none⟩=some (iv i)/\w.cell? ⟨bn,i*2+1,none⟩=some (.pointer (some ⟨cB i,cO i,none⟩))
 fr:eU w B b 14 vf F
 rg:RAt w b bn hd x.D
 k0:w.cell? ⟨b,4017,none⟩=some vk
 kp:w.ownsRow B 111 1 vk K.length (K.map (ndp bn))
 nb:Nf1 b w
 lo:B<=b/\B<=bn/\NdB w bn kn
structure SAt[qd](B:Nat)(w:World)(b:Nat)(x:Hp)(ar:Option Addr)(kr:Nat)(v4 v8:Value)(br:Nat)(cB cO:Nat->Nat)(bn:Nat)(pb:Nat->Nat)(pa:Nat->Option Addr)(pk:Nat->Nat)(kn hd:Nat)(vf:Value)(F:List Int)(vk:Value)(K:List Nat)(role:Nat->Nat):Prop where
 sb:SB B w b x ar kr v4 v8 br cB cO bn kn hd vf F vk K
 rw:Rwn B w x br cB cO pb pa pk
 sp:SSep x role b br cB bn pb pk vf vk
 pr:Prt w role
theorem b5o(a:Nat):((a:Int).tmod 4000)=((a % 4000:Nat):Int):=by
 rw[Int.tmod_eq_emod_of_nonneg (by omega)];omega
theorem RAt.of(h:RAt w b bn hd G)(e:∀o,15<=o->o<4017->w'.cell? (aA b o)=w.cell? (aA b o)):RAt w' b bn hd G:=
 ⟨h.h0,h.hl,(e 4015 (by omega) (by omega)).trans h.r0,(e 4016 (by omega) (by omega)).trans h.r1,λi a=>(e _ (by omega) (by have:(hd+i) % 4000<4000:=mN _ (by omega);omega)).trans (h.rg i a),λj c=>let ⟨v,q⟩:=h.ro j c;⟨v,(e _ (by omega) (by omega)).trans q⟩⟩
theorem RAt.block(h:RAt w b bn hd G)(e:w'.heap[b]?=w.heap[b]?):RAt w' b bn hd G:=h.of λo _ _=>cOb b o e
theorem RAt.put{m:Nat}(h:RAt w b bn hd G)(o:G.length<4000)(f:m=(hd+G.length) % 4000):
  RAt ((w.setCell (aA b (15+m)) (ndp bn i)).setCell (aA b 4016) (iv (G.length+1))) b bn hd (G++[(i:Int)]):=by
 have d:m<4000:=f▸mN _ (by omega);refine⟨h.h0,by simp;omega,by rw[uC _ (.inr (by omega)),uC _ (.inr (by omega))];exact h.r0,?_,λk g=>?_,λj n=>?_⟩;have:(w.setCell (aA b (15+m)) (ndp bn i)).cell? (aA b 4016)=some (iv G.length):=by rw[uC _ (.inr (by omega))];exact h.r1
 rw[kM _ _ _ this];simp;have l:(hd+k) % 4000<4000:=mN _ (by omega);rw[uC _ (.inr (by omega))];by_cases e:k=G.length
 ·subst e;have⟨v,c⟩:=h.ro m d;rw[<-f,kM _ _ _ c];simp
 have a:k<G.length:=by simp at g;omega
 rw[uC _ (.inr (by have:=h.h0;omega)),h.rg k a];simp[a];rw[uC _ (.inr (by omega))];have⟨v,c⟩:=h.ro j n;exact cell?_setCell_some c
theorem a0u(w:World)(p:Addr):w.drew.cell? p=w.cell? p:=kR (a:=p) rfl
theorem SB.same(h:SB B w b x ar kr v4 v8 br cB cO bn kn hd vf F vk K)(f:w.heap.size<=w'.heap.size)(c:w'.heap[b]?=w.heap[b]?)(d:w'.heap[bn]?=w.heap[bn]?)(g:∀q,vf.ownBlock=some q->w'.heap[q]?=w.heap[q]?)(j:∀q,vk.ownBlock=some q->w'.heap[q]?=w.heap[q]?):SB B w' b x ar kr v4 v8 br cB cO bn kn hd vf F vk K where
 bx:=h.bx.block c
 ha:=h.ha
 n13:=(cOb b 13 c).trans h.n13
 nd:=λi e=>⟨(cOb bn _ d).trans (h.nd i e).1,(cOb bn _ d).trans (h.nd i e).2⟩
 fr:=⟨(cOb b 14 c).trans h.fr.hd,(fOb b 14 c).trans h.fr.hf,uN h.fr.own g,h.fr.apart⟩
 rg:=h.rg.block c
 k0:=(cOb b 4017 c).trans h.k0
 kp:=uN h.kp j
 nb:=uY h.nb c f
 lo:=⟨h.lo.1,h.lo.2.1,h.lo.2.2.of d f⟩
theorem SAt.ext[qd](h:SAt B w b x ar kr v4 v8 br cB cO bn pb pa pk kn hd vf F vk K role)(e:Ext w w'):SAt B w' b x ar kr v4 v8 br cB cO bn pb pa pk kn hd vf F vk K role:=
 ⟨h.sb.same e.size (e.block b h.sb.nb.1) (e.block bn h.sb.lo.2.2.1) (λq a=>e.block q (h.sb.fr.own.lt q a).2) (λq a=>e.block q (h.sb.kp.lt q a).2),h.rw.ext e,h.sp,h.pr.of (λq a _=>e.block q a) (λ_ _ h=>h)⟩
theorem SAt.push[qd]{W w5:World}{g cap:Nat}(h:SAt B W b x ar kr v4 v8 br cB cO bn pb pa pk kn hd vf F vk K role)(O:W.grownBy w5 vk.ownBlock)(Q:w5.ownsRow B 111 1 (sS g (K.length+1) cap) (K.length+1) (K.map (ndp bn)++[ndp bn i]))(I:vk.ownBlock=some g\/g=W.heap.size):
  SAt B (w5.setCell (aA b 4017) (sS g (K.length+1) cap)) b x ar kr v4 v8 br cB cO bn pb pa pk kn hd vf F (sS g (K.length+1) cap) (K++[i]) (λq=>if q=g then 5 else role q):=by
 have t:∀q,q<W.heap.size->role q≠5->q≠g:=λq d y e=>by
  obtain a|a:=I;exact y (e▸h.sp.k g a);omega
 have z:∀q,q<W.heap.size->role q≠5->w5.heap[q]?=W.heap[q]?:=λq d y=>O.block q d (λe=>y (h.sp.k q e.symm))
 have D:=h.sb.nb.1;have M:role b≠5:=by rw[h.sp.b];omega
 have A:=z b D M;have w:=t b D M;have l:∀q,q<W.heap.size->role q≠5->q≠b->(w5.setCell (aA b 4017) (sS g (K.length+1) cap)).heap[q]?=W.heap[q]?:=λq d y E=>(kP _ _ _ _ E).trans (z q d y)
 have C:∀o,o≠4017->(w5.setCell (aA b 4017) (sS g (K.length+1) cap)).cell? (aA b o)=W.cell? (aA b o):=λo L=>(uC _ (.inr (λe=>L e.symm))).trans (cOb b o A)
 have u:W.heap.size<=(w5.setCell (aA b 4017) (sS g (K.length+1) cap)).heap.size:=by have:=O.size;simpa[World.setCell]using this
 have N:role bn≠5:=by rw[h.sp.n];omega
 have H:bn≠b:=λe=>by have s:=h.sp.n;have v:=h.sp.b;rw[e]at s;omega
 have G:=l bn h.sb.lo.2.2.1 N H;have P:∀q,vf.ownBlock=some q->(w5.setCell (aA b 4017) (sS g (K.length+1) cap)).heap[q]?=W.heap[q]?:=λq d=>l q (h.sb.fr.own.lt q d).2 (by rw[h.sp.f q d];omega) (λe=>by have s:=h.sp.f q d;have v:=h.sp.b;rw[e]at s;omega)
 refine⟨⟨h.sb.bx.of λo L=>C o (by omega),h.sb.ha,(C 13 (by omega)).trans h.sb.n13,λk J=>⟨(cOb bn _ G).trans (h.sb.nd k J).1,(cOb bn _ G).trans (h.sb.nd k J).2⟩,⟨(C 14 (by omega)).trans h.sb.fr.hd,?_,uN h.sb.fr.own P,h.sb.fr.apart⟩,h.sb.rg.of λo _ v=>C o (by omega),?_,?_,?_,⟨h.sb.lo.1,h.sb.lo.2.1,h.sb.lo.2.2.of G u⟩⟩,?_,?_,h.pr.of (λq d s=>l q d (by rw[s];omega) (λe=>by have v:=h.sp.b;rw[e]at s;omega)) (λq d s=>by(try dsimp only);rw[if_neg (t q d (by rw[s];omega))];exact s)⟩;rw[kS];exact(fOb b 14 A).trans h.sb.fr.hf;exact kM _ _ _ ((cOb b 4017 A).trans h.sb.k0);have:=uN (w':=w5.setCell (aA b 4017) (sS g (K.length+1) cap)) Q (λq d=>kP _ _ _ _ (λe=>w (by simp[Value.ownBlock]at d;rw[d];exact e.symm)));simpa using this;refine⟨kF D u,λj=>?_⟩;rw[kS];exact(fOb b j A).trans (h.sb.nb.2 j);exact h.rw.same u (λm=>l br (h.rw.nr m).1.1 (by rw[h.sp.r m];omega) (λe=>by have s:=h.sp.r m;have v:=h.sp.b;rw[e]at s;omega)) (λq d=>l (cB q) (h.rw.nc q d).1.1 (by rw[h.sp.c q d];omega) (λe=>by have s:=h.sp.c q d;have v:=h.sp.b;rw[e]at s;omega)) (λq d m=>l (pb q) (h.rw.pl q d m).2.1.1 (by rw[h.sp.p q d m];omega) (λe=>by have s:=h.sp.p q d m;have v:=h.sp.b;rw[e]at s;omega));refine⟨?_,?_,λm=>?_,λq d=>?_,λq d=>?_,λq d=>?_,λq d m=>?_⟩
 ·rw[if_neg w];exact h.sp.b
 rw[if_neg (t bn h.sb.lo.2.2.1 N)];exact h.sp.n;rw[if_neg (t br (h.rw.nr m).1.1 (by rw[h.sp.r m];omega))];exact h.sp.r m;rw[if_neg (t (cB q) (h.rw.nc q d).1.1 (by rw[h.sp.c q d];omega))];exact h.sp.c q d;rw[if_neg (t q (h.sb.fr.own.lt q d).2 (by rw[h.sp.f q d];omega))];exact h.sp.f q d;simp[Value.ownBlock]at d;rw[if_pos d.symm];rw[if_neg (t (pb q) (h.rw.pl q d m).2.1.1 (by rw[h.sp.p q d m];omega))];exact h.sp.p q d m
def a1p(x:Hp)(i:Nat):Bool:=x.E == 4 || (x.E == 3 && decide ((i:Int)<x.I))
theorem c9a(x:Hp)(b d i:Nat)(w:World)(g:w.cell? (aA b 5)=some (iv x.E))(f:w.cell? (aA b 6)=some (iv x.I))(h:w.cell? (aA d (i*2))=some (iv i)):
  Calls prog 85 #[pP b,ndp d i] w λe w'=>e=.returned (.bool (a1p x i))/\Ext w w':=by
 cases a:(x.E == 4)
 cases c:(x.E == 3)
 ·have E:=uU (show a1p x i=false by simp[a1p,a,c]);go_enter func85,ntmps85;go_wp21;go_quiet (fail);go_wp21;go_ret;exact⟨by rw[uH E];rfl,Ext.drewN (hO _) _⟩
 have E:=uU (show a1p x i=decide ((i:Int)<x.I) by simp[a1p,a,c]);go_enter func85,ntmps85;go_wp21;go_quiet (fail);go_wp21;go_ret;exact⟨by rw[uH E];rfl,Ext.drewN (hO _) _⟩;go_enter func85,ntmps85;go_wp21;go_quiet (fail);go_wp21;go_ret;exact⟨by rw[(show a1p x i=true by simp[a1p,a])];rfl,Ext.drewN (hO _) _⟩
theorem c2e(b g c i:Nat)(G:List Int)(w:World)(h:RAt w b g c G)(f:Nf1 b w)(s:G.length<4000):
  Calls prog 84 #[pQ b 15,ndp g i] w λe w'=>e=.returned (.tuple #[])/\RAt w' b g c (G++[(i:Int)])/\uQ (λq=>q=b) w w'/\Nf1 b w'/\∀o,(o<15\/o=4015\/o=4017)->w'.cell? (aA b o)=w.cell? (aA b o):=by
 have x:=h.r0;have y:=h.r1;have C:=h.h0;have⟨u,r⟩:=h.ro ((c+G.length) % 4000) (mN _ (by omega));have n:=f.2 (15+(c+G.length) % 4000);have A:=f.2 4016;have⟨m,d⟩:∃m,m=(c+G.length) % 4000:=⟨_,rfl⟩;rw[<-d]at r n;have l:m<4000:=d▸mN _ (by omega);have B:((c:Int)+(G.length:Int)).tmod 4000=(m:Int):=by have:=b5o (c+G.length);rw[<-d]at this;simpa using this
 have z:(0:Int)<=(m:Int):=by omega
 have t:(m:Int)<4000:=by omega
 have k:=uU d;have H:=uU h;clear h d;go_enter func84,ntmps84;go_wp21;go_region;all_goals
  go_wp21;go_end0;refine⟨rfl,(H.put s k).block rfl,(uQ.setCell (S:=λq=>q=b) (tE w b (15+m) _) (p:=(aA b 4016)) rfl _).drew,⟨by have:=f.1;simpa[World.setCell]using this,λj=>by rw[show ∀(W:World)(p:Addr),W.drew.frozen? p=W.frozen? p from λW p=>mL (a:=p) rfl,kS,kS];exact f.2 j⟩,λo v=>?_⟩;rw[a0u,uC _ (.inr (by omega)),uC _ (.inr (by omega))]
def yQ(p:Int)(b:Nat):Value:=if p=1 then .iface 212 (.agg #[.pointer (some ⟨b,0,none⟩)]) else if p=2 then .iface 213 (.agg #[.pointer (some ⟨b,0,none⟩)]) else if p=3 then .iface 214 (.agg #[.pointer (some ⟨b,0,none⟩)]) else if p=4 then .iface 215 (.agg #[.pointer (some ⟨b,0,none⟩)]) else if p=5 then .iface 216 (.agg #[.pointer (some ⟨b,0,none⟩)]) else if p=6 then .iface 217 (.agg #[.pointer (some ⟨b,0,none⟩)]) else .nilIface
theorem b3x(p:Int)(b:Nat)(w:World)(a:w.cell? (aA b 5)=some (iv p))(c:0<=p/\p<=6):
  Calls prog 174 #[pP b] w λe w'=>e=.returned (yQ p b)/\w'=w:=by
 have h:p=0\/p=1\/p=2\/p=3\/p=4\/p=5\/p=6:=by omega
 obtain rfl|rfl|rfl|rfl|rfl|rfl|rfl:=h;all_goals
  go_in;go_wp2;go_ret;exact⟨rfl,rfl⟩
theorem a4n(a:Int)(b n f:Nat)(c:Option Addr)(w:World)(g:w.cell? (aA b 6)=some (iv a))(d:w.cell? (aA b 13)=some (.slice c n f))(h:(a == (n:Int))=true):
  Calls prog 213 #[pP b] w λe w'=>e=.returned (.pointer none)/\Ext w w':=by
 go_in;go_wp21;go_quiet (fail);go_wp2;go_ret;exact⟨rfl,(hO _).drewN _⟩
theorem a0x(b n d a i:Nat)(w:World)(l:w.cell? (aA b 6)=some (iv i))(c:w.cell? (aA b 13)=some (sS a n d))(k:i<n):
  Calls prog 213 #[pP b] w λe w'=>e=.returned (ndp a i)/\Ext w w':=by
 have h:((i:Int) == (n:Int))=false:=by simp;omega
 have f:=i0N i;have j:(i:Int)<(n:Int):=by omega
 go_in;go_wp21;go_quiet (fail);obtain⟨g,rfl⟩:∃m,m=nq:=⟨_,rfl⟩;go_wp21;go_quiet (fail);go_wp2;go_ret;exact⟨rfl,((hO _).drewN _).drewN _⟩
theorem SAt.boxed[qd]{x':Hp}(h:SAt B w b x ar kr v4 v8 br cB cO bn pb pa pk kn hd vf F vk K role)(o:uQ (λq=>q=b) w w')(H:Nf1 b w')(z:x'.B=x.B)(m:x'.A=x.A)(O:x'.D=x.D)(N:cY w' b x' (.slice ar x.B.length kr) v4 v8)(c:∀k,13<=k->w'.cell? (aA b k)=w.cell? (aA b k)):
  SAt B w' b x' ar kr v4 v8 br cB cO bn pb pa pk kn hd vf F vk K role:=by
 have l:∀q,q<w.heap.size->role q≠0->w'.heap[q]?=w.heap[q]?:=λq g M=>o.block q g (λe=>M (e▸h.sp.b))
 have G:=l bn h.sb.lo.2.2.1 (by rw[h.sp.n];omega);have C:∀q,x'.c q=x.c q:=λq=>by simp only[Hp.c,m]
 have j:=h.rw.same o.size (λu=>l br (h.rw.nr u).1.1 (by rw[h.sp.r u];omega)) (λq g=>l (cB q) (h.rw.nc q g).1.1 (by rw[h.sp.c q g];omega)) (λq g u=>l (pb q) (h.rw.pl q g u).2.1.1 (by rw[h.sp.p q g u];omega));refine⟨⟨z▸N,z▸h.sb.ha,m▸(c 13 (by omega)).trans h.sb.n13,λk y=>?_,⟨(c 14 (by omega)).trans h.sb.fr.hd,H.2 14,uN h.sb.fr.own (λq g=>l q (h.sb.fr.own.lt q g).2 (by rw[h.sp.f q g];omega)),h.sb.fr.apart⟩,?_,(c 4017 (by omega)).trans h.sb.k0,uN h.sb.kp (λq g=>l q (h.sb.kp.lt q g).2 (by rw[h.sp.k q g];omega)),H,⟨h.sb.lo.1,h.sb.lo.2.1,h.sb.lo.2.2.of G o.size⟩⟩,?_,?_,h.pr.of (λq g A=>l q g (by rw[A];omega)) (λ_ _ h=>h)⟩;rw[m]at y;exact⟨(cOb bn _ G).trans (h.sb.nd k y).1,(cOb bn _ G).trans (h.sb.nd k y).2⟩;rw[O];exact h.sb.rg.of λo A _=>c o (by omega)
 refine⟨λi I=>?_,λq g=>?_,λq g=>?_,λq g k y=>?_,λq g u=>?_,?_,?_,?_,λq E g t v A J=>?_,λq E g t v=>?_,λq g=>?_⟩
 ·have D:i<x.B.length:=z▸I;have L:x'.B[i]=x.B[i]:=by simp[z]
  rw[L];exact j.r i D
 rw[m]at g;rw[C];exact j.s q g;rw[m]at g;rw[C];exact j.p7 q g;rw[m]at g;rw[C]at y ⊢;exact j.p q g k y;rw[m]at g ⊢;exact j.pl q g u;rw[z];exact j.nr;rw[m];exact j.nc;rw[m];exact j.d;rw[m]at g t;exact j.dp q E g t v A J;rw[m]at g t;exact j.dc q E g t v;rw[m]at g;rw[C];exact j.kp q g;refine⟨h.sp.b,h.sp.n,z▸h.sp.r,m▸h.sp.c,h.sp.f,h.sp.k,λq g u=>?_⟩;rw[m]at g;exact h.sp.p q g u
theorem SAt.s1[qd](h:SAt B w b x ar kr v4 v8 br cB cO bn pb pa pk kn hd vf F vk K role)(k:Nat)(l:k<13)(v:Int){y:Hp}(a:y.B=x.B)(c:y.A=x.A)(d:y.D=x.D)(e:hbL y (.slice ar x.B.length kr) v4 v8=(hbL x (.slice ar x.B.length kr) v4 v8).set k (iv v)):SAt B (w.setCell (aA b k) (iv v)) b y ar kr v4 v8 br cB cO bn pb pa pk kn hd vf F vk K role:=
 h.boxed (tE w b k _) (h.sb.nb.set _ _) a c d (h.sb.bx.st k _ e) (λj c=>uC _ (.inr (by omega)))
theorem SAt.phased[qd](h:SAt B w b x ar kr v4 v8 br cB cO bn pb pa pk kn hd vf F vk K role)(a:Int):
  SAt B ((w.setCell (aA b 6) (iv a)).setCell (aA b 7) (iv 0)) b { x with I:=a,sub:=0 } ar kr v4 v8 br cB cO bn pb pa pk kn hd vf F vk K role:=
 (h.s1 6 (by omega) a (y:={ x with I:=a }) rfl rfl rfl rfl).s1 7 (by omega) 0 rfl rfl rfl rfl
theorem Ext.sd{a:World}(h:Ext a w)(o:a.heap.size<=b)(k:Nat)(v:Value):Ext a (w.setCell (aA b k) v):=h.sc b k o v
theorem a7o[qd](h:SAt B w b x ar kr v4 v8 br cB cO bn pb pa pk kn hd vf F vk K role)(p:Int)(k:x.E=p)(v:(p == 5)=false)(j:(p == 6)=false)(y:0<=p/\p<=6)(a:World)(z:a.heap.size<=B)(l:Ext a w):
  Calls prog 105 #[pP b] w λe w'=>e=.returned (yQ (p+1) b)/\Hid (SAt B w' b (dC x (p+1) 0) ar kr v4 v8 br cB cO bn pb pa pk kn hd vf F vk K role)/\Ext a w':=by
 have i:=h.sb.bx.2.2.2.2.2.1;have q:=h.sb.bx.2.2.2.2.2.2.1;have t:=h.sb.bx.2.2.2.2.2.2.2.1;rw[k]at i;have m:=h.sb.nb.2 5;have o:=h.sb.nb.2 6;have r:=h.sb.nb.2 7;have u:=h.sb.lo.1;have s:wrap64 (p+1)=p+1:=by unfold wrap64;omega
 have f:=uU ((h.phased 0).s1 5 (by omega) (p+1) (y:=dC x (p+1) 0) rfl rfl rfl rfl);have c:=kA z u;have g:=uU (((l.sd c 6 (iv 0)).sd c 7 (iv 0)).sd c 5 (iv (p+1)));have d:0<=p+1/\p+1<=6:=⟨by omega,by simp at j;omega⟩;go_in;go_wp21;refine(b3x (p+1) b _ (f.sb.bx.2.2.2.2.2.1) d).mono ?_;rintro e n ⟨rfl,c⟩;subst c;go_wp2;go_ret;exact⟨rfl,f,g⟩
theorem turn_5[qd](h:SAt B w b x ar kr v4 v8 br cB cO bn pb pa pk kn hd vf F vk K role)(j:x.E=5)(a:World)(y:a.heap.size<=B)(l:Ext a w):
  Calls prog 105 #[pP b] w λe w'=>e=.returned (yQ 6 b)/\Hid (SAt B w' b (dC x 6 x.A.length) ar kr v4 v8 br cB cO bn pb pa pk kn hd vf F vk K role)/\Ext a w':=by
 have g:=h.sb.bx.2.2.2.2.2.1;have s:=h.sb.bx.2.2.2.2.2.2.1;have u:=h.sb.bx.2.2.2.2.2.2.2.1;have i:=h.sb.n13;rw[j]at g;have m:=h.sb.nb.2 5;have o:=h.sb.nb.2 6;have t:=h.sb.nb.2 7;have v:=h.sb.lo.1;have d:=uU (((h.phased 0).s1 6 (by omega) x.A.length (y:={ x with I:=x.A.length,sub:=0 }) rfl rfl rfl rfl).s1 5 (by omega) 6 (y:=dC x 6 x.A.length) rfl rfl rfl rfl);have c:=kA y v;have f:=uU ((((l.sd c 6 (iv 0)).sd c 7 (iv 0)).sd c 6 (iv x.A.length)).sd c 5 (iv 6));go_in;go_wp21;refine(b3x 6 b _ (d.sb.bx.2.2.2.2.2.1) (by omega)).mono ?_;rintro e n ⟨rfl,c⟩;subst c;go_wp2;go_ret;exact⟨rfl,d,f⟩
theorem turn_6[qd]{B:Nat}{w:World}{b:Nat}{x:Hp}{ar:Option Addr}{kr:Nat}{v4 v8:Value}{br bn:Nat}{cB cO:Nat->Nat}{pb:Nat->Nat}{pa:Nat->Option Addr}{pk:Nat->Nat}{kn hd:Nat}{vf:Value}{F:List Int}{vk:Value}{K:List Nat}{role:Nat->Nat}(h:SAt B w b x ar kr v4 v8 br cB cO bn pb pa pk kn hd vf F vk K role)(j:x.E=6)(H:0<=x.Q/\x.Q<=1000000000)(a:World)(I:a.heap.size<=B)(s:Ext a w):
  Calls prog 105 #[pP b] w λe w'=>e=.returned (yQ 0 b)/\Hid (SAt B w' b { dC x 0 0 with Q:=if x.Q<1000000000 then x.Q+1 else x.Q } ar kr v4 v8 br cB cO bn pb pa pk kn hd vf F vk K role)/\Ext a w':=by
 have n:=h.sb.bx.2.2.2.2.2.1;have E:=h.sb.bx.2.2.2.2.2.2.1;have C:=h.sb.bx.2.2.2.2.2.2.2.1;have o:=h.sb.bx.2.2.2.2.2.2.2.2.2.2.2.1;rw[j]at n;have t:=h.sb.nb.2 5;have A:=h.sb.nb.2 6;have G:=h.sb.nb.2 7;have l:=h.sb.nb.2 11;have D:=h.sb.lo.1;obtain⟨r,g⟩:=obE (if x.Q<1000000000 then x.Q+1 else x.Q);have wr:wrap64 (x.Q+1)=x.Q+1:=by unfold wrap64;omega
 have f:=uU (show ∀v,(v=x.Q+1/\x.Q+1<=1000000000)\/(v=1000000000/\1000000000<=x.Q+1)->v=r from λv z=>by rw[g];split <;> omega);rw[<-g];have i:=uU (((h.phased 0).s1 5 (by omega) 0 (y:=dC x 0 0) rfl rfl rfl rfl).s1 11 (by omega) r (y:={ dC x 0 0 with Q:=r }) rfl rfl rfl rfl);have c:=kA I D;have m:=uU ((((s.sd c 6 (iv 0)).sd c 7 (iv 0)).sd c 5 (iv 0)).sd c 11 (iv r));clear h j g;go_in;go_wp21;all_goals
  first
  | (have c:(1000000000:Int)=r:=uH f _ (.inr ⟨rfl,by omega⟩);rw[c])
  | (have c:x.Q+1=r:=uH f _ (.inl ⟨rfl,by omega⟩);rw[c])
  | (have c:min (x.Q+1) 1000000000=r:=uH f _ (by omega);rw[c])
  refine(b3x 0 b _ (i.sb.bx.2.2.2.2.2.1) (by omega)).mono ?_;rintro e u ⟨rfl,d⟩;subst d;go_wp21;go_ret;exact⟨rfl,i,m⟩
def yK(x:Hp):Nat:=if x.E=1\/x.E=2 then 16000 else if x.E=3 then 8000+(x.A.length-x.I.toNat) else if x.E=4\/x.E=5 then 8000 else if x.E=6 then x.I.toNat else 0
def KOk(x:Hp)(h:Nat)(K:List Nat):Prop:=K.Pairwise (· < ·)/\(∀i,i∈K->i<h/\(x.c i).st=1)/\∀i,i<h->(x.c i).st=1->i ∉ K->∀j,j<x.A.length->(x.c j).st=0->i<j
structure zH(C:Nat)(x:Hp)(F:List Int)(K:List Nat):Prop where
 ho:Ho F
 al:∀i,i<x.A.length->(x.c i).st=0->(i:Int)∈F
 nn:∀v,v∈F->0<=v
 le:F.length+yK x<=C
 k3:x.E=3->KOk x x.I.toNat K
 k4:x.E=4->K.Pairwise (· < ·)/\(∀i,i∈K->i<x.A.length/\(x.c i).st=1)/\∀i,i<x.A.length->(x.c i).st=1->i ∉ K->∀j,j<x.A.length->(x.c j).st=0->i<j
 k0:x.E≠3->x.E≠4->K=[]
theorem b3d(c:Cl)(d i f b:Nat)(w:World)(h:w.cell? (aA d (i*2+1))=some (pQ f b))(s:S7 w f b c):
  Calls prog 136 #[ndp d i] w λe w'=>e=.returned (.bool (kU c))/\w'=w:=by
 have g:=s.2.2.2.1;cases a:(c.U == 1)
 ·have E:=uU (show kU c=(c.U == 2) by simp[kU,a]);go_in;go_wp2;go_ret;exact⟨by rw[uH E];rfl,rfl⟩
 go_in;go_wp2;go_ret;exact⟨by rw[(show kU c=true by simp[kU,a])];rfl,rfl⟩
theorem SAt.I[qd](h:SAt B w b x ar kr v4 v8 br cB cO bn pb pa pk kn hd vf F vk K role)(a:Int):
  SAt B (w.setCell (aA b 6) (iv a)) b { x with I:=a } ar kr v4 v8 br cB cO bn pb pa pk kn hd vf F vk K role:=by
 refine h.boxed (x':={ x with I:=a }) (tE w b 6 _) (h.sb.nb.set _ _) rfl rfl rfl (h.sb.bx.set6 a) (λk c=>uC _ (.inr (by omega)))
theorem c9c[qd](h:SAt B w b x ar kr v4 v8 br cB cO bn pb pa pk kn hd vf F vk K role)(o:x.E=1)(i:x.I=x.A.length)(a:World)(q:a.heap.size<=B)(p:Ext a w):
  Calls prog 276 #[.agg #[pP b]] w λe w'=>e=.returned (yQ (dW x).E b)/\Hid (SAt B w' b (dW x) ar kr v4 v8 br cB cO bn pb pa pk kn hd vf F vk K role)/\Ext a w':=by
 have E:=uU (show dW x=dC x (1+1) 0 by unfold dW;rw[if_pos i];rfl);have c:=(hO w).alloc (.cells #[pP b] 212);go_in;go_wp21;refine(a4n x.I b x.A.length kn (some (aA bn 0)) _ (c.keep h.sb.bx.2.2.2.2.2.2.1) (c.keep h.sb.n13) (by simpa using i)).mono ?_;rintro e l ⟨rfl,g⟩;have s:l.cell? (aA w.heap.size 0)=some (pP b):=g.keep (by simp[go_sem]);have f:=c.trans g;go_wp21;refine(a7o (h.ext f) 1 o rfl rfl (by omega) a q (p.trans f)).mono ?_;rintro e r ⟨rfl,k,n⟩;go_wp2;go_ret;exact⟨by rw[uH E];rfl,uH E▸uH k,n⟩
theorem SAt.usedTo[qd](h:SAt B w b x ar kr v4 v8 br cB cO bn pb pa pk kn hd vf F vk K role)(u:Int):
  SAt B (w.setCell (aA b 1) (iv u)) b { x with K:=u } ar kr v4 v8 br cB cO bn pb pa pk kn hd vf F vk K role:=by
 refine h.boxed (x':={ x with K:=u }) (tE w b 1 _) (h.sb.nb.set _ _) rfl rfl rfl (h.sb.bx.set1 u) (λk a=>uC _ (.inr (by omega)))
theorem SAt.subs[qd](h:SAt B w b x ar kr v4 v8 br cB cO bn pb pa pk kn hd vf F vk K role)(v:Int):
  SAt B (w.setCell (aA b 7) (iv v)) b { x with sub:=v } ar kr v4 v8 br cB cO bn pb pa pk kn hd vf F vk K role:=by
 refine h.boxed (x':={ x with sub:=v }) (tE w b 7 _) (h.sb.nb.set _ _) rfl rfl rfl (h.sb.bx.set7 v) (λk a=>uC _ (.inr (by omega)))
theorem SAt.turned[qd](h:SAt B w b x ar kr v4 v8 br cB cO bn pb pa pk kn hd vf F vk K role)(cs:List Cl)(M:cs.length=x.A.length)(v:Nat->Nat)(D:Nat->Option Addr)(y:Nat->Nat)(s:Nat->Nat)
  (o:uQ (λq=>∃j,j<x.A.length/\q=cB j) w w') (Y:∀j,j<x.A.length->Nf1 (cB j) w') (J:CapP { x with A:=cs } y)
  (Z:∀q,q<x.A.length->S7 w' (cB q) (cO q) (({ x with A:=cs }:Hp).c q))
  (X:∀q,q<x.A.length->w'.cell? (aA (cB q) (cO q+7))=some (.slice (D q) (({ x with A:=cs }:Hp).c q).F.length (y q)))
  (E:∀q,q<x.A.length->0<y q->(v q<x.A.length/\y q=pk (v q))/\(x.c (v q)).F=(({ x with A:=cs }:Hp).c q).F/\D q=pa (v q)/\s (pb (v q))=6+q)
  (t:∀q,role q<6->s q=role q) :
  SAt B w' b { x with A:=cs } ar kr v4 v8 br cB cO bn (λq=>pb (v q)) D y kn hd vf F vk K s:=by
 have m:∀q,q<w.heap.size->role q≠3->w'.heap[q]?=w.heap[q]?:=λq g A=>o.block q g (λ⟨j,L,e⟩=>A (e▸h.sp.c j L))
 have i:({ x with A:=cs }:Hp).A.length=x.A.length:=M;have Q:∀q,q<x.A.length->0<pk q->w'.heap[pb q]?=w.heap[pb q]?:=λq g M=>m (pb q) (h.rw.pl q g M).2.1.1 (by rw[h.sp.p q g M];omega)
 have l:=h.sb.same o.size (m b h.sb.nb.1 (by rw[h.sp.b];omega)) (m bn h.sb.lo.2.2.1 (by rw[h.sp.n];omega)) (λq g=>m q (h.sb.fr.own.lt q g).2 (by rw[h.sp.f q g];omega)) (λq g=>m q (h.sb.kp.lt q g).2 (by rw[h.sp.k q g];omega));refine⟨⟨l.bx,l.ha,i▸l.n13,λk z=>l.nd k (by rw[i]at z;exact z),l.fr,l.rg,l.k0,l.kp,l.nb,l.lo⟩,⟨λk z=>?_,λq g=>?_,λq g=>?_,λq g k z=>?_,λq g u=>?_,λA=>⟨uY (h.rw.nr A).1 (m br (h.rw.nr A).1.1 (by rw[h.sp.r A];omega)) o.size,(h.rw.nr A).2⟩,λq g=>⟨Y q (by rw[i]at g;exact g),(h.rw.nc q (by rw[i]at g;exact g)).2⟩,λq g=>h.rw.d q (by rw[i]at g;exact g),λq P g C H I h2=>?_,λq P g C H=>h.rw.dc q P (by rw[i]at g;exact g) (by rw[i]at C;exact C) H,J⟩,⟨?_,?_,λA=>?_,λq g=>?_,λq g=>?_,λq g=>?_,λq g u=>?_⟩,h.pr.of (λq g I=>m q g (by rw[I];omega)) (λq _ I=>(t q (by rw[I];omega))▸I)⟩;exact(h.rw.r k z).of λj _=>cOb br _ (m br (h.rw.nr (by have:k<x.B.length:=z;omega)).1.1 (by rw[h.sp.r (by have:k<x.B.length:=z;omega)];omega))
 rw[i]at g;exact Z q g;rw[i]at g;exact X q g;rw[i]at g;have⟨⟨G,_⟩,N,_⟩:=E q g (by have:=J q (i▸g);omega);have U:(({ x with A:=cs }:Hp).c q).p k=(x.c (v q)).p k:=by simp only[Cl.p,N]
 rw[<-N]at z;rw[U];exact(h.rw.p (v q) G k z).of λj _=>cOb (pb (v q)) _ (Q (v q) G (h.rw.pw G (by omega)))
 rw[i]at g;have⟨⟨G,O⟩,N,S,_⟩:=E q g u;rw[O]at u;have⟨W,T,R,V⟩:=h.rw.pl (v q) G u;exact⟨S.trans W,O▸dV T (Q (v q) G u) o.size,⟨R.1,λj L=>R.2 j (by rw[i]at L;exact L)⟩,V⟩;grind[Grw.at,Nf1,CapP,S7,Hp.c];rw[t b (by rw[h.sp.b];omega)];exact h.sp.b;rw[t bn (by rw[h.sp.n];omega)];exact h.sp.n;have:=h.sp.r A;rw[t br (by omega)];exact this;rw[i]at g;have:=h.sp.c q g;rw[t (cB q) (by omega)];exact this;have:=h.sp.f q g;rw[t q (by omega)];exact this;have:=h.sp.k q g;rw[t q (by omega)];exact this;rw[i]at g;exact(E q g u).2.2.2
theorem SAt.wiped[qd](h:SAt B w b x ar kr v4 v8 br cB cO bn pb pa pk kn hd vf F vk K role)(i:Nat)(c:i<x.A.length)(f d:Int):
  SAt B (zN w (cB i) (cO i) f d) b { x with A:=x.A.set i ⟨f,0,0,0,0,0,d,[]⟩ } ar kr v4 v8 br cB cO bn pb (λq=>if q=i then none else pa q) (λq=>if q=i then 0 else pk q) kn hd vf F vk K role:=by
 have g:=Hp.c_set x i ⟨f,0,0,0,0,0,d,[]⟩ c;have⟨r,o⟩:=a4y w (cB i) (cO i) f d _ _ (h.rw.s i c) (h.rw.p7 i c);have m:=a3z w (cB i) (cO i) f d;refine h.turned (x.A.set i ⟨f,0,0,0,0,0,d,[]⟩) (by simp) (λq=>q) _ _ role ((a0c _ _ _ _ _).mono (λq e=>⟨i,c,e⟩)) (λq a=>a7m (h.rw.nc q a).1 (b0d (h.rw.nc i c).1 _ _ _) (a0c _ _ _ _ _)) (λq a=>?_) (λq a=>?_) (λq a=>?_) (λq a l=>?_) (λ_ _=>rfl);have k:q<x.A.length:=by simpa using a
 rw[g q];by_cases e:q=i;grind[zN];simp only[if_neg e];exact h.rw.kp q k;rw[g q];by_cases e:q=i
 ·grind[zN]
 rw[if_neg e];exact(h.rw.s q a).of λj n=>h.rw.far8 c a e (hT _) (a0c _ _ _ _ _) m j (by omega)
 rw[g q];by_cases e:q=i
 ·grind[zN]
 simp only[if_neg e];rw[h.rw.far8 c a e (hT _) (a0c _ _ _ _ _) m 7 (by omega)];exact h.rw.p7 q a;rw[g q];by_cases e:q=i
 ·rw[if_pos e]at l;omega
 rw[if_neg e]at l;exact⟨⟨a,if_neg e⟩,by rw[if_neg e],if_neg e,h.sp.p q a l⟩
end Go.Proofs.YtolmnenlnpbcfaaGreatDoor
