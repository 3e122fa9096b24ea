import Derived.Test.YtddkhnclmeikfaaGreatVn
import Derived.Test.YtddkhnclmeikfaaGreatWx
import Derived.Test.YtddkhnclmeikfaaGreatSr
import Derived.Test.YtddkhnclmeikfaaGreatSpecH4
import Derived.Test.YtddkhnclmeikfaaGreatRby
import Derived.Test.YtddkhnclmeikfaaGreatFr0
set_option maxRecDepth 100000
set_option maxHeartbeats 4000000
namespace Go.Proofs.YtddkhnclmeikfaaGreat
open Go.RowKit Tryz
attribute [local go_sem ↓] Go.wp_at_zero Go.wp_at_succ
variable{x z:Hp}{F F' G:List Int}{w w' wr w1 w2:World}{bn b kr hd kn B br C kc kg bw r1 base on bx bv n k i j g cap m:Nat}{vf v4 v8 vk v v':Value}{ar ac ag:Option Addr}{K Mt St:List Nat}{cB cO pb pk role:Nat->Nat}{pa:Nat->Option Addr}
structure FAt(w:World)(b:Nat)(x:Hp)(base:Nat)(vf:Value)(F:List Int):Prop where
 L:dW w base b 14 vf F
 O:Ho F
 P:F.Perm (a7f x x.A.length)
theorem FAt.ext(h:FAt w b x base vf F)(e:Ext w w'):FAt w' b x base vf F:=⟨h.L.ext e,h.O,h.P⟩
theorem a5i(x:Hp)(k:Nat)(z:Int):z∈a7f x k↔∃i,i<k/\(x.c i).st=0/\(i:Int)=z:=by
 unfold a7f;rw[a0r];simp [a5z,a5d]
theorem d0h(P:F.Perm (a7f x x.A.length))(h:F.length=0)(k:Nat)(a:k<x.A.length):(x.c k).st≠0:=λe=>by
 have:(k:Int)∈F:=P.mem_iff.2 ((a5i _ _ _).2 ⟨k,a,e,rfl⟩);rw[List.length_eq_zero_iff.1 h] at this;cases this
theorem d0i(P:F.Perm (a7f x x.A.length))(O:Ho F)(h:0<F.length)(t:Nat)(d:t<x.A.length)(f:(x.c t).st=1):
  (t:Int)<it F 0↔∀k:Nat,k<t->(x.c k).st≠0:=by
 constructor
 ·intro b k a e;have:=O.least (P.mem_iff.2 ((a5i _ _ _).2 ⟨k,by omega,e,rfl⟩));omega
 ·grind [a5i,a2w,a7f,Ho,Hp.c,it]
theorem b6z(x:Hp)(b i:Nat)(w:World){an:Option Addr}(h:VAt w b x ar kr ac kc ag kg an kn)(hF:FAt w b x base vf F)(hi:i<x.A.length)(U V:Nat)(ha:an=some (aA U V)):
  Calls prog 174 #[pP b,pQ U (V+i*2)] w λe w'=>∃r:Bool,Hid (e=.returned (.bool r))/\(r=true↔eH x i (x.c i))/\Ext w w':=by
 obtain⟨az,ab,bc,oc,G,rfl,m0,m1⟩:=h.N i hi;rw[ha] at G;cases G;obtain⟨ao,ae,ap,kp,Q,C⟩:=h.H.cell i hi;cases Q;have c5:=h.H.c5;have av:=h.n13;have lc:=h.H.lc;have p6:=C.p6;have o:=uU (λn s (hs:b0g (x.c i)=s)=>bare_is (x.c i) U (V+i*2) bc (oc+i*8) ap kp s hs (w.drewN n) (((Ext.refl w).drewN n).keep m1) (C.ext ((Ext.refl w).drewN n)))
 have HV:=uU h;have a:=uU hF;subst ha;cases K:decide (x.E<4)
 ·have bb:=of_decide_eq_false K;cases l:b0g (x.c i)
  ·have N:=uU (show ¬eH x i (x.c i) from λm=>by have:=a8j.2 m.1;rw[this] at l;simp at l);go_enter func174,ntmps174;go_wp2_with fail;go_quiet ((go_at_call 172;exact Calls.quiet_of_same (o _ _ l)));go_wp2;go_ret;exact⟨false,rfl,⟨λf=>by simp at f,λr=>(N r).elim⟩,(Ext.refl w).drewN _⟩
  ·cases D:cQ (x.c i).to 0 ((i:Int)-1)
   ·have N:=uU (show ¬eH x i (x.c i) from λm=>by have:=a4w D;have:=m.2.2.1;have:=m.2.2.2.1;omega);go_enter func174,ntmps174;go_wp2_with fail;go_quiet (first | (go_at_call 172;exact Calls.quiet_of_same (o _ _ l)) | (go_at_call 78;refine Calls.quiet_of_same (a0h _ _ _ false ?_ _);assumption));go_wp2;go_ret;exact⟨false,rfl,⟨λf=>by simp at f,λr=>(N r).elim⟩,(Ext.refl w).drewN _⟩
   ·obtain⟨t,B⟩:∃t:Nat,(x.c i).to=(t:Int):=⟨(x.c i).to.toNat,by have:=a0e D;omega⟩;have am:=a0e D
    have y:t<x.A.length:=by omega
    obtain⟨ak,aq,al,aj,G,Q,k0,k1⟩:=HV.N t y;cases G;cases Q;obtain⟨ah,ai,aa,ba,e3,C3⟩:=HV.H.cell t y;cases e3;have s0:=C3.p0;have aw:(0:Int)<=(t:Int):=by omega
    have ax:(t:Int)<(x.A.length:Int):=by omega
    rw[B] at p6 D;have j:=uU B;have BB:=uU (a8j.1 l);have PH:=uU (show 4<=x.E by omega);cases E:((x.c t).st == 1)
    ·have N:=uU (show ¬eH x i (x.c i) from λm=>by have:=m.2.2.2.2.1;rw[uH j] at this;simp at this E;omega);have R:((x.c t).st != 1)=true:=by simpa using E
     go_enter func174,ntmps174;go_wp2_with fail;go_quiet (first | (go_at_call 172;exact Calls.quiet_of_same (o _ _ l)) | (go_at_call 78;refine Calls.quiet_of_same (a0h _ _ _ true ?_ _);assumption));go_wp2_with fail;go_quiet (fail);go_wp2;go_ret;exact⟨false,rfl,⟨λf=>by simp at f,λr=>(N r).elim⟩,by first | exact((Ext.refl w).drewN _).drewN _ | exact(Ext.refl w).drewN _⟩
    ·have R:((x.c t).st != 1)=false:=by simpa using E
     have W:=uU (show(x.c t).st=1 by simpa using E);have T:=uU (show(x.E=4->∀k:Nat,k<t->(x.c k).st≠0)->eH x i (x.c i) from λhg=>⟨BB,PH,by rw[uH j];omega,by rw[uH j];omega,by rw[uH j];simpa using uH W,λp k M=>hg p k (by rw[uH j] at M;omega)⟩);have MG:=uU (show eH x i (x.c i)->x.E=4->∀k:Nat,k<t->(x.c k).st≠0 from λm p k M=>m.2.2.2.2.2 p k (by rw[uH j];omega));by_cases X:F.length=0
     ·obtain⟨ad,d,rfl⟩:=a.L.empty X;have A:=a.L.hd;have Y:=uU (T λ_ k M=>d0h a.P X k (by omega));cases q:(x.E == 4)
      ·have v:(x.E != 4)=true:=by simpa using q
       go_enter func174,ntmps174;go_wp2_with fail;go_quiet (first | (go_at_call 172;exact Calls.quiet_of_same (o _ _ l)) | (go_at_call 78;refine Calls.quiet_of_same (a0h _ _ _ true ?_ _);assumption));go_wp2_with fail;go_quiet (fail);go_wp2_with fail;refine(a4d (w.drewN _) b 14 ad d (((Ext.refl w).drewN _).keep A)).mono ?_;rintro e I ⟨rfl,rfl⟩;go_wp2;go_ret;exact⟨true,rfl,⟨λ_=>uH Y,λ_=>rfl⟩,by first | exact((Ext.refl w).drewN _).drewN _ | exact(Ext.refl w).drewN _⟩
      ·have v:(x.E != 4)=false:=by simpa using q
       go_enter func174,ntmps174;go_wp2_with fail;go_quiet (first | (go_at_call 172;exact Calls.quiet_of_same (o _ _ l)) | (go_at_call 78;refine Calls.quiet_of_same (a0h _ _ _ true ?_ _);assumption));go_wp2_with fail;go_quiet (fail);go_wp2_with fail;refine(a4d (w.drewN _) b 14 ad d (((Ext.refl w).drewN _).keep A)).mono ?_;rintro e I ⟨rfl,rfl⟩;go_wp2;go_ret;exact⟨true,rfl,⟨λ_=>uH Y,λ_=>rfl⟩,by first | exact((Ext.refl w).drewN _).drewN _ | exact(Ext.refl w).drewN _⟩
     ·obtain⟨g,d,rfl,au⟩:=a.L.form (by omega);have A:=a.L.hd;have Z:=uU (d0i a.P a.O (by omega) t y W);have J:=a.L.cell 0 (by omega);obtain⟨y0,u⟩:∃z,it F 0=z:=⟨_,rfl⟩;rw[u] at J;cases q:(x.E == 4)
      ·have v:(x.E != 4)=true:=by simpa using q
       have Y:=uU (T λp=>by rw[p] at q;simp at q);go_enter func174,ntmps174;go_wp2_with fail;go_quiet (first | (go_at_call 172;exact Calls.quiet_of_same (o _ _ l)) | (go_at_call 78;refine Calls.quiet_of_same (a0h _ _ _ true ?_ _);assumption));go_wp2_with fail;go_quiet (fail);go_wp2_with fail;refine(a1r (w.drewN _) b 14 g 0 F.length d y0 (by omega) (((Ext.refl w).drewN _).keep A) (((Ext.refl w).drewN _).keep J)).mono ?_;rintro e I ⟨rfl,rfl⟩;go_wp2;go_ret;exact⟨true,rfl,⟨λ_=>uH Y,λ_=>rfl⟩,by first | exact((Ext.refl w).drewN _).drewN _ | exact(Ext.refl w).drewN _⟩
      ·have v:(x.E != 4)=false:=by simpa using q
       have P4:=uU (show x.E=4 by simpa using q);cases S:decide ((t:Int)<y0)
       ·have N:=uU (show ¬eH x i (x.c i) from λm=>of_decide_eq_false S (by rw[<-u];exact Z.2 (MG m P4)));go_enter func174,ntmps174;go_wp2_with fail;go_quiet (first | (go_at_call 172;exact Calls.quiet_of_same (o _ _ l)) | (go_at_call 78;refine Calls.quiet_of_same (a0h _ _ _ true ?_ _);assumption));go_wp2_with fail;go_quiet (fail);go_wp2_with fail;refine(a1r (w.drewN _) b 14 g 0 F.length d y0 (by omega) (((Ext.refl w).drewN _).keep A) (((Ext.refl w).drewN _).keep J)).mono ?_;rintro e I ⟨rfl,rfl⟩;go_wp2;go_ret;exact⟨false,rfl,⟨λf=>by simp at f,λr=>(N r).elim⟩,by first | exact((Ext.refl w).drewN _).drewN _ | exact(Ext.refl w).drewN _⟩
       ·have Y:=uU (T λ_=>Z.1 (by rw[u];exact of_decide_eq_true S));have af:=of_decide_eq_true S;go_enter func174,ntmps174;go_wp2_with fail;go_quiet (first | (go_at_call 172;exact Calls.quiet_of_same (o _ _ l)) | (go_at_call 78;refine Calls.quiet_of_same (a0h _ _ _ true ?_ _);assumption));go_wp2_with fail;go_quiet (fail);go_wp2_with fail;refine(a1r (w.drewN _) b 14 g 0 F.length d y0 (by omega) (((Ext.refl w).drewN _).keep A) (((Ext.refl w).drewN _).keep J)).mono ?_;rintro e I ⟨rfl,rfl⟩;go_wp2;go_ret;exact⟨true,rfl,⟨λ_=>uH Y,λ_=>rfl⟩,by first | exact((Ext.refl w).drewN _).drewN _ | exact(Ext.refl w).drewN _⟩
 ·have N:=uU (show ¬eH x i (x.c i) from λm=>by have:=m.2.1;have:=of_decide_eq_true K;omega);have ay:=of_decide_eq_true K;go_enter func174,ntmps174;go_wp2_with fail;go_quiet (fail);go_wp2;go_ret;exact⟨false,rfl,⟨λf=>by simp at f,λr=>(N r).elim⟩,(Ext.refl w).drewN _⟩
theorem b0e(x:Hp)(b a q i:Nat)(w:World)(f:w.cell? (aA b 5)=some (iv x.E))(d:w.cell? (aA b 6)=some (iv x.I))(g:w.cell? (aA a q)=some (iv i)):
  Calls prog 184 #[pP b,pQ a q] w λe w'=>e=.returned (.bool ((x.E == 2) || decide ((i:Int)<x.I)))/\Ext w w':=by
 cases c:(x.E == 2)
 all_goals
  go_enter func184,ntmps184;go_wp2_with fail;go_quiet (fail);go_wp2;go_ret;exact⟨by simp,(Ext.refl w).drewN _⟩
theorem c3y(x:Hp)(b g q i k:Nat)(w:World)(l:w.cell? (aA b 5)=some (iv x.E))(j:w.cell? (aA b 6)=some (iv x.I))(h:w.cell? (aA b 7)=some (iv x.sub))(m:w.cell? (aA g q)=some (iv i)):
  Calls prog 230 #[pP b,pQ g q,iv k] w λe w'=>e=.returned (.bool (eU x i k))/\Ext w w':=by
 cases a:(x.E == 4)
 ·cases c:(x.E == 5)
  ·have E:=uU (show eU x i k=true by simp at a c;simp [eU,a,c]);go_enter func230,ntmps230;go_wp2;go_ret;exact⟨by rw[uH E];rfl,Ext.refl w⟩
  ·have E:=uU (show eU x i k=(decide ((i:Int)<x.I) || ((i:Int) == x.I && decide ((k:Int)<x.sub))) by simp at c;simp [eU,c]);cases d:decide ((i:Int)<x.I)
   ·cases f:((i:Int) == x.I)
    ·go_enter func230,ntmps230;go_wp2_with fail;go_quiet (fail);go_wp2;go_ret;exact⟨by rw[uH E,d,f];simp,(Ext.refl w).drewN _⟩
    ·go_enter func230,ntmps230;go_wp2_with fail;go_quiet (fail);go_wp2;go_ret;exact⟨by rw[uH E,d,f];simp,(Ext.refl w).drewN _⟩
   ·go_enter func230,ntmps230;go_wp2_with fail;go_quiet (fail);go_wp2;go_ret;exact⟨by rw[uH E,d];simp,(Ext.refl w).drewN _⟩
 ·have E:=uU (show eU x i k=false by simp at a;simp [eU,a]);go_enter func230,ntmps230;go_wp2;go_ret;exact⟨by rw[uH E];rfl,Ext.refl w⟩
theorem a2j:(prog.info? 124).map (λi=>(i.zero,i.size,i.bytes))=some (some (.agg #[iv 0,.pointer none]),2,16):=by kernel_rfl
theorem mkNodes(n:Nat)(f:n<=1048576)(w:World):∃z,(Instr.makeSlice 117 (iv n) (iv n)).run prog w=.ok (sS w.heap.size n n) (w.alloc (.cells (madeCells z (n*2)) 124)):=by
 obtain⟨e,d,a,c,b⟩:=info_parts a2j;have h:=run_make (P:=prog) w 117 124 e _ underlying117 d a .i64 .i64 n n (by omega) (Int.le_refl _) (by rw[b];omega) (by omega);rw[c] at h;simp only [Int.toNat_natCast] at h;exact⟨_,h⟩
theorem d0p(x:Hp)(w:World)(b:Nat)
  (c:∀o v,#[iv x.M,iv x.K,iv x.born,.slice ar x.B.length kr,.slice ac x.A.length kc,iv x.E,iv x.I,iv x.sub,.slice ag x.D.length kg,iv x.per,iv x.V,iv x.Q,iv x.S][o]?=some v->w.cell? (aA b o)=some v)
  (q:SlW w (.slice ar x.B.length kr) x.B) (m:SlC w (.slice ac x.A.length kc) x.A) (n:SlI w (.slice ag x.D.length kg) x.D):HAt w b x ar kr ac kc ag kg:=by
 obtain⟨y,u,f,k,R⟩:=q;obtain⟨t,s,e,l,C⟩:=m;obtain⟨r,z,d,h,G⟩:=n;simp only [Value.slice.injEq] at f e d;obtain⟨rfl,_,rfl⟩:=f;obtain⟨rfl,_,rfl⟩:=e;obtain⟨rfl,_,rfl⟩:=d;refine⟨c 0 _ rfl,c 1 _ rfl,c 2 _ rfl,c 3 _ rfl,c 4 _ rfl,c 5 _ rfl,c 6 _ rfl,c 7 _ rfl,c 8 _ rfl,c 9 _ rfl,c 10 _ rfl,c 11 _ rfl,c 12 _ rfl,k,l,h,R,?_,G⟩;intro i g;obtain⟨j,o,a,p⟩:=C i g;rw[Hp.c_eq] at p;exact⟨j,o,a,p⟩
structure Opn(w wr:World)(x:Hp)(bx b bn k j:Nat)(ar:Option Addr)(kr:Nat)(ac:Option Addr)(kc:Nat)(ag:Option Addr)(kg:Nat)(vf:Value)(F:List Int):Prop where
 e:Ext w wr
 hb:w.heap.size<=bx/\bx<b/\b<bn/\bn<wr.heap.size
 x4:wr.cell? ⟨bx,4,none⟩=some (.slice ac x.A.length kc)
 c:∀o v,#[iv x.M,iv x.K,iv x.born,.slice ar x.B.length kr,.slice ac x.A.length kc,iv x.E,iv x.I,iv x.sub,.slice ag x.D.length kg,iv x.per,iv x.V,iv x.Q,iv x.S][o]?=some v->wr.cell? ⟨b,o,none⟩=some v
 n13:wr.cell? ⟨b,13,none⟩=some (.slice (some ⟨bn,0,none⟩) x.A.length x.A.length)
 n:∀i,i<k->∃bc oc,ac=some ⟨bc,oc,none⟩/\wr.cell? ⟨bn,i*2,none⟩=some (iv i)/\wr.cell? ⟨bn,i*2+1,none⟩=some (.pointer (some ⟨bc,oc+i*8,none⟩))
 o:∀j,j<x.A.length*2->qC wr bn j
 f:dW wr (bn+1) b 14 vf F
 fo:Ho F
 fp:F.Perm (a7f x j)
theorem Opn.len(h:Opn w wr x bx b bn k j ar kr ac kc ag kg vf F):F.length<=j:=by
 rw[h.fp.length_eq];exact a2z _ _ _
theorem Opn.same(h:Opn w wr x bx b bn k j ar kr ac kc ag kg vf F)(d:w'.heap=wr.heap)(r:w'.os=wr.os)(m:w'.tape=wr.tape)(s:w'.output=wr.output):
  Opn w w' x bx b bn k j ar kr ac kc ag kg vf F:=by
 have e:Ext wr w':=⟨r,m,s,by rw[d];exact Nat.le_refl _,λk _=>by rw[d]⟩;exact⟨h.e.trans e,⟨h.hb.1,h.hb.2.1,h.hb.2.2.1,by rw[d];exact h.hb.2.2.2⟩,e.keep h.x4,λo v q=>e.keep (h.c o v q),e.keep h.n13,λi g=>let ⟨bc,oc,a,p,q⟩:=h.n i g;⟨bc,oc,a,e.keep p,e.keep q⟩,λj l=>(h.o j l).ext e,h.f.ext e,h.fo,h.fp⟩
theorem Opn.lay{bc oc:Nat}(h:Opn w wr x bx b bn k k ar kr ac kc ag kg vf F)(z:ac=some (aA bc oc))(G:k<x.A.length):
  Opn w ((wr.setCell (aA bn (k*2)) (iv k)).setCell (aA bn (k*2+1)) (pQ bc (oc+k*8))) x bx b bn (k+1) k ar kr ac kc ag kg vf F:=by
 obtain⟨m,u,r,s⟩:=h.hb;have A:=h.o (k*2) (by omega);have C:=h.o (k*2+1) (by omega)
 have d:∀B O,B≠bn->((wr.setCell (aA bn (k*2)) (iv k)).setCell (aA bn (k*2+1)) (pQ bc (oc+k*8))).cell? (aA B O)=wr.cell? (aA B O):=λB O g=>by
  rw[uC _ (.inl (λe=>g e.symm)),uC _ (.inl (λe=>g e.symm))]
 have l:∀B:Nat,B≠bn->((wr.setCell (aA bn (k*2)) (iv k)).setCell (aA bn (k*2+1)) (pQ bc (oc+k*8))).heap[B]?=wr.heap[B]?:=λB g=>by
  rw[Below.heap_setCell _ _ _ _ (show B≠bn from g),Below.heap_setCell _ _ _ _ (show B≠bn from g)]
 refine⟨(h.e.setCell (by show w.heap.size<=bn;omega) _).setCell (by show w.heap.size<=bn;omega) _,⟨m,u,r,by simpa [World.setCell] using s⟩,by rw[d _ _ (by omega)];exact h.x4,λo v q=>by rw[d _ _ (by omega)];exact h.c o v q,by rw[d _ _ (by omega)];exact h.n13,λi E=>?_,λj D=>((h.o j D).set _ _).set _ _,⟨by rw[d _ _ (by omega)];exact h.f.hd,?_,?_,h.f.apart⟩,h.fo,h.fp⟩
 ·by_cases e:i=k
  ·subst e;refine⟨bc,oc,z,?_,(C.set _ _).same _⟩;rw[uC _ (.inr (by omega))];exact A.same _
  ·obtain⟨t,y,a,p,q⟩:=h.n i (by omega);refine⟨t,y,a,?_,?_⟩
   ·rw[uC _ (.inr (by omega)),uC _ (.inr (by omega))];exact p
   ·rw[uC _ (.inr (by omega)),uC _ (.inr (by omega))];exact q
 ·rw[World.frozen?_setCell,World.frozen?_setCell];exact h.f.hf
 ·exact uN h.f.own (λB g=>l B (by have:=(h.f.rlt B g).1;omega))
theorem Opn.skip(h:Opn w wr x bx b bn (k+1) k ar kr ac kc ag kg vf F)(a:a5z x 0 k=false):
  Opn w wr x bx b bn (k+1) (k+1) ar kr ac kc ag kg vf F:=
 ⟨h.e,h.hb,h.x4,h.c,h.n13,h.n,h.o,h.f,h.fo,by unfold a7f;rw[a2y _ _ _ a];exact h.fp⟩
theorem Opn.put(h:Opn w wr x bx b bn (k+1) k ar kr ac kc ag kg vf F)(J:a5z x 0 k=true)
  (l:dW w' (bn+1) b 14 v' F') (o:Ho F') (p:F'.Perm ((k:Int)::F)) (q:QFr b 14 vf v' wr w'):Opn w w' x bx b bn (k+1) (k+1) ar kr ac kc ag kg v' F':=by
 obtain⟨m,t,s,g⟩:=h.hb;have d:∀B,B<=bn->vf.ownBlock≠some B:=λB y e=>by have:=(h.f.rlt B e).1;omega
 refine⟨q.ext h.e (by omega) (λB y=>by have:=(h.f.rlt B y).1;omega),⟨m,t,s,Nat.lt_of_lt_of_le g q.size⟩,q.A h.x4 (by omega) (d _ (by omega)),λo v r=>?_,by rw[q.hdr 13 (by omega)];exact h.n13,λi D=>?_,λj I=>?_,l,o,?_⟩
 ·have K:o<13:=by
   rcases Nat.lt_or_ge o 13 with u | u
   ·exact u
   ·rw[Array.getElem?_eq_none (by simpa using u)] at r;cases r
  rw[q.hdr o (by omega)];exact h.c o v r
 ·obtain⟨z,E,a,A,C⟩:=h.n i D;exact⟨z,E,a,q.A A (by omega) (d _ (by omega)),q.A C (by omega) (d _ (by omega))⟩
 ·obtain⟨⟨v,H⟩,G⟩:=h.o j I;refine⟨⟨v,q.A H (by omega) (d _ (by omega))⟩,?_⟩;rw[World.frozen?_of_block (w:=wr) (a:=(aA bn j)) (q.block bn g (by omega) (d _ (by omega)))];exact G
 ·unfold a7f;rw[a2x _ _ _ J];exact(p.trans (h.fp.cons _)).trans (List.perm_append_singleton _ _).symm
theorem Opn.done(h:Opn w wr x bx b bn x.A.length x.A.length ar kr ac kc ag kg vf F)
  (k:SlW w (.slice ar x.B.length kr) x.B) (j:SlC w (.slice ac x.A.length kc) x.A) (g:SlI w (.slice ag x.D.length kg) x.D) :
  VAt wr b x ar kr ac kc ag kg (some (aA bn 0)) x.A.length/\FAt wr b x (bn+1) vf F:=
 ⟨⟨d0p x wr b h.c (SlW.ext h.e k) (SlC.ext h.e j) (SlI.ext h.e g),h.n13,λi d=>let ⟨bc,oc,a,p,q⟩:=h.n i d;⟨bn,0,bc,oc,rfl,a,by simpa using p,by simpa using q⟩⟩,h.f,h.fo,h.fp⟩
abbrev ndp(bn i:Nat):Value:=.pointer (some ⟨bn,i*2,none⟩)
structure SSep(x:Hp)(role:Nat->Nat)(b br:Nat)(cB:Nat->Nat)(bn:Nat)(pb pk:Nat->Nat)(vf vk:Value):Prop where
 b:role b=0
 n:role bn=1
 r:0<x.B.length->role br=2
 c:∀q,q<x.A.length->role (cB q)=3
 f:∀q,vf.ownBlock=some q->role q=4
 k:∀q,vk.ownBlock=some q->role q=5
 p:∀q,q<x.A.length->0<pk q->role (pb q)=6+q
structure RAt(w:World)(b bn hd:Nat)(G:List Int):Prop where
 h0:hd<4000
 hl:G.length<=4000
 r0:w.cell? ⟨b,4015,none⟩=some (iv hd)
 r1:w.cell? ⟨b,4016,none⟩=some (iv G.length)
 rg:∀i (hi:i<G.length),w.cell? ⟨b,15+(hd+i) % 4000,none⟩=some (ndp bn G[i].toNat)
 ro:∀j,j<4000->∃v,w.cell? ⟨b,15+j,none⟩=some v
def NdB(w:World)(bn kn:Nat):Prop:=bn<w.heap.size/\∀j,j<kn*2->qC w bn j
theorem NdB.of(h:NdB w bn kn)(e:w'.heap[bn]?=w.heap[bn]?)(f:w.heap.size<=w'.heap.size):NdB w' bn kn:=
 ⟨Nat.lt_of_lt_of_le h.1 f,λj d=>by
  obtain⟨⟨v,c⟩,b⟩:=h.2 j d;exact⟨⟨v,(World.cell?_of_block (a:=(aA bn j)) e).trans c⟩,(World.frozen?_of_block (a:=(aA bn j)) e).trans b⟩⟩
structure SB(B:Nat)(w:World)(b:Nat)(x:Hp)(ar:Option Addr)(kr:Nat)(v4 v8:Value)(br:Nat)(cB cO:Nat->Nat)(bn:Nat)(kn hd:Nat)(vf:Value)(F:List Int)(vk:Value)(K:List Nat):Prop where
 bx:dK w b x (.slice ar x.B.length kr) v4 v8
 ha:0<x.B.length->ar=some ⟨br,0,none⟩
 n13:w.cell? ⟨b,13,none⟩=some (.slice (some ⟨bn,0,none⟩) x.A.length kn)
 nd:∀i,i<x.A.length->w.cell? ⟨bn,i*2,none⟩=some (iv i)/\w.cell? ⟨bn,i*2+1,none⟩=some (.pointer (some ⟨cB i,cO i,none⟩))
 fr:dW w B b 14 vf F
 rg:RAt w b bn hd x.D
 k0:w.cell? ⟨b,4017,none⟩=some vk
 kp:w.ownsRow B 126 1 vk K.length (K.map (ndp bn))
 nb:Nf1 b w
 lo:B<=b/\B<=bn/\NdB w bn kn
structure SAt[Inhabited uQ](B:Nat)(w:World)(b:Nat)(x:Hp)(ar:Option Addr)(kr:Nat)(v4 v8:Value)(br:Nat)(cB cO:Nat->Nat)(bn:Nat)(pb:Nat->Nat)(pa:Nat->Option Addr)(pk:Nat->Nat)(kn hd:Nat)(vf:Value)(F:List Int)(vk:Value)(K:List Nat)(role:Nat->Nat):Prop where
 sb:SB B w b x ar kr v4 v8 br cB cO bn kn hd vf F vk K
 rw:Rwn B w x br cB cO pb pa pk
 sp:SSep x role b br cB bn pb pk vf vk
 pr:Prt w role
theorem b6h(a:Nat):((a:Int).tmod 4000)=((a % 4000:Nat):Int):=by
 rw[Int.tmod_eq_emod_of_nonneg (by omega)];omega
theorem RAt.of(h:RAt w b bn hd G)(e:∀o,15<=o->o<4017->w'.cell? (aA b o)=w.cell? (aA b o)):RAt w' b bn hd G:=
 ⟨h.h0,h.hl,(e 4015 (by omega) (by omega)).trans h.r0,(e 4016 (by omega) (by omega)).trans h.r1,λi a=>(e _ (by omega) (by have:(hd+i) % 4000<4000:=Nat.mod_lt _ (by omega);omega)).trans (h.rg i a),λj c=>let ⟨v,q⟩:=h.ro j c;⟨v,(e _ (by omega) (by omega)).trans q⟩⟩
theorem RAt.block(h:RAt w b bn hd G)(e:w'.heap[b]?=w.heap[b]?):RAt w' b bn hd G:=h.of λo _ _=>World.cell?_of_block (a:=(aA b o)) e
theorem RAt.put(h:RAt w b bn hd G)(o:G.length<4000)(f:m=(hd+G.length) % 4000):
  RAt ((w.setCell (aA b (15+m)) (ndp bn i)).setCell (aA b 4016) (iv (G.length+1))) b bn hd (G++[(i:Int)]):=by
 have d:m<4000:=by rw[f];exact Nat.mod_lt _ (by omega)
 refine⟨h.h0,by simp;omega,?_,?_,λk g=>?_,λj n=>?_⟩
 ·rw[uC _ (.inr (by omega)),uC _ (.inr (by omega))];exact h.r0
 ·have:(w.setCell (aA b (15+m)) (ndp bn i)).cell? (aA b 4016)=some (iv G.length):=by rw[uC _ (.inr (by omega))];exact h.r1
  rw[World.cell?_setCell_same _ _ _ this];simp
 ·have l:(hd+k) % 4000<4000:=Nat.mod_lt _ (by omega);rw[uC _ (.inr (by omega))];by_cases e:k=G.length
  ·subst e;obtain⟨v,c⟩:=h.ro m d;rw[<-f,World.cell?_setCell_same _ _ _ c];simp
  ·have a:k<G.length:=by simp at g;omega
   rw[uC _ (.inr (by have:=h.h0;omega)),h.rg k a];simp [a]
 ·rw[uC _ (.inr (by omega))];obtain⟨v,c⟩:=h.ro j n;exact cell?_setCell_some c
theorem a1f(w:World)(p:Addr):w.drew.cell? p=w.cell? p:=World.cell?_of_block (a:=p) rfl
theorem SB.same(h:SB B w b x ar kr v4 v8 br cB cO bn kn hd vf F vk K)(f:w.heap.size<=w'.heap.size)(c:w'.heap[b]?=w.heap[b]?)(d:w'.heap[bn]?=w.heap[bn]?)(g:∀q,vf.ownBlock=some q->w'.heap[q]?=w.heap[q]?)(j:∀q,vk.ownBlock=some q->w'.heap[q]?=w.heap[q]?):SB B w' b x ar kr v4 v8 br cB cO bn kn hd vf F vk K where
 bx:=h.bx.block c
 ha:=h.ha
 n13:=(World.cell?_of_block (a:=(aA b 13)) c).trans h.n13
 nd:=λi e=>⟨(World.cell?_of_block (a:=(aA bn _)) d).trans (h.nd i e).1,(World.cell?_of_block (a:=(aA bn _)) d).trans (h.nd i e).2⟩
 fr:=⟨(World.cell?_of_block (a:=(aA b 14)) c).trans h.fr.hd,(World.frozen?_of_block (a:=(aA b 14)) c).trans h.fr.hf,uN h.fr.own g,h.fr.apart⟩
 rg:=h.rg.block c
 k0:=(World.cell?_of_block (a:=(aA b 4017)) c).trans h.k0
 kp:=uN h.kp j
 nb:=uJ h.nb c f
 lo:=⟨h.lo.1,h.lo.2.1,h.lo.2.2.of d f⟩
theorem SAt.ext[Inhabited uQ](h:SAt B w b x ar kr v4 v8 br cB cO bn pb pa pk kn hd vf F vk K role)(e:Ext w w'):SAt B w' b x ar kr v4 v8 br cB cO bn pb pa pk kn hd vf F vk K role:=
 ⟨h.sb.same e.size (e.block b h.sb.nb.1) (e.block bn h.sb.lo.2.2.1) (λq a=>e.block q (h.sb.fr.own.lt q a).2) (λq a=>e.block q (h.sb.kp.lt q a).2),h.rw.ext e,h.sp,h.pr.of (λq a _=>e.block q a) (λ_ _ h=>h)⟩
theorem SAt.push[Inhabited uQ]{W w5:World}(h:SAt B W b x ar kr v4 v8 br cB cO bn pb pa pk kn hd vf F vk K role)(O:W.grownBy w5 vk.ownBlock)(Q:w5.ownsRow B 126 1 (sS g (K.length+1) cap) (K.length+1) (K.map (ndp bn)++[ndp bn i]))(I:vk.ownBlock=some g\/g=W.heap.size):
  SAt B (w5.setCell (aA b 4017) (sS g (K.length+1) cap)) b x ar kr v4 v8 br cB cO bn pb pa pk kn hd vf F (sS g (K.length+1) cap) (K++[i]) (λq=>if q=g then 5 else role q):=by
 have t:∀q,q<W.heap.size->role q≠5->q≠g:=λq d y e=>by
  rcases I with a | a
  ·exact y (by rw[e];exact h.sp.k g a)
  ·omega
 have z:∀q,q<W.heap.size->role q≠5->w5.heap[q]?=W.heap[q]?:=λq d y=>O.block q d (λe=>y (h.sp.k q e.symm))
 have D:=h.sb.nb.1;have M:role b≠5:=by rw[h.sp.b];omega
 have A:=z b D M;have w:=t b D M;have l:∀q,q<W.heap.size->role q≠5->q≠b->(w5.setCell (aA b 4017) (sS g (K.length+1) cap)).heap[q]?=W.heap[q]?:=λq d y E=>(Below.heap_setCell _ _ _ _ E).trans (z q d y)
 have C:∀o,o≠4017->(w5.setCell (aA b 4017) (sS g (K.length+1) cap)).cell? (aA b o)=W.cell? (aA b o):=λo L=>(uC _ (.inr (λe=>L e.symm))).trans (World.cell?_of_block (a:=(aA b o)) A)
 have u:W.heap.size<=(w5.setCell (aA b 4017) (sS g (K.length+1) cap)).heap.size:=by have:=O.size;simpa [World.setCell] using this
 have N:role bn≠5:=by rw[h.sp.n];omega
 have H:bn≠b:=λe=>by have s:=h.sp.n;have v:=h.sp.b;rw[e] at s;omega
 have G:=l bn h.sb.lo.2.2.1 N H;have P:∀q,vf.ownBlock=some q->(w5.setCell (aA b 4017) (sS g (K.length+1) cap)).heap[q]?=W.heap[q]?:=λq d=>l q (h.sb.fr.own.lt q d).2 (by rw[h.sp.f q d];omega) (λe=>by have s:=h.sp.f q d;have v:=h.sp.b;rw[e] at s;omega)
 refine⟨⟨h.sb.bx.of λo L=>C o (by omega),h.sb.ha,(C 13 (by omega)).trans h.sb.n13,λk J=>⟨(World.cell?_of_block (a:=(aA bn _)) G).trans (h.sb.nd k J).1,(World.cell?_of_block (a:=(aA bn _)) G).trans (h.sb.nd k J).2⟩,⟨(C 14 (by omega)).trans h.sb.fr.hd,?_,uN h.sb.fr.own P,h.sb.fr.apart⟩,h.sb.rg.of λo _ v=>C o (by omega),?_,?_,?_,⟨h.sb.lo.1,h.sb.lo.2.1,h.sb.lo.2.2.of G u⟩⟩,?_,?_,h.pr.of (λq d s=>l q d (by rw[s];omega) (λe=>by have v:=h.sp.b;rw[e] at s;omega)) (λq d s=>by(try dsimp only);rw[if_neg (t q d (by rw[s];omega))];exact s)⟩
 ·rw[World.frozen?_setCell];exact(World.frozen?_of_block (a:=(aA b 14)) A).trans h.sb.fr.hf
 ·exact World.cell?_setCell_same _ _ _ ((World.cell?_of_block (a:=(aA b 4017)) A).trans h.sb.k0)
 ·have:=uN (w':=w5.setCell (aA b 4017) (sS g (K.length+1) cap)) Q (λq d=>Below.heap_setCell _ _ _ _ (λe=>w (by simp [Value.ownBlock] at d;rw[d];exact e.symm)))
  simpa using this
 ·refine⟨Nat.lt_of_lt_of_le D u,λj=>?_⟩;rw[World.frozen?_setCell];exact(World.frozen?_of_block (a:=(aA b j)) A).trans (h.sb.nb.2 j)
 ·exact h.rw.same u (λm=>l br (h.rw.nr m).1.1 (by rw[h.sp.r m];omega) (λe=>by have s:=h.sp.r m;have v:=h.sp.b;rw[e] at s;omega)) (λq d=>l (cB q) (h.rw.nc q d).1.1 (by rw[h.sp.c q d];omega) (λe=>by have s:=h.sp.c q d;have v:=h.sp.b;rw[e] at s;omega)) (λq d m=>l (pb q) (h.rw.pl q d m).2.1.1 (by rw[h.sp.p q d m];omega) (λe=>by have s:=h.sp.p q d m;have v:=h.sp.b;rw[e] at s;omega))
 ·refine⟨?_,?_,λm=>?_,λq d=>?_,λq d=>?_,λq d=>?_,λq d m=>?_⟩
  ·rw[if_neg w];exact h.sp.b
  ·rw[if_neg (t bn h.sb.lo.2.2.1 N)];exact h.sp.n
  ·rw[if_neg (t br (h.rw.nr m).1.1 (by rw[h.sp.r m];omega))];exact h.sp.r m
  ·rw[if_neg (t (cB q) (h.rw.nc q d).1.1 (by rw[h.sp.c q d];omega))];exact h.sp.c q d
  ·rw[if_neg (t q (h.sb.fr.own.lt q d).2 (by rw[h.sp.f q d];omega))];exact h.sp.f q d
  ·simp [Value.ownBlock] at d;rw[if_pos d.symm]
  ·rw[if_neg (t (pb q) (h.rw.pl q d m).2.1.1 (by rw[h.sp.p q d m];omega))];exact h.sp.p q d m
def a1u(x:Hp)(i:Nat):Bool:=x.E == 4 || (x.E == 3 && decide ((i:Int)<x.I))
theorem c8f(x:Hp)(b d i:Nat)(w:World)(g:w.cell? (aA b 5)=some (iv x.E))(f:w.cell? (aA b 6)=some (iv x.I))(h:w.cell? (aA d (i*2))=some (iv i)):
  Calls prog 142 #[pP b,ndp d i] w λe w'=>e=.returned (.bool (a1u x i))/\Ext w w':=by
 cases a:(x.E == 4)
 ·cases c:(x.E == 3)
  ·have E:=uU (show a1u x i=false by simp [a1u,a,c]);go_enter func142,ntmps142;go_wp2_with fail;go_quiet (fail);go_wp2_with fail;go_ret;exact⟨by rw[uH E];rfl,Ext.drewN (Ext.refl _) _⟩
  ·have E:=uU (show a1u x i=decide ((i:Int)<x.I) by simp [a1u,a,c]);go_enter func142,ntmps142;go_wp2_with fail;go_quiet (fail);go_wp2_with fail;go_ret;exact⟨by rw[uH E];rfl,Ext.drewN (Ext.refl _) _⟩
 ·have E:=uU (show a1u x i=true by simp [a1u,a]);go_enter func142,ntmps142;go_wp2_with fail;go_quiet (fail);go_wp2_with fail;go_ret;exact⟨by rw[uH E];rfl,Ext.drewN (Ext.refl _) _⟩
theorem c2k(b g c i:Nat)(G:List Int)(w:World)(h:RAt w b g c G)(f:Nf1 b w)(s:G.length<4000):
  Calls prog 141 #[pQ b 15,ndp g i] w λe w'=>e=.returned (.tuple #[])/\RAt w' b g c (G++[(i:Int)])/\uX (λq=>q=b) w w'/\Nf1 b w'/\∀o,(o<15\/o=4015\/o=4017)->w'.cell? (aA b o)=w.cell? (aA b o):=by
 have x:=h.r0;have y:=h.r1;have C:=h.h0;obtain⟨u,r⟩:=h.ro ((c+G.length) % 4000) (Nat.mod_lt _ (by omega));have n:=f.2 (15+(c+G.length) % 4000);have A:=f.2 4016;obtain⟨m,d⟩:∃m,m=(c+G.length) % 4000:=⟨_,rfl⟩;rw[<-d] at r n;have l:m<4000:=by rw[d];exact Nat.mod_lt _ (by omega)
 have B:((c:Int)+(G.length:Int)).tmod 4000=(m:Int):=by have:=b6h (c+G.length);rw[<-d] at this;simpa using this
 have z:(0:Int)<=(m:Int):=by omega
 have t:(m:Int)<4000:=by omega
 have k:=uU d;have H:=uU h;clear h d;go_enter func141,ntmps141;go_wp2_with fail
 go_region
 all_goals
  go_wp2_with fail
  go_end0
  refine⟨rfl,(H.put s k).block rfl,(uX.setCell (S:=λq=>q=b) (uX.setCell (S:=λq=>q=b) (uX.refl _ w) (p:=(aA b (15+m))) rfl _) (p:=(aA b 4016)) rfl _).drew,⟨by have:=f.1;simpa [World.setCell] using this,λj=>by rw[show ∀(W:World) (p:Addr),W.drew.frozen? p=W.frozen? p from λW p=>World.frozen?_of_block (a:=p) rfl,World.frozen?_setCell,World.frozen?_setCell];exact f.2 j⟩,λo v=>?_⟩;rw[a1f,uC _ (.inr (by omega)),uC _ (.inr (by omega))]
def zV(p:Int)(b:Nat):Value:=if p=1 then .iface 233 (.agg #[.pointer (some ⟨b,0,none⟩)]) else if p=2 then .iface 234 (.agg #[.pointer (some ⟨b,0,none⟩)]) else if p=3 then .iface 235 (.agg #[.pointer (some ⟨b,0,none⟩)]) else if p=4 then .iface 236 (.agg #[.pointer (some ⟨b,0,none⟩)]) else if p=5 then .iface 237 (.agg #[.pointer (some ⟨b,0,none⟩)]) else if p=6 then .iface 238 (.agg #[.pointer (some ⟨b,0,none⟩)]) else .nilIface
theorem b4f(p:Int)(b:Nat)(w:World)(a:w.cell? (aA b 5)=some (iv p))(c:0<=p/\p<=6):
  Calls prog 213 #[pP b] w λe w'=>e=.returned (zV p b)/\w'=w:=by
 have h:p=0\/p=1\/p=2\/p=3\/p=4\/p=5\/p=6:=by omega
 rcases h with rfl | rfl | rfl | rfl | rfl | rfl | rfl
 all_goals
  go_enter func213,ntmps213;go_wp2;go_ret;exact⟨rfl,rfl⟩
theorem a7x(a:Int)(b n f:Nat)(c:Option Addr)(w:World)(g:w.cell? (aA b 6)=some (iv a))(d:w.cell? (aA b 13)=some (.slice c n f))(h:(a == (n:Int))=true):
  Calls prog 236 #[pP b] w λe w'=>e=.returned (.pointer none)/\Ext w w':=by
 go_enter func236,ntmps236;go_wp2_with fail;go_quiet (fail);go_wp2;go_ret;exact⟨rfl,(Ext.refl _).drewN _⟩
theorem a1v(b n d a i:Nat)(w:World)(l:w.cell? (aA b 6)=some (iv i))(c:w.cell? (aA b 13)=some (sS a n d))(k:i<n):
  Calls prog 236 #[pP b] w λe w'=>e=.returned (ndp a i)/\Ext w w':=by
 have h:((i:Int) == (n:Int))=false:=by simp;omega
 have f:(0:Int)<=(i:Int):=by omega
 have j:(i:Int)<(n:Int):=by omega
 go_enter func236,ntmps236;go_wp2_with fail;go_quiet (fail);obtain⟨g,rfl⟩:∃m,m=nq:=⟨_,rfl⟩;go_wp2_with fail;go_quiet (fail);go_wp2;go_ret;exact⟨rfl,((Ext.refl _).drewN _).drewN _⟩
theorem SAt.boxed[Inhabited uQ]{x':Hp}(h:SAt B w b x ar kr v4 v8 br cB cO bn pb pa pk kn hd vf F vk K role)(o:uX (λq=>q=b) w w')(H:Nf1 b w')(z:x'.B=x.B)(m:x'.A=x.A)(O:x'.D=x.D)(N:dK w' b x' (.slice ar x.B.length kr) v4 v8)(c:∀k,13<=k->w'.cell? (aA b k)=w.cell? (aA b k)):
  SAt B w' b x' ar kr v4 v8 br cB cO bn pb pa pk kn hd vf F vk K role:=by
 have l:∀q,q<w.heap.size->role q≠0->w'.heap[q]?=w.heap[q]?:=λq g M=>o.block q g (λe=>M (by rw[e];exact h.sp.b))
 have G:=l bn h.sb.lo.2.2.1 (by rw[h.sp.n];omega);have C:∀q,x'.c q=x.c q:=λq=>by simp only [Hp.c,m]
 have j:=h.rw.same o.size (λu=>l br (h.rw.nr u).1.1 (by rw[h.sp.r u];omega)) (λq g=>l (cB q) (h.rw.nc q g).1.1 (by rw[h.sp.c q g];omega)) (λq g u=>l (pb q) (h.rw.pl q g u).2.1.1 (by rw[h.sp.p q g u];omega));refine⟨⟨by rw[z];exact N,by rw[z];exact h.sb.ha,by rw[m];exact(c 13 (by omega)).trans h.sb.n13,λk y=>?_,⟨(c 14 (by omega)).trans h.sb.fr.hd,H.2 14,uN h.sb.fr.own (λq g=>l q (h.sb.fr.own.lt q g).2 (by rw[h.sp.f q g];omega)),h.sb.fr.apart⟩,?_,(c 4017 (by omega)).trans h.sb.k0,uN h.sb.kp (λq g=>l q (h.sb.kp.lt q g).2 (by rw[h.sp.k q g];omega)),H,⟨h.sb.lo.1,h.sb.lo.2.1,h.sb.lo.2.2.of G o.size⟩⟩,?_,?_,h.pr.of (λq g A=>l q g (by rw[A];omega)) (λ_ _ h=>h)⟩
 ·rw[m] at y;exact⟨(World.cell?_of_block (a:=(aA bn _)) G).trans (h.sb.nd k y).1,(World.cell?_of_block (a:=(aA bn _)) G).trans (h.sb.nd k y).2⟩
 ·rw[O];exact h.sb.rg.of λo A _=>c o (by omega)
 ·refine⟨λi I=>?_,λq g=>?_,λq g=>?_,λq g k y=>?_,λq g u=>?_,?_,?_,?_,λq E g t v A J=>?_,λq E g t v=>?_,λq g=>?_⟩
  ·have D:i<x.B.length:=by rw[<-z];exact I
   have L:x'.B[i]=x.B[i]:=by simp [z]
   rw[L];exact j.r i D
  ·rw[m] at g;rw[C];exact j.s q g
  ·rw[m] at g;rw[C];exact j.p7 q g
  ·rw[m] at g;rw[C] at y ⊢;exact j.p q g k y
  ·rw[m] at g ⊢;exact j.pl q g u
  ·rw[z];exact j.nr
  ·rw[m];exact j.nc
  ·rw[m];exact j.d
  ·rw[m] at g t;exact j.dp q E g t v A J
  ·rw[m] at g t;exact j.dc q E g t v
  ·rw[m] at g;rw[C];exact j.kp q g
 ·refine⟨h.sp.b,h.sp.n,by rw[z];exact h.sp.r,by rw[m];exact h.sp.c,h.sp.f,h.sp.k,λq g u=>?_⟩;rw[m] at g;exact h.sp.p q g u
theorem SAt.phased[Inhabited uQ](h:SAt B w b x ar kr v4 v8 br cB cO bn pb pa pk kn hd vf F vk K role)(p a:Int):
  SAt B (((w.setCell (aA b 6) (iv a)).setCell (aA b 7) (iv 0)).setCell (aA b 5) (iv p)) b (cZ x p a) ar kr v4 v8 br cB cO bn pb pa pk kn hd vf F vk K role:=by
 refine h.boxed (x':=cZ x p a) (uX.setCell (S:=λq=>q=b) (uX.setCell (S:=λq=>q=b) (uX.setCell (S:=λq=>q=b) (uX.refl _ w) (p:=(aA b 6)) rfl _) (p:=(aA b 7)) rfl _) (p:=(aA b 5)) rfl _) (((h.sb.nb.set _ _).set _ _).set _ _) rfl rfl rfl (((h.sb.bx.set6 a).set7 0).set5 p) (λk c=>?_);rw[uC _ (.inr (by omega)),uC _ (.inr (by omega)),uC _ (.inr (by omega))]
theorem a7z[Inhabited uQ](h:SAt B w b x ar kr v4 v8 br cB cO bn pb pa pk kn hd vf F vk K role)(p:Int)(k:x.E=p)(v:(p == 5)=false)(j:(p == 6)=false)(y:0<=p/\p<=6)(a:World)(z:a.heap.size<=B)(l:Ext a w):
  Calls prog 143 #[pP b] w λe w'=>e=.returned (zV (p+1) b)/\Hid (SAt B w' b (cZ x (p+1) 0) ar kr v4 v8 br cB cO bn pb pa pk kn hd vf F vk K role)/\Ext a w':=by
 have i:=h.sb.bx.2.2.2.2.2.1;have q:=h.sb.bx.2.2.2.2.2.2.1;have t:=h.sb.bx.2.2.2.2.2.2.2.1;rw[k] at i;have m:=h.sb.nb.2 5;have o:=h.sb.nb.2 6;have r:=h.sb.nb.2 7;have u:=h.sb.lo.1;have s:wrap64 (p+1)=p+1:=by unfold wrap64;omega
 have f:=uU (h.phased (p+1) 0);have g:=uU (((l.setCell (p:=(aA b 6)) (show a.heap.size<=b by omega) (iv 0)).setCell (p:=(aA b 7)) (show a.heap.size<=b by omega) (iv 0)).setCell (p:=(aA b 5)) (show a.heap.size<=b by omega) (iv (p+1)));have d:0<=p+1/\p+1<=6:=⟨by omega,by simp at j;omega⟩;go_enter func143,ntmps143;go_wp2_with fail;refine(b4f (p+1) b _ (f.sb.bx.2.2.2.2.2.1) d).mono ?_;rintro e n ⟨rfl,c⟩;subst c;go_wp2;go_ret;exact⟨rfl,f,g⟩
theorem turn_5[Inhabited uQ](h:SAt B w b x ar kr v4 v8 br cB cO bn pb pa pk kn hd vf F vk K role)(j:x.E=5)(a:World)(y:a.heap.size<=B)(l:Ext a w):
  Calls prog 143 #[pP b] w λe w'=>e=.returned (zV 6 b)/\Hid (SAt B w' b (cZ x 6 x.A.length) ar kr v4 v8 br cB cO bn pb pa pk kn hd vf F vk K role)/\Ext a w':=by
 have g:=h.sb.bx.2.2.2.2.2.1;have s:=h.sb.bx.2.2.2.2.2.2.1;have u:=h.sb.bx.2.2.2.2.2.2.2.1;have i:=h.sb.n13;rw[j] at g;have m:=h.sb.nb.2 5;have o:=h.sb.nb.2 6;have t:=h.sb.nb.2 7;have v:=h.sb.lo.1
 have d:=uU (show SAt B ((((w.setCell (aA b 6) (iv 0)).setCell (aA b 7) (iv 0)).setCell (aA b 6) (iv x.A.length)).setCell (aA b 5) (iv 6)) b (cZ x 6 x.A.length) ar kr v4 v8 br cB cO bn pb pa pk kn hd vf F vk K role by
  refine h.boxed (x':=cZ x 6 x.A.length) (uX.setCell (S:=λq=>q=b) (uX.setCell (S:=λq=>q=b) (uX.setCell (S:=λq=>q=b) (uX.setCell (S:=λq=>q=b) (uX.refl _ w) (p:=(aA b 6)) rfl _) (p:=(aA b 7)) rfl _) (p:=(aA b 6)) rfl _) (p:=(aA b 5)) rfl _) ((((h.sb.nb.set _ _).set _ _).set _ _).set _ _) rfl rfl rfl ((((h.sb.bx.set6 0).set7 0).set6 x.A.length).set5 6) (λk r=>?_);rw[uC _ (.inr (by omega)),uC _ (.inr (by omega)),uC _ (.inr (by omega)),uC _ (.inr (by omega))])
 have f:=uU ((((l.setCell (p:=(aA b 6)) (show a.heap.size<=b by omega) (iv 0)).setCell (p:=(aA b 7)) (show a.heap.size<=b by omega) (iv 0)).setCell (p:=(aA b 6)) (show a.heap.size<=b by omega) (iv x.A.length)).setCell (p:=(aA b 5)) (show a.heap.size<=b by omega) (iv 6));go_enter func143,ntmps143;go_wp2_with fail;refine(b4f 6 b _ (d.sb.bx.2.2.2.2.2.1) (by omega)).mono ?_;rintro e n ⟨rfl,c⟩;subst c;go_wp2;go_ret;exact⟨rfl,d,f⟩
theorem turn_6[Inhabited uQ]{B:Nat}{w:World}{b:Nat}{x:Hp}{ar:Option Addr}{kr:Nat}{v4 v8:Value}{br bn:Nat}{cB cO:Nat->Nat}{pb:Nat->Nat}{pa:Nat->Option Addr}{pk:Nat->Nat}{kn hd:Nat}{vf:Value}{F:List Int}{vk:Value}{K:List Nat}{role:Nat->Nat}(h:SAt B w b x ar kr v4 v8 br cB cO bn pb pa pk kn hd vf F vk K role)(j:x.E=6)(H:0<=x.Q/\x.Q<=1000000000)(a:World)(I:a.heap.size<=B)(s:Ext a w):
  Calls prog 143 #[pP b] w λe w'=>e=.returned (zV 0 b)/\Hid (SAt B w' b { cZ x 0 0 with Q:=if x.Q<1000000000 then x.Q+1 else x.Q } ar kr v4 v8 br cB cO bn pb pa pk kn hd vf F vk K role)/\Ext a w':=by
 have n:=h.sb.bx.2.2.2.2.2.1;have E:=h.sb.bx.2.2.2.2.2.2.1;have C:=h.sb.bx.2.2.2.2.2.2.2.1;have o:=h.sb.bx.2.2.2.2.2.2.2.2.2.2.2.1;rw[j] at n;have t:=h.sb.nb.2 5;have A:=h.sb.nb.2 6;have G:=h.sb.nb.2 7;have l:=h.sb.nb.2 11;have D:=h.sb.lo.1;obtain⟨r,g⟩:∃r,r=if x.Q<1000000000 then x.Q+1 else x.Q:=⟨_,rfl⟩
 have wr:wrap64 (x.Q+1)=x.Q+1:=by unfold wrap64;omega
 have f:=uU (show ∀v,(v=x.Q+1/\x.Q+1<=1000000000)\/(v=1000000000/\1000000000<=x.Q+1)->v=r from λv z=>by rw[g];split <;> omega);rw[<-g]
 have i:=uU (show SAt B ((((w.setCell (aA b 6) (iv 0)).setCell (aA b 7) (iv 0)).setCell (aA b 5) (iv 0)).setCell (aA b 11) (iv r)) b { cZ x 0 0 with Q:=r } ar kr v4 v8 br cB cO bn pb pa pk kn hd vf F vk K role by
  refine h.boxed (x':={ cZ x 0 0 with Q:=r }) (uX.setCell (S:=λq=>q=b) (uX.setCell (S:=λq=>q=b) (uX.setCell (S:=λq=>q=b) (uX.setCell (S:=λq=>q=b) (uX.refl _ w) (p:=(aA b 6)) rfl _) (p:=(aA b 7)) rfl _) (p:=(aA b 5)) rfl _) (p:=(aA b 11)) rfl _) ((((h.sb.nb.set _ _).set _ _).set _ _).set _ _) rfl rfl rfl ((((h.sb.bx.set6 0).set7 0).set5 0).set11 r) (λk y=>?_);rw[uC _ (.inr (by omega)),uC _ (.inr (by omega)),uC _ (.inr (by omega)),uC _ (.inr (by omega))])
 have m:=uU ((((s.setCell (p:=(aA b 6)) (show a.heap.size<=b by omega) (iv 0)).setCell (p:=(aA b 7)) (show a.heap.size<=b by omega) (iv 0)).setCell (p:=(aA b 5)) (show a.heap.size<=b by omega) (iv 0)).setCell (p:=(aA b 11)) (show a.heap.size<=b by omega) (iv r));clear h j g;go_enter func143,ntmps143;go_wp2_with fail
 all_goals
  first
  | (have c:(1000000000:Int)=r:=uH f _ (.inr ⟨rfl,by omega⟩);rw[c])
  | (have c:x.Q+1=r:=uH f _ (.inl ⟨rfl,by omega⟩);rw[c])
  | (have c:min (x.Q+1) 1000000000=r:=uH f _ (by omega);rw[c])
  refine(b4f 0 b _ (i.sb.bx.2.2.2.2.2.1) (by omega)).mono ?_;rintro e u ⟨rfl,d⟩;subst d;go_wp2_with fail;go_ret;exact⟨rfl,i,m⟩
theorem c2m(c:Cl)(d i f b:Nat)(w:World)(h:w.cell? (aA d (i*2+1))=some (pQ f b))(s:S7 w f b c):
  Calls prog 166 #[ndp d i] w λe w'=>e=.returned (.bool (yZ c))/\w'=w:=by
 have g:=s.2.2.2.1;cases a:(c.U == 1)
 ·have E:=uU (show yZ c=(c.U == 2) by simp [yZ,a]);go_enter func166,ntmps166;go_wp2;go_ret;exact⟨by rw[uH E];rfl,rfl⟩
 ·have E:=uU (show yZ c=true by simp [yZ,a]);go_enter func166,ntmps166;go_wp2;go_ret;exact⟨by rw[uH E];rfl,rfl⟩
theorem SAt.I[Inhabited uQ](h:SAt B w b x ar kr v4 v8 br cB cO bn pb pa pk kn hd vf F vk K role)(a:Int):
  SAt B (w.setCell (aA b 6) (iv a)) b { x with I:=a } ar kr v4 v8 br cB cO bn pb pa pk kn hd vf F vk K role:=by
 refine h.boxed (x':={ x with I:=a }) (uX.setCell (S:=λq=>q=b) (uX.refl _ w) (p:=(aA b 6)) rfl _) (h.sb.nb.set _ _) rfl rfl rfl (h.sb.bx.set6 a) (λk c=>uC _ (.inr (by omega)))
theorem c8i[Inhabited uQ](h:SAt B w b x ar kr v4 v8 br cB cO bn pb pa pk kn hd vf F vk K role)(o:x.E=1)(i:x.I=x.A.length)(a:World)(q:a.heap.size<=B)(p:Ext a w):
  Calls prog 328 #[.agg #[pP b]] w λe w'=>e=.returned (zV (dC x).E b)/\Hid (SAt B w' b (dC x) ar kr v4 v8 br cB cO bn pb pa pk kn hd vf F vk K role)/\Ext a w':=by
 have E:=uU (show dC x=cZ x (1+1) 0 by unfold dC;rw[if_pos i];rfl);have H:=uU h;have m:=uU o;have c:=(Ext.refl w).alloc (.cells #[pP b] 233);have j:=uU (a7x x.I b x.A.length kn (some (aA bn 0)) _ (c.keep h.sb.bx.2.2.2.2.2.2.1) (c.keep h.sb.n13) (by simpa using i));have d:=uU c;go_enter func328,ntmps328;go_wp2_with fail;refine j.mono ?_;rintro e l ⟨rfl,g⟩;have s:l.cell? (aA w.heap.size 0)=some (pP b):=g.keep (by simp [go_sem]);have f:=uU (d.trans g);go_wp2_with fail;refine(a7z (H.ext f) 1 m rfl rfl (by omega) a q (p.trans f)).mono ?_;rintro e r ⟨rfl,k,n⟩;go_wp2;go_ret;exact⟨by rw[uH E];rfl,by rw[uH E];exact uH k,n⟩
theorem SAt.usedTo[Inhabited uQ](h:SAt B w b x ar kr v4 v8 br cB cO bn pb pa pk kn hd vf F vk K role)(u:Int):
  SAt B (w.setCell (aA b 1) (iv u)) b { x with K:=u } ar kr v4 v8 br cB cO bn pb pa pk kn hd vf F vk K role:=by
 refine h.boxed (x':={ x with K:=u }) (uX.setCell (S:=λq=>q=b) (uX.refl _ w) (p:=(aA b 1)) rfl _) (h.sb.nb.set _ _) rfl rfl rfl (h.sb.bx.set1 u) (λk a=>uC _ (.inr (by omega)))
theorem SAt.subs[Inhabited uQ](h:SAt B w b x ar kr v4 v8 br cB cO bn pb pa pk kn hd vf F vk K role)(v:Int):
  SAt B (w.setCell (aA b 7) (iv v)) b { x with sub:=v } ar kr v4 v8 br cB cO bn pb pa pk kn hd vf F vk K role:=by
 refine h.boxed (x':={ x with sub:=v }) (uX.setCell (S:=λq=>q=b) (uX.refl _ w) (p:=(aA b 7)) rfl _) (h.sb.nb.set _ _) rfl rfl rfl (h.sb.bx.set7 v) (λk a=>uC _ (.inr (by omega)))
def tD(cB cO:Nat->Nat)(n:Nat):List Value:=(List.range (n*2)).map (λj=>if j % 2=0 then iv (j / 2:Nat) else .pointer (some ⟨cB (j / 2),cO (j / 2),none⟩))
theorem c3f(a b:Nat->Nat)(n j:Nat)(h:j<n*2):(tD a b n)[j]?=some (if j % 2=0 then iv (j / 2:Nat) else pQ (a (j / 2)) (b (j / 2))):=by
 unfold tD;rw[List.getElem?_map,List.getElem?_range h];rfl
theorem SAt.regrow[Inhabited uQ](h:SAt B w b x ar kr v4 v8 br cB cO bn pb pa pk kn hd vf F vk [] role)(K:x.D=[])(N:B<=w.heap.size)(k:Nat)(m:Array Value)(T:TypeId)(O:x.A.length<=k/\m.size=(k-x.A.length)*2):
  SAt B ((w.drew.alloc (.cells ((tD cB cO x.A.length).toArray++m) T)).setCell (aA b 13) (sS w.heap.size x.A.length k)) b x ar kr v4 v8 br cB cO w.heap.size pb pa pk k hd vf F vk [] (λq=>if q=w.heap.size then 1 else role q):=by
 have C:=h.sb.nb.1;have J:b≠w.heap.size:=by omega
 have l:∀q,q<w.heap.size->(w.drew.alloc (.cells ((tD cB cO x.A.length).toArray++m) T)).heap[q]?=w.heap[q]?:=λq d=>Below.heap_alloc w.drew _ q d
 have n:∀q,q<w.heap.size->q≠b->((w.drew.alloc (.cells ((tD cB cO x.A.length).toArray++m) T)).setCell (aA b 13) (sS w.heap.size x.A.length k)).heap[q]?=w.heap[q]?:=λq d M=>(Below.heap_setCell _ _ _ _ M).trans (l q d)
 have u:∀o,o≠13->((w.drew.alloc (.cells ((tD cB cO x.A.length).toArray++m) T)).setCell (aA b 13) (sS w.heap.size x.A.length k)).cell? (aA b o)=w.cell? (aA b o):=λo H=>(uC _ (.inr (λe=>H e.symm))).trans (World.cell?_of_block (a:=(aA b o)) (l b C))
 have L:w.heap.size+1=((w.drew.alloc (.cells ((tD cB cO x.A.length).toArray++m) T)).setCell (aA b 13) (sS w.heap.size x.A.length k)).heap.size:=by simp [World.setCell]
 have s:((w.drew.alloc (.cells ((tD cB cO x.A.length).toArray++m) T)).setCell (aA b 13) (sS w.heap.size x.A.length k)).heap[w.heap.size]?=some (.cells ((tD cB cO x.A.length).toArray++m) T):=(Below.heap_setCell _ _ _ _ (λe=>J e.symm)).trans (heap_alloc_new w.drew _)
 have G:∀j,j<x.A.length*2->((w.drew.alloc (.cells ((tD cB cO x.A.length).toArray++m) T)).setCell (aA b 13) (sS w.heap.size x.A.length k)).cell? (aA w.heap.size j)=some (if j % 2=0 then iv (j / 2:Nat) else pQ (cB (j / 2)) (cO (j / 2))):=λj A=>by
  rw[cell_of_row _ w.heap.size j _ _ (0,0) s,<-c3f cB cO x.A.length j A];have g:j<(tD cB cO x.A.length).toArray.size:=by simp [tD];exact A
  rw[Array.getElem?_append_left g];simp
 have t:∀q,role q≠0->q≠b:=λq d e=>d (by rw[e];exact h.sp.b)
 have z:Nf1 b ((w.drew.alloc (.cells ((tD cB cO x.A.length).toArray++m) T)).setCell (aA b 13) (sS w.heap.size x.A.length k)):=(uJ h.sb.nb (l b C) (by simp)).set _ _;have E:(w.drew.alloc (.cells ((tD cB cO x.A.length).toArray++m) T)).cell? (aA b 13)=some (sS bn x.A.length kn):=(World.cell?_of_block (a:=(aA b 13)) (l b C)).trans h.sb.n13;refine⟨⟨h.sb.bx.of λo H=>u o (by omega),h.sb.ha,World.cell?_setCell_same _ _ _ E,λi I=>⟨?_,?_⟩,⟨(u 14 (by omega)).trans h.sb.fr.hd,z.2 14,uN h.sb.fr.own (λq d=>n q (h.sb.fr.own.lt q d).2 (t q (by rw[h.sp.f q d];omega))),h.sb.fr.apart⟩,?_,(u 4017 (by omega)).trans h.sb.k0,?_,z,⟨h.sb.lo.1,N,by omega,?_⟩⟩,h.rw.same (by omega) (λg=>n br (h.rw.nr g).1.1 (t br (by rw[h.sp.r g];omega))) (λq d=>n (cB q) (h.rw.nc q d).1.1 (t (cB q) (by rw[h.sp.c q d];omega))) (λq d g=>n (pb q) (h.rw.pl q d g).2.1.1 (t (pb q) (by rw[h.sp.p q d g];omega))),?_,h.pr.of (λq d D=>n q d (t q (by rw[D];omega))) (λq d D=>by(try dsimp only);rw[if_neg (by omega)];exact D)⟩
 ·have:=G (i*2) (by omega);rw[if_pos (by omega),show i*2 / 2=i by omega] at this;exact this
 ·have:=G (i*2+1) (by omega);rw[if_neg (by omega),show(i*2+1) / 2=i by omega] at this;exact this
 ·have r:=h.sb.rg;rw[K] at r;rw[K];exact⟨r.h0,r.hl,(u 4015 (by omega)).trans r.r0,(u 4016 (by omega)).trans r.r1,λi I=>by simp at I,λj A=>let ⟨v,q⟩:=r.ro j A;⟨v,(u _ (by omega)).trans q⟩⟩
 ·have:=h.sb.kp;exact uN (by simpa using this) (λq d=>n q (h.sb.kp.lt q d).2 (t q (by rw[h.sp.k q d];omega)))
 ·intro j A;have g:j<((tD cB cO x.A.length).toArray++m).size:=by simp [tD];omega
  refine⟨⟨((tD cB cO x.A.length).toArray++m)[j],?_⟩,?_⟩
  ·rw[cell_of_row _ w.heap.size j _ _ (0,0) s];exact Array.getElem?_eq_getElem g
  ·rw[World.frozen?_setCell];simp [go_sem]
 ·have y:∀q,q<w.heap.size->¬q=w.heap.size:=λq d=>by omega
  refine⟨?_,if_pos rfl,λg=>?_,λq d=>?_,λq d=>?_,λq d=>?_,λq d g=>?_⟩
  ·rw[if_neg J];exact h.sp.b
  ·rw[if_neg (y br (h.rw.nr g).1.1)];exact h.sp.r g
  ·rw[if_neg (y (cB q) (h.rw.nc q d).1.1)];exact h.sp.c q d
  ·rw[if_neg (y q (h.sb.fr.own.lt q d).2)];exact h.sp.f q d
  ·rw[if_neg (y q (h.sb.kp.lt q d).2)];exact h.sp.k q d
  ·rw[if_neg (y (pb q) (h.rw.pl q d g).2.1.1)];exact h.sp.p q d g
theorem d3r[Inhabited uQ](h:SAt B w b x ar kr v4 v8 br cB cO bn pb pa pk x.A.length hd vf F vk [] role)(r:x.D=[])(p:B<=w.heap.size)(m:Nat)(q:x.A.length+m<=8000):
  Calls prog 140 #[sS bn x.A.length x.A.length,iv m] w λe w'=>∃bn' kn',e=.returned (sS bn' x.A.length kn')/\Hid (∃role',SAt B (w'.setCell (aA b 13) (sS bn' x.A.length kn')) b x ar kr v4 v8 br cB cO bn' pb pa pk kn' hd vf F vk [] role')/\Hid (w'.cell? (aA b 13)=some (sS bn x.A.length x.A.length)/\w'.frozen? (aA b 13)=false/\Ext w w'/\x.A.length+m<=kn'):=by
 rcases Nat.eq_zero_or_pos m with e | e
 ·refine(c9q (some (aA bn 0)) x.A.length m w e).mono ?_;rintro e w' ⟨rfl,rfl⟩;refine⟨bn,x.A.length,rfl,⟨role,?_⟩,h.sb.n13,h.sb.nb.2 13,Ext.refl _,by omega⟩;rw[d3o h.sb.n13];exact h
 ·refine(d3q bn x.A.length m (tD cB cO x.A.length) w q e (by simp [tD]) (λj v a=>?_)).mono ?_
  ·have f:j<x.A.length*2:=by have:=(List.getElem?_eq_some_iff.1 a).1;simpa [tD] using this
   rw[c3f cB cO x.A.length j f] at a;rw[<-a];obtain⟨n,l⟩:=h.sb.nd (j / 2) (by omega);by_cases i:j % 2=0
   ·rw[if_pos i];rw[show j / 2*2=j by omega] at n;exact n
   ·rw[if_neg i];rw[show j / 2*2+1=j by omega] at l;exact l
  ·rintro e w' ⟨k,g,rfl,o,c,rfl⟩;have d:Ext w (w.drew.alloc (.cells ((tD cB cO x.A.length).toArray++g) 124)):=(Ext.refl w).drew.alloc _;exact⟨w.heap.size,k,rfl,⟨_,h.regrow r p k g _ ⟨by omega,c⟩⟩,d.keep h.sb.n13,((uK d).2 b 13 h.sb.nb.1).trans (h.sb.nb.2 13),d,o⟩
def eC(x z:Hp):Prop:=z.A.length=x.A.length/\∀q,(z.c q).st=(x.c q).st
theorem eC.refl(x:Hp):eC x x:=⟨rfl,λ_=>rfl⟩
theorem eC.trans{y:Hp}(h:eC x y)(k:eC y z):eC x z:=⟨k.1.trans h.1,λq=>(k.2 q).trans (h.2 q)⟩
theorem eC.set(x:Hp)(i:Nat)(c:Cl)(d:c.st=(x.c i).st)(b:z.A=x.A.set i c):eC x z:=by
 refine⟨by rw[b];simp,λq=>?_⟩;have e:z.c q=({ x with A:=x.A.set i c }:Hp).c q:=by simp only [Hp.c,b]
 rw[e];rcases Nat.lt_or_ge i x.A.length with a | a
 ·rw[Hp.c_set x i c a q];by_cases h:q=i
  ·rw[if_pos h,h];exact d
  ·rw[if_neg h]
 ·rw[List.set_eq_of_length_le a]
theorem eC.A(a:z.A=x.A):eC x z:=⟨by rw[a],λq=>by simp only [Hp.c,a]⟩
theorem b6i(x:Hp)(i:Nat):eC x (uD x i):=by
 unfold uD
 split
 ·exact eC.set x i (tQ (x.c i)) rfl rfl
 ·exact eC.refl x
theorem a7y(x:Hp)(y:Wd):eC x (shadeW x y):=by
 unfold shadeW
 split
 ·exact b6i x _
 ·exact eC.refl x
theorem b8a:∀(ys:List Wd) (z:Hp),eC z (ys.foldl shadeW z)/\(ys.foldl shadeW z).E=z.E
 | [],z=>⟨eC.refl z,rfl⟩
 | y::ys,z=>by
  obtain⟨a,b⟩:=b8a ys (shadeW z y);exact⟨(a7y z y).trans a,b.trans (a0b z y).2.2.1⟩
theorem a8s(h:x.E=1\/x.E=2):yE x=16000:=by unfold yE;rw[if_pos h]
theorem b9s(h:x.E=3):yE x=8000+(x.A.length-x.I.toNat):=by unfold yE;rw[if_neg (by omega),if_pos h]
theorem b9t(h:x.E=4\/x.E=5):yE x=8000:=by unfold yE;rw[if_neg (by omega),if_neg (by omega),if_pos h]
theorem c5b(h:x.E=6):yE x=x.I.toNat:=by unfold yE;rw[if_neg (by omega),if_neg (by omega),if_neg (by omega),if_pos h]
theorem remU_0(h:x.E=0):yE x=0:=by unfold yE;rw[if_neg (by omega),if_neg (by omega),if_neg (by omega),if_neg (by omega)]
theorem zW.same(h:zW C x F K)(c:eC x z)(b:x.E≠3/\x.E≠4)(j:yE z<=yE x)(f:z.E≠4)(g:z.E=3->z.I=0):zW C z F K where
 ho:=h.ho
 al:=λi a d=>h.al i (by rw[<-c.1];exact a) (by rw[<-c.2];exact d)
 nn:=h.nn
 le:=by have:=h.le;omega
 k3:=λe=>by rw[h.k0 b.1 b.2];exact⟨List.Pairwise.nil,λi a=>by simp at a,λi a=>by rw[g e] at a;simp at a⟩
 k4:=λe=>absurd e f
 k0:=λ_ _=>h.k0 b.1 b.2
theorem inv1(h:zW C x F K)(b:x.E=1):zW C (dC x) F K:=by
 have d:=a8s (.inl b);have a:∀z:Hp,eC x z->z.E=1->zW C z F K:=λz g f=>h.same g ⟨by omega,by omega⟩ (by rw[d,a8s (.inl f)];omega) (by omega) (λe=>by omega)
 unfold dC
 split
 ·refine h.same (z:=cZ x 2 0) (eC.A rfl) ⟨by omega,by omega⟩ ?_ (by simp [cZ]) (by simp [cZ]);rw[d,a8s (.inr rfl)];omega
 ·by_cases e:yZ (x.c x.I.toNat)=true
  ·simp only [if_pos e];exact a _ ((b6i x x.I.toNat).trans (eC.A rfl)) ((cU x _).2.2.2.2.2.1.trans b)
  ·simp only [if_neg e];exact a _ (eC.A rfl) b
theorem inv2(h:zW C x F K)(f:x.E=2)(n:x.A.length<=8000):zW C (cX x) F K:=by
 have i:=a8s (.inr f);have d:∀z:Hp,eC x z->z.E=2->zW C z F K:=λz l j=>h.same l ⟨by omega,by omega⟩ (by rw[i,a8s (.inr j)];omega) (by omega) (λe=>by omega)
 unfold cX
 split
 ·rename_i g G m
  split
  ·refine d _ (((a7y x _).trans (a7y _ _)).trans (eC.A rfl)) ?_;exact(a0b _ _).2.2.1.trans ((a0b _ _).2.2.1.trans f)
  ·exact d _ (eC.set x g.toNat (a1j (x.c g.toNat)) rfl rfl) f
 ·obtain⟨a,b⟩:=b8a x.B x;have k:(eE x).A.length<=8000:=by have:=a.1;unfold eE;omega
  split
  ·refine h.same (a.trans (eC.A rfl)) ⟨by omega,by omega⟩ ?_ (by simp [cZ]) (by simp [cZ]);rw[i,b9s rfl];simp only [cZ];omega
  ·exact d _ a (b.trans f)
theorem inv5(h:zW C x F K)(b:x.E=5)(i:x.A.length<=8000):zW C (cV x) F K:=by
 have d:=b9t (.inr b);have a:∀z:Hp,eC x z->z.E=5->zW C z F K:=λz g f=>h.same g ⟨by omega,by omega⟩ (by rw[d,b9t (.inr f)];omega) (by omega) (λe=>by omega)
 unfold cV
 split
 ·refine h.same (z:=cZ x 6 x.A.length) (eC.A rfl) ⟨by omega,by omega⟩ ?_ (by simp [cZ]) (by simp [cZ]);rw[d,c5b rfl];simp [cZ];exact i
 ·split
  ·exact a _ (eC.set x x.I.toNat (qH x (x.c x.I.toNat) x.sub.toNat) rfl rfl) b
  ·exact a _ (eC.A rfl) b
theorem d1y(h:zW C x F K)(a:x.E=3)(b:x.I=x.A.length):zW C (cZ x 4 0) F K where
 ho:=h.ho
 al:=h.al
 nn:=h.nn
 le:=by have:=h.le;rw[b9s a] at this;rw[b9t (.inl rfl)];omega
 k3:=λe=>by simp [cZ] at e
 k4:=λ_=>by
  have k:=h.k3 a;rw[show x.I.toNat=x.A.length by omega] at k;exact k
 k0:=λ_ e=>by simp [cZ] at e
theorem b2q(h:zW C x F K)(hp:x.E=3)(hz:z.E=3)(i:Nat)(hi:x.I=(i:Int))(hin:i<x.A.length)(hzi:z.I=(i:Int)+1)(hl:z.A.length=x.A.length)(hs:∀q,q≠i->(z.c q).st=(x.c q).st)(ho:Ho F')(hf:(F'=F/\((z.c i).st=0->(x.c i).st=0))\/F'.Perm ((i:Int)::F)):zW C z F' (K++if (z.c i).st=1 then [i] else []) where
 ho:=ho
 al:=λq hq h0=>by
  rw[hl] at hq;rcases hf with⟨e,e2⟩ | e
  ·rw[e];refine h.al q hq ?_;by_cases c:q=i
   ·rw[c] at h0 ⊢;exact e2 h0
   ·rw[<-hs q c];exact h0
  ·refine e.mem_iff.2 ?_;by_cases c:q=i
   ·rw[c];exact List.mem_cons_self
   ·exact List.mem_cons_of_mem _ (h.al q hq (by rw[<-hs q c];exact h0))
 nn:=λv hv=>by
  rcases hf with⟨e,_⟩ | e
  ·rw[e] at hv;exact h.nn v hv
  ·rcases List.mem_cons.1 (e.mem_iff.1 hv) with e2 | e2
   ·omega
   ·exact h.nn v e2
 le:=by
  have h1:=h.le;rw[b9s hp] at h1;rw[b9s hz]
  have:F'.length<=F.length+1:=by
   rcases hf with⟨e,_⟩ | e
   ·rw[e];omega
   ·have:=e.length_eq;simp at this;omega
  omega
 k3:=λ_=>by
  have e:z.I.toNat=i+1:=by omega
  have e2:x.I.toNat=i:=by omega
  obtain⟨p1,p2,p3⟩:=h.k3 hp;rw[e2] at p2 p3;rw[e]
  have mem:∀q,q∈(K++if (z.c i).st=1 then [i] else [])↔q∈K\/((z.c i).st=1/\q=i):=λq=>by
   by_cases c:(z.c i).st=1
   ·simp [c]
   ·simp [c]
  refine⟨?_,λq hq=>?_,λq hq h1 hn j hj h0=>?_⟩
  ·by_cases c:(z.c i).st=1
   ·rw[if_pos c];refine List.pairwise_append.2 ⟨p1,List.pairwise_singleton _ _,λa ha b hb=>?_⟩;simp at hb;have:=(p2 a ha).1;omega
   ·rw[if_neg c,List.append_nil];exact p1
  ·rcases (mem q).1 hq with c | ⟨c,d⟩
   ·have:=p2 q c;exact⟨by omega,by rw[hs q (by omega)];exact this.2⟩
   ·rw[d];exact⟨by omega,c⟩
  ·have hne:q≠i:=λc=>hn ((mem q).2 (.inr ⟨by rw[<-c];exact h1,c⟩))
   by_cases c:j=i
   ·omega
   ·exact p3 q (by omega) (by rw[<-hs q hne];exact h1) (λc2=>hn ((mem q).2 (.inl c2))) j (by omega) (by rw[<-hs j c];exact h0)
 k4:=λe=>by omega
 k0:=λe=>absurd hz e
theorem d1z(h:zW C x F K)(c:x.E=6)(a:z.E=0)(b:z.A=x.A):zW C z F K:=
 h.same (eC.A b) ⟨by omega,by omega⟩ (by rw[remU_0 a];omega) (by omega) (λe=>by omega)
theorem c8g(h:zW C x F K)(hp:x.E=6)(hz:z.E=6)(i:Nat)(hi:x.I=(i:Int)+1)(hzi:z.I=(i:Int))(hl:z.A.length<=x.A.length)(hs:∀q,q<z.A.length->q≠i->(z.c q).st=(x.c q).st)(ho:Ho F')(hf:(F'=F/\(i<z.A.length->(z.c i).st=0->(x.c i).st=0))\/F'.Perm ((i:Int)::F)):zW C z F' K where
 ho:=ho
 al:=λq hq h0=>by
  rcases hf with⟨e,e2⟩ | e
  ·rw[e];refine h.al q (by omega) ?_;by_cases c:q=i
   ·rw[c] at h0 ⊢;exact e2 (by omega) h0
   ·rw[<-hs q hq c];exact h0
  ·refine e.mem_iff.2 ?_;by_cases c:q=i
   ·rw[c];exact List.mem_cons_self
   ·exact List.mem_cons_of_mem _ (h.al q (by omega) (by rw[<-hs q hq c];exact h0))
 nn:=λv hv=>by
  rcases hf with⟨e,_⟩ | e
  ·rw[e] at hv;exact h.nn v hv
  ·rcases List.mem_cons.1 (e.mem_iff.1 hv) with e2 | e2
   ·omega
   ·exact h.nn v e2
 le:=by
  have h1:=h.le;rw[c5b hp] at h1;rw[c5b hz]
  have:F'.length<=F.length+1:=by
   rcases hf with⟨e,_⟩ | e
   ·rw[e];omega
   ·have:=e.length_eq;simp at this;omega
  omega
 k3:=λe=>by omega
 k4:=λe=>by omega
 k0:=λ_ _=>h.k0 (by omega) (by omega)
theorem inv0(h:zW C x F K)(a:x.E=0):zW (C+16000) (cZ x 1 0) F K where
 ho:=h.ho
 al:=h.al
 nn:=h.nn
 le:=by have:=h.le;rw[a8s (.inl rfl)];omega
 k3:=λe=>by simp [cZ] at e
 k4:=λe=>by simp [cZ] at e
 k0:=λ_ _=>h.k0 (by omega) (by omega)
theorem zW.wide{D:Nat}(h:zW C x F K)(a:C<=D):zW D x F K:=⟨h.ho,h.al,h.nn,Nat.le_trans h.le a,h.k3,h.k4,h.k0⟩
theorem SAt.freed[Inhabited uQ](h:SAt B w b x ar kr v4 v8 br cB cO bn pb pa pk kn hd vf F vk K role){vf':Value}(l:dW w' B b 14 vf' F')(q:QFr b 14 vf vf' w w')(D:Nf1 b w'):
  ∃role',SAt B w' b x ar kr v4 v8 br cB cO bn pb pa pk kn hd vf' F' vk K role':=by
 have t:∀k,role k≠4->vf.ownBlock≠some k:=λk d e=>d (h.sp.f k e)
 have m:∀k,k<w.heap.size->role k≠4->role k≠0->w'.heap[k]?=w.heap[k]?:=λk d s C=>q.block k d (λe=>C (by rw[e];exact h.sp.b)) (t k s)
 have u:∀o,o≠14->w'.cell? (aA b o)=w.cell? (aA b o):=λo z=>q.hdr o z
 have A:∀k,vf'.ownBlock=some k->vf.ownBlock=some k\/w.heap.size<=k:=λk d=>by
  rcases q.own with e | ⟨g,e,E⟩
  ·exact .inl (e ▸ d)
  ·grind [Grw.at,Nf1]
 have i:∀k,k<w.heap.size->role k≠4->vf'.ownBlock≠some k:=λk d G e=>by grind [S7.some,Nf1]
 have y:=m bn h.sb.lo.2.2.1 (by rw[h.sp.n];omega) (by rw[h.sp.n];omega);refine⟨λk=>(open Classical in if vf'.ownBlock=some k then 4 else role k),⟨h.sb.bx.of λo z=>u o (by omega),h.sb.ha,(u 13 (by omega)).trans h.sb.n13,λk d=>⟨(World.cell?_of_block (a:=(aA bn _)) y).trans (h.sb.nd k d).1,(World.cell?_of_block (a:=(aA bn _)) y).trans (h.sb.nd k d).2⟩,l,h.sb.rg.of λo s _=>u o (by omega),(u 4017 (by omega)).trans h.sb.k0,uN h.sb.kp (λk d=>m k (h.sb.kp.lt k d).2 (by rw[h.sp.k k d];omega) (by rw[h.sp.k k d];omega)),D,⟨h.sb.lo.1,h.sb.lo.2.1,h.sb.lo.2.2.of y q.size⟩⟩,h.rw.same q.size (λj=>m br (h.rw.nr j).1.1 (by rw[h.sp.r j];omega) (by rw[h.sp.r j];omega)) (λk d=>m (cB k) (h.rw.nc k d).1.1 (by rw[h.sp.c k d];omega) (by rw[h.sp.c k d];omega)) (λk d j=>m (pb k) (h.rw.pl k d j).2.1.1 (by rw[h.sp.p k d j];omega) (by rw[h.sp.p k d j];omega)),?_,h.pr.of (λq v s=>m q v (by rw[s];omega) (by rw[s];omega)) (λq v s=>by(try dsimp only);rw[if_neg (i q v (by rw[s];omega))];exact s)⟩;refine⟨?_,?_,λj=>?_,λk d=>?_,λk d=>?_,λk d=>?_,λk d j=>?_⟩
 ·rw[if_neg (i b h.sb.nb.1 (by rw[h.sp.b];omega))];exact h.sp.b
 ·rw[if_neg (i bn h.sb.lo.2.2.1 (by rw[h.sp.n];omega))];exact h.sp.n
 ·rw[if_neg (i br (h.rw.nr j).1.1 (by rw[h.sp.r j];omega))];exact h.sp.r j
 ·rw[if_neg (i (cB k) (h.rw.nc k d).1.1 (by rw[h.sp.c k d];omega))];exact h.sp.c k d
 ·rw[if_pos d]
 ·rw[if_neg (i k (h.sb.kp.lt k d).2 (by rw[h.sp.k k d];omega))];exact h.sp.k k d
 ·rw[if_neg (i (pb k) (h.rw.pl k d j).2.1.1 (by rw[h.sp.p k d j];omega))];exact h.sp.p k d j
theorem b3f:∃et,prog.underlying 110=some (.map 126 et)/\∀w,(zeroValue et).run prog w=.ok (.agg #[]) w:=⟨_,underlying110,λ_=>by kernel_rfl⟩
theorem a2o:prog.underlying 126=some (.pointer 124):=underlying126
theorem a8k:(prog.info? 126).map (λi=>(i.zero,i.size,i.bytes))=some (some (.pointer none),1,8):=by kernel_rfl
theorem b4c(r d p:Nat)(Q:List Nat)(w:World)(h:a3p w r d Q):
  Calls prog 118 #[.map (some r),ptr d p] w λe w'=>e=.returned (.bool (decide (p∈Q)))/\Ext w w':=by
 obtain⟨l,j,g⟩:=b3f;obtain⟨m,f,_,b,_⟩:=info_parts a2j;have c:=h.lookup j a2o f (by rw[b];omega) g p;obtain⟨i,k⟩:∃a,decide (p∈Q)=a:=⟨_,rfl⟩;rw[k] at c ⊢;go_enter func118,ntmps118;go_wp2;go_ret;exact⟨rfl,(Ext.refl w).alloc _⟩
structure dV(w:World)(base bw bv r1 bn on n:Nat)(v:Value)(Mt St:List Nat):Prop where
 c0:w.cell? ⟨bw,0,none⟩=some (.pointer (some ⟨bv,0,none⟩))
 c1:w.cell? ⟨bw,1,none⟩=some (.map (some r1))
 c2:w.cell? ⟨bw,2,none⟩=some v
 f2:w.frozen? ⟨bw,2,none⟩=false
 m:a3p w r1 bn (Mt.map (λi=>on+i*2))
 s:w.ownsRow base 126 1 v St.length (St.map (λi=>ptr bn (on+i*2)))
 a1:v.ownBlock≠some bw
 a2:v.ownBlock≠some r1
 a3:bw≠r1
 b1:base<=bw
 b2:base<=r1
 sub:∀i,i∈St->i∈Mt
 nd:Mt.Nodup
 nds:St.Nodup
 rg:∀i,i∈Mt->i<n
structure KFr(bw r1:Nat)(v v':Value)(w w':World):Prop where
 os:w'.os=w.os
 tape:w'.tape=w.tape
 output:w'.output=w.output
 size:w.heap.size<=w'.heap.size
 block:∀k:Nat,k<w.heap.size->k≠bw->k≠r1->v.ownBlock≠some k->w'.heap[k]?=w.heap[k]?
 own:v'.ownBlock=v.ownBlock\/∃g,v'.ownBlock=some g/\w.heap.size<=g
 keep:∀o u,o≠2->w.cell? ⟨bw,o,none⟩=some u->w'.cell? ⟨bw,o,none⟩=some u
theorem KFr.of_ext(e:Ext w w'):KFr bw r1 v v w w':=⟨e.os,e.tape,e.output,e.size,λk a _ _ _=>e.block k a,.inl rfl,λ_ _ _ h=>e.keep h⟩
theorem KFr.trans{v1 v2:Value}(h:KFr bw r1 v v1 w w1)(k:KFr bw r1 v1 v2 w1 w2):KFr bw r1 v v2 w w2:=
 ⟨k.os.trans h.os,k.tape.trans h.tape,k.output.trans h.output,Nat.le_trans h.size k.size,
  λi b d c j=>(k.block i (Nat.lt_of_lt_of_le b h.size) d c (λe=>by
   rcases h.own with q | ⟨g,q,a⟩
   ·grind
   ·rw[q] at e;cases e;omega)).trans (h.block i b d c j),by
   rcases k.own with q | ⟨g,q,a⟩
   ·rcases h.own with l | ⟨g,l,a⟩
    ·grind
    ·grind
   ·exact .inr ⟨g,q,Nat.le_trans h.size a⟩,λo u f m=>k.keep o u f (h.keep o u f m)⟩
theorem dV.rlt(h:dV w base bw bv r1 bn on n v Mt St):bw<w.heap.size/\r1<w.heap.size:=by
 refine⟨uL h.c0,?_⟩;obtain⟨b,c,a,_⟩:=h.m.m;rcases Nat.lt_or_ge r1 w.heap.size with q | q
 ·exact q
 ·grind
theorem dV.ext(h:dV w base bw bv r1 bn on n v Mt St)(e:Ext w w'):dV w' base bw bv r1 bn on n v Mt St:=
 ⟨e.keep h.c0,e.keep h.c1,e.keep h.c2,by rw[e.frozen (p:=(aA bw 2)) h.rlt.1];exact h.f2,h.m.block (e.block r1 h.rlt.2),uN h.s (λk a=>e.block k (h.s.lt k a).2),h.a1,h.a2,h.a3,h.b1,h.b2,h.sub,h.nd,h.nds,h.rg⟩
theorem dV.kext{a:World}(h:dV w a.heap.size bw bv r1 bn on n v Mt St)(q:KFr bw r1 v v' w w')(e:Ext a w):Ext a w':=
 Below.trans e ⟨q.os,q.tape,q.output,q.size,λk b=>q.block k (Nat.lt_of_lt_of_le b e.size) (by have:=h.b1;omega) (by have:=h.b2;omega) (λf=>by have:=(h.s.lt k f).1;omega)⟩
theorem dV.len(h:dV w base bw bv r1 bn on n v Mt St):Mt.length<=n/\St.length<=n:=by
 have a:∀L:List Nat,L.Nodup->(∀i,i∈L->i<n)->L.length<=n:=λL d e=>by
  have:=List.Nodup.length_le_of_subset d (λz c=>List.mem_range.2 (e z c))
  simpa using this
 exact⟨a _ h.nd h.rg,a _ h.nds (λi b=>h.rg i (h.sub i b))⟩
theorem a6c:on+i*2∈Mt.map (λi=>on+i*2)↔i∈Mt:=by
 simp only [List.mem_map];constructor
 ·rintro⟨j,hj,e⟩;have:j=i:=by omega
  rw[<-this];exact hj
 ·intro h;exact⟨i,h,rfl⟩
theorem dV.add{o:Obj}(h:dV w base bw bv r1 bn on n v Mt St)(S:i<n)(I:¬i∈Mt)
  (G:a3p w1 r1 bn (Mt.map (λi=>on+i*2)++[on+i*2])) (H:w1.os=w.os) (P:w1.tape=w.tape) (F:w1.output=w.output) (Q:w1.heap.size=w.heap.size) (r:∀k:Nat,k≠r1->w1.heap[k]?=w.heap[k]?)
  (s:w2.ownsRow base 126 1 (sS g (St.length+1) cap) (St.length+1) (St.map (λi=>ptr bn (on+i*2))++[ptr bn (on+i*2)])) (t:(w1.alloc o).grownBy w2 v.ownBlock) (x:v.ownBlock=some g\/g=w1.heap.size+1) :
  dV (w2.setCell (aA bw 2) (sS g (St.length+1) cap)) base bw bv r1 bn on n (sS g (St.length+1) cap) (Mt++[i]) (St++[i])/\
  KFr bw r1 v (sS g (St.length+1) cap) w (w2.setCell (aA bw 2) (sS g (St.length+1) cap))/\w2.cell? (aA bw 2)=some v/\w2.frozen? (aA bw 2)=false:=by
 have R:=h.rlt;have L:w1.heap.size+1<=w2.heap.size:=by have:=t.size;simpa using this
 have c:∀k:Nat,k<w1.heap.size->v.ownBlock≠some k->w2.heap[k]?=w1.heap[k]?:=λk y K=>(t.block k (by simp;omega) (λe=>K e.symm)).trans (Below.heap_alloc w1 o k y)
 have m:w2.heap[bw]?=w.heap[bw]?:=(c bw (by omega) h.a1).trans (r bw h.a3)
 have p:g≠bw/\g≠r1:=by
  rcases x with e | e
  ·exact⟨λq=>h.a1 (q ▸ e),λq=>h.a2 (q ▸ e)⟩
  ·omega
 have A:∀z E,w.cell? (aA bw z)=some E->w2.cell? (aA bw z)=some E:=λz E B=>(World.cell?_of_block (a:=(aA bw z)) m).trans B
 have l:=A 2 _ h.c2;have f:w2.frozen? (aA bw 2)=false:=(World.frozen?_of_block (a:=(aA bw 2)) m).trans h.f2;refine⟨⟨?_,?_,World.cell?_setCell_same _ _ _ l,by rw[World.frozen?_setCell];exact f,?_,?_,λe=>p.1 (by simpa [Value.ownBlock] using e),λe=>p.2 (by simpa [Value.ownBlock] using e),h.a3,h.b1,h.b2,?_,?_,?_,?_⟩,⟨?_,?_,?_,?_,λk y N M O=>?_,?_,λo u J B=>(uC _ (.inr (λe=>J e.symm))).trans (A o u B)⟩,l,f⟩
 ·rw[uC _ (.inr (by omega))];exact A 0 _ h.c0
 ·rw[uC _ (.inr (by omega))];exact A 1 _ h.c1
 ·refine a3p.block (w:=w1) (by simpa using G) ?_;rw[Below.heap_setCell _ _ _ _ (show r1≠bw from λe=>h.a3 e.symm)];exact c r1 (by omega) h.a2
 ·refine uN (by simpa using s) (λk y=>Below.heap_setCell _ _ _ _ ?_);simp [Value.ownBlock] at y;show k≠bw;omega
 ·intro j D;rcases List.mem_append.1 D with q | q
  ·exact List.mem_append_left _ (h.sub j q)
  ·exact List.mem_append_right _ q
 ·rw[List.nodup_append];exact⟨h.nd,by simp,λa C b d=>by simp at d;rw[d];intro e;exact I (e ▸ C)⟩
 ·rw[List.nodup_append];exact⟨h.nds,by simp,λa C b d=>by simp at d;rw[d];intro e;exact I (e ▸ h.sub a C)⟩
 ·intro j D;rcases List.mem_append.1 D with q | q
  ·exact h.rg j q
  ·simp at q;omega
 ·exact(t.os.trans rfl).trans H
 ·exact(t.tape.trans rfl).trans P
 ·exact(t.output.trans rfl).trans F
 ·have:(w2.setCell (aA bw 2) (sS g (St.length+1) cap)).heap.size=w2.heap.size:=by simp [World.setCell]
  omega
 ·rw[Below.heap_setCell _ _ _ _ (show k≠bw from N),c k (by omega) O];exact r k M
 ·rcases x with e | e
  ·exact .inl e.symm
  ·exact .inr ⟨g,rfl,by omega⟩
theorem c1a(bw:Nat)(w:World):
  Calls prog 121 #[pP bw,.pointer none] w λe w'=>e=.returned (.tuple #[])/\w'=w:=by
 go_enter func121,ntmps121;go_wp2_with fail
 try simp only [Exit.inBlock,Exit.then]
 refine bodyPost_ret (results_none rfl _ _ _) rfl ?_;exact⟨rfl,rfl⟩
theorem b0k(base bw Y r1 r b n i:Nat)(v:Value)(d o:List Nat)(w:World)(h:dV w base bw Y r1 r b n v d o)(hi:i<n)(hb:base<=w.heap.size)(ac:n<=8000):
  Calls prog 121 #[pP bw,ptr r (b+i*2)] w λe w'=>e=.returned (.tuple #[])/\∃v' Mt' St',dV w' base bw Y r1 r b n v' Mt' St'/\Hid ((i∈d/\Mt'=d/\St'=o)\/(¬i∈d/\Mt'=d++[i]/\St'=o++[i]))/\KFr bw r1 v v' w w':=by
 obtain⟨et,D,hz⟩:=b3f;obtain⟨i1,A,_,B,_⟩:=info_parts a2j;obtain⟨i0,N,Q,P,M⟩:=info_parts a8k;have V:=h.len.2;have I:=h.c1;have J:=h.c2;have X:=uU h;have HU:=uU D;have HN:=uU A;have HZ:=uU B;clear h D hz A B;go_enter func121,ntmps121;go_wp2_with fail;refine(b4c r1 r (b+i*2) _ _ X.m).mono ?_;rintro e w1 ⟨rfl,p⟩;have x:=uU (X.ext p);have d1:=p.keep I;have d2:=p.keep J;clear I J;by_cases t:i∈d
 ·have E:decide (b+i*2∈d.map (λi=>b+i*2))=true:=decide_eq_true (a6c.2 t);rw[E];clear E;have K:=uU (KFr.of_ext (bw:=bw) (r1:=r1) (v:=v) p);clear p;go_wp2_with fail
  try simp only [Exit.inBlock,Exit.then]
  refine bodyPost_ret (results_none rfl _ _ _) rfl ?_;exact⟨rfl,v,d,o,x,.inl ⟨t,rfl,rfl⟩,K⟩
 ·have E:decide (b+i*2∈d.map (λi=>b+i*2))=false:=decide_eq_false (λf=>t (a6c.1 f));rw[E];clear E;obtain⟨O,aa,S,z,U,G,H,l⟩:=a3p.update x.m HU a2o HN (by rw[uH HZ];omega) (b+i*2) (λf=>t (a6c.1 f));have K:=uU (KFr.of_ext (bw:=bw) (r1:=r1) (v:=v) p);have dU:O.cell? (aA bw 2)=some v:=(World.cell?_of_block (w:=w1) (a:=(aA bw 2)) (l bw x.a3)).trans d2;have OW:=uU (show O.ownsRow base 126 1 v o.length (o.map (λi=>ptr r (b+i*2))) from uN x.s (λk hk=>l k (λe=>x.a2 (e ▸ hk))));have y:=uU (And.intro S (And.intro z (And.intro U (And.intro G (And.intro H l)))));have ab:base<=O.heap.size:=by have:=p.size;omega
  clear S z U G H l p;go_wp2_with (at_builtin;refine wpList_append_lies _ rfl _ _ 130 rfl base 126 i0 (.pointer none) 1 8 underlying130 N Q P M rfl (by decide) v o.length (o.map (λi=>ptr r (b+i*2))) rfl (OW.alloc _) _ 1 1 [ptr r (b+i*2)] rfl rfl ?I ?J (by decide) ?c3 ?c4 ?c5 _ rfl ?_)
  case I=>
   intro j u L
   match j,L with
   | 0,L=>simp at L;subst L;simp [Addr.add]
  case J=>intro u D;simp at D;subst D;rfl
  case c3=>unfold maxLen;omega
  case c4=>omega
  case c5=>simp;omega
  intro g Z w2 q c C R;obtain⟨W,T,q3,q4⟩:=dV.add x hi t y.1 y.2.1 y.2.2.1 y.2.2.2.1 y.2.2.2.2.1 y.2.2.2.2.2 q c (by simpa using C);have F:=uU (And.intro W (K.trans T));clear W T q c C dU;go_wp2_with fail
  go_end0
  exact⟨rfl,_,d++[i],o++[i],F.1,.inr ⟨t,rfl,rfl⟩,F.2⟩
theorem c7f(base bw f r1 b d n:Nat)(v:Value)(c:List Nat)(w:World)(h:dV w base bw f r1 b d n v c []):
  Calls prog 122 #[pP bw] w λe w'=>e=.returned (.pointer none)/\w'=w:=by
 obtain⟨ad,a,rfl⟩:∃ad a,v=.slice ad 0 a:=by
  rcases h.s.2 with⟨h1,_⟩ | ⟨g,a,cur,h1,_⟩
  ·exact⟨none,0,h1⟩
  ·exact⟨_,_,h1⟩
 have i:=h.c2;go_enter func122,ntmps122;go_wp2;go_ret;exact⟨rfl,rfl⟩
theorem dV.pop(h:dV w base bw bv r1 bn on n (sS g (m+1) cap) Mt (St++[j]))(b:St.length=m):
  dV (w.setCell (aA bw 2) (sS g m cap)) base bw bv r1 bn on n (sS g m cap) Mt St/\KFr bw r1 (sS g (m+1) cap) (sS g m cap) w (w.setCell (aA bw 2) (sS g m cap)):=by
 have l:g≠bw:=λe=>h.a1 (by rw[e];rfl)
 have c:=h.s;simp only [List.length_append,List.length_singleton,List.map_append,List.map_cons,List.map_nil,b] at c;have a:=ownsRow_pop (by simp [b]) c;refine⟨⟨?_,?_,World.cell?_setCell_same _ _ _ h.c2,by rw[World.frozen?_setCell];exact h.f2,?_,?_,h.a1,h.a2,h.a3,h.b1,h.b2,λi d=>h.sub i (List.mem_append_left _ d),h.nd,?_,h.rg⟩,⟨rfl,rfl,rfl,by simp [World.setCell],λk _ q _ _=>Below.heap_setCell _ _ _ _ (show k≠bw from q),.inl rfl,λo u r p=>(uC _ (.inr (λe=>r e.symm))).trans p⟩⟩
 ·rw[uC _ (.inr (by omega))];exact h.c0
 ·rw[uC _ (.inr (by omega))];exact h.c1
 ·exact h.m.block (Below.heap_setCell _ _ _ _ (show r1≠bw from λe=>h.a3 e.symm))
 ·rw[b];refine uN a (λk f=>Below.heap_setCell _ _ _ _ ?_);simp [Value.ownBlock] at f;show k≠bw;omega
 ·have:=h.nds;rw[List.nodup_append] at this;exact this.1
theorem c7g(base bw o r1 d f n j:Nat)(v:Value)(l i:List Nat)(w:World)(h:dV w base bw o r1 d f n v l (i++[j]))(r:n<=8000):
  Calls prog 122 #[pP bw] w λe w'=>e=.returned (ptr d (f+j*2))/\∃v',dV w' base bw o r1 d f n v' l i/\KFr bw r1 v v' w w':=by
 have q:=h.len.2;obtain⟨m,c⟩:∃m,i.length=m:=⟨_,rfl⟩
 obtain⟨g,a,p,y⟩:∃g a,v=sS g (m+1) a/\m+1<=a:=by
  rcases h.s.2 with⟨_,h1⟩ | ⟨g,a,cur,h1,_,_,hcap,_⟩
  ·simp at h1
  ·simp only [List.length_append,List.length_singleton,c] at h1 hcap;exact⟨g,a,h1,hcap⟩
 subst p;have k:=h.s;simp only [List.length_append,List.length_singleton,List.map_append,List.map_cons,List.map_nil,c] at k q
 have x:w.cell? (aA g m)=some (ptr d (f+j*2)):=by
  have:=World.ownsRow.cellAt k m (by omega);rw[this,List.getElem?_append_right (by simp [c])];simp [c]
 have z:=h.c2;have t:=h.f2;have b:=uU (h.pop c);have A:(0:Int)<=(m:Int):=by omega
 have B:(m:Int)<(m:Int)+1:=by omega
 have u:(m:Int)<=(a:Int):=by omega
 go_enter func122,ntmps122;go_wp2;go_ret;exact⟨rfl,_,b.1,b.2⟩
end Go.Proofs.YtddkhnclmeikfaaGreat
