import Derived.Test.YtddkhnclmeikfaaGreatVn
import Derived.Test.YtddkhnclmeikfaaGreatWx
import Derived.Test.YtddkhnclmeikfaaGreatSr
import Derived.Test.YtddkhnclmeikfaaGreatSpecH4
import Derived.Test.YtddkhnclmeikfaaGreatRby
import Derived.Test.YtddkhnclmeikfaaGreatFr0
set_option maxRecDepth 100000
set_option maxHeartbeats 2000000
namespace Go.Proofs.YtddkhnclmeikfaaGreat
open Go.RowKit Tryz
attribute [local go_sem ↓] Go.wp_at_zero Go.wp_at_succ
variable{w w' v:World}{g B b c m kr kc br bc lf kg kn q k cap:Nat}{x:Hp}{ar ac ag an:Option Addr}{vg va:Value}{pb pk role:Nat->Nat}{pa:Nat->Option Addr}{S T:Nat->Prop}{L:List Ak}
theorem GAt.turn[Inhabited uQ](h:GAt B w g x ar kr ac kc vg br bc pb pa pk role)(cs:List Cl)(H:cs.length=x.A.length)(n:Nat->Nat)(A:Nat->Option Addr)(t:Nat->Nat)(i:Nat->Nat)(F:0<x.A.length)
  (o:uX (λq=>q=bc) w w') (O:Nf1 bc w')
  (P:∀q,q<x.A.length->S7 w' bc (q*8) (({ x with A:=cs }:Hp).c q))
  (N:∀q,q<x.A.length->w'.cell? (aA bc (q*8+7))=some (.slice (A q) (({ x with A:=cs }:Hp).c q).F.length (t q)))
  (E:∀q,q<x.A.length->(({ x with A:=cs }:Hp).c q).F.length<=t q)
  (G:∀q,q<x.A.length->0<t q->(n q<x.A.length/\t q=pk (n q))/\(x.c (n q)).F=(({ x with A:=cs }:Hp).c q).F/\A q=pa (n q)/\i (pb (n q))=6+q)
  (m:∀q,role q<6->i q=role q) (J:∀j,x.A.length*8<=j->w'.cell? (aA bc j)=w.cell? (aA bc j)) :
  GAt B w' g { x with A:=cs } ar kr ac kc vg br bc (λq=>pb (n q)) A t i:=by
 have l:∀q,q<w.heap.size->role q≠3->w'.heap[q]?=w.heap[q]?:=λq b z=>o.block q b (λe=>z (by rw[e];exact h.sp.c F))
 have f:({ x with A:=cs }:Hp).A.length=x.A.length:=H;have L:=l g h.nf.1 (by rw[h.sp.g];omega);have M:∀q,q<x.A.length->0<pk q->w'.heap[pb q]?=w.heap[pb q]?:=λq b H=>l (pb q) (h.rw.pl q b H).2.1.1 (by rw[h.sp.p q b H];omega)
 refine⟨?_,uJ h.nf L o.size,h.lo,h.ha,λ_=>h.hc F,⟨λk u=>?_,λq b=>?_,λq b=>?_,λq b k u=>?_,λq b s=>?_,λz=>⟨uJ (h.rw.nr z).1 (l br (h.rw.nr z).1.1 (by rw[h.sp.r z];omega)) o.size,(h.rw.nr z).2⟩,λ_=>⟨O,(h.rw.nc F).2⟩,λ_=>h.rw.d F,λq q' b Q R D Z=>?_,λq b=>?_⟩,h.gr.block (λq b=>l q (h.gr.lt q b).2 (by rw[h.sp.y q b];omega)),⟨?_,λz=>?_,λ_=>?_,λq b=>?_,λq b s=>?_⟩,by rw[f];exact h.kl,h.pr.of (λq b D=>l q b (by rw[D];omega)) (λq _ D=>by rw[m q (by rw[D];omega)];exact D),λu=>(h.cc u).A (m bc (by rw[(h.cc u).ro];omega)) O (λj v _ T=>?_)⟩
 ·rw[f];exact(h.bx.block L)
 ·exact(h.rw.r k u).of λj _=>World.cell?_of_block (a:=(aA br _)) (l br (h.rw.nr (by have:k<x.B.length:=u;omega)).1.1 (by rw[h.sp.r (by have:k<x.B.length:=u;omega)];omega))
 ·rw[f] at b;exact P q b
 ·rw[f] at b;exact N q b
 ·rw[f] at b;obtain⟨⟨C,_⟩,I,_⟩:=G q b (by have:=E q b;omega);have W:(({ x with A:=cs }:Hp).c q).p k=(x.c (n q)).p k:=by simp only [Cl.p,I]
  rw[<-I] at u;rw[W];exact(h.rw.p (n q) C k u).of λj _=>World.cell?_of_block (a:=(aA (pb (n q)) _)) (M (n q) C (h.rw.pw C (by omega)))
 ·rw[f] at b;obtain⟨⟨C,K⟩,I,S,_⟩:=G q b s;rw[K] at s;obtain⟨X,U,V⟩:=h.rw.pl (n q) C s;exact⟨S.trans X,by rw[K];exact a0g U (M (n q) C s) o.size,V⟩
 ·grind [Grw.at,Nf1,S7,Hp.c]
 ·rw[f] at b;exact E q b
 ·rw[m g (by rw[h.sp.g];omega)];exact h.sp.g
 ·have:=h.sp.r z;rw[m br (by omega)];exact this
 ·have:=h.sp.c F;rw[m bc (by omega)];exact this
 ·have:=h.sp.y q b;rw[m q (by omega)];exact this
 ·grind [Grw.at,Nf1,S7,Hp.c]
 ·by_cases e:x.A.length*8<=j
  ·exact⟨v,(J j e).trans T⟩
  ·by_cases Y:j % 8=7
   ·have:=N (j / 8) (by omega);rw[show j / 8*8+7=j by omega] at this;exact⟨_,this⟩
   ·have:=(P (j / 8) (by omega)).some (j % 8) (by omega);rw[show j / 8*8+j % 8=j by omega] at this;exact this
theorem GAt.clear[Inhabited uQ](h:GAt B w g x ar kr ac kc vg br bc pb pa pk role)(i:Nat)(m:i<x.A.length)(b:Cl)(r:b.F=[])(o:uX (λq=>q=bc) w w')(n:Nf1 bc w')(u:S7 w' bc (i*8) b)(t:w'.cell? (aA bc (i*8+7))=some (.slice none 0 0))(f:∀k,(k<i*8\/i*8+8<=k)->w'.cell? (aA bc k)=w.cell? (aA bc k)):
  GAt B w' g { x with A:=x.A.set i b } ar kr ac kc vg br bc pb (λq=>if q=i then none else pa q) (λq=>if q=i then 0 else pk q) role:=by
 have c:=Hp.c_set x i b m;refine h.turn (x.A.set i b) (by simp) (λq=>q) _ _ role (by omega) o n (λq a=>?_) (λq a=>?_) (λq a=>?_) (λq a d=>?_) (λ_ _=>rfl) (λj l=>f j (by omega))
 ·rw[c q];by_cases e:q=i
  ·grind [Nf1,S7]
  ·rw[if_neg e];exact(h.rw.s q a).of λj l=>f _ (by omega)
 ·rw[c q];by_cases e:q=i
  ·grind [Nf1,S7]
  ·simp only [if_neg e];rw[f _ (by omega)];exact h.rw.p7 q a
 ·rw[c q];by_cases e:q=i
  ·rw[if_pos e,r];simp
  ·rw[if_neg e,if_neg e];exact h.rw.kp q a
 ·rw[c q];by_cases e:q=i
  ·rw[if_pos e] at d;omega
  ·rw[if_neg e] at d;exact⟨⟨a,if_neg e⟩,by rw[if_neg e],if_neg e,h.sp.p q a d⟩
theorem GOk.set1[Inhabited uQ](h:GOk B w g x)(v:Int):GOk B (w.setCell (aA g 1) (iv v)) g { x with K:=v }:=by
 obtain⟨b,i,m,l,e,f,j,k,c,d,a,h⟩:=h;exact⟨_,_,_,_,_,_,_,_,_,_,_,h.boxed (x':={ x with K:=v }) (uX.setCell (S:=λq=>q=g) (uX.refl _ w) (p:=(aA g 1)) rfl _) (h.nf.set _ _) rfl rfl rfl (h.bx.set1 v)⟩
theorem a3n(n:Int)(a:-1000000<=n)(b:n<=1000000):wrap64 n=n:=by unfold wrap64;omega
theorem dD{p:Addr}{v u:Value}(h:w.cell? p=some u):(w.setCell p v).cell? p=some v:=World.cell?_setCell_same _ _ _ h
def qW(w:World)(b o:Nat)(st tv:Int):World:=(((((((w.setCell ⟨b,o,none⟩ (iv st)).setCell ⟨b,o+1,none⟩ (iv 0)).setCell ⟨b,o+2,none⟩ (iv 0)).setCell ⟨b,o+3,none⟩ (iv 0)).setCell ⟨b,o+4,none⟩ (iv 0)).setCell ⟨b,o+5,none⟩ (iv 0)).setCell ⟨b,o+6,none⟩ (iv tv)).setCell ⟨b,o+7,none⟩ (.slice none 0 0)
theorem a0i(w:World)(b o:Nat)(c a:Int):uX (λq=>q=b) w (qW w b o c a):=
 uX.setCell (S:=λq=>q=b) (uX.setCell (S:=λq=>q=b) (uX.setCell (S:=λq=>q=b) (uX.setCell (S:=λq=>q=b) (uX.setCell (S:=λq=>q=b) (uX.setCell (S:=λq=>q=b) (uX.setCell (S:=λq=>q=b) (uX.setCell (S:=λq=>q=b) (uX.refl _ w) (p:=(aA b o)) rfl _) (p:=(aA b (o+1))) rfl _) (p:=(aA b (o+2))) rfl _) (p:=(aA b (o+3))) rfl _) (p:=(aA b (o+4))) rfl _) (p:=(aA b (o+5))) rfl _) (p:=(aA b (o+6))) rfl _) (p:=(aA b (o+7))) rfl _
theorem b0w(h:Nf1 b w)(o:Nat)(c a:Int):Nf1 b (qW w b o c a):=(((((((h.set _ _).set _ _).set _ _).set _ _).set _ _).set _ _).set _ _).set _ _
theorem a4k(w:World)(b o:Nat)(c a:Int)(k:Nat)(d:k<o\/o+8<=k):(qW w b o c a).cell? (aA b k)=w.cell? (aA b k):=by
 unfold qW;rw[uC _ (.inr (by omega)),uC _ (.inr (by omega)),uC _ (.inr (by omega)),uC _ (.inr (by omega)),uC _ (.inr (by omega)),uC _ (.inr (by omega)),uC _ (.inr (by omega)),uC _ (.inr (by omega))]
theorem a5k(w:World)(b o:Nat)(d a:Int)(c:Cl)(v:Value)(h:S7 w b o c)(m:w.cell? (aA b (o+7))=some v):S7 (qW w b o d a) b o ⟨d,0,0,0,0,0,a,[]⟩/\(qW w b o d a).cell? (aA b (o+7))=some (.slice none 0 0):=by
 obtain⟨g,i,j,e,l,f,k⟩:=h;unfold qW;refine⟨⟨?_,?_,?_,?_,?_,?_,?_⟩,?_⟩
 ·iterate 7 rw[uC _ (.inr (by omega))]
  exact World.cell?_setCell_same _ _ _ g
 ·iterate 6 rw[uC _ (.inr (by omega))]
  exact World.cell?_setCell_same _ _ _ ((uC _ (.inr (by omega))).trans i)
 ·iterate 5 rw[uC _ (.inr (by omega))]
  refine dD (u:=iv c.T) ?_
  iterate 2 rw[uC _ (.inr (by omega))]
  exact j
 ·iterate 4 rw[uC _ (.inr (by omega))]
  refine dD (u:=iv c.U) ?_
  iterate 3 rw[uC _ (.inr (by omega))]
  exact e
 ·iterate 3 rw[uC _ (.inr (by omega))]
  refine dD (u:=iv c.born) ?_
  iterate 4 rw[uC _ (.inr (by omega))]
  exact l
 ·iterate 2 rw[uC _ (.inr (by omega))]
  refine dD (u:=iv c.J) ?_
  iterate 5 rw[uC _ (.inr (by omega))]
  exact f
 ·rw[uC _ (.inr (by omega))];refine dD (u:=iv c.to) ?_
  iterate 6 rw[uC _ (.inr (by omega))]
  exact k
 ·refine dD (u:=v) ?_
  iterate 7 rw[uC _ (.inr (by omega))]
  exact m
theorem GAt.wipe[Inhabited uQ](h:GAt B w g x ar kr ac kc vg br bc pb pa pk role)(i:Nat)(a:i<x.A.length)(c b:Int):GOk B (qW w bc (i*8) c b) g { x with A:=x.A.set i ⟨c,0,0,0,0,0,b,[]⟩ }:=by
 obtain⟨d,f⟩:=a5k w bc (i*8) c b _ _ (h.rw.s i a) (h.rw.p7 i a);exact⟨_,_,_,_,_,_,_,_,_,_,_,h.clear i a _ rfl (a0i _ _ _ _ _) (b0w (h.rw.nc (by omega)).1 _ _ _) d f (λk e=>a4k _ _ _ _ _ k e)⟩
theorem a7h(b:Nat)(w:World)(a:w.cell? (aA b 8)=some (.slice ag 0 kg)):
  Calls prog 182 #[pP b] w λe w'=>e=.returned (.slice none 0 0)/\w'=w:=by
 go_enter func182,ntmps182;go_wp2;go_ret;exact⟨rfl,rfl⟩
theorem a7i(x:Hp)(b i:Nat)(w:World)(h:VAt w b x ar kr ac kc ag kg an kn)(t:0<x.D.length)(s:x.D[0]=(i:Int))(d:i<x.A.length)(bc g:Nat)(j:Option Addr)(k:Nat)(u:ac=some (aA bc g))(C:CAt w bc (g+i*8) (x.c i) j k):
  Calls prog 182 #[pP b] w λe w'=>e=.returned (.slice j (x.c i).F.length k)/\∃m,w'=w.drewN m:=by
 obtain⟨y,A,n,o,rfl,f,v,D⟩:=h.N i d;rw[u] at f;cases f;obtain⟨E,z,rfl,a⟩:=h.H.G 0 t;unfold a6w at a;rw[s] at a;simp only [Nat.zero_mul,Nat.add_zero] at a;have B:=h.H.c8;have q:=h.n13;have F:=C.p7;have l:((x.D.length:Int) == 0)=false:=beq_eq_false_iff_ne.2 (by omega)
 have r:(0:Int)<=(i:Int):=by omega
 have p:(i:Int)<(x.A.length:Int):=by omega
 go_enter func182,ntmps182;go_wp2_with fail;go_quiet (fail);go_wp2;go_ret;exact⟨rfl,_,rfl⟩
theorem b4t(x:Hp)(b:Nat)(w:World)(c:w.cell? (aA b 6)=some (iv x.A.length))(a:w.cell? (aA b 13)=some (.slice an x.A.length kn)):
  Calls prog 183 #[pP b] w λe w'=>e=.returned (.slice none 0 0)/\∃m,w'=w.drewN m:=by
 go_enter func183,ntmps183;go_wp2_with fail;go_quiet (fail);go_wp2;go_ret;exact⟨rfl,_,rfl⟩
theorem b4u(x:Hp)(b i:Nat)(w:World)(h:VAt w b x ar kr ac kc ag kg an kn)(r:x.I=(i:Int))(a:i<x.A.length)(bc f:Nat)(g:Option Addr)(j:Nat)(s:ac=some (aA bc f))(C:CAt w bc (f+i*8) (x.c i) g j):
  Calls prog 183 #[pP b] w λe w'=>e=.returned (.slice g (x.c i).F.length j)/\∃m,w'=w.drewN m:=by
 obtain⟨u,y,k,l,rfl,d,t,z⟩:=h.N i a;rw[s] at d;cases d;have p:=h.H.c6;rw[r] at p;have o:=h.n13;have A:=C.p7;have v:((i:Int) == (x.A.length:Int))=false:=beq_eq_false_iff_ne.2 (by omega);have q:(0:Int)<=(i:Int):=by omega
 have n:(i:Int)<(x.A.length:Int):=by omega
 go_enter func183,ntmps183;go_wp2_with fail;go_quiet (fail);go_wp2_with fail;go_quiet (fail);go_wp2;go_ret;exact⟨rfl,_,by rw[World.drewN_drewN]⟩
theorem b6y(y:Wd)(b:Nat)(w:World)(c:(y.k == 2)=false):
  Calls prog 231 #[pP b,y.v] w λe w'=>e=.returned (.bool false)/\Ext w w':=by
 go_enter func231,ntmps231;go_wp2_with fail;refine(a8i y b _ c).mono ?_;rintro e d ⟨rfl,a⟩;go_wp2;go_ret;exact⟨rfl,Ext.trans ((Ext.refl w).alloc _) a⟩
theorem b5s(x:Hp)(k:Nat)(a:k<x.A.length)(d:∀q,q<k->(x.c q).st≠0)(b:(x.c k).st=0):uV x=k:=by grind [Hp.c,uV,a1b]
theorem c4m(x:Hp)(a:∀q,q<x.A.length->(x.c q).st≠0):uV x=x.A.length:=by grind [Hp.c,uV,a1b]
theorem b5t[Inhabited uQ](h:GAt B w g x ar kr ac kc vg br bc pb pa pk role)(F:x.A.length<=8000):
  Calls prog 233 #[pP g] w λe w'=>e=.returned (iv (uV x))/\Ext w w':=by
 have H:=uU h;have m:=h.bx.2.2.2.2.1;go_enter func233,ntmps233;go_wp2_with fail;go_loopw [10] (λi wr=>∃k:Nat,k<=x.A.length/\i=iv k/\Hid (∀q,q<k->(x.c q).st≠0)/\Ext w wr) (λi _=>x.A.length-(intOf i).toNat)
 case atStart=>exact⟨0,Nat.zero_le _,rfl,(λq j=>by omega),Ext.refl _⟩
 case round=>
  obtain⟨k,o,rfl,f,a⟩:=hrel;by_cases b:k<x.A.length
  ·have n:0<x.A.length:=by omega
   have l:=uU (H.ext a);obtain⟨D,p,r,y,A,t,v⟩:=l.rw.s k b;have C:=l.rw.p7 k b;obtain rfl:ac=some (aA bc 0):=H.hc n;have z:(0:Int)<=(k:Int):=by omega
   have u:(k:Int)<(x.A.length:Int):=by omega
   cases q:((x.c k).st == 0)
   ·have Q:=uU (show ∀q,q<k+1->(x.c q).st≠0 from λq j=>by
     by_cases e:q=k
     ·rw[e];simpa using ‹((x.c k).st == 0)=false›
     ·exact f q (by omega))
    go_wp2;go_roundw
    case rel=>exact⟨k+1,by omega,by go_num,Q,a.alloc _⟩
    case measure=>simp [intOf];omega
   ·have Q:=uU (b5s x k b f (by simpa using q));go_wp2;go_ret;exact⟨by rw[uH Q];rfl,a.alloc _⟩
  ·have Q:=uU (show uV x=x.A.length from c4m x (λq j=>uH f q (by omega)));have d:k=x.A.length:=by omega
   subst d;have E:=a.keep m;go_wp2;go_ret;exact⟨by rw[uH Q];rfl,a⟩
theorem GAt.drop[Inhabited uQ](h:GAt B w g x ar kr ac kc vg br bc pb pa pk role)(i:Nat)(C:i+1=x.A.length):
  GOk B (w.setCell (aA g 4) (.slice ac i kc)) g { x with A:=x.A.take i }:=by
 have j:∀q,q<w.heap.size->role q≠0->(w.setCell (aA g 4) (.slice ac i kc)).heap[q]?=w.heap[q]?:=λq a n=>Below.heap_setCell _ _ _ _ (λe=>n (by rw[e];exact h.sp.g))
 have b:=h.rw.same (w':=w.setCell (aA g 4) (.slice ac i kc)) (by simp [World.setCell]) (λf=>j br (h.rw.nr f).1.1 (by rw[h.sp.r f];omega)) (λf=>j bc (h.rw.nc f).1.1 (by rw[h.sp.c f];omega)) (λq a f=>j (pb q) (h.rw.pl q a f).2.1.1 (by rw[h.sp.p q a f];omega));have f:({ x with A:=x.A.take i }:Hp).A.length=i:=by simp;omega
 have n:0<x.A.length:=by omega
 have o:∀q,q<i->({ x with A:=x.A.take i }:Hp).c q=x.c q:=λq a=>by grind [Hp.c,GOk]
 refine⟨ar,kr,ac,kc,vg,br,bc,pb,pa,pk,role,?_,h.nf.set _ _,h.lo,h.ha,λ_=>h.hc n,⟨b.r,λq a=>?_,λq a=>?_,λq a k m=>?_,λq a l=>?_,b.nr,λ_=>b.nc n,λ_=>b.d n,λq A a t u v z=>?_,λq a=>?_⟩,h.gr.block (λq a=>j q (h.gr.lt q a).2 (by rw[h.sp.y q a];omega)),⟨h.sp.g,h.sp.r,λ_=>h.sp.c n,h.sp.y,λq a l=>?_⟩,by rw[f];have:=h.kl;omega,h.pr.of (λq a v=>j q a (by rw[v];omega)) (λ_ _ h=>h),λm=>(h.cc m).block rfl (j bc (h.cc m).nf.1 (by rw[(h.cc m).ro];omega)) (by simp [World.setCell])⟩
 ·rw[f];exact h.bx.set4 _
 ·rw[f] at a;rw[o q a];exact b.s q (by omega)
 ·rw[f] at a;rw[o q a];exact b.p7 q (by omega)
 ·rw[f] at a;rw[o q a] at m ⊢;exact b.p q (by omega) k m
 ·rw[f] at a;exact b.pl q (by omega) l
 ·rw[f] at a t;exact b.dp q A (by omega) (by omega) u v z
 ·rw[f] at a;rw[o q a];exact b.kp q (by omega)
 ·rw[f] at a;exact h.sp.p q (by omega) l
theorem GAt.setr[Inhabited uQ](h:GAt B w g x ar kr ac kc vg br bc pb pa pk role)(j:Nat)(O:j<x.B.length)(y:Wd)(o:uX (λq=>q=br) w w')(L:Nf1 br w')(N:yU w' br (j*3) y)(M:∀m,(m<j*3\/j*3+3<=m)->w'.cell? (aA br m)=w.cell? (aA br m)):
  GAt B w' g { x with B:=x.B.set j y } ar kr ac kc vg br bc pb pa pk role:=by
 have v:0<x.B.length:=by omega
 have f:∀q,q<w.heap.size->role q≠2->w'.heap[q]?=w.heap[q]?:=λq b i=>o.block q b (λe=>i (by rw[e];exact h.sp.r v))
 have E:=f g h.nf.1 (by rw[h.sp.g];omega);have t:({ x with B:=x.B.set j y }:Hp).B.length=x.B.length:=by simp
 have F:∀q,q<x.A.length->0<pk q->w'.heap[pb q]?=w.heap[pb q]?:=λq b t=>f (pb q) (h.rw.pl q b t).2.1.1 (by rw[h.sp.p q b t];omega)
 have z:0<x.A.length->w'.heap[bc]?=w.heap[bc]?:=λi=>f bc (h.rw.nc i).1.1 (by rw[h.sp.c i];omega)
 refine⟨?_,uJ h.nf E o.size,h.lo,λ_=>h.ha v,h.hc,⟨λm D=>?_,λq b=>?_,λq b=>?_,λq b k n=>?_,λq b u=>?_,λ_=>⟨L,(h.rw.nr v).2⟩,λi=>⟨uJ (h.rw.nc i).1 (z i) o.size,(h.rw.nc i).2⟩,h.rw.d,h.rw.dp,h.rw.kp⟩,h.gr.block (λq b=>f q (h.gr.lt q b).2 (by rw[h.sp.y q b];omega)),⟨h.sp.g,λ_=>h.sp.r v,h.sp.c,h.sp.y,h.sp.p⟩,h.kl,h.pr.of (λq b K=>f q b (by rw[K];omega)) (λ_ _ h=>h),λn=>(h.cc n).block rfl (f bc (h.cc n).nf.1 (by rw[(h.cc n).ro];omega)) o.size⟩
 ·rw[t];exact h.bx.block E
 ·have C:m<x.B.length:=by rw[t] at D;exact D
  by_cases e:m=j
  ·grind [Nf1,yU]
  ·have A:j≠m:=λJ=>e J.symm
   have:({ x with B:=x.B.set j y }:Hp).B[m]=x.B[m]:=by simp [A]
   rw[this];exact(h.rw.r m C).of λl t=>M _ (by omega)
 ·exact(h.rw.s q b).of λm _=>World.cell?_of_block (a:=(aA bc _)) (z (by have:q<x.A.length:=b;omega))
 ·rw[World.cell?_of_block (a:=(aA bc _)) (z (by have:q<x.A.length:=b;omega))];exact h.rw.p7 q b
 ·exact(h.rw.p q b k n).of λm _=>World.cell?_of_block (a:=(aA (pb q) _)) (F q b (h.rw.pw b (by have:k<(x.c q).F.length:=n;omega)))
 ·obtain⟨I,H,G⟩:=h.rw.pl q b u;exact⟨I,a0g H (F q b u) o.size,G⟩
theorem GAt.move[Inhabited uQ](h:GAt B w g x ar kr ac kc vg br bc pb pa pk role)(t f:Nat)(z:t≠f)(H:t<x.A.length)(n:f<x.A.length)(o:uX (λq=>q=bc) w w')(C:Nf1 bc w')(D:S7 w' bc (t*8) (x.c f))(G:w'.cell? (aA bc (t*8+7))=some (.slice (pa f) (x.c f).F.length (pk f)))(A:S7 w' bc (f*8) (mvC t))(I:w'.cell? (aA bc (f*8+7))=some (.slice none 0 0))
  (v:∀q,q<x.A.length->q≠t->q≠f->∀k,k<8->w'.cell? (aA bc (q*8+k))=w.cell? (aA bc (q*8+k))) (r:∀j,x.A.length*8<=j->w'.cell? (aA bc j)=w.cell? (aA bc j)) :
  ∃pb' pa' pk' role',GAt B w' g { x with A:=(x.A.set t (x.c f)).set f (mvC t) } ar kr ac kc vg br bc pb' pa' pk' role':=by
 have m:∀q,({ x with A:=(x.A.set t (x.c f)).set f (mvC t) }:Hp).c q=if q=f then mvC t else if q=t then x.c f else x.c q:=λq=>by grind [Hp.c,mvC,Hp.c_set,Nf1,S7]
 refine⟨_,_,_,_,h.turn ((x.A.set t (x.c f)).set f (mvC t)) (by simp) (λq=>if q=t then f else q) (λq=>if q=f then none else if q=t then pa f else pa q) (λq=>if q=f then 0 else if q=t then pk f else pk q) (λb=>if 0<pk f/\b=pb f then 6+t else role b) (by omega) o C (λq i=>?_) (λq i=>?_) (λq i=>?_) (λq i l=>?_) (λb F=>?_) r⟩
 ·rw[m q];by_cases a:q=f
  ·subst a;rw[if_pos rfl];exact A
  ·rw[if_neg a];by_cases d:q=t
   ·subst d;rw[if_pos rfl];exact D
   ·rw[if_neg d];exact(h.rw.s q i).of λj E=>v q i d a j (by omega)
 ·rw[m q];by_cases a:q=f
  ·grind [Nf1,S7,Hp.c,mvC]
  ·simp only [if_neg a];by_cases d:q=t
   ·grind [Nf1,S7,Hp.c,mvC]
   ·simp only [if_neg d];rw[v q i d a 7 (by omega)];exact h.rw.p7 q i
 ·rw[m q];by_cases a:q=f
  ·rw[if_pos a];simp [mvC]
  ·simp only [if_neg a];by_cases d:q=t
   ·simp only [if_pos d];exact h.rw.kp f n
   ·simp only [if_neg d];exact h.rw.kp q i
 ·rw[m q];by_cases a:q=f
  ·rw[if_pos a] at l;omega
  ·rw[if_neg a] at l;simp only [if_neg a];by_cases d:q=t
   ·grind [Grw.at,Nf1,S7,Hp.c,mvC]
   ·rw[if_neg d] at l;simp only [if_neg d];refine⟨⟨i,trivial⟩,trivial,trivial,?_⟩;rw[if_neg (λe=>?_)]
    ·exact h.sp.p q i l
    ·have y:=h.sp.p q i l;have u:=h.sp.p f n e.1;rw[e.2] at y;omega
 ·by_cases e:0<pk f/\b=pb f
  ·have u:=h.sp.p f n e.1;rw[<-e.2] at u;omega
  ·rw[if_neg e]
theorem b0h(w:World)(base a b g n cap i j:Nat)(I J:Int)(L:List Int)(k:I=(i:Int))(f:J=(j:Int))(h:dW w base a b (sS g n cap) L)(c:i<n)(d:j<n):
  Calls prog 171 #[pQ a b,iv I,iv J] w λe w'=>e=.returned (.tuple #[])/\dW w' base a b (sS g n cap) (swp L i j)/\QFr a b (sS g n cap) (sS g n cap) w w':=by grind [swp,c5t]
theorem sink_ls(w:World)(base t u g n cap:Nat)(L:List Int)(h:dW w base t u (sS g n cap) L)(S:yY L 0)(hn:n<=1000000000):
  Calls prog 249 #[pQ t u] w λe w'=>e=.returned (.tuple #[])/\∃L',dW w' base t u (sS g n cap) L'/\Ho L'/\L'.Perm L/\QFr t u (sS g n cap) (sS g n cap) w w':=by
 have R:=h.len.1;have HL:=uU h;have B:=uU S;clear h S;go_enter func249,ntmps249;go_wp2_with fail;go_loopw [2] (λP wr=>∃(a:Nat) (M:List Int),a<=n/\P=iv a/\M.length=n/\dW wr base t u (sS g n cap) M/\yY M a/\M.Perm L/\QFr t u (sS g n cap) (sS g n cap) w wr) (λP _=>n-(intOf P).toNat)
 case atStart=>exact⟨0,L,Nat.zero_le _,rfl,R.symm,HL,B,List.Perm.refl _,QFr.refl _ _ _ _⟩
 case round=>
  clear B HL R;obtain⟨a,M,ha,rfl,hM,b,H,E,D⟩:=hrel;have j:=uU b;have A:=uU H;have y:=uU E;have k:=uU D;have hd:=b.hd;have i0:(0:Int)<=(a:Int):=by omega
  have i1:(a:Int)<=1000000000:=by omega
  by_cases J:n<=2*a+1
  ·have O:(n:Int)<=2*(a:Int)+1:=by omega
   have Y:=uU (yY.bottom A (by omega));clear b H E D J;go_wp2_with fail
   try simp only [Exit.inBlock,Exit.then]
   refine bodyPost_ret (results_none rfl _ _ _) rfl ?_;exact⟨rfl,M,j,Y,y,k⟩
  ·have O:¬(n:Int)<=2*(a:Int)+1:=by omega
   have U:2*(a:Int)+1<(n:Int):=by omega
   have j0:(0:Int)<=2*(a:Int)+1:=by omega
   have j1:(2*(a:Int)+1).toNat=2*a+1:=by omega
   have j2:(a:Int)<(n:Int):=by omega
   have V:IntKind.i64.wrap (2*(a:Int)+1+1)=2*(a:Int)+2:=by rw[IntKind.wrap_i64];omega
   obtain⟨s,i⟩:∃z,it M a=z:=⟨_,rfl⟩;have T:=b.cell a (by omega);rw[i] at T;obtain⟨x,f⟩:∃z,it M (2*a+1)=z:=⟨_,rfl⟩;have X:=b.cell (2*a+1) (by omega);rw[f] at X;by_cases K:2*a+2<n
   ·obtain⟨I,m⟩:∃z,it M (2*a+2)=z:=⟨_,rfl⟩;have cr:=b.cell (2*a+2) (by omega);rw[m] at cr;have k0:2*(a:Int)+2<(n:Int):=by omega
    have k1:(0:Int)<=2*(a:Int)+2:=by omega
    have k2:(2*(a:Int)+2).toNat=2*a+2:=by omega
    by_cases N:I<x
    ·have o:=uU (a1y.right (by omega) (by rw[m,f];exact N):a1y M a (2*a+2));clear b H E D J;by_cases l:s<=I
     ·have Y:=uU (yY.done A o (by rw[i,m];exact l));go_wp2_with fail;go_quiet (fail);go_wp2_with fail;go_quiet (fail);go_wp2_with fail
      try simp only [Exit.inBlock,Exit.then]
      refine bodyPost_ret (results_none rfl _ _ _) rfl ?_;exact⟨rfl,M,j.ext (by first | exact((Ext.refl _).drewN _).drewN _ | exact(Ext.refl _).drewN _),Y,y,by first | exact(k.drewN _).drewN _ | exact k.drewN _⟩
     ·have G:decide (s<=I)=false:=decide_eq_false l;have c:I<s:=by omega
      have R2:=uU (yY.down A o (by rw[i,m];exact c));have C:2*a+2<M.length:=o.2.1;have F:((2*a+2:Nat):Int)=2*(a:Int)+2:=by omega
      clear l c;go_wp2_with fail;go_quiet (fail);go_wp2_with fail;go_quiet (fail);go_wp2_with fail;refine(b0h _ base t u g n cap a (2*a+2) (a:Int) (2*(a:Int)+2) M rfl F.symm (j.ext (by first | exact((Ext.refl _).drewN _).drewN _ | exact(Ext.refl _).drewN _)) (by omega) (by omega)).mono ?_;rintro e Q ⟨rfl,d,v⟩;have p:=uU d;have r:=uU (QFr.trans (by first | exact(k.drewN _).drewN _ | exact k.drewN _) v);clear d v;go_wp2_with fail;go_roundw
      case rel=>exact⟨2*a+2,swp M a (2*a+2),by omega,by go_num,by rw[a0v];omega,p,R2,(a4c M a (2*a+2) (by omega) C).trans y,r⟩
      case measure=>simp [intOf];omega
    ·have o:=uU (a1y.left (by omega) (λ_=>by rw[m,f];omega):a1y M a (2*a+1));have W:decide (I<x)=false:=decide_eq_false N;clear b H E D J N;by_cases l:s<=x
     ·have Y:=uU (yY.done A o (by rw[i,f];exact l));go_wp2_with fail;go_quiet (fail);go_wp2_with fail;go_quiet (fail);go_wp2_with fail
      try simp only [Exit.inBlock,Exit.then]
      refine bodyPost_ret (results_none rfl _ _ _) rfl ?_;exact⟨rfl,M,j.ext (by first | exact((Ext.refl _).drewN _).drewN _ | exact(Ext.refl _).drewN _),Y,y,by first | exact(k.drewN _).drewN _ | exact k.drewN _⟩
     ·have G:decide (s<=x)=false:=decide_eq_false l;have c:x<s:=by omega
      have R2:=uU (yY.down A o (by rw[i,f];exact c));have C:2*a+1<M.length:=o.2.1;have F:((2*a+1:Nat):Int)=2*(a:Int)+1:=by omega
      clear l c;go_wp2_with fail;go_quiet (fail);go_wp2_with fail;go_quiet (fail);go_wp2_with fail;refine(b0h _ base t u g n cap a (2*a+1) (a:Int) (2*(a:Int)+1) M rfl F.symm (j.ext (by first | exact((Ext.refl _).drewN _).drewN _ | exact(Ext.refl _).drewN _)) (by omega) (by omega)).mono ?_;rintro e Q ⟨rfl,d,v⟩;have p:=uU d;have r:=uU (QFr.trans (by first | exact(k.drewN _).drewN _ | exact k.drewN _) v);clear d v;go_wp2_with fail;go_roundw
      case rel=>exact⟨2*a+1,swp M a (2*a+1),by omega,by go_num,by rw[a0v];omega,p,R2,(a4c M a (2*a+1) (by omega) C).trans y,r⟩
      case measure=>simp [intOf];omega
   ·have o:=uU (a1y.left (by omega) (λq=>by omega):a1y M a (2*a+1));have Z:decide (2*(a:Int)+2<(n:Int))=false:=decide_eq_false (by omega);clear b H E D J K;by_cases l:s<=x
    ·have Y:=uU (yY.done A o (by rw[i,f];exact l));go_wp2_with fail;go_quiet (fail);go_wp2_with fail;go_quiet (fail);go_wp2_with fail
     try simp only [Exit.inBlock,Exit.then]
     refine bodyPost_ret (results_none rfl _ _ _) rfl ?_;exact⟨rfl,M,j.ext (by first | exact((Ext.refl _).drewN _).drewN _ | exact(Ext.refl _).drewN _),Y,y,by first | exact(k.drewN _).drewN _ | exact k.drewN _⟩
    ·have G:decide (s<=x)=false:=decide_eq_false l;have c:x<s:=by omega
     have R2:=uU (yY.down A o (by rw[i,f];exact c));have C:2*a+1<M.length:=o.2.1;have F:((2*a+1:Nat):Int)=2*(a:Int)+1:=by omega
     clear l c;go_wp2_with fail;go_quiet (fail);go_wp2_with fail;go_quiet (fail);go_wp2_with fail;refine(b0h _ base t u g n cap a (2*a+1) (a:Int) (2*(a:Int)+1) M rfl F.symm (j.ext (by first | exact((Ext.refl _).drewN _).drewN _ | exact(Ext.refl _).drewN _)) (by omega) (by omega)).mono ?_;rintro e Q ⟨rfl,d,v⟩;have p:=uU d;have r:=uU (QFr.trans (by first | exact(k.drewN _).drewN _ | exact k.drewN _) v);clear d v;go_wp2_with fail;go_roundw
     case rel=>exact⟨2*a+1,swp M a (2*a+1),by omega,by go_num,by rw[a0v];omega,p,R2,(a4c M a (2*a+1) (by omega) C).trans y,r⟩
     case measure=>simp [intOf];omega
theorem c7e(w:World)(base b c:Nat)(v:Value)(L:List Int)(h:dW w base b c v L)(f:L.length=0):
  Calls prog 228 #[pQ b c] w λe w'=>e=.returned (.tuple #[iv 0,.bool false])/\w'=w:=by
 obtain⟨ad,a,rfl⟩:=h.empty f;have d:=h.hd;go_enter func228,ntmps228;go_wp2_with fail;refine(a4d _ b c ad a d).mono ?_;rintro e g ⟨rfl,rfl⟩;go_wp2;go_ret2;exact⟨rfl,rfl⟩
theorem dW.cut{base bq oq n:Nat}{L:List Int}(h:dW w base bq oq (sS g (n+1) cap) L):
  dW (w.setCell (aA bq oq) (sS g n cap)) base bq oq (sS g n cap) (L.take n)/\
  QFr bq oq (sS g (n+1) cap) (sS g n cap) w (w.setCell (aA bq oq) (sS g n cap)):=by
 have c:g≠bq:=λe=>h.apart (by rw[<-e];rfl)
 obtain⟨f,l⟩:=h.len;have a:(L.take n).length=n:=by simp;omega
 have b:w.ownsRow base 3 1 (sS g n cap) n ((L.take n).map iv):=by
  refine ownsRow_pop (last:=(L.drop n).map iv) (by simp;omega) ?_;have:=h.own;rw[<-f] at this;rw[<-List.map_append,List.take_append_drop];exact this
 refine⟨⟨World.cell?_setCell_same _ _ _ h.hd,by rw[World.frozen?_setCell];exact h.hf,?_,λe=>c (by simpa [Value.ownBlock] using e)⟩,⟨rfl,rfl,rfl,by simp [World.setCell],λk _ i _=>Below.heap_setCell _ _ _ _ (show k≠bq from i),λo j=>uC _ (.inr (λe=>j e.symm)),λo=>by rw[World.frozen?_setCell],.inl rfl⟩⟩;rw[a];refine uN b (λk d=>Below.heap_setCell _ _ _ _ ?_);simp [Value.ownBlock] at d;show k≠bq;omega
theorem b1u(w:World)(base b c:Nat)(v:Value)(L:List Int)(h:dW w base b c v L)(x:0<L.length)(N:Ho L)(S:L.length<=1000000000):
  Calls prog 228 #[pQ b c] w λe w'=>e=.returned (.tuple #[iv (it L 0),.bool true])/\∃v' L',dW w' base b c v' L'/\Ho L'/\(it L 0::L').Perm L/\QFr b c v v' w w':=by
 obtain⟨g,a,rfl,P⟩:=h.form x;obtain⟨n,i⟩:∃n,L.length=n+1:=⟨L.length-1,by omega⟩;rw[i] at h ⊢;have B:=h.len.2;have D:=h.hd;obtain⟨o,f⟩:∃z,it L 0=z:=⟨_,rfl⟩;have A:=h.cell 0 x;rw[f] at A ⊢;have HL:=uU h;have E:=uU (yY.V N);have k:=uU (c6s L x);have p:n<=1000000000:=by omega
 have r:b8j L=(swp L 0 n).take n:=by unfold b8j;rw[i];simp
 have l:=uU r;have I:=uU f;have R:(0:Int)<=(n:Int):=by omega
 have Q:(n:Int)<=(a:Int):=by omega
 go_enter func228,ntmps228;go_wp2_with fail;refine(a1r _ b c g 0 (n+1) a o (by omega) D A).mono ?_;rintro e J ⟨rfl,rfl⟩;go_wp2_with fail;refine(b0h _ base b c g (n+1) a 0 n 0 (n:Int) L rfl rfl HL (by omega) (by omega)).mono ?_;rintro e O ⟨rfl,d,F⟩;have u:=uU d;have M:=d.hd;have G:=d.hf;have K:=uU F;go_wp2_with fail;have m:=u.cut;rw[<-uH l] at m;refine(sink_ls _ base b c g n a (b8j L) m.1 E p).mono ?_;rintro e y ⟨rfl,j,q,s,H,C⟩
 have t:=uU (show dW y base b c (sS g n a) j/\Ho j/\(o::j).Perm L/\QFr b c (sS g (n+1) a) (sS g n a) J y from
  ⟨q,s,by have:=uH k;rw[uH I] at this;exact(H.cons o).trans this,(K.trans m.2).trans C⟩)
 go_wp2;go_ret2;exact⟨rfl,_,j,t⟩
theorem b4x(w:World)(base i j:Nat)(v:Value)(L:List Int)(h:dW w base i j v L)(Z:Ho L)(hm:L.length<=1000000000):
  Calls prog 175 #[pQ i j] w λe w'=>∃r:Bool,Hid (e=.returned (.bool r))/\(r=true↔L.Nodup)/\∃v',QFr i j v v' w w':=by
 have HL:=uU h;have s:=uU Z;go_enter func175,ntmps175;go_wp2_with fail
 go_loopg [3] (L.length+1) (λX T wr=>∃(d:Bool) (q:Value) (M:List Int),T=.bool d/\M.length+1<=X/\M.length<=L.length/\dW wr base i j q M/\Ho M/\Hid ((d=true/\M.Nodup)↔L.Nodup)/\QFr i j v q w wr)
 case atStart=>exact⟨true,v,L,rfl,Nat.le_refl _,Nat.le_refl _,HL,s,by show _↔_;simp,QFr.refl _ _ _ _⟩
 case round=>
  obtain⟨d,q,M,rfl,P,V,A,R,k,Q⟩:=hrel;have u:=uU A;have s:=uU R;have I:=uU Q;by_cases N:M.length=0
  ·have E:=uU (show d=true↔L.Nodup by
    have:=uH k;rw[List.length_eq_zero_iff.1 N] at this
    simpa using this)
   go_wp2_with fail;refine(c7e _ base i j q M u N).mono ?_;rintro e Y ⟨rfl,rfl⟩;go_wp2;go_ret;exact⟨d,rfl,E,q,I⟩
  ·go_wp2_with fail;refine(b1u _ base i j q M u (by omega) s (by omega)).mono ?_;rintro e Y ⟨rfl,v2,b,c,x,H,U⟩;have K:b.length+1=M.length:=by have:=H.length_eq;simpa using this
   have p:=uU c;have g:=uU x;have C:=uU H;have D:=uU (I.trans U);by_cases J:b.length=0
   ·obtain⟨ad,a,rfl⟩:=c.empty J;have l:=c.hd
    have S:=uU (show(d=true/\b.Nodup)↔L.Nodup by
     have n:=uH k;rw[b4k (uH C) (uH s) rfl (uH g) (.inl (List.length_eq_zero_iff.1 J))] at n;exact n)
    go_wp2_with fail;refine(a4d _ i j ad a l).mono ?_;rintro e G ⟨rfl,rfl⟩;go_wp2_with fail
    go_roundg (b.length+1)
    case rel=>exact⟨d,_,b,rfl,Nat.le_refl _,by omega,p,g,S,D⟩
    case measure=>omega
   ·obtain⟨O,a,rfl,W⟩:=c.form (by omega);have l:=c.hd;obtain⟨y0,o⟩:∃z,it b 0=z:=⟨_,rfl⟩;obtain⟨y,m⟩:∃z,it M 0=z:=⟨_,rfl⟩;have F:=c.cell 0 (by omega);rw[o] at F;rw[m];cases t:(y0 == y)
    ·have S:=uU (show(d=true/\b.Nodup)↔L.Nodup by
      have n:=uH k;have B:¬y0=y:=by simpa using t
      rw[b4k (uH C) (uH s) rfl (uH g) (.inr (by rw[o,m];exact B))] at n;exact n)
     go_wp2_with fail;refine(a1r _ i j O 0 b.length a y0 (by omega) l F).mono ?_;rintro e G ⟨rfl,rfl⟩;go_wp2_with fail
     go_roundg (b.length+1)
     case rel=>exact⟨d,_,b,rfl,Nat.le_refl _,by omega,p,g,S,D⟩
     case measure=>omega
    ·have S:=uU (show(false=true/\b.Nodup)↔L.Nodup by
      have n:=uH k;have B:y0=y:=by simpa using t
      have:=c0g C (by omega) (by rw[o,m];exact B);constructor
      ·intro f;simp at f
      ·intro f;exact(this (n.2 f).2).elim)
     go_wp2_with fail;refine(a1r _ i j O 0 b.length a y0 (by omega) l F).mono ?_;rintro e G ⟨rfl,rfl⟩;go_wp2_with fail
     go_roundg (b.length+1)
     case rel=>exact⟨false,_,b,rfl,Nat.le_refl _,by omega,p,g,S,D⟩
     case measure=>omega
def GG(S:Nat->Prop)(B:Nat)(w:World)(g:Nat)(x:Hp):Prop:=∃z:Nat->Option Obj,(∀q,S q->∃o,z q=some o)/\@GOk ⟨⟨z⟩⟩ B w g x
theorem GOk.prt{p:Inhabited uQ}(h:@GOk p B w g x){o:Obj}(b:(@default uQ p).z q=some o):w.heap[q]?=some o:=by
 obtain⟨n,f,i,e,c,d,m,l,k,j,a,h⟩:=h;exact(h.pr q o b).2
theorem GG.lt(h:GG S B w g x)(c:S q):q<w.heap.size:=by
 obtain⟨z,a,h⟩:=h;obtain⟨o,b⟩:=a q c;exact b2c (h.prt b)
theorem GG.call(h:GG S B w g x):∃p:Inhabited uQ,@GOk p B w g x/\∀w' y,@GOk p B w' g y->GG S B w' g y/\∀q,S q->w'.heap[q]?=w.heap[q]?:=by
 obtain⟨z,a,h⟩:=h;refine⟨⟨⟨z⟩⟩,h,λw' y b=>⟨⟨z,a,b⟩,λq d=>?_⟩⟩;obtain⟨o,c⟩:=a q d;rw[b.prt c,h.prt c]
theorem GG.turn(h:GG S B w g x)(l:uX S w w')(G:∀q,T q->S q\/(w.heap.size<=q/\q<w'.heap.size)):GG T B w' g x:=by
 obtain⟨z,m,F,s,D,n,v,y,u,t,E,C,d,h⟩:=h;have r:=h;obtain⟨_,_,_,_,_,_,_,_,_,j,_⟩:=r;refine⟨λq=>if w.heap.size<=q\/(z q).isSome then w'.heap[q]? else none,λq f=>?_,F,s,D,n,v,y,u,t,E,C,λq=>if w.heap.size<=q then 1 else d q,GAt.far h l.size (λq f p=>l.block q f (λe=>?_)) (λq f _=>if_neg (by omega)) (λq o f=>?_)⟩
 ·rcases G q f with a | ⟨a,b⟩
  ·obtain⟨o,i⟩:=m q a;simp only [i,Option.isSome_some,or_true,if_true];exact a5j (Nat.lt_of_lt_of_le (b2c (j q o i).2) l.size)
  ·grind [a5j,GG]
 ·obtain⟨o,i⟩:=m q e;exact p (j q o i).1
 ·split at f
  ·rename_i c;refine⟨?_,f⟩;by_cases k:w.heap.size<=q
   ·exact if_pos k
   ·obtain⟨A,i⟩:=Option.isSome_iff_exists.1 (c.resolve_left k);show(if w.heap.size<=q then 1 else d q)=1;rw[if_neg k];exact(j q A i).1
  ·cases f
theorem GG.more(h:GG S B w g x)(e:Ext w w')(a:∀q,T q->S q\/(w.heap.size<=q/\q<w'.heap.size)):GG T B w' g x:=h.turn (uX.of_ext e) a
theorem GG.poke{P:Nat->Prop}(h:GG S B w g x)(c:uX P w w')(b:∀q,P q->S q):GG S B w' g x:=h.turn (c.mono b) (λ_ a=>.inl a)
theorem a0s{o:Nat}(h:w'.heap[b]?=w.heap[b]?):w'.cell? (aA b o)=w.cell? (aA b o):=World.cell?_of_block h
theorem b0s(h:Nf1 b w)(c:w'.heap[b]?=w.heap[b]?):Nf1 b w':=by
 obtain⟨o,d⟩:=a5j h.1;exact⟨b2c (c.trans d),λj=>by rw[World.frozen?_of_block (a:=(aA b j)) c];exact h.2 j⟩
theorem Cu.blk(h:Cu v w c m)(e:Ext v w')(b:w'.heap[c]?=w.heap[c]?):Cu v w' c m:=by
 obtain⟨_,l,d,ad,n,k,a,s,g,f,i,r⟩:=h;exact⟨e,l,b0s d b,ad,n,k,a,s,(a0s b).trans g,(a0s b).trans f,(a0s b).trans i,r⟩
def AkFit(x:Ak):Prop:=(-9223372036854775808<=x.op/\x.op<=9223372036854775807)/\(-9223372036854775808<=x.a/\x.a<=9223372036854775807)/\(-9223372036854775808<=x.b/\x.b<=9223372036854775807)/\(-9223372036854775808<=x.c/\x.c<=9223372036854775807)/\(-9223372036854775808<=x.n/\x.n<=9223372036854775807)
structure Bp(B:Nat)(v w:World)(b c g m:Nat)(x:Hp)(L:List Ak)(va:Value)(lf:Nat):Prop where
 s:Snd x
 hL:∀a,a∈L->AkFit a
 hl:L.length+lf<=400
 cu:Cu v w c m
 vB:v.heap.size<=B
 vb:v.heap.size<=b
 bc:b≠c
 nf:Nf1 b w
 b0:w.cell? ⟨b,0,none⟩=some (.pointer (some ⟨c,0,none⟩))
 b1:w.cell? ⟨b,1,none⟩=some (.pointer (some ⟨g,0,none⟩))
 b2:w.cell? ⟨b,2,none⟩=some va
 b3:w.cell? ⟨b,3,none⟩=some (iv lf)
 ow:w.ownsRow v.heap.size 39 5 va L.length (L.flatMap fA)
 n1:va.ownBlock≠some b
 n2:va.ownBlock≠some c
 gg:GG (λq=>q=b\/q=c\/va.ownBlock=some q) B w g x
def Bd(B:Nat)(v w:World)(b c g m:Nat):Prop:=∃x L va lf,Bp B v w b c g m x L va lf
theorem Bd.c0(h:Bd B v w b c g m):w.cell? (aA b 0)=some (pP c):=by
 obtain⟨_,_,_,_,h⟩:=h;exact h.b0
theorem Bd.c1(h:Bd B v w b c g m):w.cell? (aA b 1)=some (pP g):=by
 obtain⟨_,_,_,_,h⟩:=h;exact h.b1
theorem Bd.cu(h:Bd B v w b c g m):Cu v w c m:=by
 obtain⟨_,_,_,_,h⟩:=h;exact h.cu
theorem Bp.blk{y:Hp}(h:Bp B v w b c g m x L va lf)(e:Ext v w')(s:Snd y)(f:GG (λq=>q=b\/q=c\/va.ownBlock=some q) B w' g y)(k:∀q,q=b\/q=c\/va.ownBlock=some q->w'.heap[q]?=w.heap[q]?):Bp B v w' b c g m y L va lf:=by
 have a:=k b (.inl rfl);exact⟨s,h.hL,h.hl,h.cu.blk e (k c (.inr (.inl rfl))),h.vB,h.vb,h.bc,b0s h.nf a,(a0s a).trans h.b0,(a0s a).trans h.b1,(a0s a).trans h.b2,(a0s a).trans h.b3,uN h.ow (λq d=>k q (.inr (.inr d))),h.n1,h.n2,f⟩
theorem Bp.ext(h:Bp B v w b c g m x L va lf)(e:Ext w w'):Bp B v w' b c g m x L va lf:=
 h.blk (h.cu.1.trans e) h.s (h.gg.more e (λ_ a=>.inl a)) (λq a=>e.block q (h.gg.lt a))
theorem Bd.ext(h:Bd B v w b c g m)(e:Ext w w'):Bd B v w' b c g m:=by
 obtain⟨x,L,a,d,h⟩:=h;exact⟨x,L,a,d,h.ext e⟩
theorem Bp.read(h:Bp B v w b c g m x L va lf)(o:uX (λq=>q=c) w w')(f:Cu v w' c k):Bp B v w' b c g k x L va lf:=by
 have a:w'.heap[b]?=w.heap[b]?:=o.block b h.nf.1 h.bc;exact⟨h.s,h.hL,h.hl,f,h.vB,h.vb,h.bc,b0s h.nf a,(a0s a).trans h.b0,(a0s a).trans h.b1,(a0s a).trans h.b2,(a0s a).trans h.b3,uN h.ow (λq d=>o.block q (h.ow.lt q d).2 (λe=>h.n2 (by rw[<-e];exact d))),h.n1,h.n2,h.gg.poke o (λ_ e=>.inr (.inl e))⟩
def b2d(B:Nat)(v:World)(b c g m:Nat)(n:Int)(e:Ending)(w':World):Prop:=∃r:Int,Hid (e=.returned (iv r))/\0<=r/\r<n/\Hid (Bd B v w' b c g m)
theorem Bd.read(h:Bd B v w b c g m)(o:uX (λq=>q=c) w w')(e:Cu v w' c k):Bd B v w' b c g k:=by
 obtain⟨x,L,a,d,h⟩:=h;exact⟨x,L,a,d,h.read o e⟩
theorem zK(B:Nat)(v w:World)(b c g m:Nat)(n:Int)(h:Bd B v w b c g m)(j:m<=999999999)(k:n<=1000000)(i:1<=n):
  Calls prog 54 #[pP c,iv n] w λe w'=>b2d B v b c g (m+2) n e w':=
 (b9d v w c m n h.cu j k i).mono λ_ _ ⟨r,d,f,a,q,o⟩=>⟨r,d,f,a,h.read o q⟩
theorem bwhole(B:Nat)(v w:World)(b c g m:Nat)(h:Bd B v w b c g m)(f:m<=99999999):
  Calls prog 196 #[pP c] w λe w'=>∃r:Int,Hid (e=.returned (iv r))/\(-9223372036854775808<=r/\r<=9223372036854775807)/\Hid (Bd B v w' b c g (m+4)):=
 (c7o v w c m h.cu f).mono λ_ _ ⟨r,a,d,q,o⟩=>⟨r,a,d,h.read o q⟩
theorem Bp.left(h:Bp B v w b c g m x L va lf)(f:k<=lf):Bp B v (w.setCell (aA b 3) (iv k)) b c g m x L va k:=by
 have o:uX (λq=>q=b) w (w.setCell (aA b 3) (iv k)):=(uX.refl (λq=>q=b) w).setCell (p:=(aA b 3)) rfl _;have d:=o.block c h.cu.2.2.1.1 (λe=>h.bc e.symm);exact⟨h.s,h.hL,by have:=h.hl;omega,h.cu.blk (o.ext h.cu.1 (λq a e=>by have:=h.vb;omega)) d,h.vB,h.vb,h.bc,h.nf.set _ _,by rw[uC _ (.inr (by omega))];exact h.b0,by rw[uC _ (.inr (by omega))];exact h.b1,by rw[uC _ (.inr (by omega))];exact h.b2,qC.same ⟨⟨_,h.b3⟩,h.nf.2 3⟩ _,uN h.ow (λq a=>o.block q (h.ow.lt q a).2 (λe=>h.n1 (by rw[<-e];exact a))),h.n1,h.n2,h.gg.poke o (λ_ e=>.inl e)⟩
structure AppA(base:Nat)(w0:World)(va:Value)(L:List Ak)(A:Ak)(q cap:Nat)(w':World):Prop where
 ow:w'.ownsRow base 39 5 (.slice (some ⟨q,0,none⟩) (L.length+1) cap) (L.length+1) ((L++[A]).flatMap fA)
 on:uX (λr=>va.ownBlock=some r) w0 w'
 at_:va.ownBlock=some q\/w0.heap.size<=q
theorem Bp.push{A:Ak}(h:Bp B v w b c g m x L va lf)(F:L.length+lf+1<=400)(E:AkFit A)(a:AppA v.heap.size w va L A q cap w'):Bp B v (w'.setCell ⟨b,2,none⟩ (.slice (some ⟨q,0,none⟩) (L.length+1) cap)) b c g m x (L++[A]) (.slice (some ⟨q,0,none⟩) (L.length+1) cap) lf:=by
 have i:=a.on.block b h.nf.1 h.n1;have t:=a.on.block c h.cu.2.2.1.1 h.n2
 have D:q≠b:=λe=>by
  rcases a.at_ with f | f
  ·exact h.n1 (by rw[f,e])
  ·have:=h.nf.1;omega
 have z:q≠c:=λe=>by
  rcases a.at_ with f | f
  ·exact h.n2 (by rw[f,e])
  ·have:=h.cu.2.2.1.1;omega
 have n:=b0s h.nf i;have C:Ext v w':=a.on.ext h.cu.1 (λr d e=>by have:=(h.ow.lt r e).1;omega);have o:uX (λr=>r=b) w' (w'.setCell ⟨b,2,none⟩ (.slice (some ⟨q,0,none⟩) (L.length+1) cap)):=(uX.refl (λq=>q=b) w').setCell (p:=⟨b,2,none⟩) rfl _;have l:=(o.block c (by have:=a.on.size;have:=h.cu.2.2.1.1;omega) (λe=>h.bc e.symm)).trans t;have j:(Value.slice (some ⟨q,0,none⟩) (L.length+1) cap).ownBlock=some q:=rfl;have k:=(a.ow.lt q j).2;refine⟨h.s,λy u=>?_,by simp;omega,h.cu.blk (o.ext C (λr d e=>by have:=h.vb;omega)) l,h.vB,h.vb,h.bc,n.set _ _,?_,?_,?_,?_,?_,by rw[j];intro e;exact D (Option.some.inj e),by rw[j];intro e;exact z (Option.some.inj e),?_⟩
 ·rcases List.mem_append.1 u with e | e
  ·exact h.hL y e
  ·simp at e;subst e;exact E
 ·rw[uC _ (.inr (by omega))];exact(a0s i).trans h.b0
 ·rw[uC _ (.inr (by omega))];exact(a0s i).trans h.b1
 ·exact qC.same ⟨⟨_,(a0s i).trans h.b2⟩,n.2 2⟩ _
 ·rw[uC _ (.inr (by omega))];exact(a0s i).trans h.b3
 ·have:(L++[A]).length=L.length+1:=by simp
  rw[this];exact uN a.ow (λr d=>o.block r (a.ow.lt r d).2 (λe=>by rw[j] at d;have:=Option.some.inj d;omega))
 ·refine((h.gg.turn (T:=λr=>r=b\/r=c\/some q=some r) (a.on.mono λ_ e=>.inr (.inr e)) (λr d=>?_)).poke o (λ_ e=>.inl e));rcases d with e | e | e
  ·exact .inl (.inl e)
  ·exact .inl (.inr (.inl e))
  ·have e:=Option.some.inj e;subst e;rcases a.at_ with f | f
   ·exact .inl (.inr (.inr f))
   ·exact .inr ⟨f,k⟩
theorem frH_snd(n:Int)(d:1<=n)(f:n<=4000):Snd (frH n):=by
 have b:(frH n).A=[]:=rfl;refine⟨⟨⟨d,f⟩,by simp [frH],by simp [frH];omega,by simp [frH],by simp [frH],by simp [frH],by simp [frH],by simp [frH],by simp [frH],by simp [frH],by simp [frH],by simp [frH]⟩,⟨λi a=>by simp [b] at a,λi a=>by simp [b] at a⟩,⟨by simp [frH,units],by simp [frH];omega⟩,⟨λi a=>?_,λi a=>by simp [b] at a⟩,⟨λ_=>rfl,λi a=>by simp [b] at a,λq c=>by simp [frH] at c⟩,⟨λ_=>⟨rfl,rfl⟩,λe=>by simp [frH] at e,λe=>by simp [frH] at e,λ_=>rfl⟩,λ_ i a=>by simp [b] at a,λi a=>by simp [b] at a⟩;have e:(frH n).B[i]=⟨0,0,0⟩:=List.eq_of_mem_replicate (n:=16) (List.getElem_mem a);rw[e];exact⟨.inl ⟨rfl,rfl,rfl⟩,λh=>by cases h⟩
end Go.Proofs.YtddkhnclmeikfaaGreat
