import Derived.Test.YtolmnenlnpbcfaaGreatDoorSpecL
import Derived.Test.YtolmnenlnpbcfaaGreatDoorWa2
set_option maxRecDepth 100000
set_option maxHeartbeats 4000000
namespace Go.Proofs.YtolmnenlnpbcfaaGreatDoor
open Go.RowKit Go.Proofs.Tryz
attribute [local go_sem ↓] Go.wp_at_zero Go.wp_at_succ
variable{w v w0 W w':World}{c m B g kc bc kr i b k kg kp j:Nat}{x:Hp}{S:Nat->Prop}{ar ac ag pa:Option Addr}{d:Cl}
theorem Bd.at(h:Bd B v w b c g m):∃x,Snd x/\GG (λq=>q=c) B w g x/\v.heap.size<=B/\Cu v w c m:=by
 obtain⟨x,_,_,_,h⟩:=h;exact⟨x,h.s,h.gg.more (hO w) (λq e=>.inl (.inr (.inl e))),h.vB,h.cu⟩
def Bnd(x:Hp):Prop:=x.B.length<=1048576/\x.A.length<=1048576/\(∀q,q<x.A.length->(x.c q).F.length<=200)/\x.D.length<=1048576
def Bns(x:Hp):Prop:=x.B.length=16/\x.A.length<=8000/\(∀q,q<x.A.length->(x.c q).F.length<=200)/\x.D.length<=8000
theorem Snd.bns(s:Snd x):Bns x:=
 ⟨s.r1.B,by have:=s.ok.n8;omega,λq h=>s.ok.p200 q h,by have:=s.r1.D;have:=s.ok.n8;omega⟩
theorem Bns.bnd(s:Bns x):x.B.length=16/\x.A.length<=8000/\(∀q,q<x.A.length->(x.c q).F.length<=200)/\x.D.length<=8000:=s
theorem Bns.bd(s:Bns x):Bnd x:=have⟨a,b,c,d⟩:=s;⟨by omega,by omega,c,by omega⟩
structure Sp(S:Nat->Prop)(B:Nat)(v w0 w:World)(c g m:Nat)(x:Hp):Prop where
 sc:S c
 vB:v.heap.size<=B
 cu:Cu v w c m
 gg:GG S B w g x
 s:Bns x
 o:∀q,S q->q≠c->w.heap[q]?=w0.heap[q]?
 l:∀q,S q->q<w0.heap.size
 z:w0.heap.size<=w.heap.size
theorem Sp.read(h:Sp S B v w0 w c g m x)(o:uQ (λq=>q=c) w w')(u:Cu v w' c k):Sp S B v w0 w' c g k x:=
 ⟨h.sc,h.vB,u,h.gg.poke o (λ_ e=>e▸h.sc),h.s,λq i j=>(o.block q (h.gg.lt i) j).trans (h.o q i j),h.l,kA h.z o.size⟩
theorem Sp.ext(h:Sp S B v w0 w c g m x)(e:Ext w w'):Sp S B v w0 w' c g m x:=h.read (uQ.of_ext e) (h.cu.ext e)
def SpE(S:Nat->Prop)(B:Nat)(v w0:World)(c g m:Nat)(w:World):Prop:=Cu v w c m/\(∀q,S q->q≠c->w.heap[q]?=w0.heap[q]?)/\∃x,GG S B w g x/\Bnd x
theorem Sp.call(h:Sp S B v w0 w c g m x):∃p:Inhabited uL,@GOk p B w g x/\g≠c/\∀j W y,m<=j->@GOk p B W g y->Bnd y->uQ (λq=>B<=q) w W->SpE S B v w0 c g j W:=by
 obtain⟨p,a,b⟩:=h.gg.call;refine⟨p,a,λe=>?_,λj W y n d e o=>?_⟩;obtain⟨z,i,k⟩:=h.gg;obtain⟨o,j⟩:=i c h.sc;obtain⟨_,_,_,_,_,_,_,_,_,_,r,_,_,_,_,_,_,_,s,_,k,_⟩:=k;have:=(k c o j).1;have:=s.g;rw[e]at this;omega;obtain⟨f,k⟩:=b W y d;exact⟨(h.cu.blk (h.cu.1.pst o (λq i=>kA h.vB i)) (k c h.sc)).more n,λq i j=>(k q i).trans (h.o q i j),y,f,e⟩
def Bx(w:World)(g:Nat)(x:Hp)(ar:Option Addr)(kr:Nat)(ac:Option Addr)(kc:Nat)(ag:Option Addr)(kg:Nat):Prop:=cY w g x (.slice ar x.B.length kr) (.slice ac x.A.length kc) (.slice ag x.D.length kg)
theorem Sp.bx(h:Sp S B v w0 w c g m x):∃ar kr ac kc ag kg,Bx w g x ar kr ac kc ag kg/\Nf1 g w:=by
 obtain⟨p,⟨_,_,_,_,_,_,_,_,_,_,_,h⟩,_⟩:=h.call;obtain⟨_,_,e⟩:=h.gr.form;have b:=h.bx;rw[e]at b;exact⟨_,_,_,_,_,_,b,h.nf⟩
def SpO(S:Nat->Prop)(B:Nat)(v w0:World)(c g m:Nat)(x:Hp)(ar:Option Addr)(kr:Nat)(ac:Option Addr)(kc:Nat)(ag:Option Addr)(kg:Nat)(w:World):Prop:=Hid (Sp S B v w0 w c g m x)/\Hid (Bx w g x ar kr ac kc ag kg)/\Nf1 g w
theorem Sp.go(h:Sp S B v w0 w c g m x)(b:Bx w g x ar kr ac kc ag kg)(o:uQ (λq=>q=c) w w')(u:Cu v w' c k):SpO S B v w0 c g k x ar kr ac kc ag kg w':=by
 have H:=h.read o u;obtain⟨_,_,n,_⟩:=h.call;obtain⟨_,_,_,_,_,_,_,f⟩:=H.bx;exact⟨H,b.only o n,f⟩
theorem Sp.pick(h:Sp S B v w0 w c g m x)(b:Bx w g x ar kr ac kc ag kg)(e:Ext w W)(n:Int)(i:m<=9999999)(j:n<=1000000)(k:1<=n):
  Calls prog 17 #[pP c,iv n] W λe w'=>∃r:Int,e=.returned (iv r)/\0<=r/\r<n/\SpO S B v w0 c g (m+2) x ar kr ac kc ag kg w':=
 (a1u v W c m n (h.cu.ext e) (by omega) j k).mono λ_ _ ⟨r,a,l,d,q,o⟩=>⟨r,a,l,d,h.go b ((uQ.of_ext e).trans o) q⟩
theorem Sp.odd(h:Sp S B v w0 w c g m x)(i:m<=9999999):
  Calls prog 62 #[pP c] w λe w'=>∃r:Int,e=.returned (iv r)/\Hid (Sp S B v w0 w' c g (m+4) x):=
 (b9k v w c m h.cu (by omega)).mono λ_ _ ⟨r,a,_,q,o⟩=>⟨r,a,h.read o q⟩
theorem Sp.fld{u:Int}(h:Sp S B v w0 w c g m x)(k:Nat)(y:Int->Hp)(i:m<=j)(e:∀vr vc vg,hbL (y u) vr vc vg=(hbL x vr vc vg).set k (iv u)/\(y u).B=x.B/\(y u).A=x.A/\(y u).D=x.D):SpE S B v w0 c g j (w.setCell (aA g k) (iv u)):=by
 obtain⟨p,⟨_,_,_,_,_,_,_,_,_,_,_,a⟩,_,b⟩:=h.call;obtain⟨e,n,f,l⟩:=e _ _ _;refine b j _ (y u) i ⟨_,_,_,_,_,_,_,_,_,_,_,a.boxed (uQ.setCell (S:=λq=>q=g) (uQ.refl _ w) (p:=aA g k) rfl _) (a.nf.set _ _) n f l (a.bx.st k _ e)⟩ ?_ (uQ.setCell (S:=λq=>B<=q) (uQ.refl _ w) (p:=aA g k) a.lo _);have:=h.s.bd;unfold Bnd at *;rw[n,l,f];simpa only[Hp.c,f]using this
theorem Sp.tail{S:Nat->Prop}{B:Nat}{v w0 w:World}{c g m j:Nat}{x:Hp}{ar:Option Addr}{kr:Nat}{ac:Option Addr}{kc:Nat}{ag:Option Addr}{kg:Nat}(h:Sp S B v w0 w c g m x)(b:Bx w g x ar kr ac kc ag kg)(l:0<x.D.length)(i:m<=j):(kg=1->SpE S B v w0 c g j (w.setCell (aA g 8) (.slice ag (x.D.length-1) (kg-1))))/\(kg≠1->SpE S B v w0 c g j (w.setCell (aA g 8) (.slice (ag.map λx=>(aA x.block (x.off+1))) (x.D.length-1) (kg-1)))):=by
 obtain⟨p,⟨_,_,_,_,_,_,_,_,_,_,_,a⟩,_,f⟩:=h.call;have e:=a.bx.2.2.2.2.2.2.2.2.1.symm.trans b.2.2.2.2.2.2.2.2.1;cases e;have k:=a.gr;have z:=h.s.bd;cases d:x.D with
 | nil=>simp[d]at l
 | cons y G=>
  have n:Bnd {x with D:=G}:=⟨z.1,z.2.1,z.2.2.1,by have:=z.2.2.2;rw[d]at this;simp at this ⊢;omega⟩;have o:=λv=>uQ.setCell (S:=λq=>B<=q) (uQ.refl _ w) (p:=aA g 8) a.lo v;rw[d]at k;obtain⟨_,e⟩|⟨t,u,A,r,e,k⟩:=k
  cases e
  cases e;have k:Grw w B (sO t u (G.length+1) kg) (y::G):=.inr ⟨t,u,kg,r,rfl,k⟩;exact⟨λe=>by subst e;exact f j _ _ i (a.gtail k.tail1 rfl) n (o _),λe=>f j _ _ i (a.gtail k.tail rfl) n (o _)⟩
theorem Cu.new{T:Nat->Prop}(h:Cu v w' c m)(o:uQ (λq=>q=c) w w')(z:v.heap.size<=w.heap.size)(l:c<w.heap.size)(t:uQ T w' W)(i:∀q,T q->w.heap.size<=q)(n:m<=k):Cu v W c k/\uQ (λq=>q=c) w W:=
 ⟨(h.blk (h.1.pst t (λq e=>kA z (i q e))) (t.block c h.2.1.1 (λe=>by have:=i c e;omega))).more n,o.pst t i⟩
structure Wb(v w W:World)(c m:Nat):Prop where
 cu:Cu v W c m
 o:uQ (λq=>q=c) w W
 l:c<w.heap.size
 z:v.heap.size<=w.heap.size
 b:∃a b d,W.cell? (aA w.heap.size 0)=some a/\W.cell? (aA w.heap.size 1)=some b/\W.cell? (aA w.heap.size 2)=some d/\Nf1 w.heap.size W
theorem Wb.go{W':World}(h:Wb v w W c m)(u:Cu v W' c k)(o:uQ (λq=>q=c) W W'):Wb v w W' c k:=by
 have n:¬w.heap.size=c:=by have:=h.l;omega
 obtain⟨a,b,d,e,f,g,i⟩:=h.b;exact⟨u,h.o.trans o,h.l,h.z,a,b,d,o.keep n e,o.keep n f,o.keep n g,uY i (o.block _ i.1 n) o.size⟩
theorem Wb.fin(h:Wb v w W c m)(a b d:Value)(n:m<=k):Cu v (((W.setCell (aA w.heap.size 0) a).setCell (aA w.heap.size 1) b).setCell (aA w.heap.size 2) d) c k/\uQ (λq=>q=c) w (((W.setCell (aA w.heap.size 0) a).setCell (aA w.heap.size 1) b).setCell (aA w.heap.size 2) d):=
 h.cu.new h.o h.z h.l (uQ.setCell (S:=λq=>q=w.heap.size) (uQ.setCell (S:=λq=>q=w.heap.size) (uQ.setCell (S:=λq=>q=w.heap.size) (uQ.refl _ W) (p:=aA _ 0) rfl a) (p:=aA _ 1) rfl b) (p:=aA _ 2) rfl d) (λq e=>by omega) n
theorem Wb.ret(h:Wb v w W c m)(a b d:Int)(t:Array Value)(i:t[4]?=some (pP w.heap.size))(n:m<=k):bodyPost prog Tryz.f63 (λe w'=>∃y:Wd,e=.returned y.v/\Hid (Cu v w' c k/\uQ (λq=>q=c) w w')) .ret ⟨t,[]⟩ (((W.setCell (aA w.heap.size 0) (iv a)).setCell (aA w.heap.size 1) (iv b)).setCell (aA w.heap.size 2) (iv d)):=by
 obtain⟨_,_,_,j,f,g,l,o⟩:=h.b;exact bodyPost_ret (v:=Wd.v ⟨a,b,d⟩) (by simp[results,results63,go_sem,i,j,f,g]) rfl ⟨_,rfl,h.fin _ _ _ n⟩
theorem c1y(v w:World)(c m:Nat)(n:Int)(h:Cu v w c m)(z:m<=9999999)(A:0<=n)(B:n<=900000):
  Calls prog 63 #[pP c,iv n] w λe w'=>∃y:Wd,e=.returned y.v/\Hid (Cu v w' c (m+8)/\uQ (λq=>q=c) w w'):=by
 obtain⟨W,f⟩:=nM (w.alloc (.cells #[iv 0,iv 0,iv 0] 86));have H:=uU (show Wb v w W c m from ⟨by rw[f];exact h.ext (eAl w _),by rw[f];exact uQ.of_ext (eAl w _),h.2.1.1,h.1.size,iv 0,iv 0,iv 0,by rw[f];simp[go_sem],by rw[f];simp[go_sem],by rw[f];simp[go_sem],by rw[f];exact⟨by simp[go_sem],λj=>by simp[go_sem]⟩⟩);go_in;go_wp21;rw[<-f];obtain⟨a,b,d,k,l,p,i,s⟩:=H.b;go_wp2_with (first|(go_at_call 17;refine(a1u v _ c _ _ H.cu (by omega) (by omega) (by omega)).mono ?_;rintro e W ⟨r,g,x,u,q,o⟩;have g:=uH g;subst g;have H:=uU (H.go q o);obtain⟨a,b,d,k,l,p,i,s⟩:=H.b)|(go_at_call 59;refine(b7p v _ c _ H.cu (by omega)).mono ?_;rintro e W ⟨r,g,t,q,o⟩;have g:=uH g;subst g;have H:=uU (H.go q o);obtain⟨a,b,d,k,l,p,i,s⟩:=H.b));all_goals
  exact H.ret _ _ _ _ rfl (by omega)
theorem Sp.gr(h:Sp S B v w0 w c g m x)(b:Bx w g x ar kr ac kc ag kg)(W:World)(e:Ext w W):Grw W B (.slice ag x.D.length kg) x.D/\B<=W.heap.size:=by
 obtain⟨p,⟨_,_,_,_,_,_,_,_,_,_,_,a⟩,_⟩:=h.call;have d:=a.bx.2.2.2.2.2.2.2.2.1.symm.trans b.2.2.2.2.2.2.2.2.1;cases d;exact⟨(a.ext e).gr,by have:=a.lo;have:=a.nf.1;have:=e.size;omega⟩
theorem Sp.push{w5:World}{gb go cap:Nat}{y:Int}(h:Sp S B v w0 w c g m x)(b:Bx w g x ar kr ac kc ag kg)(e:Ext w W)(i:m<=j)(C:Grw w5 B (sO gb go (x.D.length+1) cap) (x.D++[y]))(D:W.grownBy w5 (Value.slice ag x.D.length kg).ownBlock)(O:(Value.slice ag x.D.length kg).ownBlock=some gb\/gb=W.heap.size):Hid (SpE S B v w0 c g j (w5.setCell (aA g 8) (sO gb go (x.D.length+1) cap)))/\w5.cell? (aA g 8)=some (.slice ag x.D.length kg)/\Nf1 g w5:=by
 obtain⟨p,⟨_,_,_,_,_,_,_,_,_,_,r,a⟩,_,f⟩:=h.call;have d:=a.bx.2.2.2.2.2.2.2.2.1.symm.trans b.2.2.2.2.2.2.2.2.1;cases d;have z:=h.s.bd;have a:=a.ext e;have k:=D.block g a.nf.1 (λe=>by have:=a.sp.y _ e.symm;have:=a.sp.g;omega);refine⟨f j _ _ i ⟨_,_,_,_,_,_,_,_,_,_,_,a.push D C O⟩ ⟨z.1,z.2.1,z.2.2.1,?_⟩ (uQ.setCell (S:=λq=>B<=q) ?_ (p:=aA g 8) a.lo _),(cOb g 8 k).trans a.bx.2.2.2.2.2.2.2.2.1,uY a.nf k D.size⟩;have:=h.s.bnd.2.2.2;simp;omega;exact(uQ.of_ext e).trans ⟨D.os,D.tape,D.output,D.size,λq l n=>D.block q l (λe=>n (a.gr.lt q e.symm).1)⟩
theorem Sp.word(h:Sp S B v w0 w c g m x)(b:Bx w g x ar kr ac kc ag kg)(e:Ext w W)(n:Int)(i:m<=9999999)(j:n<=900000)(k:0<=n):
  Calls prog 63 #[pP c,iv n] W λe w'=>∃y:Wd,e=.returned y.v/\SpO S B v w0 c g (m+8) x ar kr ac kc ag kg w':=
 (c1y v W c m n (h.cu.ext e) (by omega) k j).mono λ_ _ ⟨y,a,o⟩=>⟨y,a,h.go b ((uQ.of_ext e).trans o.2) o.1⟩
theorem Sp.reg(h:Sp S B v w0 w c g m x)(b:Bx w g x ar kr ac kc ag kg):∃br,ar=some (aA br 0)/\x.B.length=16/\(∀i,i<16->yL w br (i*3) (x.r i))/\(∀j,w.frozen? (aA br j)=false)/\br<w.heap.size/\∀W i y j,Ext w W->i<16->m<=j->SpE S B v w0 c g j (cQ W br (i*3) y):=by
 have n:=h.s.bnd;obtain⟨p,a,_,f⟩:=h.call;obtain⟨br,k,R⟩:=a.B n.1;have e:=R.c3.symm.trans b.2.2.2.1;have e:(sS br 16 k)=.slice ar x.B.length kr:=Option.some.inj e;injection e with e _ _;refine⟨br,e.symm,n.1,R.r,R.f,R.lo.2.1,λW i y j d l q=>f j _ _ q (R.set W i y d l) ?_ ((uQ.of_ext d).trans ((cE W br _ y).mono λq e=>e▸R.lo.1))⟩;have:=h.s.bd;exact⟨by simp[regTo];omega,this.2⟩
theorem GAt.newr[qd]{vg:Value}{br:Nat}{pb:Nat->Nat}{pa:Nat->Option Addr}{pk:Nat->Nat}{role:Nat->Nat}(h:GAt B w g x ar kr ac kc vg br bc pb pa pk role)(n:0<x.B.length)(L:List Wd)(c E:Nat)(z:w.heap.size<=w'.heap.size)(a:c=br\/w.heap.size<=c)(b:∀q,q<w.heap.size->q≠g->q≠c->w'.heap[q]?=w.heap[q]?)(i:Nf1 g w')(H:cY w' g {x with B:=L} (sS c L.length E) (.slice ac x.A.length kc) vg)(N:Nf1 c w')(k:B<=c)(r:∀i (u:i<L.length),yL w' c (i*3) L[i])(C:∀j,j<E*3->∃v,w'.cell? (aA c j)=some v):
  GAt B w' g {x with B:=L} (some (aA c 0)) E ac kc vg c bc pb pa pk (λd=>if d=c then 2 else role d):=by
 have Q:∀d,d<w.heap.size->role d≠2->d≠c:=λd m l e=>by
  obtain i|i:=a;exact l (by rw[e,i];exact h.sp.r n);omega
 have f:∀q,q<w.heap.size->role q≠0->role q≠2->w'.heap[q]?=w.heap[q]?:=λq m i j=>b q m (λe=>i (e▸h.sp.g)) (Q q m j)
 have R:∀d,d<w.heap.size->role d≠2->(if d=c then 2 else role d)=role d:=λd m l=>if_neg (Q d m l)
 have P:∀q,q<x.A.length->0<pk q->w'.heap[pb q]?=w.heap[pb q]?/\pb q≠c/\(if pb q=c then 2 else role (pb q))=6+q:=λq m l=>by have s:=h.sp.p q m l;have t:=(h.rw.pl q m l).2.1.1;exact⟨f _ t (by omega) (by omega),Q _ t (by omega),(R _ t (by omega)).trans s⟩
 have M:0<x.A.length->w'.heap[bc]?=w.heap[bc]?/\bc≠c/\(if bc=c then 2 else role bc)=3:=λm=>by have s:=h.sp.c m;have t:=(h.rw.nc m).1.1;exact⟨f _ t (by omega) (by omega),Q _ t (by omega),(R _ t (by omega)).trans s⟩
 refine⟨H,i,h.lo,λ_=>rfl,h.hc,⟨r,λq m=>(h.rw.s q m).of λ_ _=>cOb bc _ (M (by have:q<x.A.length:=m;omega)).1,λq m=>(cOb bc _ (M (by have:q<x.A.length:=m;omega)).1).trans (h.rw.p7 q m),λq m k l=>(h.rw.p q m k l).of λ_ _=>cOb (pb q) _ (P q m (h.rw.pw m (by have:k<(x.c q).F.length:=l;omega))).1,λq m l=>have⟨d,e,o,s⟩:=h.rw.pl q m l;⟨d,dV e (P q m l).1 z,⟨(P q m l).2.1,o.2⟩,s⟩,λ_=>⟨N,k⟩,λm=>⟨uY (h.rw.nc m).1 (M m).1 z,(h.rw.nc m).2⟩,λm e=>(M m).2.1 e.symm,h.rw.dp,h.rw.kp⟩,h.gr.block (λq m=>f q (h.gr.lt q m).2 (by rw[h.sp.y q m];omega) (by rw[h.sp.y q m];omega)),⟨(R g h.nf.1 (by rw[h.sp.g];omega)).trans h.sp.g,λ_=>if_pos rfl,λm=>(M m).2.2,λq m=>(R q (h.gr.lt q m).2 (by rw[h.sp.y q m];omega)).trans (h.sp.y q m),λq m l=>(P q m l).2.2⟩,h.kl,h.pr.of (λq m d=>f q m (by rw[d];omega) (by rw[d];omega)) (λq m d=>(R q m (by rw[d];omega)).trans d),λm=>(h.cc m).block (R bc (h.cc m).nf.1 (by rw[(h.cc m).ro];omega)) (f bc (h.cc m).nf.1 (by rw[(h.cc m).ro];omega) (by rw[(h.cc m).ro];omega)) z,λ_=>C⟩
theorem Sp.rapp{S:Nat->Prop}{B:Nat}{v w0 w W:World}{c g m j:Nat}{x:Hp}{ar:Option Addr}{kr:Nat}{ac:Option Addr}{kc:Nat}{ag:Option Addr}{kg:Nat}(h:Sp S B v w0 w c g m x)(b:Bx w g x ar kr ac kc ag kg)(e:Ext w W)(i:m<=j)(J:TypeId)(I:Addr)(d:Nat)(z:∀j u,[iv 0,iv 0,iv 0][j]?=some u->W.cell? (I.add j)=some u):
  ∃b' k' w',(Builtin.append_ #[23,23] J #[.slice ar x.B.length kr,.slice (some I) 1 d]).run prog W=.ok (sS b' (x.B.length+1) k') w'/\Hid (SpE S B v w0 c g j (w'.setCell (aA g 3) (sS b' (x.B.length+1) k')))/\(∃u,w'.cell? (aA g 3)=some u)/\Nf1 g w':=by
 obtain⟨p,⟨_,_,_,_,_,G,bc,pb,pa,pk,U,a⟩,_,f⟩:=h.call;have t:=a.bx.2.2.2.1.symm.trans b.2.2.2.1;cases t;have n:=h.s.bnd.1;have H:0<x.B.length:=by omega
 have a:=a.ext e;have R:=a.ha H;obtain⟨Q,O,zz,E,V⟩:=info_parts b1e;have Y:g≠G:=λe=>by have t:=a.sp.r H;have y:=a.sp.g;rw[e]at y;omega
 have K:∃b' k' w',(Builtin.append_ #[23,23] J #[.slice ar x.B.length kr,.slice (some I) 1 d]).run prog W=.ok (sS b' (x.B.length+1) k') w'/\(∀i (hi:i<(x.B++[Wd0]).length),yL w' b' (i*3) (x.B++[Wd0])[i])/\(∀j,j<k'*3->∃v,w'.cell? (aA b' j)=some v)/\Nf1 b' w'/\B<=b'/\g≠b'/\(b'=G\/W.heap.size<=b')/\uQ (λq=>q=b') W w':=by
  by_cases r:x.B.length+1<=kr;have A:=run_append_room_cells (P:=prog) W 23 J 86 Q underlying23 O G 0 x.B.length kr I 1 d [iv 0,iv 0,iv 0] (by rw[E];rfl) z (by simp;rfl) r (λj t=>by
   have t:j<3:=t;obtain⟨u,k⟩:=a.rc H (0+x.B.length*Q.size+j) (by rw[E];omega);rw[k];rfl) (λj _=>(a.rw.nr H).1.2 _)
  rw[E,kO]at A;refine⟨G,kr,_,by rw[R];exact A,λi l=>?_,λj l=>?_,(a.rw.nr H).1.put,(a.rw.nr H).2,Y,.inl rfl,a1f (S:=λq=>q=G) rfl (uQ.refl _ W)⟩;by_cases k:i<x.B.length
  ·rw[List.getElem_append_left k];exact(a.rw.r i k).of λj t=>a1z G _ _ _ W (by simp;omega)
  obtain rfl:i=x.B.length:=by simp at l;omega
  have q:=λj t=>a4s G [iv 0,iv 0,iv 0] (x.B.length*3) j W (λi y=>a.rc H _ (by simp at y;omega)) t
  rw[List.getElem_append_right (hT _)];simp only[Nat.sub_self,List.getElem_cons_zero];exact⟨q 0 (by simp),q 1 (by simp),q 2 (by simp)⟩;obtain⟨u,k⟩:=a.rc H j l;by_cases y:j<x.B.length*3\/x.B.length*3+3<=j;exact⟨u,(a1z G _ _ _ W (by simpa using y)).trans k⟩;have q:=a4s G [iv 0,iv 0,iv 0] (x.B.length*3) (j-x.B.length*3) W (λi y=>a.rc H _ (by simp at y;omega)) (by simp;omega);rw[show x.B.length*3+(j-x.B.length*3)=j by omega]at q;rw[q];exact⟨_,mV (by simp;omega)⟩;obtain⟨T,w',A,o,D⟩:=run_append_arg_grows (P:=prog) W 23 J 86 Q _ 3 24 underlying23 O zz E V rfl (by decide) (aA G 0) x.B.length kr (x.B.flatMap fW) (a3t fW 3 (λ_=>rfl) _) (b1g fW 3 (by omega) (λ_=>rfl) x.B G 0 (λi l j t=>by
   rw[kO];obtain⟨k,y,q⟩:=a.rw.r i l;match j,t with
   | 0,_=>exact k
   | 1,_=>exact y
   | 2,_=>exact q)) I 1 d [iv 0,iv 0,iv 0] rfl z (by omega) (by unfold maxLen;omega) (by omega)
  have y:w'.ownsRow W.heap.size 86 3 T (x.B++[Wd0]).length ((x.B++[Wd0]).flatMap fW):=by rw[kV,nL];exact o
  have q:=a6k (f:=fW) (λ_=>rfl) y;obtain⟨Z,o2,o3,o4,X⟩:=b8z o (by have:=b4e o;omega);have k:=a.lo;have t:=a.nf.1;refine⟨qZ T,kH T,w',by rw[R,A];exact congrArg (Result.ok · _) (by have:=(a0d o).1;rw[Z]at this;exact this),λi l=>⟨q i l 0 (by omega),q i l 1 (by omega),q i l 2 (by omega)⟩,o4,o3,by omega,λe=>by omega,.inr X,⟨D.os,D.tape,D.output,D.size,λk l _=>D.block k l (by simp)⟩⟩
 obtain⟨b',k',w',A,M,C,N,k,L,q,o⟩:=K;have F:=o.block g a.nf.1 L;refine⟨b',k',w',A,f j _ {x with B:=x.B++[Wd0]} i ⟨_,_,_,_,_,_,_,_,_,_,_,a.newr H (x.B++[Wd0]) b' k' (by have:=o.size;simp only[World.setCell,Array.size_modify];exact this) q (λq l y t=>(kP _ _ _ _ y).trans (o.block q l t)) ((uY a.nf F o.size).set _ _) ?_ (N.set _ _) k (λi l=>(M i l).of λj _=>uC _ (.inl L)) (λj l=>have⟨u,y⟩:=C j l;⟨u,(uC _ (.inl L)).trans y⟩)⟩ ?_ ?_,⟨_,(cOb g 3 F).trans a.bx.2.2.2.1⟩,uY a.nf F o.size⟩;have:=(a.bx.block F).set3 (sS b' (x.B.length+1) k');rw[show (x.B++[Wd0]).length=x.B.length+1 by simp];exact this;have z:=h.s.bd;exact⟨by simp;omega,z.2⟩;exact uQ.setCell (S:=λq=>B<=q) ((uQ.of_ext e).trans (o.mono λq e=>e▸k)) (p:=aA g 3) a.lo _
theorem Sp.lapp(h:Sp S B v w0 w c g m x)(b:Bx w g x ar kr ac kc ag kg)(e:Ext w W)(i:m<=j){ops:Array Oper}{rest:List Oper}{o:Oper}{a:Act}{Q:Exit->Act->World->Prop}(q:o.guard=none)(s y:Operand)(r:o.op=.call {callee:=.builtin .append,args:=#[s,y],argTypes:=#[23,23]})(d:Addr)(A:a.eval s=.slice ar x.B.length kr)(D:a.eval y=.slice (some d) 1 1)(z:∀j u,[iv 0,iv 0,iv 0][j]?=some u->W.cell? (d.add j)=some u)(F:∀b' k' w',Hid (SpE S B v w0 c g j (w'.setCell (aA g 3) (sS b' (x.B.length+1) k')))->(∃u,w'.cell? (aA g 3)=some u)->Nf1 g w'->wpList prog ops Q rest (a.put o.dst (sS b' (x.B.length+1) k')) w'):wpList prog ops Q (o::rest) a W:=by
 refine wpList_plain q λK k=>?_;obtain⟨b',k',w',l,n⟩:=h.rapp b e i o.type d 1 z;unfold Oper.wp execOp;simp only[r,resolve,invoke,builtin,Sem.run_bind,Sem.run_pure,Result.andThen_ok,List.map_toArray,List.map_cons,List.map_nil,A,D,l];exact k _ _ (F _ _ _ n.1 n.2.1 n.2.2)
theorem Sp.stepC(h:Sp S B v w0 w c g m x)(b:Bx w g x ar kr ac kc ag kg)(e:Ext w W)(i:m<=j){ops:Array Oper}{o:Oper}{a:Act}{K:Act->World->Prop}{Q:Exit->Act->World->Prop}{E:Prop}(q:o.guard=none)(s y:Operand)(r:o.op=.call {callee:=.builtin .append,args:=#[s,y],argTypes:=#[24,24]})(d:Cl)(H:d.F=[])(l:Nat)(I:a6i w W l 0)(C:Addr)(A:a.eval s=.slice ac x.A.length kc)(D:a.eval y=.slice (some C) 1 1)(z:∀j u,(fC (d,.slice none 0 0))[j]?=some u->W.cell? (C.add j)=some u)(F:∀b' k' w',Hid (SpE S B v w0 c g j (w'.setCell (aA g 4) (sS b' (x.A.length+1) k')))->(∃u,w'.cell? (aA g 4)=some u)->Nf1 g w'->K (a.put o.dst (sS b' (x.A.length+1) k')) w'):if Region.wanted o (yielded ops a.tmps)=true then Oper.wp prog o a W K Q else E:=by
 obtain⟨p,⟨_,_,_,_,_,_,_,_,_,_,_,G⟩,_,f⟩:=h.call;have t:=G.bx.2.2.2.2.1.symm.trans b.2.2.2.2.1;cases t;have n:=h.s.bnd;refine b7x W q s y r G (by omega) n.2.1 d 0 (by simpa using H) l none (λz=>absurd z (by omega)) e I C 1 A D z (kN w B) (kN.le w B) (kN.ext w B) (λb' k' w' k=>F b' k' w' (f j _ _ i (k.gk w' (hO _)) ?_ (uQ.setCell (S:=λq=>B<=q) ?_ (p:=aA g 4) G.lo _)) ⟨_,(cOb g 4 k.far).trans G.bx.2.2.2.2.1⟩ (uY G.nf k.far k.sz));have L:(tW x x.A.length d).length=x.A.length+1:=by rw[a3p,if_neg (by omega)]
 refine⟨by show x.B.length<=_;omega,by show(tW x x.A.length d).length<=_;omega,λq l=>?_,by show x.D.length<=_;omega⟩;rw[d2p x _ d (hT _)];split;rw[H];simp;exact n.2.2.1 q (by have l:q<(tW x x.A.length d).length:=l;omega);have u:=k.ex;exact⟨u.os,u.tape,u.output,k.sz,λq l n=>have t:q<(kN w B).heap.size:=by simp[kN];omega
  (u.block q t).trans ((kN.ext w B).block q t).symm⟩
theorem Sp.stepN{a1 a2:Int}{t:TypeId}(h:Sp S B v w0 w c g m x)(b:Bx w g x ar kr ac kc ag kg)(e:W=w.alloc (.cells #[iv a1,iv 0,iv 0,iv 0,iv 0,iv 0,iv a2,.slice none 0 0] t))(i:m<=j){ops:Array Oper}{o:Oper}{a:Act}{K:Act->World->Prop}{Q:Exit->Act->World->Prop}{E:Prop}(q:o.guard=none)(s y:Operand)(r:o.op=.call {callee:=.builtin .append,args:=#[s,y],argTypes:=#[24,24]})(A:a.eval s=.slice ac x.A.length kc)(D:a.eval y=.slice (some (aA w.heap.size 0)) 1 1)(F:∀b' k' w',Hid (SpE S B v w0 c g j (w'.setCell (aA g 4) (sS b' (x.A.length+1) k')))->(∃u,w'.cell? (aA g 4)=some u)->Nf1 g w'->K (a.put o.dst (sS b' (x.A.length+1) k')) w'):if Region.wanted o (yielded ops a.tmps)=true then Oper.wp prog o a W K Q else E:=by
 subst e;have n:=heap_alloc_new w (.cells #[iv a1,iv 0,iv 0,iv 0,iv 0,iv 0,iv a2,.slice none 0 0] t);exact h.stepC b (eAl _ _) i q s y r ⟨a1,0,0,0,0,0,a2,[]⟩ rfl w.heap.size ⟨hT _,⟨by simp,λ_=>by simp[go_sem],λj l=>by omega⟩,λk l=>by omega⟩ (aA w.heap.size 0) A D (λj u k=>by rw[show(aA w.heap.size 0).add j=aA w.heap.size j by unfold Addr.add;split <;> simp_all,cell_of_row _ w.heap.size j _ _ (0,0) n];simpa[fC]using k) F
theorem Sp.base(h:Sp S B v w0 w c g m x):Sp S B v w w c g m x:=
 ⟨h.sc,h.vB,h.cu,h.gg,h.s,λ_ _ _=>rfl,λ_ i=>h.gg.lt i,hT _⟩
theorem Sp.end_(h:Sp S B v w0 w c g m x)(i:m<=j):SpE S B v w0 c g j w:=⟨h.cu.more i,h.o,x,h.gg,h.s.bd⟩
theorem Sp.inn(h:Sp S B v w0 w c g m x):∃p:Inhabited uL,(∀q,S q->∃o,(@default uL p).z q=some o)/\@GOk p B w g x/\∀W y,@GOk p B W g y->GG S B W g y/\∀q,S q->W.heap[q]?=w.heap[q]?:=by
 obtain⟨z,a,k⟩:=h.gg;exact⟨⟨⟨z⟩⟩,a,k,λW y b=>⟨⟨z,a,b⟩,λq d=>by obtain⟨o,c⟩:=a q d;rw[b.prt c,k.prt c]⟩⟩
theorem Sp.own(h:Sp S B v w0 w c g m x)(f:∀q,S q->W.heap[q]?=w.heap[q]?)(o:uQ (λq=>B<=q) w W)(i:m<=j):Cu v W c j/\∀q,S q->q≠c->W.heap[q]?=w0.heap[q]?:=
 ⟨(h.cu.blk (h.cu.1.pst o (λ_ i=>kA h.vB i)) (f c h.sc)).more i,λq i j=>(f q i).trans (h.o q i j)⟩
theorem c7v(s:Bns x)(i:Nat)(l:i<x.A.length)(d:Cl)(e:d.F.length<=200):Bns {x with A:=x.A.set i d}:=by
 refine⟨s.1,by simp;exact s.2.1,λq k=>?_,s.2.2.2⟩;have k:q<x.A.length:=by simpa using k
 rw[Hp.c_set x i d l];split;exact e;exact s.2.2.1 q k
theorem Sp.cel(h:Sp S B v w0 w c g m x)(b:Bx w g x ar kr ac kc ag kg)(i:Nat)(l:i<x.A.length):∃bc pa kp,ac=some (aA bc 0)/\S7 w bc (i*8) (x.c i)/\w.cell? (aA bc (i*8+7))=some (.slice pa (x.c i).F.length kp)/\Nf1 bc w/\∀q,S q->q≠bc:=by
 obtain⟨p,z,⟨_,_,_,_,_,r,bc,k,pa,j,d,a⟩,_⟩:=h.inn;have t:=a.bx.2.2.2.2.1.symm.trans b.2.2.2.2.1;cases t;have n:0<x.A.length:=by omega
 exact⟨bc,pa i,j i,a.hc n,a.rw.s i l,a.rw.p7 i l,(a.rw.nc n).1,λq e f=>by obtain⟨o,e⟩:=z q e;have:=(a.pr q o e).1;have:=a.sp.c n;rw[f]at *;omega⟩
theorem Sp.fin{u:Value}(h:Sp S B v w0 w c g m x)(E:w.cell? (aA g 4)=some (.slice (some (aA bc 0)) x.A.length kc))(l:i<x.A.length)(e:Ext w W)(b:w.cell? (aA bc (i*8+7))=some u)(t:d.F=(x.c i).F)(k:m<=j):SpE S B v w0 c g j (eZ W bc (i*8) d u):=by
 obtain⟨p,z,⟨_,_,_,_,_,H,J,I,M,L,A,a⟩,f⟩:=h.inn;have n:0<x.A.length:=by omega
 have r:=a.bx.2.2.2.2.1.symm.trans E;rw[a.hc n]at r;cases r;have y:=a.ext e;have b:=e.keep b;have o:=a0a W bc (i*8) d u;obtain⟨s,D⟩:=a4b W bc (i*8) d (x.c i) u u (y.rw.s i l) b;obtain⟨F,G⟩:=f (eZ W bc (i*8) d u) _ ⟨_,_,_,_,_,_,_,_,_,_,_,y.setc l t o s (λk r=>by
  by_cases C:k=i*8+7;rw[C,D,b];exact a1n W bc _ d u k (by omega)) (a3e (y.rw.nc n).1 _ _ _)⟩
 have O:uQ (λq=>B<=q) w (eZ W bc (i*8) d u):=(uQ.of_ext e).trans (o.mono λq e=>e▸(a.rw.nc n).2);have K:=h.own G O k;exact⟨K.1,K.2,_,F,(c7v h.s i l d (by rw[t];exact h.s.2.2.1 i l)).bd⟩
theorem Sp.prw(h:Sp S B v w0 w c g m x)(H:w.cell? (aA g 4)=some (.slice (some (aA bc 0)) x.A.length kc))(l:i<x.A.length)(E:w.cell? (aA bc (i*8+7))=some (.slice pa (x.c i).F.length kp))(n:k<(x.c i).F.length):∃bp,pa=some (aA bp 0)/\qC w bp (k*6) ((x.c i).p k)/\Nf1 bp w/\bp≠bc/\bp≠g/\(∀q,S q->q≠bp)/\∀W y u,Ext w W->(u=cQ W bp (k*6) y\/u=cQ W bp (k*6+3) y)->uQ (λq=>q=bp) w u/\∃z:Pr,Sp S B v u u c g m {x with A:=x.A.set i {x.c i with F:=(x.c i).F.set k z}}:=by
 obtain⟨p,z,⟨_,_,_,_,_,I,J,b,Q,M,A,a⟩,f⟩:=h.inn;have C:0<x.A.length:=by omega
 have r:=a.bx.2.2.2.2.1.symm.trans H;rw[a.hc C]at r;cases r;have r:=(a.rw.p7 i l).symm.trans E;cases r;have kp:=a.rw.pw l (by omega);have L:=a.rw.pl i l kp;have P:=a.rw.p i l k n;have N:Nf1 (b i) w:=⟨L.2.1.1,L.2.1.nf⟩;refine⟨b i,L.1,P,N,L.2.2.1.2,λe=>by have:=a.sp.p i l kp;have:=a.sp.g;rw[e]at *;omega,λq e f=>by obtain⟨o,e⟩:=z q e;have:=(a.pr q o e).1;have:=a.sp.p i l kp;rw[f]at *;omega,λW y u e t=>?_⟩;obtain⟨o,z,D,X⟩:∃_:uQ (λq=>q=b i) W u,∃z,∃_:qC u (b i) (k*6) z,(∀j,(j<k*6\/k*6+6<=j)->u.cell? (aA (b i) j)=W.cell? (aA (b i) j))/\Nf1 (b i) u:=by
  obtain rfl|rfl:=t;exact⟨cE _ _ _ _,_,b8k W (b i) (k*6) _ y (P.ext e),λj d=>cV _ _ _ _ _ (by omega),a2k (N.ext e) _ _⟩;exact⟨cE _ _ _ _,_,b8m W (b i) (k*6) _ y (P.ext e),λj d=>cV _ _ _ _ _ (by omega),a2k (N.ext e) _ _⟩
 have O:uQ (λq=>q=b i) w u:=(uQ.of_ext e).trans o;obtain⟨F,G⟩:=f u _ ⟨_,_,_,_,_,_,_,_,_,_,_,(a.ext e).setp i l k n z o X.2 D X.1⟩;have K:=h.own G (O.mono λq e=>e▸L.2.2.2) (hT m);exact⟨O,z,h.sc,h.vB,K.1,F,c7v h.s i l _ (by simp;exact h.s.2.2.1 i l),λ_ _ _=>rfl,λ_ i=>F.lt i,hT _⟩
def Cl.fld(d:Cl)(k:Nat)(u:Int):Cl:=match k with
 | 0=>{d with st:=u}
 | 1=>{d with kind:=u}
 | 2=>{d with T:=u}
 | 3=>{d with U:=u}
 | 4=>{d with born:=u}
 | 5=>{d with J:=u}
 | _=>⟨d.st,d.kind,d.T,d.U,d.born,d.J,u,d.F⟩
theorem Cl.fld_prs(d:Cl)(k:Nat)(u:Int):(d.fld k u).F=d.F:=by unfold Cl.fld;split <;> rfl
theorem S7_fld{w:World}{b:Nat}{d:Cl}(h:S7 w b 0 d)(n:Nf1 b w)(k:Nat)(u:Int)(l:k<7):S7 (w.setCell (aA b k) (iv u)) b 0 (d.fld k u):=by
 have c:∀y,w.cell? (aA b k)=some y->(w.setCell (aA b k) (iv u)).cell? (aA b k)=some (iv u):=λy e=>tJ.same ⟨⟨_,e⟩,n.2 k⟩ _
 have a:∀j y,j≠k->w.cell? (aA b j)=some y->(w.setCell (aA b k) (iv u)).cell? (aA b j)=some y:=λj y n e=>(uC _ (.inr (by omega))).trans e
 obtain⟨p,m,f,q,g,o,i⟩:=h;match k,l with
 | 0,_=>exact⟨c _ p,a 1 _ (by omega) m,a 2 _ (by omega) f,a 3 _ (by omega) q,a 4 _ (by omega) g,a 5 _ (by omega) o,a 6 _ (by omega) i⟩
 | 1,_=>exact⟨a 0 _ (by omega) p,c _ m,a 2 _ (by omega) f,a 3 _ (by omega) q,a 4 _ (by omega) g,a 5 _ (by omega) o,a 6 _ (by omega) i⟩
 | 2,_=>exact⟨a 0 _ (by omega) p,a 1 _ (by omega) m,c _ f,a 3 _ (by omega) q,a 4 _ (by omega) g,a 5 _ (by omega) o,a 6 _ (by omega) i⟩
 | 3,_=>exact⟨a 0 _ (by omega) p,a 1 _ (by omega) m,a 2 _ (by omega) f,c _ q,a 4 _ (by omega) g,a 5 _ (by omega) o,a 6 _ (by omega) i⟩
 | 4,_=>exact⟨a 0 _ (by omega) p,a 1 _ (by omega) m,a 2 _ (by omega) f,a 3 _ (by omega) q,c _ g,a 5 _ (by omega) o,a 6 _ (by omega) i⟩
 | 5,_=>exact⟨a 0 _ (by omega) p,a 1 _ (by omega) m,a 2 _ (by omega) f,a 3 _ (by omega) q,a 4 _ (by omega) g,c _ o,a 6 _ (by omega) i⟩
 | 6,_=>exact⟨a 0 _ (by omega) p,a 1 _ (by omega) m,a 2 _ (by omega) f,a 3 _ (by omega) q,a 4 _ (by omega) g,a 5 _ (by omega) o,c _ i⟩
structure Sc(S:Nat->Prop)(B:Nat)(v w0 w:World)(c g m:Nat)(x:Hp)(i b bc kc:Nat)(d:Cl)(pa:Option Addr)(kp:Nat):Prop where
 sp:Sp (λq=>S q\/q=b) B v w w c g m x
 o:∀q,S q->q≠c->w.heap[q]?=w0.heap[q]?
 l:∀q,S q->q<w0.heap.size
 hi:i<x.A.length
 bw:w0.heap.size<=b
 vb:v.heap.size<=b
 hb:b≠c
 s7:S7 w b 0 d
 p7:w.cell? (aA b 7)=some (.slice pa (x.c i).F.length kp)
 nf:Nf1 b w
 c4:w.cell? (aA g 4)=some (.slice (some (aA bc 0)) x.A.length kc)
 q7:w.cell? (aA bc (i*8+7))=some (.slice pa (x.c i).F.length kp)
 nc:Nf1 bc w
 sc:S7 w bc (i*8) (x.c i)
 nb:∀q,(S q\/q=b)->q≠bc
 hd:d.F=(x.c i).F
theorem Sc.gc(h:Sc S B v w0 w c g m x i b bc kc d pa kp):g≠c/\b≠g/\bc≠c/\b≠bc/\S c:=by
 obtain⟨_,_,n,_⟩:=h.sp.call;obtain⟨p,z,⟨_,_,_,_,_,_,_,_,_,_,r,a⟩,_⟩:=h.sp.inn;refine⟨n,λe=>?_,λe=>h.nb c h.sp.sc e.symm,λe=>h.nb b (.inr rfl) e,h.sp.sc.resolve_right λe=>h.hb e.symm⟩;obtain⟨o,k⟩:=z b (.inr rfl);have:=(a.pr b o k).1;have:=a.sp.g;rw[e]at *;omega
theorem Sc.read(h:Sc S B v w0 w c g m x i b bc kc d pa kp)(o:uQ (λq=>q=c) w w')(u:Cu v w' c k):Sc S B v w0 w' c g k x i b bc kc d pa kp:=by
 obtain⟨n,p,f,s,r⟩:=h.gc;have e:=o.block b h.nf.1 h.hb;have a:=o.block bc h.nc.1 f;exact⟨(h.sp.read o u).base,λq i j=>(o.block q (h.sp.gg.lt (.inl i)) j).trans (h.o q i j),h.l,h.hi,h.bw,h.vb,h.hb,h.s7.of λj _=>cOb b _ e,(cOb b _ e).trans h.p7,uY h.nf e o.size,o.keep n h.c4,(cOb bc _ a).trans h.q7,uY h.nc a o.size,h.sc.of λj _=>cOb bc _ a,h.nb,h.hd⟩
theorem Sc.more(h:Sc S B v w0 w c g m x i b bc kc d pa kp)(j:m<=k):Sc S B v w0 w c g k x i b bc kc d pa kp:=h.read (uQ.refl _ _) (h.sp.cu.more j)
theorem Sc.put(h:Sc S B v w0 w c g m x i b bc kc d pa kp)(k:Nat)(l:k<7)(u:Int):Sc S B v w0 (w.setCell (aA b k) (iv u)) c g m x i b bc kc (d.fld k u) pa kp:=by
 obtain⟨D,r,A,y,C⟩:=h.gc;have o:uQ (λq=>q=b) w (w.setCell (aA b k) (iv u)):=uQ.setCell (S:=λq=>q=b) (uQ.refl _ w) (p:=aA b k) rfl _;have t:g<w.heap.size:=cLt h.c4;have n:=o.block c h.sp.cu.2.1.1 λe=>h.hb e.symm;have z:=o.block g t λe=>r e.symm;have a:=o.block bc h.nc.1 λe=>y e.symm;have f:=h.sp.gg.poke o λq e=>.inr e
 exact⟨⟨h.sp.sc,h.sp.vB,h.sp.cu.blk (h.sp.cu.1.pst o λq e=>e▸h.vb) n,f,h.sp.s,λ_ _ _=>rfl,λ_ i=>f.lt i,hT _⟩,λq i j=>(o.block q (h.sp.gg.lt (.inl i)) λe=>by have:=h.l q i;have:=h.bw;omega).trans (h.o q i j),h.l,h.hi,h.bw,h.vb,h.hb,S7_fld h.s7 h.nf k u l,(uC _ (.inr (by omega))).trans h.p7,h.nf.set _ _,(cOb g 4 z).trans h.c4,(cOb bc _ a).trans h.q7,uY h.nc a o.size,h.sc.of λj _=>cOb bc _ a,h.nb,(d.fld_prs k u).trans h.hd⟩
theorem SpE.more(h:SpE S B v w0 c g m w)(i:m<=k):SpE S B v w0 c g k w:=⟨h.1.more i,h.2⟩
theorem SpE.drew(h:SpE S B v w0 c g m w):SpE S B v w0 c g m w.drew:=have⟨a,b,x,d,e⟩:=h;⟨a.drew,b,x,d.more (eDr _) λ_ i=>.inl i,e⟩
theorem Sc.fin(h:Sc S B v w0 w c g m x i b bc kc d pa kp)(k:m<=j):SpE S B v w0 c g j (eZ w bc (i*8) d (.slice pa (x.c i).F.length kp)).drew:=by
 obtain⟨a,f,y,z,n⟩:=h.sp.fin h.c4 h.hi (hO _) h.q7 h.hd k;exact SpE.drew ⟨a,λq i j=>(f q (.inl i) j).trans (h.o q i j),y,z.more (hO _) λq i=>.inl (.inl i),n⟩
theorem Sc.prw(h:Sc S B v w0 w c g m x i b bc kc d pa kp)(n:k<(x.c i).F.length):∃bp,pa=some (aA bp 0)/\qC w bp (k*6) ((x.c i).p k)/\Nf1 bp w/\∀W y u,Ext w W->(u=cQ W bp (k*6) y\/u=cQ W bp (k*6+3) y)->∃x' d',x'.A.length=x.A.length/\(x'.c i).F.length=(x.c i).F.length/\Hid (Sc S B v w0 u c g m x' i b bc kc d' pa kp):=by
 obtain⟨bp,e,f,I,G,D,A,F⟩:=h.sp.prw h.c4 h.hi h.q7 n;refine⟨bp,e,f,I,λW y u X t=>?_⟩;obtain⟨o,z,s⟩:=F W y u X t;have C:=Hp.c_set x i {x.c i with F:=(x.c i).F.set k z} h.hi i;rw[if_pos rfl]at C;have L:({x with A:=x.A.set i {x.c i with F:=(x.c i).F.set k z}}:Hp).A.length=x.A.length:=by simp
 have M:(({x with A:=x.A.set i {x.c i with F:=(x.c i).F.set k z}}:Hp).c i).F.length=(x.c i).F.length:=by rw[C];simp
 have E:g<w.heap.size:=cLt h.c4;have r:=o.block b h.nf.1 (A b (.inr rfl));have H:=o.block g E (λe=>D e.symm);have a:=o.block bc h.nc.1 (λe=>G e.symm);refine⟨_,{d with F:=(x.c i).F.set k z},L,M,s,λq i j=>(o.block q (h.sp.gg.lt (.inl i)) (A q (.inl i))).trans (h.o q i j),h.l,by rw[L];exact h.hi,h.bw,h.vb,h.hb,h.s7.of λj _=>cOb b _ r,by rw[M];exact(cOb b _ r).trans h.p7,uY h.nf r o.size,by rw[L];exact(cOb g 4 H).trans h.c4,by rw[M];exact(cOb bc _ a).trans h.q7,uY h.nc a o.size,?_,h.nb,by rw[C]⟩;rw[C];exact h.sc.of λj _=>cOb bc _ a
theorem Sc.pick(h:Sc S B v w0 w c g m x i b bc kc d pa kp)(e:Ext w W)(n:Int)(a:m<=9999999)(j:n<=1000000)(k:1<=n):
  Calls prog 17 #[pP c,iv n] W λe w'=>∃r:Int,e=.returned (iv r)/\0<=r/\r<n/\Hid (Sc S B v w0 w' c g (m+2) x i b bc kc d pa kp):=
 (a1u v W c m n (h.sp.cu.ext e) (by omega) j k).mono λ_ _ ⟨r,a,l,f,q,o⟩=>⟨r,a,l,f,h.read ((uQ.of_ext e).trans o) q⟩
theorem Sc.odd(h:Sc S B v w0 w c g m x i b bc kc d pa kp)(a:m<=9999999):
  Calls prog 62 #[pP c] w λe w'=>∃r:Int,e=.returned (iv r)/\Hid (Sc S B v w0 w' c g (m+4) x i b bc kc d pa kp):=
 (b9k v w c m h.sp.cu (by omega)).mono λ_ _ ⟨r,a,_,q,o⟩=>⟨r,a,h.read o q⟩
theorem Sc.word(h:Sc S B v w0 w c g m x i b bc kc d pa kp)(e:Ext w W)(n:Int)(a:m<=9999999)(j:n<=900000)(k:0<=n):
  Calls prog 63 #[pP c,iv n] W λe w'=>∃y:Wd,e=.returned y.v/\Hid (Sc S B v w0 w' c g (m+8) x i b bc kc d pa kp):=
 (c1y v W c m n (h.sp.cu.ext e) (by omega) k j).mono λ_ _ ⟨y,a,o⟩=>⟨y,a,h.read ((uQ.of_ext e).trans o.2) o.1⟩
theorem Sp.sc_(h:Sp S B v w0 w c g m x)(b:Bx w g x ar kr ac kc ag kg)(i:Nat)(l:i<x.A.length):∃bc pa kp,ac=some (aA bc 0)/\S7 w bc (i*8) (x.c i)/\w.cell? (aA bc (i*8+7))=some (.slice pa (x.c i).F.length kp)/\Nf1 bc w/\Hid (Sc S B v w0 (w.alloc (.cells (fC (x.c i,.slice pa (x.c i).F.length kp)).toArray 70)) c g m x i w.heap.size bc kc (x.c i) pa kp):=by
 obtain⟨bc,pa,kp,rfl,s,p,n,f⟩:=h.cel b i l;refine⟨bc,pa,kp,rfl,s,p,n,?_⟩;have e:=eAl w (.cells (fC (x.c i,.slice pa (x.c i).F.length kp)).toArray 70);have G:GG (λq=>S q\/q=w.heap.size) B _ g x:=h.gg.more e λq i=>i.imp_right λe=>by simp[e]
 have C:∀j u,(fC (x.c i,.slice pa (x.c i).F.length kp))[j]?=some u->(w.alloc (.cells (fC (x.c i,.slice pa (x.c i).F.length kp)).toArray 70)).cell? (aA w.heap.size j)=some u:=λj u q=>by rw[cell_of_row _ w.heap.size j _ _ (0,0) (heap_alloc_new w _)];simpa using q
 exact⟨⟨.inl h.sc,h.vB,h.cu.ext e,G,h.s,λ_ _ _=>rfl,λ_ i=>G.lt i,hT _⟩,λq i j=>(e.block q (h.gg.lt i)).trans (h.o q i j),h.l,l,h.z,h.cu.1.size,λe=>by have:=h.gg.lt h.sc;omega,⟨C 0 _ rfl,C 1 _ rfl,C 2 _ rfl,C 3 _ rfl,C 4 _ rfl,C 5 _ rfl,C 6 _ rfl⟩,C 7 _ rfl,⟨by simp,λj=>by simp[go_sem]⟩,e.keep b.2.2.2.2.1,e.keep p,n.ext e,s.of λj _=>(cX e).1 bc _ n.1,λq k e=>k.elim (λk=>f q k e) (λk=>by have:=n.1;omega),rfl⟩
theorem Sc.bx(h:Sc S B v w0 w c g m x i b bc kc d pa kp):(w.cell? (aA b 0)=some (iv d.st)/\w.cell? (aA b 1)=some (iv d.kind)/\w.cell? (aA b 2)=some (iv d.T)/\w.cell? (aA b 3)=some (iv d.U)/\w.cell? (aA b 4)=some (iv d.born)/\w.cell? (aA b 5)=some (iv d.J)/\w.cell? (aA b 6)=some (iv d.to)/\w.cell? (aA b 7)=some (.slice pa (x.c i).F.length kp))/\Nf1 b w:=
 have⟨a,b,c,d,e,f,g⟩:=h.s7;⟨⟨a,b,c,d,e,f,g,h.p7⟩,h.nf⟩
end Go.Proofs.YtolmnenlnpbcfaaGreatDoor
