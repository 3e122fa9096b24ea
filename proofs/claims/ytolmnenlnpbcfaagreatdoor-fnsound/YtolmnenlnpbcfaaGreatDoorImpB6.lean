import Derived.Test.YtolmnenlnpbcfaaGreatDoorHh
import Derived.Test.YtolmnenlnpbcfaaGreatDoorDd
import Derived.Test.YtolmnenlnpbcfaaGreatDoorAh
set_option maxRecDepth 100000
set_option maxHeartbeats 40000000
namespace Go.Proofs.YtolmnenlnpbcfaaGreatDoor
open Go.RowKit Tryz
attribute [local go_sem ↓] Go.wp_at_zero Go.wp_at_succ
variable{ar ac:Option Addr}{kr kc B g br bc:Nat}{x:Hp}{w w':World}{vg:Value}{pb pk role:Nat->Nat}{pa:Nat->Option Addr}
theorem b5a(x:Hp)(k:Nat)(a:k<x.A.length)(d:∀q,q<k->(x.c q).st≠0)(b:(x.c k).st=0):uE x=k:=by grind[Hp.c,uE,a0i]
theorem c5e(x:Hp)(a:∀q,q<x.A.length->(x.c q).st≠0):uE x=x.A.length:=by grind[Hp.c,uE,a0i]
theorem b5b[qd](h:GAt B w g x ar kr ac kc vg br bc pb pa pk role)(F:x.A.length<=8000):
  Calls prog 150 #[pP g] w λe w'=>e=.returned (iv (uE x))/\Ext w w':=by
 have m:=h.bx.2.2.2.2.1;go_in;go_wp21;go_loopw [10] (λi wr=>∃k:Nat,k<=x.A.length/\i=iv k/\Hid (∀q,q<k->(x.c q).st≠0)/\Ext w wr) (λi _=>x.A.length-(intOf i).toNat)
 case atStart=>exact⟨0,kB _,rfl,(λq j=>by omega),hO _⟩
 case round=>
  obtain⟨k,o,rfl,f,a⟩:=hrel;by_cases b:k<x.A.length
  ·have n:0<x.A.length:=by omega
   have l:=h.ext a;have⟨D,p,r,y,A,t,v⟩:=l.rw.s k b;have C:=l.rw.p7 k b;obtain rfl:ac=some (aA bc 0):=h.hc n;have z:=i0N k;have u:(k:Int)<(x.A.length:Int):=by omega
   cases q:((x.c k).st == 0)
   ·have Q:∀q,q<k+1->(x.c q).st≠0:=λq j=>by
     by_cases e:q=k;rw[e];simpa using ‹((x.c k).st == 0)=false›;exact f q (by omega)
    go_wp2;go_roundw
    case rel=>exact⟨k+1,by omega,by go_num,Q,a.alloc _⟩
    simp[intOf];omega
   have Q:=b5a x k b f (by simpa using q);go_wp2;go_ret;exact⟨by rw[uH Q];rfl,a.alloc _⟩
  have d:k=x.A.length:=by omega
  subst d;have E:=a.keep m;go_wp2;go_ret;exact⟨by rw[(show uE x=x.A.length from c5e x (λq j=>uH f q (by omega)))];rfl,a⟩
theorem GAt.drop[qd](h:GAt B w g x ar kr ac kc vg br bc pb pa pk role)(i:Nat)(C:i+1=x.A.length):
  GOk B (w.setCell (aA g 4) (.slice ac i kc)) g { x with A:=x.A.take i }:=by
 have j:∀q,q<w.heap.size->role q≠0->(w.setCell (aA g 4) (.slice ac i kc)).heap[q]?=w.heap[q]?:=λq a n=>kP _ _ _ _ (λe=>n (e▸h.sp.g))
 have b:=h.rw.same (w':=w.setCell (aA g 4) (.slice ac i kc)) (by simp[World.setCell]) (λf=>j br (h.rw.nr f).1.1 (by rw[h.sp.r f];omega)) (λf=>j bc (h.rw.nc f).1.1 (by rw[h.sp.c f];omega)) (λq a f=>j (pb q) (h.rw.pl q a f).2.1.1 (by rw[h.sp.p q a f];omega));have f:({ x with A:=x.A.take i }:Hp).A.length=i:=by simp;omega
 have n:0<x.A.length:=by omega
 have o:∀q,q<i->({ x with A:=x.A.take i }:Hp).c q=x.c q:=λq a=>by grind[Hp.c,GOk]
 refine⟨ar,kr,ac,kc,vg,br,bc,pb,pa,pk,role,?_,h.nf.set _ _,h.lo,h.ha,λ_=>h.hc n,⟨b.r,λq a=>?_,λq a=>?_,λq a k m=>?_,λq a l=>?_,b.nr,λ_=>b.nc n,λ_=>b.d n,λq A a t u v z=>?_,λq a=>?_⟩,h.gr.block (λq a=>j q (h.gr.lt q a).2 (by rw[h.sp.y q a];omega)),⟨h.sp.g,h.sp.r,λ_=>h.sp.c n,h.sp.y,λq a l=>?_⟩,by rw[f];have:=h.kl;omega,h.pr.of (λq a v=>j q a (by rw[v];omega)) (λ_ _ h=>h),λm=>(h.cc m).block rfl (j bc (h.cc m).nf.1 (by rw[(h.cc m).ro];omega)) (by simp[World.setCell]),λl=>h.rob l (j br (h.rw.nr l).1.1 (by rw[h.sp.r l];omega))⟩;rw[f];exact h.bx.set4 _;rw[f]at a;rw[o q a];exact b.s q (by omega);rw[f]at a;rw[o q a];exact b.p7 q (by omega);rw[f]at a;rw[o q a]at m ⊢;exact b.p q (by omega) k m;rw[f]at a;exact b.pl q (by omega) l;rw[f]at a t;exact b.dp q A (by omega) (by omega) u v z;rw[f]at a;rw[o q a];exact b.kp q (by omega);rw[f]at a;exact h.sp.p q (by omega) l
theorem GAt.setr[qd](h:GAt B w g x ar kr ac kc vg br bc pb pa pk role)(j:Nat)(O:j<x.B.length)(y:Wd)(o:uQ (λq=>q=br) w w')(L:Nf1 br w')(N:yL w' br (j*3) y)(M:∀m,(m<j*3\/j*3+3<=m)->w'.cell? (aA br m)=w.cell? (aA br m)):
  GAt B w' g { x with B:=x.B.set j y } ar kr ac kc vg br bc pb pa pk role:=by
 have v:0<x.B.length:=by omega
 have f:∀q,q<w.heap.size->role q≠2->w'.heap[q]?=w.heap[q]?:=λq b i=>o.block q b (λe=>i (e▸h.sp.r v))
 have E:=f g h.nf.1 (by rw[h.sp.g];omega);have t:({ x with B:=x.B.set j y }:Hp).B.length=x.B.length:=by simp
 have F:∀q,q<x.A.length->0<pk q->w'.heap[pb q]?=w.heap[pb q]?:=λq b t=>f (pb q) (h.rw.pl q b t).2.1.1 (by rw[h.sp.p q b t];omega)
 have z:0<x.A.length->w'.heap[bc]?=w.heap[bc]?:=λi=>f bc (h.rw.nc i).1.1 (by rw[h.sp.c i];omega)
 refine⟨?_,uY h.nf E o.size,h.lo,λ_=>h.ha v,h.hc,⟨λm D=>?_,λq b=>?_,λq b=>?_,λq b k n=>?_,λq b u=>?_,λ_=>⟨L,(h.rw.nr v).2⟩,λi=>⟨uY (h.rw.nc i).1 (z i) o.size,(h.rw.nc i).2⟩,h.rw.d,h.rw.dp,h.rw.kp⟩,h.gr.block (λq b=>f q (h.gr.lt q b).2 (by rw[h.sp.y q b];omega)),⟨h.sp.g,λ_=>h.sp.r v,h.sp.c,h.sp.y,h.sp.p⟩,h.kl,h.pr.of (λq b K=>f q b (by rw[K];omega)) (λ_ _ h=>h),λn=>(h.cc n).block rfl (f bc (h.cc n).nf.1 (by rw[(h.cc n).ro];omega)) o.size,λ_ m D=>?_⟩;rw[t];exact h.bx.block E;have C:m<x.B.length:=by rw[t]at D;exact D
 by_cases e:m=j;grind[Nf1,yL];have A:j≠m:=λJ=>e J.symm
 have:({ x with B:=x.B.set j y }:Hp).B[m]=x.B[m]:=by simp[A]
 rw[this];exact(h.rw.r m C).of λl t=>M _ (by omega)
 exact(h.rw.s q b).of λm _=>cOb bc _ (z (by have:q<x.A.length:=b;omega))
 rw[cOb bc _ (z (by have:q<x.A.length:=b;omega))];exact h.rw.p7 q b;exact(h.rw.p q b k n).of λm _=>cOb (pb q) _ (F q b (h.rw.pw b (by have:k<(x.c q).F.length:=n;omega)))
 have⟨I,H,G⟩:=h.rw.pl q b u;exact⟨I,dV H (F q b u) o.size,G⟩;by_cases e:m<j*3\/j*3+3<=m
 ·rw[M m e];exact h.rc v m D
 obtain⟨a,b,c⟩:=N;obtain e|e|e:m=j*3\/m=j*3+1\/m=j*3+2:=by omega
 all_goals(subst e;exact⟨_,by assumption⟩)
theorem GAt.move[qd](h:GAt B w g x ar kr ac kc vg br bc pb pa pk role)(t f:Nat)(z:t≠f)(H:t<x.A.length)(n:f<x.A.length)(o:uQ (λq=>q=bc) w w')(C:Nf1 bc w')(D:S7 w' bc (t*8) (x.c f))(G:w'.cell? (aA bc (t*8+7))=some (.slice (pa f) (x.c f).F.length (pk f)))(A:S7 w' bc (f*8) (mvC t))(I:w'.cell? (aA bc (f*8+7))=some (.slice none 0 0))
  (v:∀q,q<x.A.length->q≠t->q≠f->∀k,k<8->w'.cell? (aA bc (q*8+k))=w.cell? (aA bc (q*8+k))) (r:∀j,x.A.length*8<=j->w'.cell? (aA bc j)=w.cell? (aA bc j)) :
  ∃pb' pa' pk' role',GAt B w' g { x with A:=(x.A.set t (x.c f)).set f (mvC t) } ar kr ac kc vg br bc pb' pa' pk' role':=by
 have m:∀q,({ x with A:=(x.A.set t (x.c f)).set f (mvC t) }:Hp).c q=if q=f then mvC t else if q=t then x.c f else x.c q:=λq=>by grind[Hp.c,mvC,Hp.c_set,Nf1,S7]
 refine⟨_,_,_,_,h.turn ((x.A.set t (x.c f)).set f (mvC t)) (by simp) (λq=>if q=t then f else q) (λq=>if q=f then none else if q=t then pa f else pa q) (λq=>if q=f then 0 else if q=t then pk f else pk q) (λb=>if 0<pk f/\b=pb f then 6+t else role b) (by omega) o C (λq i=>?_) (λq i=>?_) (λq i=>?_) (λq i l=>?_) (λb F=>?_) r⟩;rw[m q];by_cases a:q=f
 ·subst a;rw[if_pos rfl];exact A
 rw[if_neg a];by_cases d:q=t
 ·subst d;rw[if_pos rfl];exact D
 rw[if_neg d];exact(h.rw.s q i).of λj E=>v q i d a j (by omega)
 rw[m q];by_cases a:q=f
 ·grind[Nf1,S7,Hp.c,mvC]
 simp only[if_neg a];by_cases d:q=t
 ·grind[Nf1,S7,Hp.c,mvC]
 simp only[if_neg d];rw[v q i d a 7 (by omega)];exact h.rw.p7 q i;rw[m q];by_cases a:q=f
 ·rw[if_pos a];simp[mvC]
 simp only[if_neg a];by_cases d:q=t
 ·simp only[if_pos d];exact h.rw.kp f n
 simp only[if_neg d];exact h.rw.kp q i;rw[m q];by_cases a:q=f
 ·rw[if_pos a]at l;omega
 rw[if_neg a]at l;simp only[if_neg a];by_cases d:q=t
 ·grind[Grw.at,Nf1,S7,Hp.c,mvC]
 rw[if_neg d]at l;simp only[if_neg d];refine⟨⟨i,trivial⟩,trivial,trivial,?_⟩;rw[if_neg (λe=>?_)]
 ·exact h.sp.p q i l
 have y:=h.sp.p q i l;have u:=h.sp.p f n e.1;rw[e.2]at y;omega;by_cases e:0<pk f/\b=pb f
 ·have u:=h.sp.p f n e.1;rw[<-e.2]at u;omega
 rw[if_neg e]
def limB(x:Hp):Bool:=cH x.M 1 4000 && ((x.B.length:Int) == 16) && decide ((x.A.length:Int)<=2*x.M) && decide ((x.D.length:Int)<=(x.A.length:Int)) && cH x.born 0 1000000000 && cH x.Q 0 1000000000 && cH x.S 0 1000000000 && cH x.per 0 64 && cH x.V 0 4000 && cH x.E 0 6 && cH x.I 0 (x.A.length:Int) && cH x.sub 0 200
theorem d2v(x:Hp):limB x=true↔R1 x:=by
 simp only[limB,cH,Bool.and_eq_true,decide_eq_true_eq,beq_iff_eq];constructor;rintro h;exact⟨by omega,by omega,by omega,by omega,by omega,by omega,by omega,by omega,by omega,by omega,by omega,by omega⟩;rintro⟨_,_,_,_,_,_,_,_,_,_,_,_⟩;omega
theorem a4e(x:Hp)(b:Nat)(w:World){ag:Option Addr}{kg:Nat}(h:HAt w b x ar kr ac kc ag kg):
  Calls prog 73 #[pP b] w λe w'=>∃r:Bool,Hid (e=.returned (.bool r))/\(r=true↔R1 x)/\Ext w w':=by
 have c:∀r,limB x=r->Calls prog 73 #[pP b] w λe w'=>e=.returned (.bool r)/\Ext w w':=by
  intro r d;obtain⟨S,P,K,F,O,z,v,E,Q,U,t,m,q,N,A,M,R,C,G⟩:=h;unfold limB at d;cases j:cH x.M 1 4000;rotate_left;have D:=a0f j;cases n:((x.B.length:Int) == 16);rotate_left;have s:(x.B.length:Int)=16:=by simpa using n
  cases i:decide ((x.A.length:Int)<=2*x.M);rotate_left;have o:(x.A.length:Int)<=2*x.M:=of_decide_eq_true i;cases g:decide ((x.D.length:Int)<=(x.A.length:Int));rotate_left;have u:x.D.length<=x.A.length:=by have:=of_decide_eq_true g;omega
  cases H:cH x.born 0 1000000000;rotate_left;cases y:cH x.Q 0 1000000000;rotate_left;cases J:cH x.S 0 1000000000;rotate_left;cases L:cH x.per 0 64;rotate_left;cases T:cH x.V 0 4000;rotate_left;cases I:cH x.E 0 6;rotate_left;cases p:cH x.I 0 (x.A.length:Int);rotate_left;cases l:cH x.sub 0 200
  all_goals
   simp only[*,Bool.false_and,Bool.and_false,Bool.and_true]at d;subst d;try have k:decide (x.D.length<=x.A.length)=false:=decide_eq_false (by have:=of_decide_eq_false g;omega)
   as_aux_lemma=>
    go_in;go_wp21;simp only[List.append];refine wp_region_quiet_lit (by kernel_rfl) lim_lex ?_;repeat (go_big_quiet_step ((go_at_call 45;first|(refine Calls.quiet_of_same (a0r _ _ _ true ?_ _);assumption)|(refine Calls.quiet_of_same (a0r _ _ _ false ?_ _);assumption))))
    refine wpQuiet_nil ?_;intro _ f;obtain⟨B,a⟩:=f;subst a;go_wp2;go_ret;exact⟨rfl,Ext.drewN (hO w) _⟩
 exact(c _ rfl).mono λ_ _ h=>⟨_,h.1,d2v x,h.2⟩
end Go.Proofs.YtolmnenlnpbcfaaGreatDoor
