import Derived.Test.YtddkhnclmeikfaaGreatRw
import Derived.Test.YtddkhnclmeikfaaGreatIn
import Derived.Deep.RegionLaw
import Derived.Deep.RegionWith
import Derived.Laws.Pointers
import Derived.Lib.AppendZerosOnto
import Derived.Lib.Walk
set_option maxRecDepth 100000
set_option maxHeartbeats 4000000
namespace Go.Proofs.YtddkhnclmeikfaaGreat
open Go.RowKit Tryz
attribute [local go_sem ↓] Go.wp_at_zero Go.wp_at_succ
variable{w w' w0:World}{B g kr kc kg lo hi br bc q:Nat}{x:Hp}{ar ac ag:Option Addr}{op a b c n:Int}{vg:Value}{pb pk role:Nat->Nat}{pa:Nat->Option Addr}{P:Program}
def GOk[Inhabited uQ](B:Nat)(w:World)(g:Nat)(x:Hp):Prop:=∃ar kr ac kc vg br bc pb pa pk role,GAt B w g x ar kr ac kc vg br bc pb pa pk role
theorem GOk.ext[Inhabited uQ](h:GOk B w g x)(e:Ext w w'):GOk B w' g x:=by
 obtain⟨b,j,n,m,f,i,k,l,c,d,a,h⟩:=h;exact⟨b,j,n,m,f,i,k,l,c,d,a,h.ext e⟩
theorem GAt.boxed[Inhabited uQ]{x':Hp}(h:GAt B w g x ar kr ac kc vg br bc pb pa pk role)(o:uX (λq=>q=g) w w')(J:Nf1 g w')(n:x'.B=x.B)(f:x'.A=x.A)(I:x'.D=x.D)(H:dK w' g x' (.slice ar x.B.length kr) (.slice ac x.A.length kc) vg):GAt B w' g x' ar kr ac kc vg br bc pb pa pk role:=by
 have j:∀q,q<w.heap.size->role q≠0->w'.heap[q]?=w.heap[q]?:=λq a G=>o.block q a (λe=>G (by rw[e];exact h.sp.g))
 have u:∀q,x'.c q=x.c q:=λq=>by simp only [Hp.c,f]
 have b:=h.rw.same o.size (λl=>j br (h.rw.nr l).1.1 (by rw[h.sp.r l];omega)) (λl=>j bc (h.rw.nc l).1.1 (by rw[h.sp.c l];omega)) (λq a l=>j (pb q) (h.rw.pl q a l).2.1.1 (by rw[h.sp.p q a l];omega));refine⟨by rw[n,f];exact H,J,h.lo,by rw[n];exact h.ha,by rw[f];exact h.hc,?_,by rw[I];exact h.gr.block (λq a=>j q (h.gr.lt q a).2 (by rw[h.sp.y q a];omega)),?_,by rw[f];exact h.kl,h.pr.of (λq a A=>j q a (by rw[A];omega)) (λ_ _ h=>h),λm=>(h.cc m).block rfl (j bc (h.cc m).nf.1 (by rw[(h.cc m).ro];omega)) o.size⟩
 ·refine⟨λi C=>?_,λq a=>?_,λq a=>?_,λq a k m=>?_,λq a l=>?_,?_,?_,?_,λq E a t v A D=>?_,λq a=>?_⟩
  ·have z:i<x.B.length:=by rw[<-n];exact C
   have F:x'.B[i]=x.B[i]:=by simp [n]
   rw[F];exact b.r i z
  ·rw[f] at a;rw[u];exact b.s q a
  ·rw[f] at a;rw[u];exact b.p7 q a
  ·rw[f] at a;rw[u] at m ⊢;exact b.p q a k m
  ·rw[f] at a;exact b.pl q a l
  ·rw[n];exact b.nr
  ·rw[f];exact b.nc
  ·rw[f];exact b.d
  ·rw[f] at a t;exact b.dp q E a t v A D
  ·rw[f] at a;rw[u];exact b.kp q a
 ·refine⟨h.sp.g,by rw[n];exact h.sp.r,by rw[f];exact h.sp.c,h.sp.y,λq a l=>?_⟩;rw[f] at a;exact h.sp.p q a l
theorem GOk.set6[Inhabited uQ](h:GOk B w g x)(v:Int):GOk B (w.setCell (aA g 6) (iv v)) g { x with I:=v }:=by
 obtain⟨b,i,m,l,e,f,j,k,c,d,a,h⟩:=h;exact⟨_,_,_,_,_,_,_,_,_,_,_,h.boxed (x':={ x with I:=v }) (uX.setCell (S:=λq=>q=g) (uX.refl _ w) (p:=(aA g 6)) rfl _) (h.nf.set _ _) rfl rfl rfl (h.bx.set6 v)⟩
theorem GOk.set7[Inhabited uQ](h:GOk B w g x)(v:Int):GOk B (w.setCell (aA g 7) (iv v)) g { x with sub:=v }:=by
 obtain⟨b,i,m,l,e,f,j,k,c,d,a,h⟩:=h;exact⟨_,_,_,_,_,_,_,_,_,_,_,h.boxed (x':={ x with sub:=v }) (uX.setCell (S:=λq=>q=g) (uX.refl _ w) (p:=(aA g 7)) rfl _) (h.nf.set _ _) rfl rfl rfl (h.bx.set7 v)⟩
theorem GOk.box[Inhabited uQ](h:GOk B w g x):w.cell? (aA g 6)=some (iv x.I)/\w.cell? (aA g 7)=some (iv x.sub)/\w.cell? (aA g 5)=some (iv x.E)/\(∀o,w.frozen? (aA g o)=false)/\B<=g/\g<w.heap.size:=by
 obtain⟨b,i,m,l,e,f,j,k,c,d,a,h⟩:=h;exact⟨h.bx.2.2.2.2.2.2.1,h.bx.2.2.2.2.2.2.2.1,h.bx.2.2.2.2.2.1,h.nf.2,h.lo,h.nf.1⟩
def zQ(op:Int):Bool:=!(op == 18 || op == 20 || op == 21 || op == 22 || op == 23 || op == 24)
def zD(op:Int):Bool:=op == 4 || op == 5 || op == 6 || op == 7 || op == 8 || op == 13
def tU(op:Int):Int:=if op=1 then 255 else if zD op=true then 15 else if op=23 then 64 else 0
def tC(op:Int):Int:=if op=1\/op=9\/op=10 then 200 else if 5<=op/\op<=8 then 199 else if op=11 then 3 else if op=12 then 1 else if op=22 then 100000 else if op=23 then 4000 else 0
theorem c1m(op:Int)(a:1<=op)(b:op<=24):op=1\/op=2\/op=3\/op=4\/op=5\/op=6\/op=7\/op=8\/op=9\/op=10\/op=11\/op=12\/op=13\/op=14\/op=15\/op=16\/op=17\/op=18\/op=19\/op=20\/op=21\/op=22\/op=23\/op=24:=by omega
theorem b7r(op:Int)(a:1<=op)(b:op<=24)(w:World):Calls prog 220 #[iv op] w λe w'=>e=.returned (.tuple #[.bool (zQ op),.bool (zD op)])/\w'=w:=by
 have h:=c1m op a b;rcases h with rfl | rfl | rfl | rfl | rfl | rfl | rfl | rfl | rfl | rfl | rfl | rfl | rfl | rfl | rfl | rfl | rfl | rfl | rfl | rfl | rfl | rfl | rfl | rfl
 all_goals
  go_enter func220,ntmps220
  go_wp2
  go_ret2;exact⟨rfl,rfl⟩
theorem c4h(op:Int)(a:1<=op)(b:op<=24)(w:World):Calls prog 221 #[iv op] w λe w'=>e=.returned (.tuple #[iv (tU op),iv (tC op)])/\w'=w:=by
 have h:=c1m op a b;rcases h with rfl | rfl | rfl | rfl | rfl | rfl | rfl | rfl | rfl | rfl | rfl | rfl | rfl | rfl | rfl | rfl | rfl | rfl | rfl | rfl | rfl | rfl | rfl | rfl
 all_goals
  go_enter func221,ntmps221
  go_wp2
  go_ret2;exact⟨rfl,rfl⟩
def zJ(op:Int):Int:=if zQ op=true then 15 else 0
def qL(op a b c n:Int):Bool:=decide ((1<=op/\op<=24)/\(n=0\/op=2)) && (decide (0<=a/\a<=zJ op) && (decide (0<=b/\b<=tU op) && decide (0<=c/\c<=tC op)))
abbrev yQ(op a b c n:Int):Value:=.agg #[iv op,iv a,iv b,iv c,iv n]
theorem c4i(h:op<1\/24<op\/(n≠0/\op≠2)):qL op a b c n=false:=by grind [qL]
theorem act_a(h:a<0\/zJ op<a):qL op a b c n=false:=by grind [zJ,qL]
theorem act_yes(h:1<=op)(e:op<=24)(d:n=0\/op=2)(f:0<=a)(g:a<=zJ op):qL op a b c n=(decide (0<=b/\b<=tU op) && decide (0<=c/\c<=tC op)):=by grind [zJ,qL,tU,tC]
theorem b2e(n b a:Int)(r:Bool)(h:eL n b a=r)(w:World):Calls prog 60 #[iv n,iv b,iv a] w λe w'=>e=.returned (.bool r)/\w'=w:=h ▸ a5c n b a w
theorem b0t(op a b c n:Int)(w:World)(y:1<=op)(x:op<=24)(D:((op != 2)=true/\(n != 0)=false)\/(op != 2)=false):Calls prog 158 #[yQ op a b c n] w λe w'=>e=.returned (.bool (qL op a b c n))/\Ext w w':=by
 have r:=uU (show n=0\/op=2 from by rcases D with⟨_,q⟩ | q <;> simp at q <;> omega);have s:=uU (λW=>c4h op y x W);have o:=uU (λF G=>act_yes (b:=b) (c:=c) (n:=n) (a:=a) y x r F G);obtain⟨g,C⟩:∃v,v=tU op:=⟨_,rfl⟩;obtain⟨t,B⟩:∃v,v=tC op:=⟨_,rfl⟩;rw[<-C,<-B] at s o;clear C B;have H:¬op<1:=by omega
 have I:¬op > 24:=by omega
 rcases D with⟨q1b,q2b⟩ | q1b
 all_goals
  cases p:zQ op
  ·have k:=uU (λW=>p ▸ b7r op y x W);cases f:(a == 0)
   ·have A:(a != 0)=true:=by simpa using f
    have E:=uU (act_a (op:=op) (a:=a) (b:=b) (c:=c) (n:=n) (by unfold zJ;rw[p];simp at f;simp;omega));go_enter func158,ntmps158;go_wp2_with (first | (go_at_call 220;refine(k _).mono ?_;rintro e d ⟨rfl,rfl⟩));go_ret;exact⟨by rw[uH E];rfl,(Ext.refl _).alloc _⟩
   ·have A:(a != 0)=false:=by simpa using f
    have h:=uU (o (by simp at f;omega) (by unfold zJ;rw[p];simp at f;simp;omega));cases i:eL b 0 g
    ·have j:=uU (λW=>b2e b 0 g false i W);have E:=uU (show qL op a b c n=false by rw[uH h];have e:decide (0<=b/\b<=g)=false:=i;rw[e];rfl);clear h r o;go_enter func158,ntmps158;go_wp2_with (first | (go_at_call 220;refine(k _).mono ?_;rintro e d ⟨rfl,rfl⟩) | (go_at_call 221;refine(s _).mono ?_;rintro e d ⟨rfl,rfl⟩) | (go_at_call 60;refine(j _).mono ?_;rintro e d ⟨rfl,rfl⟩));go_ret;exact⟨by rw[uH E];rfl,(Ext.refl _).alloc _⟩
    ·have j:=uU (λW=>b2e b 0 g true i W);have z:=uU (λW=>a5c c 0 t W);have E:=uU (show qL op a b c n=eL c 0 t by rw[uH h];have e:decide (0<=b/\b<=g)=true:=i;rw[e];rfl);clear h r o;go_enter func158,ntmps158;go_wp2_with (first | (go_at_call 220;refine(k _).mono ?_;rintro e d ⟨rfl,rfl⟩) | (go_at_call 221;refine(s _).mono ?_;rintro e d ⟨rfl,rfl⟩) | (have _:=l;go_at_call 60;refine(z _).mono ?_;rintro e d ⟨rfl,rfl⟩) | (go_at_call 60;refine(j _).mono ?_;rintro e d ⟨rfl,rfl⟩;have l:=True.intro));go_ret;exact⟨by rw[uH E];rfl,(Ext.refl _).alloc _⟩
  ·have k:=uU (λW=>p ▸ b7r op y x W);cases f:eL a 0 15
   ·have u:=uU (λW=>b2e a 0 15 false f W);have E:=uU (act_a (op:=op) (a:=a) (b:=b) (c:=c) (n:=n) (by unfold zJ;rw[p];simp [eL] at f;simp;omega));go_enter func158,ntmps158;go_wp2_with (first | (go_at_call 220;refine(k _).mono ?_;rintro e d ⟨rfl,rfl⟩) | (go_at_call 60;refine(u _).mono ?_;rintro e d ⟨rfl,rfl⟩));go_ret;exact⟨by rw[uH E];rfl,(Ext.refl _).alloc _⟩
   ·have u:=uU (λW=>b2e a 0 15 true f W);have h:=uU (o (by simp [eL] at f;omega) (by unfold zJ;rw[p];simp [eL] at f;simp;omega));cases i:eL b 0 g
    ·have j:=uU (λW=>b2e b 0 g false i W);have E:=uU (show qL op a b c n=false by rw[uH h];have e:decide (0<=b/\b<=g)=false:=i;rw[e];rfl);clear h r o;go_enter func158,ntmps158;go_wp2_with (first | (go_at_call 220;refine(k _).mono ?_;rintro e d ⟨rfl,rfl⟩) | (go_at_call 221;refine(s _).mono ?_;rintro e d ⟨rfl,rfl⟩) | (have _:=m;go_at_call 60;refine(j _).mono ?_;rintro e d ⟨rfl,rfl⟩) | (go_at_call 60;refine(u _).mono ?_;rintro e d ⟨rfl,rfl⟩;have m:=True.intro));go_ret;exact⟨by rw[uH E];rfl,(Ext.refl _).alloc _⟩
    ·have j:=uU (λW=>b2e b 0 g true i W);have z:=uU (λW=>a5c c 0 t W);have E:=uU (show qL op a b c n=eL c 0 t by rw[uH h];have e:decide (0<=b/\b<=g)=true:=i;rw[e];rfl);clear h r o;go_enter func158,ntmps158;go_wp2_with (first | (go_at_call 220;refine(k _).mono ?_;rintro e d ⟨rfl,rfl⟩) | (go_at_call 221;refine(s _).mono ?_;rintro e d ⟨rfl,rfl⟩) | (have _:=l;go_at_call 60;refine(z _).mono ?_;rintro e d ⟨rfl,rfl⟩) | (have _:=m;go_at_call 60;refine(j _).mono ?_;rintro e d ⟨rfl,rfl⟩;have l:=True.intro) | (go_at_call 60;refine(u _).mono ?_;rintro e d ⟨rfl,rfl⟩;have m:=True.intro));go_ret;exact⟨by rw[uH E];rfl,(Ext.refl _).alloc _⟩
theorem a1n(op a b c n:Int)(w:World):Calls prog 158 #[yQ op a b c n] w λe w'=>e=.returned (.bool (qL op a b c n))/\Ext w w':=by
 by_cases i:op<1
 ·have E:=uU (c4i (op:=op) (a:=a) (b:=b) (c:=c) (n:=n) (.inl i));go_enter func158,ntmps158;go_wp2_with fail;go_ret;exact⟨by rw[uH E];rfl,(Ext.refl _).alloc _⟩
 ·by_cases h:op > 24
  ·have E:=uU (c4i (op:=op) (a:=a) (b:=b) (c:=c) (n:=n) (.inr (.inl h)));go_enter func158,ntmps158;go_wp2_with fail;go_ret;exact⟨by rw[uH E];rfl,(Ext.refl _).alloc _⟩
  ·cases f:(op == 2)
   ·have d:(op != 2)=true:=by simpa using f
    cases g:(n == 0)
    ·have j:(n != 0)=true:=by simpa using g
     have E:=uU (c4i (op:=op) (a:=a) (b:=b) (c:=c) (n:=n) (.inr (.inr ⟨by simpa using g,by simpa using f⟩)));go_enter func158,ntmps158;go_wp2_with fail;go_ret;exact⟨by rw[uH E];rfl,(Ext.refl _).alloc _⟩
    ·exact b0t op a b c n w (by omega) (by omega) (.inl ⟨d,by simpa using g⟩)
   ·exact b0t op a b c n w (by omega) (by omega) (.inr (by simpa using f))
theorem b2c{o:Obj}(h:w.heap[q]?=some o):q<w.heap.size:=by grind [S7.some,Grw.at]
theorem GAt.far{z z2:Nat->Option Obj}{role':Nat->Nat}(h:@GAt ⟨⟨z⟩⟩ B w g x ar kr ac kc vg br bc pb pa pk role)(n:w.heap.size<=w'.heap.size)(e:∀q,q<w.heap.size->role q≠1->w'.heap[q]?=w.heap[q]?)(i:∀q,q<w.heap.size->role q≠1->role' q=role q)(D:∀q o,z2 q=some o->role' q=1/\w'.heap[q]?=some o):@GAt ⟨⟨z2⟩⟩ B w' g x ar kr ac kc vg br bc pb pa pk role':=by
 obtain⟨t,m,v,C,u,f,l,b,A,_,j⟩:=h;have s:=e g m.1 (by rw[b.g];omega)
 letI:Inhabited uQ:=⟨⟨z2⟩⟩
 refine⟨t.block s,uJ m s n,v,C,u,f.same n (λa=>e br (f.nr a).1.1 (by rw[b.r a];omega)) (λa=>e bc (f.nc a).1.1 (by rw[b.c a];omega)) (λq d a=>e (pb q) (f.pl q d a).2.1.1 (by rw[b.p q d a];omega)),l.block (λq d=>e q (l.lt q d).2 (by rw[b.y q d];omega)),⟨?_,λa=>?_,λa=>?_,λq d=>?_,λq d a=>?_⟩,A,D,λk=>(j k).block (i bc (j k).nf.1 (by rw[(j k).ro];omega)) (e bc (j k).nf.1 (by rw[(j k).ro];omega)) n⟩
 ·rw[i g m.1 (by rw[b.g];omega)];exact b.g
 ·rw[i br (f.nr a).1.1 (by rw[b.r a];omega)];exact b.r a
 ·rw[i bc (f.nc a).1.1 (by rw[b.c a];omega)];exact b.c a
 ·rw[i q (l.lt q d).2 (by rw[b.y q d];omega)];exact b.y q d
 ·rw[i (pb q) (f.pl q d a).2.1.1 (by rw[b.p q d a];omega)];exact b.p q d a
theorem GOk.guard{z z2:Nat->Option Obj}(h:@GOk ⟨⟨z⟩⟩ B w0 g x)(e:Ext w0 w)(C:∀q o,z2 q=some o->z q=some o\/(w0.heap.size<=q/\w.heap[q]?=some o)):@GOk ⟨⟨z2⟩⟩ B w g x:=by
 obtain⟨i,p,y,n,k,u,l,m,j,t,c,h⟩:=h;have A:=h;obtain⟨_,_,_,_,_,_,_,_,_,r,_⟩:=A;refine⟨i,p,y,n,k,u,l,m,j,t,λq=>if w0.heap.size<=q then 1 else c q,GAt.far h e.size (λq d _=>e.block q d) (λq d _=>if_neg (by omega)) (λq o d=>?_)⟩;rcases C q o d with a | ⟨a,b⟩
 ·obtain⟨v,f⟩:=r q o a;have s:=b2c f;exact⟨by show(if w0.heap.size<=q then 1 else c q)=1;rw[if_neg (by omega)];exact v,(e.block q s).trans f⟩
 ·exact⟨if_pos a,b⟩
structure Own(p:Inhabited uQ)(lo hi:Nat)(c:World)(p1:Inhabited uQ):Prop where
 z:∀q,(@default uQ p1).z q=if lo<=q/\q<hi then c.heap[q]? else (@default uQ p).z q
 l:∀q o,(@default uQ p).z q=some o->q<lo
 h:hi<=c.heap.size
theorem Own.make(p:Inhabited uQ)(b a:Nat)(c:World)(l:∀q o,(@default uQ p).z q=some o->q<b)(h:a<=c.heap.size):∃p1,Own p b a c p1:=⟨⟨⟨λq=>if b<=q/\q<a then c.heap[q]? else (@default uQ p).z q⟩⟩,λ_=>rfl,l,h⟩
theorem a5j(h:q<w.heap.size):∃o,w.heap[q]?=some o:=⟨_,Array.getElem?_eq_getElem h⟩
theorem GOk.enter{p:Inhabited uQ}(h:@GOk p B w g x)(e:Ext w w0):∃p1,Own p w.heap.size w0.heap.size w0 p1/\@GOk p1 B w0 g x:=by
 have b:=h;obtain⟨j,s,v,r,l,u,m,n,k,t,f,b⟩:=b;obtain⟨_,_,_,_,_,_,_,_,_,i,_⟩:=b;obtain⟨p1,d⟩:=Own.make p w.heap.size w0.heap.size w0 (λq o a=>b2c (i q o a).2) (Nat.le_refl _);refine⟨p1,d,GOk.guard (z:=(@default uQ p).z) (z2:=(@default uQ p1).z) h e (λq o a=>?_)⟩;rw[d.z] at a
 split at a
 ·rename_i c;exact .inr ⟨c.1,a⟩
 ·exact .inl a
theorem GOk.own{p p1:Inhabited uQ}{c:World}(o:Own p lo hi c p1)(h:@GOk p1 B w g x):∀q,lo<=q->q<hi->w.heap[q]?=c.heap[q]?:=λq i f=>by
 obtain⟨j,s,v,r,l,u,m,n,k,t,b,h⟩:=h;obtain⟨_,_,_,_,_,_,_,_,_,d,_⟩:=h;obtain⟨e,a⟩:=a5j (w:=c) (q:=q) (by have:=o.h;omega);have:=(d q e (by rw[o.z q,if_pos ⟨i,f⟩];exact a)).2;rw[this,a]
theorem GOk.owns{p p1 p2:Inhabited uQ}{c:World}(o:Own p lo hi c p1)(h:@GOk p1 B w g x)(l:uX (λq=>lo<=q/\q<hi) w w')(J:∀q ob,(@default uQ p2).z q=some ob->(lo<=q/\q<hi/\w'.heap[q]?=some ob)\/(¬(lo<=q/\q<hi)/\(@default uQ p).z q=some ob)):@GOk p2 B w' g x:=by
 obtain⟨s,D,G,C,u,F,y,A,t,E,f,h⟩:=h;have I:=h;obtain⟨_,_,_,_,_,_,_,_,_,r,_⟩:=I
 have n:∀q,lo<=q->q<hi->f q=1:=λq k i=>by
  obtain⟨ob,v⟩:=a5j (w:=c) (q:=q) (by have:=o.h;omega);exact(r q ob (by rw[o.z q,if_pos ⟨k,i⟩];exact v)).1
 refine⟨s,D,G,C,u,F,y,A,t,E,f,GAt.far (z:=(@default uQ p1).z) (z2:=(@default uQ p2).z) h l.size (λq j H=>l.block q j (λe=>H (n q e.1 e.2))) (λ_ _ _=>rfl) (λq m j=>?_)⟩;rcases J q m j with⟨a,b,d⟩ | ⟨a,d⟩
 ·exact⟨n q a b,d⟩
 ·obtain⟨k,i⟩:=r q m (by rw[o.z q,if_neg a];exact d);exact⟨k,(l.block q (b2c i) a).trans i⟩
theorem GOk.leave{p p1:Inhabited uQ}{c:World}(o:Own p lo hi c p1)(h:@GOk p1 B w g x)(d:uX (λq=>lo<=q/\q<hi) w w'):@GOk p B w' g x:=
 GOk.owns o h d (λq b a=>.inr ⟨λe=>by have:=o.l q b a;omega,a⟩)
theorem ptr_nil(a o:Nat)(w:World):(binOp .eql 126 (.pointer none) (pQ a o)).run prog w=.ok (.bool false) w:=by kernel_rfl
theorem c2q(w:World)(a p q:Nat):(sameAddr (aA a p) (aA a q)).run P w=.ok (p == q) w:=by
 have:(((aA a p):Addr) == (aA a q))=(p == q):=by grind
 simp [sameAddr,this]
theorem d2f(w:World)(d:Nat)(t e:TypeId)(i:TypeInfo)(c:P.underlying t=some (.pointer e))(b:P.info? e=some i)(f:i.size≠0)(a p q:Nat):
  (Op.equalIn (d+1) t (pQ a p) (pQ a q)).run P w=.ok (p == q) w:=by
 simp [Op.equalIn,run_underlying c,sizeOf,typeInfo,b,f,c2q]
theorem c8j:(prog.info? 124).map (λi=>i.size)=some 2:=by kernel_rfl
theorem d2g(a p q:Nat)(w:World):(binOp .eql 126 (pQ a p) (pQ a q)).run prog w=.ok (.bool (p == q)) w:=by
 obtain⟨i,b,d⟩:∃i,prog.info? 124=some i/\i.size=2:=by
  have:=c8j;cases h:prog.info? 124 with
  | none=>rw[h] at this;simp at this
  | some i=>rw[h] at this;simp at this;exact⟨i,rfl,this⟩
 have c:(Op.equalIn 10000 126 (pQ a p) (pQ a q)).run prog w=.ok (p == q) w:=by
  exact d2f w 9999 126 124 i underlying126 b (by omega) a p q
 simp only [binOp];simp [Op.equal,Op.maxDepth,c]
theorem ptr_no(a p q:Nat)(w:World)(h:¬p=q):(binOp .eql 126 (pQ a p) (pQ a q)).run prog w=.ok (.bool false) w:=by grind [d2g]
theorem ptr_yes(a p:Nat)(w:World):(binOp .eql 126 (pQ a p) (pQ a p)).run prog w=.ok (.bool true) w:=by
 rw[d2g];simp
theorem d3o{w:World}{p:Addr}{v:Value}(h:w.cell? p=some v):w.setCell p v=w:=by
 have a:(w.setCell p v).heap=w.heap:=by
  unfold World.cell? at h;unfold World.setCell;apply Array.ext_getElem?;intro i;rw[Array.getElem?_modify];by_cases e:p.block=i
  ·subst e;rw[if_pos rfl];cases g:w.heap[p.block]? with
   | none=>rfl
   | some o=>
    rw[g] at h;cases o with
    | cells c t f=>
     simp only at h;by_cases b:p.spot.isSome=true
     ·simp [b] at h
     ·simp only [b] at h;simp only [Option.map_some,b]
      congr 1
      have d:c.setIfInBounds p.off v=c:=by grind
      simp [d]
    | _=>simp at h
  ·rw[if_neg e]
 unfold World.setCell at a ⊢;simp only at a;rw[a]
theorem c9p:(prog.info? 124).map (λi=>(i.zero,i.size,i.bytes))=some (some (.agg #[iv 0,.pointer none]),2,16):=by kernel_rfl
theorem c9q(base:Option Addr)(l n:Nat)(w:World)(a:n=0):
  Calls prog 140 #[.slice base l l,iv n] w λe w'=>e=.returned (.slice base l l)/\w'=w:=by
 subst a
 go_enter func140,ntmps140
 go_wp2
 go_ret;exact⟨rfl,rfl⟩
def d3p(w:World)(l n:Nat)(cs:List Value)(e:Ending)(w':World):Prop:=∃k m,e=.returned (.slice (some ⟨w.heap.size,0,none⟩) l k)/\l+n<=k/\m.size=(k-l)*2/\w'=w.drew.alloc (.cells (cs.toArray++m) 124)
theorem d3q(b l n:Nat)(cs:List Value)(w:World)(A:l+n<=8000)(x:0<n)(m:cs.length=l*2)(k:∀j v,cs[j]?=some v->w.cell? (aA b j)=some v):
  Calls prog 140 #[sS b l l,iv n] w λe w'=>d3p w l n cs e w':=by
 obtain⟨s,p,r,o,f⟩:∃i,prog.info? 124=some i/\i.zero=some (.agg #[iv 0,.pointer none])/\i.size=2/\i.bytes=16:=by
  have:=c9p;cases h:prog.info? 124 with
  | none=>rw[h] at this;simp at this
  | some i=>rw[h] at this;simp at this;exact⟨i,rfl,this.1,this.2.1,this.2.2⟩
 have a:(Builtin.firstCells s.size l (sS b l l)).run prog w.drew=.ok cs.toArray w.drew:=run_firstCells_some w.drew s.size l (aA b 0) l l cs (by rw[m,o]) (λj v u=>by
  have:((aA b 0):Addr).add j=(aA b j):=by unfold Addr.add;split <;> simp_all
  rw[this];exact k j v u)
 have d:∀q,(Builtin.append_ #[117,3] q #[sS b l l,iv (n:Int)]).run prog w=.ok (sS w.heap.size (l+n) (grownCap w (l+n) l 124)) (w.drew.alloc (.cells (cs.toArray++Builtin.zeroCells (Value.agg #[iv 0,.pointer none]).cells n++Builtin.zeroCells (Value.agg #[iv 0,.pointer none]).cells (grownCap w (l+n) l 124-(l+n))) 124)):=λq=>
  Go.Lib.run_append_grow_zeros w 117 3 q 124 s _ .i64 .i64 underlying117 underlying3 p r (some (aA b 0)) l l cs a n x (by omega) (by omega) (by omega) (by rw[f];omega) (growslice_fits (by omega) (by rw[f];omega))
 have c:l+n<=grownCap w (l+n) l 124:=grownCap_ge w _ _ _;obtain⟨G,t⟩:∃G,G=grownCap w (l+n) l 124:=⟨_,rfl⟩;rw[<-t] at d c
 have y:¬((n:Int)<0):=by omega
 have z:wrap64 ((n:Int)-0)=n:=by unfold wrap64;omega
 have g:=uU c;clear a t k m;go_enter func140,ntmps140;go_wp2_with (at_builtin;refine Go.Lib.wpList_append_run _ rfl _ _ _ _ rfl _ _ rfl rfl _ _ (d _) ?_);go_ret;exact⟨G,Builtin.zeroCells (Value.agg #[iv 0,.pointer none]).cells n++Builtin.zeroCells (Value.agg #[iv 0,.pointer none]).cells (G-(l+n)),rfl,g,by have:=uH g;simp only [Array.size_append,Go.size_zeroCells];show n*2+(G-(l+n))*2=_;omega,rfl⟩
def b4n(c d:Cl):Prop:=c.st=d.st/\c.born=d.born/\c.to=d.to
theorem c0k(x:Hp)(b:Nat)(w:World)(h:HAt w b x ar kr ac kc ag kg):
  Calls prog 204 #[pP b] w λe w'=>∃r:Bool,e=.returned (.bool r)/\(r=true↔b7j x)/\Ext w w':=by
 have c4:=h.c4;have lc:=h.lc;go_enter func204,ntmps204;go_wp2_with fail;go_loopw [12] (λi wr=>∃k:Nat,k<=x.A.length/\i=iv k/\(∀j,j<k->(x.c j).st≠0->∀l,l<j->¬b4n (x.c l) (x.c j))/\Ext w wr) (λi _=>x.A.length-(intOf i).toNat)
 case atStart=>exact⟨0,Nat.zero_le _,rfl,λj h=>by omega,Ext.refl _⟩
 case round=>
  obtain⟨k,hk,rfl,g,p⟩:=hrel;have HA:=uU g;by_cases s:k<x.A.length
  ·obtain⟨b',o,I,H,rfl,p0,p1,p2,p3,p4,p5,p6,p7,lp,P⟩:=(h.ext p).cell k s;have af:b'<wr.heap.size:=uL p0;have ad:(0:Int)<=(k:Int):=by omega
   have O:(k:Int)<(x.A.length:Int):=by omega
   have m:=p.alloc (.cells #[iv (x.c k).st,iv (x.c k).kind,iv (x.c k).T,iv (x.c k).U,iv (x.c k).born,iv (x.c k).J,iv (x.c k).to,.slice I (x.c k).F.length H] 62)
   have t:((x.c k).st≠0->∀l,l<k->¬b4n (x.c l) (x.c k))->Hid (∀j,j<k+1->(x.c j).st≠0->∀l,l<j->¬b4n (x.c l) (x.c j)):=λA j C=>by
    by_cases e:j=k
    ·subst e;exact A
    ·exact HA j (by omega)
   have J:=uU t;cases K:((x.c k).st == 0)
   ·have E:(x.c k).st≠0:=by simpa using K
    have V:=uU E;go_wp2_with fail;obtain⟨u,F⟩:∃W:World,W=wr:=⟨_,rfl⟩;subst F;go_loopw [5] (λi q=>∃l:Nat,l<=k/\i=iv l/\(∀j,j<l->¬b4n (x.c j) (x.c k))/\Ext w q/\Ext (u.alloc (.cells #[iv (x.c k).st,iv (x.c k).kind,iv (x.c k).T,iv (x.c k).U,iv (x.c k).born,iv (x.c k).J,iv (x.c k).to,.slice I (x.c k).F.length H] 62)) q) (λi _=>k-(intOf i).toNat)
    case atStart=>exact⟨0,Nat.zero_le _,rfl,λj h=>by omega,m,Ext.refl _⟩
    case round=>
     obtain⟨l,L,rfl,g,a,d⟩:=hrel;have y:=uU g;have Z:=d.keep (b:=u.heap.size) (o:=0) (v:=iv (x.c k).st) (by simp [go_sem]);have f4:=d.keep (b:=u.heap.size) (o:=4) (v:=iv (x.c k).born) (by simp [go_sem]);have f6:=d.keep (b:=u.heap.size) (o:=6) (v:=iv (x.c k).to) (by simp [go_sem]);have zz:u.heap.size<wr.heap.size:=uL Z;by_cases D:l<k
     ·obtain⟨b2,o2,Q,ab,e2,q0,q1,q2,q3,q4,q5,q6,q7,M,P2⟩:=(h.ext a).cell l (by omega);cases e2;have d4:=(h.ext a).c4;have U:(0:Int)<=(l:Int):=by omega
      have ae:(l:Int)<(x.A.length:Int):=by omega
      have X:(l:Int)<(k:Int):=by omega
      cases z:((x.c l).st == (x.c k).st)
      ·have S:=uU (show ∀j,j<l+1->¬b4n (x.c j) (x.c k) from λj C=>by
        by_cases e:j=l
        ·subst e;intro n;have:=n.1;simp at z;exact z this
        ·exact y j (by omega))
       go_wp2;go_roundw
       case rel=>exact⟨l+1,by omega,by go_num,S,a.alloc _,d.alloc _⟩
       case measure=>simp [intOf];omega
      ·cases G:((x.c l).born == (x.c k).born)
       ·have S:=uU (show ∀j,j<l+1->¬b4n (x.c j) (x.c k) from λj C=>by
         by_cases e:j=l
         ·subst e;intro n;have:=n.2.1;simp at G;exact G this
         ·exact y j (by omega))
        go_wp2;go_roundw
        case rel=>exact⟨l+1,by omega,by go_num,S,a.alloc _,d.alloc _⟩
        case measure=>simp [intOf];omega
       ·cases B:((x.c l).to == (x.c k).to)
        ·have S:=uU (show ∀j,j<l+1->¬b4n (x.c j) (x.c k) from λj C=>by
          by_cases e:j=l
          ·subst e;intro n;have:=n.2.2;simp at B;exact B this
          ·exact y j (by omega))
         go_wp2;go_roundw
         case rel=>exact⟨l+1,by omega,by go_num,S,a.alloc _,d.alloc _⟩
         case measure=>simp [intOf];omega
        ·have N:=uU (show ¬b7j x from λr=>r k s V l D ⟨by simpa using z,by simpa using G,by simpa using B⟩);go_wp2;go_ret;exact⟨false,rfl,⟨λf=>by simp at f,λr=>(N r).elim⟩,a.alloc _⟩
     ·have S:=uH J (λ_ T aa=>uH y T (by omega));go_wp2;go_roundw
      case rel=>exact⟨k+1,by omega,by go_num,S,a⟩
      case measure=>simp [intOf];omega
   ·have S:=uH J (λA=>absurd (by simpa using K) A);go_wp2;go_roundw
    case rel=>exact⟨k+1,by omega,by go_num,S,m⟩
    case measure=>simp [intOf];omega
  ·have Y:=uU (show b7j x from λi hi n l L R=>uH HA i (by omega) n l L R);go_wp2;go_ret;exact⟨true,rfl,⟨λ_=>uH Y,λ_=>rfl⟩,p⟩
theorem b4o(g:List Int)(k l:Nat)(h:l<g.length):(g.take (l+1)).count (k:Int)=(g.take l).count (k:Int)+if (g[l] == (k:Int))=true then 1 else 0:=by
 rw[List.take_succ_eq_append_getElem h,List.count_append,List.count_singleton]
theorem b4p(x:Hp)(b:Nat)(w:World)(h:HAt w b x ar kr ac kc ag kg)(q:(x.E == 1)=true\/(x.E == 1)=false/\(x.E == 2)=true):
  Calls prog 130 #[.pointer (some ⟨b,0,none⟩)] w λe w'=>∃r:Bool,e=.returned (.bool r)/\(r=true↔R5 x)/\Ext w w':=by
 have MK:=uU (show uY x by simpa [uY] using q.imp id And.right);rcases q with q1 | ⟨q1,q2⟩
 all_goals
  have c4:=h.c4;have c5:=h.c5;have c8:=h.c8;have lc:=h.lc;have lg:=h.lg;have G0:=uU (show ¬uY x->x.D.length=0 from λn=>(n MK).elim);go_enter func130,ntmps130;go_wp2_with fail;go_loopw [38] (λi wr=>∃k:Nat,k<=x.A.length/\i=.int .i64 k/\(∀j,j<k->eK x j)/\Ext w wr) (λi _=>x.A.length-(intOf i).toNat)
  case atStart=>exact⟨0,Nat.zero_le _,rfl,λj h=>by omega,Ext.refl _⟩
  case round=>
   obtain⟨k,hk,rfl,hall,hbl⟩:=hrel;have HA:=uU hall;clear hall;by_cases hlt:k<x.A.length
   ·obtain⟨b',o,ap,kp,rfl,p0,p1,p2,p3,p4,p5,p6,p7,lp,P⟩:=(h.ext hbl).cell k hlt;clear P;have d8:=(h.ext hbl).c8;have hb':b'<wr.heap.size:=uL p0;have hb:b<wr.heap.size:=uL d8;have hk0:(0:Int)<=(k:Int):=by omega
    have hk1:(k:Int)<(x.A.length:Int):=by omega
    have hbl1:=hbl.alloc (.cells #[.int .i64 (x.c k).st,.int .i64 (x.c k).kind,.int .i64 (x.c k).T,.int .i64 (x.c k).U,.int .i64 (x.c k).born,.int .i64 (x.c k).J,.int .i64 (x.c k).to,.slice ap (x.c k).F.length kp] 62)
    have ST:=uU (show eK x k->∀j,j<k+1->eK x j from λhn j hj=>by
     by_cases e:j=k
     ·subst e;exact hn
     ·exact HA j (by omega))
    go_wp2_with fail;obtain⟨WO,hWO⟩:∃W:World,W=wr:=⟨_,rfl⟩;subst hWO;go_loopw [6,48] (λnv i wr2=>∃l n:Nat,l<=x.D.length/\i=.int .i64 l/\nv=.int .i64 n/\n<=l/\Hid (n=(x.D.take l).count (k:Int))/\Ext w wr2/\Ext (WO.alloc (.cells #[.int .i64 (x.c k).st,.int .i64 (x.c k).kind,.int .i64 (x.c k).T,.int .i64 (x.c k).U,.int .i64 (x.c k).born,.int .i64 (x.c k).J,.int .i64 (x.c k).to,.slice ap (x.c k).F.length kp] 62)) wr2) (λ_ i _=>x.D.length-(intOf i).toNat)
    case atStart=>exact⟨0,0,Nat.zero_le _,rfl,rfl,by omega,by show _=_;simp,hbl1,Ext.refl _⟩
    case round=>
     obtain⟨l,n,hl,rfl,rfl,hn,hcnt,hx2,hy2⟩:=hrel;by_cases hl2:l<x.D.length
     ·obtain⟨bg,og,rfl,pg⟩:=(h.ext hx2).G l hl2;unfold a6w at pg;simp only [Nat.mul_one] at pg;clear p0 p1 p2 p3 p4 p5 p6 p7 d8;have hl0:(0:Int)<=(l:Int):=by omega
      have hl1:(l:Int)<(x.D.length:Int):=by omega
      have ct:=b4o x.D k l hl2;cases t:(x.D[l] == (k:Int))
      ·have H:Hid (n=(x.D.take (l+1)).count (k:Int)):=by have:=uH hcnt;show _=_;rw[ct,t];simpa using this
       clear ct;go_wp2_with fail;go_roundw
       case rel=>exact⟨l+1,n,by omega,by go_num,rfl,by omega,H,hx2,hy2⟩
       case measure=>simp [intOf];omega
      ·have H:Hid (n+1=(x.D.take (l+1)).count (k:Int)):=by have:=uH hcnt;show _=_;rw[ct,t,<-this];simp
       clear ct;go_wp2_with fail;go_roundw
       case rel=>exact⟨l+1,n+1,by omega,by go_num,by go_num,by omega,H,hx2,hy2⟩
       case measure=>simp [intOf];omega
     ·have hc:=uU (show n=cnt x.D k by have:=uH hcnt;rw[List.take_of_length_le (by omega)] at this;exact this);have f5:=hy2.keep (b:=WO.heap.size) (o:=5) (v:=.int .i64 (x.c k).J) (by simp [go_sem]);have d5:=(h.ext hx2).c5;have d6:=(h.ext hx2).c6;clear p0 p1 p2 p3 p4 p5 p6 p7 d8 hcnt;cases t1:((x.c k).J == 1)
      ·have t1':(x.c k).J≠1:=by simpa using t1
       have t1b:((x.c k).J != 1)=true:=by simpa using t1'
       by_cases hn0:0<n
       ·have N:=uU (show ¬R5 x from λr=>by have:=(r.2.1 k hlt).2.1 t1';have:=uH hc;omega);clear t1';go_wp2_with fail;go_ret;exact⟨false,rfl,⟨λf=>by simp at f,λr=>(N r).elim⟩,hx2⟩
       ·have hz:Hid (cnt x.D k=0):=by have:=uH hc;show _=_;omega
        cases t2:((x.c k).J == 2)
        ·have S:=uU (ST ⟨λe=>absurd e t1',λ_=>uH hz,λe=>by simp [e] at t2⟩);clear t1';go_wp2_with fail;go_roundw
         case rel=>exact⟨k+1,by omega,by go_num,S,hx2⟩
         case measure=>simp [intOf];omega
        ·have S:=uU (ST ⟨λe=>absurd e t1',λ_=>uH hz,λ_=>Or.inl MK⟩);clear t1';go_wp2_with fail;go_roundw
         case rel=>exact⟨k+1,by omega,by go_num,S,hx2⟩
         case measure=>simp [intOf];omega
      ·have t1':(x.c k).J=1:=by simpa using t1
       have t1b:((x.c k).J != 1)=false:=by simp [t1']
       have t1c:((x.c k).J == 2)=false:=by simp [t1']
       have TC:=uU t1';clear t1';by_cases hn1:n=1
       ·have hn2:((n:Int) != 1)=false:=by simp [hn1]
        have S:=uU (ST ⟨λ_=>by have:=uH hc;omega,λe=>absurd TC e,λe=>by have:=uH TC;omega⟩);clear hn1;go_wp2_with fail;go_roundw
        case rel=>exact⟨k+1,by omega,by go_num,S,hx2⟩
        case measure=>simp [intOf];omega
       ·have hn2:((n:Int) != 1)=true:=by simp;omega
        have N:=uU (show ¬R5 x from λr=>by have:=(r.2.1 k hlt).1 TC;have:=uH hc;omega);clear hn1;go_wp2_with fail;go_ret;exact⟨false,rfl,⟨λf=>by simp at f,λr=>(N r).elim⟩,hx2⟩
   ·have A1:=uU (show ∀j,j<x.A.length->eK x j from λj hj=>uH HA j (by omega));have d8:=(h.ext hbl).c8;go_wp2_with fail;clear hlt hk HA;go_loopw [102] (λi wr2=>∃l:Nat,l<=x.D.length/\i=.int .i64 l/\(∀j (hj:j<x.D.length),j<l->0<=x.D[j]/\x.D[j]<x.A.length)/\Ext w wr2) (λi _=>x.D.length-(intOf i).toNat)
    case atStart=>exact⟨0,Nat.zero_le _,rfl,λj hj h=>by omega,hbl⟩
    case round=>
     clear hbl d8;obtain⟨l,hl,rfl,hall,hx2⟩:=hrel;have HB:=uU hall;clear hall;by_cases hl2:l<x.D.length
     ·obtain⟨bg,og,rfl,pg⟩:=(h.ext hx2).G l hl2;unfold a6w at pg;simp only [Nat.mul_one] at pg;have d4:=(h.ext hx2).c4;have hl0:(0:Int)<=(l:Int):=by omega
      have hl1:(l:Int)<(x.D.length:Int):=by omega
      by_cases t1:x.D[l]<0
      ·have N:=uU (show ¬R5 x from λr=>by have:=r.2.2 x.D[l] (List.getElem_mem hl2);omega);go_wp2_with fail;go_ret
       first | (exact Or.inl ⟨rfl,N,hx2⟩) | (exact⟨false,rfl,⟨λf=>by simp at f,λr=>(N r).elim⟩,hx2⟩)
      ·by_cases t2:(x.A.length:Int)<=x.D[l]
       ·have N:=uU (show ¬R5 x from λr=>by have:=r.2.2 x.D[l] (List.getElem_mem hl2);omega);go_wp2_with fail;go_ret
        first | (exact Or.inl ⟨rfl,N,hx2⟩) | (exact⟨false,rfl,⟨λf=>by simp at f,λr=>(N r).elim⟩,hx2⟩)
       ·have S:=uU (show ∀j (hj:j<x.D.length),j<l+1->0<=x.D[j]/\x.D[j]<x.A.length from λj hj hjl=>by
         by_cases e:j=l
         ·subst e;omega
         ·exact HB j hj (by omega))
        go_wp2_with fail;go_roundw
        case rel=>exact⟨l+1,by omega,by go_num,S,hx2⟩
        case measure=>simp [intOf];omega
     ·have Y:=uU (show R5 x from⟨G0,A1,λg hg=>by
       obtain⟨j,hj,rfl⟩:=List.getElem_of_mem hg;exact HB j hj (by omega)⟩)
      go_wp2_with fail;go_ret;exact⟨true,rfl,⟨λ_=>uH Y,λ_=>rfl⟩,hx2⟩
theorem c3s(x:Hp)(b:Nat)(w:World)(h:HAt w b x ar kr ac kc ag kg)(q1:(x.E == 1)=false)(q2:(x.E == 2)=false):
  Calls prog 130 #[pP b] w λe w'=>∃r:Bool,e=.returned (.bool r)/\(r=true↔R5 x)/\Ext w w':=by
 have MK:=uU (show ¬uY x from λh=>by rcases h with h | h <;> simp [h] at q1 q2);have c4:=h.c4;have c5:=h.c5;have c8:=h.c8;have lc:=h.lc;have lg:=h.lg;by_cases O:0<x.D.length
 ·have N:=uU (show ¬R5 x from λr=>by have:=r.1 MK;omega);go_enter func130,ntmps130;go_wp2_with fail;go_ret;exact⟨false,rfl,⟨λf=>by simp at f,λr=>(N r).elim⟩,Ext.refl _⟩
 have G0:=uU (show ¬uY x->x.D.length=0 from λ_=>by omega);go_enter func130,ntmps130;go_wp2_with fail;clear O;go_loopw [38] (λi wr=>∃k:Nat,k<=x.A.length/\i=iv k/\(∀j,j<k->eK x j)/\Ext w wr) (λi _=>x.A.length-(intOf i).toNat)
 case atStart=>exact⟨0,Nat.zero_le _,rfl,λj h=>by omega,Ext.refl _⟩
 case round=>
  obtain⟨k,hk,rfl,p,s⟩:=hrel;have HA:=uU p;clear p;by_cases u:k<x.A.length
  ·obtain⟨b',o,ap,kp,rfl,p0,p1,p2,p3,p4,p5,p6,p7,lp,P⟩:=(h.ext s).cell k u;clear P;have E:=(h.ext s).c8;have ai:b'<wr.heap.size:=uL p0;have hb:b<wr.heap.size:=uL E;have ah:(0:Int)<=(k:Int):=by omega
   have ad:(k:Int)<(x.A.length:Int):=by omega
   have F:=s.alloc (.cells #[iv (x.c k).st,iv (x.c k).kind,iv (x.c k).T,iv (x.c k).U,iv (x.c k).born,iv (x.c k).J,iv (x.c k).to,.slice ap (x.c k).F.length kp] 62)
   have T:=uU (show eK x k->∀j,j<k+1->eK x j from λhn j A=>by
    by_cases e:j=k
    ·subst e;exact hn
    ·exact HA j (by omega))
   go_wp2_with fail;obtain⟨WO,U⟩:∃W:World,W=wr:=⟨_,rfl⟩;subst U;go_loopw [6,48] (λnv i z=>∃l n:Nat,l<=x.D.length/\i=iv l/\nv=iv n/\n<=l/\Hid (n=(x.D.take l).count (k:Int))/\Ext w z/\Ext (WO.alloc (.cells #[iv (x.c k).st,iv (x.c k).kind,iv (x.c k).T,iv (x.c k).U,iv (x.c k).born,iv (x.c k).J,iv (x.c k).to,.slice ap (x.c k).F.length kp] 62)) z) (λ_ i _=>x.D.length-(intOf i).toNat)
   case atStart=>exact⟨0,0,Nat.zero_le _,rfl,rfl,by omega,by show _=_;simp,F,Ext.refl _⟩
   case round=>
    obtain⟨l,n,hl,rfl,rfl,hn,q,a,B⟩:=hrel;by_cases y:l<x.D.length
    ·obtain⟨bg,og,rfl,D⟩:=(h.ext a).G l y;unfold a6w at D;simp only [Nat.mul_one] at D;clear p0 p1 p2 p3 p4 p5 p6 p7 E;have R:(0:Int)<=(l:Int):=by omega
     have aa:(l:Int)<(x.D.length:Int):=by omega
     have I:=b4o x.D k l y;cases t:(x.D[l] == (k:Int))
     ·have H:Hid (n=(x.D.take (l+1)).count (k:Int)):=by have:=uH q;show _=_;rw[I,t];simpa using this
      clear I;go_wp2_with fail;go_roundw
      case rel=>exact⟨l+1,n,by omega,by go_num,rfl,by omega,H,a,B⟩
      case measure=>simp [intOf];omega
     ·have H:Hid (n+1=(x.D.take (l+1)).count (k:Int)):=by have:=uH q;show _=_;rw[I,t,<-this];simp
      clear I;go_wp2_with fail;go_roundw
      case rel=>exact⟨l+1,n+1,by omega,by go_num,by go_num,by omega,H,a,B⟩
      case measure=>simp [intOf];omega
    ·have K:=uU (show n=cnt x.D k by have:=uH q;rw[List.take_of_length_le (by omega)] at this;exact this);have f5:=B.keep (b:=WO.heap.size) (o:=5) (v:=iv (x.c k).J) (by simp [go_sem]);have d5:=(h.ext a).c5;have d6:=(h.ext a).c6;clear p0 p1 p2 p3 p4 p5 p6 p7 E q;cases M:((x.c k).J == 1)
     ·have d:(x.c k).J≠1:=by simpa using M
      have V:((x.c k).J != 1)=true:=by simpa using d
      by_cases ab:0<n
      ·have N:=uU (show ¬R5 x from λr=>by have:=(r.2.1 k u).2.1 d;have:=uH K;omega);clear d;go_wp2_with fail;go_ret;exact⟨false,rfl,⟨λf=>by simp at f,λr=>(N r).elim⟩,a⟩
      ·have hz:Hid (cnt x.D k=0):=by have:=uH K;show _=_;omega
       cases L:((x.c k).J == 2)
       ·have S:=uU (T ⟨λe=>absurd e d,λ_=>uH hz,λe=>by simp [e] at L⟩);clear d;go_wp2_with fail;go_roundw
        case rel=>exact⟨k+1,by omega,by go_num,S,a⟩
        case measure=>simp [intOf];omega
       ·cases J:(x.E == 3)
        ·have Q:(x.E != 3)=true:=by simpa using J
         have N:=uU (show ¬R5 x from λr=>by
          rcases (r.2.1 k u).2.2 (by simpa using L) with m | m
          ·exact MK m
          ·simp [m.1] at J)
         clear d;go_wp2_with fail;go_ret;exact⟨false,rfl,⟨λf=>by simp at f,λr=>(N r).elim⟩,a⟩
        ·have Q:(x.E != 3)=false:=by simpa using J
         by_cases t4:(k:Int)<x.I
         ·have N:=uU (show ¬R5 x from λr=>by
           rcases (r.2.1 k u).2.2 (by simpa using L) with m | m
           ·exact MK m
           ·omega)
          clear d;go_wp2_with fail;go_ret;exact⟨false,rfl,⟨λf=>by simp at f,λr=>(N r).elim⟩,a⟩
         ·have S:=uU (T ⟨λe=>absurd e d,λ_=>uH hz,λ_=>Or.inr ⟨by simpa using J,by omega⟩⟩);clear d;go_wp2_with fail;go_roundw
          case rel=>exact⟨k+1,by omega,by go_num,S,a⟩
          case measure=>simp [intOf];omega
     ·have d:(x.c k).J=1:=by simpa using M
      have V:((x.c k).J != 1)=false:=by simp [d]
      have af:((x.c k).J == 2)=false:=by simp [d]
      have X:=uU d;clear d;by_cases C:n=1
      ·have Z:((n:Int) != 1)=false:=by simp [C]
       have S:=uU (T ⟨λ_=>by have:=uH K;omega,λe=>absurd X e,λe=>by have:=uH X;omega⟩);clear C;go_wp2_with fail;go_roundw
       case rel=>exact⟨k+1,by omega,by go_num,S,a⟩
       case measure=>simp [intOf];omega
      ·have Z:((n:Int) != 1)=true:=by simp;omega
       have N:=uU (show ¬R5 x from λr=>by have:=(r.2.1 k u).1 X;have:=uH K;omega);clear C;go_wp2_with fail;go_ret;exact⟨false,rfl,⟨λf=>by simp at f,λr=>(N r).elim⟩,a⟩
  ·have A1:=uU (show ∀j,j<x.A.length->eK x j from λj A=>uH HA j (by omega));have E:=(h.ext s).c8;go_wp2_with fail;clear u hk HA;go_loopw [102] (λi z=>∃l:Nat,l<=x.D.length/\i=iv l/\(∀j (A:j<x.D.length),j<l->0<=x.D[j]/\x.D[j]<x.A.length)/\Ext w z) (λi _=>x.D.length-(intOf i).toNat)
   case atStart=>exact⟨0,Nat.zero_le _,rfl,λj A h=>by omega,s⟩
   case round=>
    clear s E;obtain⟨l,hl,rfl,p,a⟩:=hrel;have HB:=uU p;clear p;by_cases y:l<x.D.length
    ·obtain⟨bg,og,rfl,D⟩:=(h.ext a).G l y;unfold a6w at D;simp only [Nat.mul_one] at D;have d4:=(h.ext a).c4;have R:(0:Int)<=(l:Int):=by omega
     have aa:(l:Int)<(x.D.length:Int):=by omega
     by_cases M:x.D[l]<0
     ·have N:=uU (show ¬R5 x from λr=>by have:=r.2.2 x.D[l] (List.getElem_mem y);omega);go_wp2_with fail;go_ret
      first | (exact Or.inl ⟨rfl,N,a⟩) | (exact⟨false,rfl,⟨λf=>by simp at f,λr=>(N r).elim⟩,a⟩)
     ·by_cases L:(x.A.length:Int)<=x.D[l]
      ·have N:=uU (show ¬R5 x from λr=>by have:=r.2.2 x.D[l] (List.getElem_mem y);omega);go_wp2_with fail;go_ret
       first | (exact Or.inl ⟨rfl,N,a⟩) | (exact⟨false,rfl,⟨λf=>by simp at f,λr=>(N r).elim⟩,a⟩)
      ·have S:=uU (show ∀j (A:j<x.D.length),j<l+1->0<=x.D[j]/\x.D[j]<x.A.length from λj A ae=>by
        by_cases e:j=l
        ·subst e;omega
        ·exact HB j A (by omega))
       go_wp2_with fail;go_roundw
       case rel=>exact⟨l+1,by omega,by go_num,S,a⟩
       case measure=>simp [intOf];omega
    ·have Y:=uU (show R5 x from⟨G0,A1,λg O=>by
      obtain⟨j,A,rfl⟩:=List.getElem_of_mem O;exact HB j A (by omega)⟩)
     go_wp2_with fail;go_ret;exact⟨true,rfl,⟨λ_=>uH Y,λ_=>rfl⟩,a⟩
theorem cL(h:qL op a b c n=true):(1<=op/\op<=24)/\(0<=a/\a<=zJ op)/\(0<=b/\b<=tU op)/\(0<=c/\c<=tC op):=by grind [qL,zJ,tU,tC]
theorem b8o(x:Hp)(b:Nat)(w:World)(h:HAt w b x ar kr ac kc ag kg):
  Calls prog 130 #[.pointer (some ⟨b,0,none⟩)] w λe w'=>∃r:Bool,e=.returned (.bool r)/\(r=true↔R5 x)/\Ext w w':=by
 cases q1:(x.E == 1)
 ·cases q2:(x.E == 2)
  ·exact c3s x b w h q1 q2
  ·exact b4p x b w h (.inr ⟨q1,q2⟩)
 ·exact b4p x b w h (.inl q1)
end Go.Proofs.YtddkhnclmeikfaaGreat
