import Derived.Test.YtddkhnclmeikfaaGreatSmA
import Derived.Laws.Bits64b
import Derived.OwnWalk
set_option maxRecDepth 100000
set_option maxHeartbeats 2000000
namespace Go.Proofs.YtddkhnclmeikfaaGreat
open Go.RowKit
attribute [local go_sem ↓] Go.wp_at_zero Go.wp_at_succ
variable{w w' w0 w2 W:World}{g B c m b bs q k lf kr kc base n lo hi kg cap j:Nat}{x:Hp}{S T:Nat->Prop}{va v':Value}{ar ac ag:Option Addr}{L:List Int}{o:Obj}
theorem a9q(h:w.heap[q]?=some o):q<w.heap.size:=by
 rcases Nat.lt_or_ge q w.heap.size with l | l
 ·exact l
 ·rw[Array.getElem?_eq_none l] at h;cases h
theorem GAt.far{z z2:Nat->Option Obj}{vg:Value}{br bc:Nat}{pb:Nat->Nat}{pa:Nat->Option Addr}{pk:Nat->Nat}{role role':Nat->Nat}(h:@GAt ⟨⟨z⟩⟩ B w g x ar kr ac kc vg br bc pb pa pk role)(hs:w.heap.size<=w'.heap.size)(far:∀q,q<w.heap.size->role q≠1->w'.heap[q]?=w.heap[q]?)(hr:∀q,q<w.heap.size->role q≠1->role' q=role q)(hp:∀q o,z2 q=some o->role' q=1/\w'.heap[q]?=some o):@GAt ⟨⟨z2⟩⟩ B w' g x ar kr ac kc vg br bc pb pa pk role':=by
 obtain⟨bx,nf,lo,ha,hc,rs,gr,sp,kl,_,cc⟩:=h;have fg:=far g nf.1 (by rw[sp.g];omega)
 letI:Inhabited uN:=⟨⟨z2⟩⟩
 refine⟨bx.block fg,hY nf fg hs,lo,ha,hc,rs.same hs (λhl=>far br (rs.nr hl).1.1 (by rw[sp.r hl];omega)) (λhl=>far bc (rs.nc hl).1.1 (by rw[sp.c hl];omega)) (λq hq hl=>far (pb q) (rs.pl q hq hl).2.1.1 (by rw[sp.p q hq hl];omega)),gr.block (λq hq=>far q (gr.lt q hq).2 (by rw[sp.y q hq];omega)),⟨?_,λhl=>?_,λhl=>?_,λq hq=>?_,λq hq hl=>?_⟩,kl,hp,λhk=>(cc hk).block (hr bc (cc hk).nf.1 (by rw[(cc hk).ro];omega)) (far bc (cc hk).nf.1 (by rw[(cc hk).ro];omega)) hs⟩
 ·rw[hr g nf.1 (by rw[sp.g];omega)];exact sp.g
 ·rw[hr br (rs.nr hl).1.1 (by rw[sp.r hl];omega)];exact sp.r hl
 ·rw[hr bc (rs.nc hl).1.1 (by rw[sp.c hl];omega)];exact sp.c hl
 ·rw[hr q (gr.lt q hq).2 (by rw[sp.y q hq];omega)];exact sp.y q hq
 ·rw[hr (pb q) (rs.pl q hq hl).2.1.1 (by rw[sp.p q hq hl];omega)];exact sp.p q hq hl
theorem GOk.guard{z z2:Nat->Option Obj}(h:@GOk ⟨⟨z⟩⟩ B w0 g x)(e:Ext w0 w)(hz:∀q o,z2 q=some o->z q=some o\/(w0.heap.size<=q/\w.heap[q]?=some o)):@GOk ⟨⟨z2⟩⟩ B w g x:=by
 obtain⟨ar,kr,ac,kc,vg,br,bc,pb,pa,pk,role,h⟩:=h;have h0:=h;obtain⟨_,_,_,_,_,_,_,_,_,pr,_⟩:=h0;refine⟨ar,kr,ac,kc,vg,br,bc,pb,pa,pk,λq=>if w0.heap.size<=q then 1 else role q,GAt.far h e.size (λq hq _=>e.block q hq) (λq hq _=>if_neg (by omega)) (λq o hq=>?_)⟩;rcases hz q o hq with a | ⟨a,b⟩
 ·obtain⟨h1,h2⟩:=pr q o a;have hl:=a9q h2;exact⟨by show(if w0.heap.size<=q then 1 else role q)=1;rw[if_neg (by omega)];exact h1,(e.block q hl).trans h2⟩
 ·exact⟨if_pos a,b⟩
structure Own(p:Inhabited uN)(lo hi:Nat)(c:World)(p1:Inhabited uN):Prop where
 z:∀q,(@default uN p1).z q=if lo<=q/\q<hi then c.heap[q]? else (@default uN p).z q
 l:∀q o,(@default uN p).z q=some o->q<lo
 h:hi<=c.heap.size
theorem Own.make(p:Inhabited uN)(lo hi:Nat)(c:World)(l:∀q o,(@default uN p).z q=some o->q<lo)(h:hi<=c.heap.size):∃p1,Own p lo hi c p1:=⟨⟨⟨λq=>if lo<=q/\q<hi then c.heap[q]? else (@default uN p).z q⟩⟩,λ_=>rfl,l,h⟩
theorem a4p(h:q<w.heap.size):∃o,w.heap[q]?=some o:=⟨_,Array.getElem?_eq_getElem h⟩
theorem GOk.enter{p:Inhabited uN}(h:@GOk p B w g x)(e:Ext w w0):∃p1,Own p w.heap.size w0.heap.size w0 p1/\@GOk p1 B w0 g x:=by
 have h0:=h;obtain⟨ar,kr,ac,kc,vg,br,bc,pb,pa,pk,role,h0⟩:=h0;obtain⟨_,_,_,_,_,_,_,_,_,pr,_⟩:=h0;obtain⟨p1,hp⟩:=Own.make p w.heap.size w0.heap.size w0 (λq o hq=>a9q (pr q o hq).2) (Nat.le_refl _);refine⟨p1,hp,GOk.guard (z:=(@default uN p).z) (z2:=(@default uN p1).z) h e (λq o hq=>?_)⟩;rw[hp.z] at hq
 split at hq
 ·rename_i c;exact .inr ⟨c.1,hq⟩
 ·exact .inl hq
theorem GOk.own{p p1:Inhabited uN}{c:World}(o:Own p lo hi c p1)(h:@GOk p1 B w g x):∀q,lo<=q->q<hi->w.heap[q]?=c.heap[q]?:=λq h1 h2=>by
 obtain⟨ar,kr,ac,kc,vg,br,bc,pb,pa,pk,role,h⟩:=h;obtain⟨_,_,_,_,_,_,_,_,_,pr,_⟩:=h;obtain⟨ob,hb⟩:=a4p (w:=c) (q:=q) (by have:=o.h;omega);have:=(pr q ob (by rw[o.z q,if_pos ⟨h1,h2⟩];exact hb)).2;rw[this,hb]
theorem GOk.owns{p p1 p2:Inhabited uN}{c:World}(o:Own p lo hi c p1)(h:@GOk p1 B w g x)(on:uX (λq=>lo<=q/\q<hi) w w')(hz:∀q ob,(@default uN p2).z q=some ob->(lo<=q/\q<hi/\w'.heap[q]?=some ob)\/(¬(lo<=q/\q<hi)/\(@default uN p).z q=some ob)):@GOk p2 B w' g x:=by
 obtain⟨ar,kr,ac,kc,vg,br,bc,pb,pa,pk,role,h⟩:=h;have h0:=h;obtain⟨_,_,_,_,_,_,_,_,_,pr,_⟩:=h0
 have r1:∀q,lo<=q->q<hi->role q=1:=λq h1 h2=>by
  obtain⟨ob,hb⟩:=a4p (w:=c) (q:=q) (by have:=o.h;omega);exact(pr q ob (by rw[o.z q,if_pos ⟨h1,h2⟩];exact hb)).1
 refine⟨ar,kr,ac,kc,vg,br,bc,pb,pa,pk,role,GAt.far (z:=(@default uN p1).z) (z2:=(@default uN p2).z) h on.size (λq hq hn=>on.block q hq (λe=>hn (r1 q e.1 e.2))) (λ_ _ _=>rfl) (λq o2 hq=>?_)⟩;rcases hz q o2 hq with⟨a,b,d⟩ | ⟨a,d⟩
 ·exact⟨r1 q a b,d⟩
 ·obtain⟨h1,h2⟩:=pr q o2 (by rw[o.z q,if_neg a];exact d);exact⟨h1,(on.block q (a9q h2) a).trans h2⟩
theorem GOk.leave{p p1:Inhabited uN}{c:World}(o:Own p lo hi c p1)(h:@GOk p1 B w g x)(on:uX (λq=>lo<=q/\q<hi) w w'):@GOk p B w' g x:=
 GOk.owns o h on (λq ob hq=>.inr ⟨λhc=>by have:=o.l q ob hq;omega,hq⟩)
structure Ak where
 op:Int
 a:Int
 b:Int
 c:Int
 n:Int
abbrev Ak.v(x:Ak):Value:=.agg #[iv x.op,iv x.a,iv x.b,iv x.c,iv x.n]
def fA(y:Ak):List Value:=[iv y.op,iv y.a,iv y.b,iv y.c,iv y.n]
def Cu(v w:World)(c m:Nat):Prop:=Ext v w/\v.heap.size<=c/\Nf1 c w/\∃(ad:Option Addr) (n k:Nat) (a s:Int),w.cell? ⟨c,0,none⟩=some (.slice ad n k)/\w.cell? ⟨c,1,none⟩=some (iv a)/\w.cell? ⟨c,2,none⟩=some (.int .u64 s)/\0<=a/\a<=m/\n<=1048576/\∀i,i<n->∃b o z,ad=some ⟨b,o,none⟩/\v.cell? ⟨b,o+i,none⟩=some (.int .u8 z)/\0<=z/\z<256
theorem Cu.drew{v:World}(h:Cu v w c m):Cu v w.drew c m:=by
 obtain⟨e,l,nf,ad,n,k,a,s,c0,c1,c2,r⟩:=h;exact⟨e.drew,l,nf,ad,n,k,a,s,c0,c1,c2,r⟩
theorem Cu.put1{v:World}(h:Cu v w c m){i:Int}(h0:0<=i)(hk:i<=k):Cu v (w.setCell ⟨c,1,none⟩ (iv i)) c k:=by
 obtain⟨e,l,nf,ad,n,k,a,s,c0,c1,c2,_,_,r⟩:=h;exact⟨e.setCell l _,l,nf.set _ _,ad,n,k,i,s,by rw[uC _ (.inr (by omega))];exact c0,yU.same ⟨⟨_,c1⟩,nf.2 1⟩ _,by rw[uC _ (.inr (by omega))];exact c2,h0,hk,r⟩
theorem Cu.put2{v:World}(h:Cu v w c m)(u:Int):Cu v (w.setCell ⟨c,2,none⟩ (.int .u64 u)) c m:=by
 obtain⟨e,l,nf,ad,n,k,a,s,c0,c1,c2,r⟩:=h;exact⟨e.setCell l _,l,nf.set _ _,ad,n,k,a,u,by rw[uC _ (.inr (by omega))];exact c0,by rw[uC _ (.inr (by omega))];exact c1,yU.same ⟨⟨_,c2⟩,nf.2 2⟩ _,r⟩
def b9m(v w:World)(c m:Nat)(n:Int)(e:Ending)(w':World):Prop:=∃r:Int,Hid (e=.returned (iv r))/\0<=r/\r<n/\Hid (Cu v w' c m)/\Hid (uX (λq=>q=c) w w')
theorem and255(x:Int)(n:Nat):0<=wrap64 (bits .and .u64 (IntKind.u64.wrap x / n) 255)/\wrap64 (bits .and .u64 (IntKind.u64.wrap x / n) 255)<256:=by
 have h0:0<=IntKind.u64.wrap x/\IntKind.u64.wrap x<18446744073709551616:=by rw[IntKind.wrap_u64];omega
 obtain⟨k,hk⟩:∃k:Nat,IntKind.u64.wrap x=k:=⟨(IntKind.u64.wrap x).toNat,by omega⟩;rw[hk] at h0 ⊢;have e:((k:Int) / (n:Int))=((k / n:Nat):Int):=by simp
 have hd:k / n<=k:=Nat.div_le_self _ _;have h2:=bits_and_u64_nat (k / n) 255 (by omega) (by omega);rw[e,show(255:Int)=((255:Nat):Int) from rfl,h2];have h3:k / n &&& 255<=255:=Nat.and_le_right;unfold wrap64;omega
theorem b7a(v w:World)(c m:Nat)(h:Cu v w c m)(hm:m<=1000000000):
  Calls Tryz.prog 98 #[.pointer (some ⟨c,0,none⟩)] w λe w'=>b9m v w c (m+1) 256 e w':=by
 have H:=uU h;obtain⟨e,l,nf,ad,n,k,a,s,c0,c1,c2,a0,am,hn,hx⟩:=h;have hc:c<w.heap.size:=nf.1;have f1:=nf.2 1;have f2:=nf.2 2;by_cases hl:a<n
 ·obtain⟨b,o,z,rfl,hz,z0,z1⟩:=hx a.toNat (by omega);have hb:=e.keep hz;have hbv:b<v.heap.size:=uL hz;have hbc:¬b=c:=by omega
  obtain⟨i,rfl⟩:∃i:Nat,a=i:=⟨a.toNat,by omega⟩;simp only [Int.toNat_natCast] at hb;have hb2:b<w.heap.size:=uL hb;clear hx hz e;go_enter Tryz.func98,Tryz.ntmps98;go_wp2_with fail
  go_region
  go_wp2_with fail
  go_region
  go_wp2_with fail;go_ret;exact⟨z,rfl,z0,z1,((H.put1 (by omega) (by omega)).put2 _).drew.drew,(((uX.refl _ w).setCell (by rfl) _).setCell (by rfl) _).drew.drew⟩
 ·have hl2:(a<(n:Int))=False:=by simp;omega
  clear hx e;go_enter Tryz.func98,Tryz.ntmps98;go_wp2_with fail
  go_region
  go_wp2_with fail;have B:=and255 (IntKind.u64.wrap (s*6364136223846793005)+1442695040888963407) 1099511627776;go_ret;exact⟨_,rfl,B.1,B.2,((H.put2 _).put1 (by omega) (by omega)).drew,(((uX.refl _ w).setCell (by rfl) _).setCell (by rfl) _).drew⟩
theorem Cu.more{v:World}(h:Cu v w c m)(hk:m<=k):Cu v w c k:=by
 obtain⟨e,l,nf,ad,n,q,a,s,c0,c1,c2,a0,am,r⟩:=h;exact⟨e,l,nf,ad,n,q,a,s,c0,c1,c2,a0,by omega,r⟩
theorem c5k(v w:World)(c m:Nat)(n:Int)(h:Cu v w c m)(hm:m<=999999999)(hn:n<=1000000)(h1:-1000000<=n):
  Calls Tryz.prog 54 #[.pointer (some ⟨c,0,none⟩),iv n] w λe w'=>b9m v w c (m+2) (if n<=1 then 1 else n) e w':=by
 have H:=uU h;have Q:=uU (b7a v w c m h (by omega));clear h;by_cases hl:n<=1
 ·rw[if_pos hl];have e1:(n<=1)=True:=by simp [hl]
  go_enter Tryz.func54,Tryz.ntmps54;go_wp2_with fail;go_ret;exact⟨0,rfl,by omega,by omega,H.more (by omega),uX.refl _ _⟩
 ·rw[if_neg hl];by_cases h2:n > 200
  ·go_enter Tryz.func54,Tryz.ntmps54;go_wp2_with fail;refine Q.mono ?_;rintro e w1 ⟨r,he,r0,r1,q1,o1⟩;have e2:=uH he;subst e2;have Q2:=uU (b7a v w1 c (m+1) q1 (by omega));go_wp2_with fail;refine Q2.mono ?_;rintro e w2 ⟨t,he,t0,t1,q2,o2⟩;have e2:=uH he;subst e2;go_wp2_with fail;go_ret;exact⟨_,rfl,Int.emod_nonneg _ (by omega),Int.emod_lt_of_pos _ (by omega),q2,o1.trans o2⟩
  ·go_enter Tryz.func54,Tryz.ntmps54;go_wp2_with fail;refine Q.mono ?_;rintro e w1 ⟨r,he,r0,r1,q1,o1⟩;have e2:=uH he;subst e2;go_wp2_with fail;go_ret;exact⟨_,rfl,Int.emod_nonneg _ (by omega),Int.emod_lt_of_pos _ (by omega),q1.more (by omega),o1⟩
theorem b5e(v w:World)(c m:Nat)(n:Int)(h:Cu v w c m)(hm:m<=999999999)(hn:n<=1000000)(h1:1<=n):
  Calls Tryz.prog 54 #[.pointer (some ⟨c,0,none⟩),iv n] w λe w'=>b9m v w c (m+2) n e w':=by
 have:=c5k v w c m n h hm hn (by omega);have e:(if n<=1 then 1 else n)=n:=by split <;> omega
 rw[e] at this;exact this
def c2h(v w:World)(c m:Nat)(e:Ending)(w':World):Prop:=∃r:Int,Hid (e=.returned (iv r))/\Hid (-9223372036854775808<=r/\r<=9223372036854775807)/\Hid (Cu v w' c m)/\Hid (uX (λq=>q=c) w w')
theorem c2i(v w:World)(c m:Nat)(h:Cu v w c m)(hm:m<=99999999):
  Calls Tryz.prog 196 #[.pointer (some ⟨c,0,none⟩)] w λe w'=>c2h v w c (m+4) e w':=by
 have Q:=uU (b5e v w c m 6 h (by omega) (by omega) (by omega));go_enter Tryz.func196,Tryz.ntmps196;go_wp2_with fail;refine Q.mono ?_;rintro e w1 ⟨r,he,r0,r1,q1,o1⟩;have e2:=uH he;subst e2;have K:=uU (λ(n:Int) (h1:1<=n) (h2:n<=1000000)=>b5e v w1 c (m+2) n q1 (by omega) h2 h1);go_wp2_with fail
 all_goals
  refine(K _ (by omega) (by omega)).mono ?_;rintro e w2 ⟨t,he,t0,t1,q2,o2⟩;have e2:=uH he;subst e2;go_wp2_with fail;go_ret;exact⟨_,rfl,⟨by omega,by omega⟩,q2,o1.trans o2⟩
def GG(S:Nat->Prop)(B:Nat)(w:World)(g:Nat)(x:Hp):Prop:=∃z:Nat->Option Obj,(∀q,S q->∃o,z q=some o)/\@GOk ⟨⟨z⟩⟩ B w g x
theorem GOk.prt{p:Inhabited uN}(h:@GOk p B w g x)(hq:(@default uN p).z q=some o):w.heap[q]?=some o:=by
 obtain⟨ar,kr,ac,kc,vg,br,bc,pb,pa,pk,role,h⟩:=h;exact(h.pr q o hq).2
theorem GG.lt(h:GG S B w g x)(hq:S q):q<w.heap.size:=by
 obtain⟨z,hz,h⟩:=h;obtain⟨o,ho⟩:=hz q hq;exact a9q (h.prt ho)
theorem GG.call(h:GG S B w g x):∃p:Inhabited uN,@GOk p B w g x/\∀w' y,@GOk p B w' g y->GG S B w' g y/\∀q,S q->w'.heap[q]?=w.heap[q]?:=by
 obtain⟨z,hz,h⟩:=h;refine⟨⟨⟨z⟩⟩,h,λw' y h'=>⟨⟨z,hz,h'⟩,λq hq=>?_⟩⟩;obtain⟨o,ho⟩:=hz q hq;rw[h'.prt ho,h.prt ho]
theorem GG.turn(h:GG S B w g x)(on:uX S w w')(hs:∀q,T q->S q\/(w.heap.size<=q/\q<w'.heap.size)):GG T B w' g x:=by
 obtain⟨z,hz,ar,kr,ac,kc,vg,br,bc,pb,pa,pk,role,h⟩:=h;have h0:=h;obtain⟨_,_,_,_,_,_,_,_,_,pr,_⟩:=h0;refine⟨λq=>if w.heap.size<=q\/(z q).isSome then w'.heap[q]? else none,λq hq=>?_,ar,kr,ac,kc,vg,br,bc,pb,pa,pk,λq=>if w.heap.size<=q then 1 else role q,GAt.far h on.size (λq hq hn=>on.block q hq (λe=>?_)) (λq hq _=>if_neg (by omega)) (λq o hq=>?_)⟩
 ·rcases hs q hq with a | ⟨a,b⟩
  ·obtain⟨o,ho⟩:=hz q a;simp only [ho,Option.isSome_some,or_true,if_true];exact a4p (Nat.lt_of_lt_of_le (a9q (pr q o ho).2) on.size)
  ·simp only [a,true_or,if_true];exact a4p b
 ·obtain⟨o,ho⟩:=hz q e;exact hn (pr q o ho).1
 ·split at hq
  ·rename_i c;refine⟨?_,hq⟩;by_cases hw:w.heap.size<=q
   ·exact if_pos hw
   ·obtain⟨o2,ho⟩:=Option.isSome_iff_exists.1 (c.resolve_left hw);show(if w.heap.size<=q then 1 else role q)=1;rw[if_neg hw];exact(pr q o2 ho).1
  ·cases hq
theorem GG.more(h:GG S B w g x)(e:Ext w w')(hs:∀q,T q->S q\/(w.heap.size<=q/\q<w'.heap.size)):GG T B w' g x:=h.turn (uX.of_ext e) hs
theorem GG.poke{P:Nat->Prop}(h:GG S B w g x)(on:uX P w w')(hp:∀q,P q->S q):GG S B w' g x:=h.turn (on.mono hp) (λ_ hq=>.inl hq)
theorem a0r{o:Nat}(h:w'.heap[b]?=w.heap[b]?):w'.cell? ⟨b,o,none⟩=w.cell? ⟨b,o,none⟩:=World.cell?_of_block h
theorem a8t(h:Nf1 b w)(hb:w'.heap[b]?=w.heap[b]?):Nf1 b w':=by
 obtain⟨o,ho⟩:=a4p h.1;exact⟨a9q (hb.trans ho),λj=>by rw[World.frozen?_of_block (a:=⟨b,j,none⟩) hb];exact h.2 j⟩
theorem Cu.blk{v:World}(h:Cu v w c m)(e:Ext v w')(hb:w'.heap[c]?=w.heap[c]?):Cu v w' c m:=by
 obtain⟨_,l,nf,ad,n,k,a,s,c0,c1,c2,r⟩:=h;exact⟨e,l,a8t nf hb,ad,n,k,a,s,(a0r hb).trans c0,(a0r hb).trans c1,(a0r hb).trans c2,r⟩
def AkFit(x:Ak):Prop:=(-9223372036854775808<=x.op/\x.op<=9223372036854775807)/\(-9223372036854775808<=x.a/\x.a<=9223372036854775807)/\(-9223372036854775808<=x.b/\x.b<=9223372036854775807)/\(-9223372036854775808<=x.c/\x.c<=9223372036854775807)/\(-9223372036854775808<=x.n/\x.n<=9223372036854775807)
structure Bp(B:Nat)(v w:World)(b c g m:Nat)(x:Hp)(L:List Ak)(va:Value)(lf:Nat):Prop where
 s:Snd x
 hL:∀a,a∈L->AkFit a
 hl:L.length+lf<=400
 cu:Cu v w c m
 vB:v.heap.size<=B
 vb:v.heap.size<=b
 bc:b≠c
 nf:Nf1 b w
 b0:w.cell? ⟨b,0,none⟩=some (.pointer (some ⟨c,0,none⟩))
 b1:w.cell? ⟨b,1,none⟩=some (.pointer (some ⟨g,0,none⟩))
 b2:w.cell? ⟨b,2,none⟩=some va
 b3:w.cell? ⟨b,3,none⟩=some (iv lf)
 ow:w.ownsRow v.heap.size 39 5 va L.length (L.flatMap fA)
 n1:va.ownBlock≠some b
 n2:va.ownBlock≠some c
 gg:GG (λq=>q=b\/q=c\/va.ownBlock=some q) B w g x
def Bd(B:Nat)(v w:World)(b c g m:Nat):Prop:=∃x L va lf,Bp B v w b c g m x L va lf
theorem Bd.c0{v:World}(h:Bd B v w b c g m):w.cell? ⟨b,0,none⟩=some (.pointer (some ⟨c,0,none⟩)):=by
 obtain⟨_,_,_,_,h⟩:=h;exact h.b0
theorem Bd.c1{v:World}(h:Bd B v w b c g m):w.cell? ⟨b,1,none⟩=some (.pointer (some ⟨g,0,none⟩)):=by
 obtain⟨_,_,_,_,h⟩:=h;exact h.b1
theorem Bd.cu{v:World}(h:Bd B v w b c g m):Cu v w c m:=by
 obtain⟨_,_,_,_,h⟩:=h;exact h.cu
theorem Bp.blk{v:World}{y:Hp}{L:List Ak}(h:Bp B v w b c g m x L va lf)(e:Ext v w')(s:Snd y)(gg:GG (λq=>q=b\/q=c\/va.ownBlock=some q) B w' g y)(k:∀q,q=b\/q=c\/va.ownBlock=some q->w'.heap[q]?=w.heap[q]?):Bp B v w' b c g m y L va lf:=by
 have hb:=k b (.inl rfl);exact⟨s,h.hL,h.hl,h.cu.blk e (k c (.inr (.inl rfl))),h.vB,h.vb,h.bc,a8t h.nf hb,(a0r hb).trans h.b0,(a0r hb).trans h.b1,(a0r hb).trans h.b2,(a0r hb).trans h.b3,uQ h.ow (λq hq=>k q (.inr (.inr hq))),h.n1,h.n2,gg⟩
theorem Bp.ext{v:World}{L:List Ak}(h:Bp B v w b c g m x L va lf)(e:Ext w w'):Bp B v w' b c g m x L va lf:=
 h.blk (h.cu.1.trans e) h.s (h.gg.more e (λ_ hq=>.inl hq)) (λq hq=>e.block q (h.gg.lt hq))
theorem Bd.ext{v:World}(h:Bd B v w b c g m)(e:Ext w w'):Bd B v w' b c g m:=by
 obtain⟨x,L,va,lf,h⟩:=h;exact⟨x,L,va,lf,h.ext e⟩
theorem Bp.read{v:World}{L:List Ak}(h:Bp B v w b c g m x L va lf)(o:uX (λq=>q=c) w w')(cu:Cu v w' c k):Bp B v w' b c g k x L va lf:=by
 have hb:w'.heap[b]?=w.heap[b]?:=o.block b h.nf.1 h.bc;exact⟨h.s,h.hL,h.hl,cu,h.vB,h.vb,h.bc,a8t h.nf hb,(a0r hb).trans h.b0,(a0r hb).trans h.b1,(a0r hb).trans h.b2,(a0r hb).trans h.b3,uQ h.ow (λq hq=>o.block q (h.ow.lt q hq).2 (λe=>h.n2 (by rw[<-e];exact hq))),h.n1,h.n2,h.gg.poke o (λ_ e=>.inr (.inl e))⟩
def a9r(B:Nat)(v:World)(b c g m:Nat)(n:Int)(e:Ending)(w':World):Prop:=∃r:Int,Hid (e=.returned (iv r))/\0<=r/\r<n/\Hid (Bd B v w' b c g m)
theorem Bd.read{v:World}(h:Bd B v w b c g m)(o:uX (λq=>q=c) w w')(cu:Cu v w' c k):Bd B v w' b c g k:=by
 obtain⟨x,L,va,lf,h⟩:=h;exact⟨x,L,va,lf,h.read o cu⟩
theorem zE(B:Nat)(v w:World)(b c g m:Nat)(n:Int)(h:Bd B v w b c g m)(hm:m<=999999999)(hn:n<=1000000)(h1:1<=n):
  Calls Tryz.prog 54 #[.pointer (some ⟨c,0,none⟩),iv n] w λe w'=>a9r B v b c g (m+2) n e w':=
 (b5e v w c m n h.cu hm hn h1).mono λ_ _ ⟨r,he,r0,r1,q,o⟩=>⟨r,he,r0,r1,h.read o q⟩
theorem bwhole(B:Nat)(v w:World)(b c g m:Nat)(h:Bd B v w b c g m)(hm:m<=99999999):
  Calls Tryz.prog 196 #[.pointer (some ⟨c,0,none⟩)] w λe w'=>∃r:Int,Hid (e=.returned (iv r))/\(-9223372036854775808<=r/\r<=9223372036854775807)/\Hid (Bd B v w' b c g (m+4)):=
 (c2i v w c m h.cu hm).mono λ_ _ ⟨r,he,hr,q,o⟩=>⟨r,he,hr,h.read o q⟩
theorem Bp.left{v:World}{L:List Ak}(h:Bp B v w b c g m x L va lf)(hk:k<=lf):Bp B v (w.setCell ⟨b,3,none⟩ (iv k)) b c g m x L va k:=by
 have o:uX (λq=>q=b) w (w.setCell ⟨b,3,none⟩ (iv k)):=(uX.refl (λq=>q=b) w).setCell (p:=⟨b,3,none⟩) rfl _;have hc:=o.block c h.cu.2.2.1.1 (λe=>h.bc e.symm);exact⟨h.s,h.hL,by have:=h.hl;omega,h.cu.blk (o.ext h.cu.1 (λq hq e=>by have:=h.vb;omega)) hc,h.vB,h.vb,h.bc,h.nf.set _ _,by rw[uC _ (.inr (by omega))];exact h.b0,by rw[uC _ (.inr (by omega))];exact h.b1,by rw[uC _ (.inr (by omega))];exact h.b2,yU.same ⟨⟨_,h.b3⟩,h.nf.2 3⟩ _,uQ h.ow (λq hq=>o.block q (h.ow.lt q hq).2 (λe=>h.n1 (by rw[<-e];exact hq))),h.n1,h.n2,h.gg.poke o (λ_ e=>.inl e)⟩
structure AppA(base:Nat)(w0:World)(va:Value)(L:List Ak)(A:Ak)(q cap:Nat)(w':World):Prop where
 ow:w'.ownsRow base 39 5 (.slice (some ⟨q,0,none⟩) (L.length+1) cap) (L.length+1) ((L++[A]).flatMap fA)
 on:uX (λr=>va.ownBlock=some r) w0 w'
 at_:va.ownBlock=some q\/w0.heap.size<=q
theorem Bp.push{v:World}{L:List Ak}{A:Ak}(h:Bp B v w b c g m x L va lf)(hl:L.length+lf+1<=400)(hA:AkFit A)(a:AppA v.heap.size w va L A q cap w'):Bp B v (w'.setCell ⟨b,2,none⟩ (.slice (some ⟨q,0,none⟩) (L.length+1) cap)) b c g m x (L++[A]) (.slice (some ⟨q,0,none⟩) (L.length+1) cap) lf:=by
 have hb:=a.on.block b h.nf.1 h.n1;have hc:=a.on.block c h.cu.2.2.1.1 h.n2
 have nb:q≠b:=λe=>by
  rcases a.at_ with f | f
  ·exact h.n1 (by rw[f,e])
  ·have:=h.nf.1;omega
 have nc:q≠c:=λe=>by
  rcases a.at_ with f | f
  ·exact h.n2 (by rw[f,e])
  ·have:=h.cu.2.2.1.1;omega
 have nf:=a8t h.nf hb;have ev:Ext v w':=a.on.ext h.cu.1 (λr hr e=>by have:=(h.ow.lt r e).1;omega);have o:uX (λr=>r=b) w' (w'.setCell ⟨b,2,none⟩ (.slice (some ⟨q,0,none⟩) (L.length+1) cap)):=(uX.refl (λq=>q=b) w').setCell (p:=⟨b,2,none⟩) rfl _;have hc2:=(o.block c (by have:=a.on.size;have:=h.cu.2.2.1.1;omega) (λe=>h.bc e.symm)).trans hc;have e1:(Value.slice (some ⟨q,0,none⟩) (L.length+1) cap).ownBlock=some q:=rfl;have hqs:=(a.ow.lt q e1).2;refine⟨h.s,λy hy=>?_,by simp;omega,h.cu.blk (o.ext ev (λr hr e=>by have:=h.vb;omega)) hc2,h.vB,h.vb,h.bc,nf.set _ _,?_,?_,?_,?_,?_,by rw[e1];intro e;exact nb (Option.some.inj e),by rw[e1];intro e;exact nc (Option.some.inj e),?_⟩
 ·rcases List.mem_append.1 hy with e | e
  ·exact h.hL y e
  ·simp at e;subst e;exact hA
 ·rw[uC _ (.inr (by omega))];exact(a0r hb).trans h.b0
 ·rw[uC _ (.inr (by omega))];exact(a0r hb).trans h.b1
 ·exact yU.same ⟨⟨_,(a0r hb).trans h.b2⟩,nf.2 2⟩ _
 ·rw[uC _ (.inr (by omega))];exact(a0r hb).trans h.b3
 ·have:(L++[A]).length=L.length+1:=by simp
  rw[this];exact uQ a.ow (λr hr=>o.block r (a.ow.lt r hr).2 (λe=>by rw[e1] at hr;have:=Option.some.inj hr;omega))
 ·refine((h.gg.turn (T:=λr=>r=b\/r=c\/some q=some r) (a.on.mono λ_ e=>.inr (.inr e)) (λr hr=>?_)).poke o (λ_ e=>.inl e));rcases hr with e | e | e
  ·exact .inl (.inl e)
  ·exact .inl (.inr (.inl e))
  ·have e:=Option.some.inj e;subst e;rcases a.at_ with f | f
   ·exact .inl (.inr (.inr f))
   ·exact .inr ⟨f,hqs⟩
abbrev eY(c n:Int):Value:=.agg #[iv c,iv n]
theorem cK(n:Int)(w:World):Calls Tryz.prog 161 #[.int .i64 n] w λe w'=>e=.returned (eY 0 n)/\Ext w w':=by
 go_enter Tryz.func161,Tryz.ntmps161;go_wp2_with fail
 first
  | (go_ret;exact⟨rfl,by repeat (first | exact Ext.refl _ | refine Ext.alloc ?_ _)⟩)
  | exact bodyPost_ret (v:=eY 0 n) (by simp [results,Tryz.results161,go_sem]) rfl ⟨rfl,by repeat (first | exact Ext.refl _ | refine Ext.alloc ?_ _)⟩
theorem a0i(n:Int)(w:World):Calls Tryz.prog 159 #[.int .i64 n] w λe w'=>e=.returned (eY n 0)/\Ext w w':=by
 go_enter Tryz.func159,Tryz.ntmps159;go_wp2_with fail
 first
  | (go_ret;exact⟨rfl,by repeat (first | exact Ext.refl _ | refine Ext.alloc ?_ _)⟩)
  | exact bodyPost_ret (v:=eY n 0) (by simp [results,Tryz.results159,go_sem]) rfl ⟨rfl,by repeat (first | exact Ext.refl _ | refine Ext.alloc ?_ _)⟩
theorem GOk.set12[Inhabited uN](h:GOk B w g x)(v:Int):GOk B (w.setCell ⟨g,12,none⟩ (iv v)) g { x with forced:=v }:=by
 obtain⟨ar,kr,ac,kc,vg,br,bc,pb,pa,pk,role,h⟩:=h;exact⟨_,_,_,_,_,_,_,_,_,_,_,h.boxed (x':={ x with forced:=v }) (uX.setCell (S:=λq=>q=g) (uX.refl _ w) (p:=⟨g,12,none⟩) rfl _) (h.nf.set _ _) rfl rfl rfl (h.bx.set12 v)⟩
theorem GOk.set2[Inhabited uN](h:GOk B w g x)(v:Int):GOk B (w.setCell ⟨g,2,none⟩ (iv v)) g { x with born:=v }:=by
 obtain⟨ar,kr,ac,kc,vg,br,bc,pb,pa,pk,role,h⟩:=h;exact⟨_,_,_,_,_,_,_,_,_,_,_,h.boxed (x':={ x with born:=v }) (uX.setCell (S:=λq=>q=g) (uX.refl _ w) (p:=⟨g,2,none⟩) rfl _) (h.nf.set _ _) rfl rfl rfl (h.bx.set2 v)⟩
theorem GOk.nums[Inhabited uN](h:GOk B w g x):w.cell? ⟨g,0,none⟩=some (iv x.room)/\w.cell? ⟨g,1,none⟩=some (iv x.used)/\w.cell? ⟨g,2,none⟩=some (iv x.born)/\w.cell? ⟨g,5,none⟩=some (iv x.phase)/\w.cell? ⟨g,9,none⟩=some (iv x.per)/\w.cell? ⟨g,10,none⟩=some (iv x.start)/\w.cell? ⟨g,12,none⟩=some (iv x.forced):=by
 obtain⟨ar,kr,ac,kc,vg,br,bc,pb,pa,pk,role,h⟩:=h;obtain⟨c0,c1,c2,c3,c4,c5,c6,c7,c8,c9,c10,c11,c12⟩:=h.bx;exact⟨c0,c1,c2,c5,c9,c10,c12⟩
theorem b2b[Inhabited uN](B g:Nat)(x:Hp)(u:Nat)(w:World)(h:GOk B w g x)(s:Snd x)(hu:u<=201)(a:World)(ha:a.heap.size<=B)(hx:Ext a w):
  Calls Tryz.prog 260 #[.pointer (some ⟨g,0,none⟩),.int .i64 u] w λe w'=>∃y,e=.returned (.bool (a2g y u))/\Hid (a4h x u y)/\Hid (GOk B w' g y)/\Ext a w':=by
 have HO:=uU h;obtain⟨c0,c1,c2,c5,c9,c10,c12⟩:=h.nums;have hgw:g<w.heap.size:=h.box.2.2.2.2.2;have f12:=h.box.2.2.2.1 12;have lo:a.heap.size<=g:=Nat.le_trans ha h.box.2.2.2.2.1;have us:0<=x.used/\x.used<=4000:=by have h3:=s.r3;have h1:=s.r1.room;unfold R3 at h3;omega
 have fo:=s.r1.forced;have S:=uU s;have wu:wrap64 (x.used+(u:Int))=x.used+(u:Int):=a2b _ (by omega) (by omega);clear h s;cases q:a2g x u
 ·have q1:¬(x.used+(u:Int)<=x.room):=by simpa [a2g] using q
  have Q:=uU q;clear q
  have END:=uU (show ∀(w2:World) (y:Hp),Snd y->GOk B w2 g y->(w2.cell? ⟨g,0,none⟩=some (iv y.room)/\w2.cell? ⟨g,1,none⟩=some (iv y.used)/\wrap64 (y.used+(u:Int))=y.used+(u:Int)/\g<w2.heap.size) from λw2 y sy h2=>by
   have us2:0<=y.used/\y.used<=4000:=by have h3:=sy.r3;have h1:=sy.r1.room;unfold R3 at h3;omega
   exact⟨h2.nums.1,h2.nums.2.1,a2b _ (by omega) (by omega),uL h2.nums.1⟩)
  have TAIL:=uU (show ∀(w1:World),GOk B w1 g (forceTo x)->Ext a w1->Calls Tryz.prog 88 #[.pointer (some ⟨g,0,none⟩)] w1 λe w'=>∃y,e=.returned (.tuple #[])/\Hid (a4h x u y)/\Hid (Snd y)/\Hid (GOk B w' g y)/\Ext a w' from λw1 h1 x1=>(b0o B g _ w1 h1 S.forceTo a ha x1).mono λe w2 ⟨y,z,he,hr,h2,x2⟩=>⟨z,he,.inr ⟨Q,⟨y,hr.1,hr.2⟩⟩,RdIs.snd S.forceTo ⟨y,hr.1,hr.2⟩,h2,x2⟩);go_enter Tryz.func260,Tryz.ntmps260;go_wp2_with fail;go_quiet (fail);obtain⟨W,hW⟩:∃W,W=w.drewN nq:=⟨_,rfl⟩;rw[<-hW];have xW:Ext w W:=by rw[hW];exact Ext.drewN (Ext.refl w) nq
  have HW:=uU (HO.ext xW);have XW:=uU (hx.trans xW);have d12:=xW.keep c12;have g12:=((cZ xW).2 g 12 hgw).trans f12;have hgw1:g<W.heap.size:=uL d12;clear hW c0 c1 c2 c5 c9 c10 c12 f12 xW;by_cases hf:x.forced<1000000000
  ·have H1:=uU (show GOk B (W.setCell ⟨g,12,none⟩ (iv (x.forced+1))) g (forceTo x) by
    have:=HW.set12 (x.forced+1);unfold forceTo;rw[if_pos hf];exact this)
   have X1:=uU (XW.setCell (p:=⟨g,12,none⟩) lo (iv (x.forced+1)));have wf:wrap64 (x.forced+1)=x.forced+1:=by unfold wrap64;omega
   go_wp2_with fail;refine(TAIL _ H1 X1).mono ?_;rintro e w2 ⟨y,rfl,hr,sy,h2,x2⟩;obtain⟨d0,d1,wu2,hgw2⟩:=uH END w2 y sy h2;go_wp2_with fail;go_quiet (fail);go_wp2_with fail;go_ret;exact⟨y,rfl,hr,h2.ext (Ext.drewN (Ext.refl _) _),Ext.drewN x2 _⟩
  ·have H1:=uU (show GOk B W g (forceTo x) by
    unfold forceTo;rw[if_neg hf];exact HW)
   go_wp2_with fail;refine(TAIL _ H1 XW).mono ?_;rintro e w2 ⟨y,rfl,hr,sy,h2,x2⟩;obtain⟨d0,d1,wu2,hgw2⟩:=uH END w2 y sy h2;go_wp2_with fail;go_quiet (fail);go_wp2_with fail;go_ret;exact⟨y,rfl,hr,h2.ext (Ext.drewN (Ext.refl _) _),Ext.drewN x2 _⟩
 ·have q1:x.used+(u:Int)<=x.room:=by simpa [a2g] using q
  have E:=uU q;clear q;go_enter Tryz.func260,Tryz.ntmps260;go_wp2_with fail;go_quiet (fail);go_wp2_with fail;go_ret;exact⟨x,by rw[uH E];rfl,.inl ⟨E,rfl⟩,HO.ext (Ext.drewN (Ext.refl _) _),Ext.drewN hx _⟩
theorem a7v[Inhabited uN](B g:Nat)(x:Hp)(u:Nat)(w:World)(h:GOk B w g x)(s:Snd x)(hu:u<=201)(a:World)(ha:a.heap.size<=B)(hx:Ext a w):
  Calls Tryz.prog 261 #[.pointer (some ⟨g,0,none⟩),.int .i64 u] w λe w'=>∃y,e=.returned (.tuple #[])/\Hid (a5b x u y)/\Hid (GOk B w' g y)/\Ext a w':=by
 have HO:=uU h;obtain⟨c0,c1,c2,c5,c9,c10,c12⟩:=h.nums;have hgw:g<w.heap.size:=h.box.2.2.2.2.2;have pr:=s.r1.per;have S:=uU s;obtain⟨p,hp⟩:∃p:Nat,x.per=(p:Int):=⟨x.per.toNat,by omega⟩;have PE:=uU hp;rw[hp] at c9;have hp64:p<=64:=by omega
 have hm1:p*u<=64*201:=Nat.mul_le_mul hp64 hu;have hm2:((p:Int)*(u:Int))=((p*u:Nat):Int):=by simp
 obtain⟨m,hm⟩:∃m,m=p*u:=⟨_,rfl⟩;rw[<-hm] at hm1 hm2;have wm:wrap64 ((p:Int)*(u:Int))=(m:Int):=by rw[hm2];exact a2b _ (by omega) (by omega)
 have EM:=uU (show x.per.toNat*u=m by rw[hp,hm];simp);have PB:=uU (show a8o x u=(x.per == 0 || (u == 0 || (x.phase == 0 && decide (x.used<=x.start)))) from rfl);clear h s hp hm hm2;cases q9:((p:Int) == 0)
 ·have q9p:p≠0:=by simpa using q9
  cases qu:((u:Int) == 0)
  ·have qup:u≠0:=by simpa using qu
   have M0:=uU (show m≠0 by
    have:=uH EM;rw[uH PE,Int.toNat_natCast] at this;rw[<-this];exact Nat.mul_ne_zero q9p qup)
   have PB1:=uU (show a8o x u=(x.phase == 0 && decide (x.used<=x.start)) by
    rw[uH PB,uH PE,show((p:Int) == 0)=false from q9,show(u == 0)=false by simpa using qup];rfl)
   clear PB;cases q5:(x.phase == 0)
   ·have F:=uU (show a8o x u=false by rw[uH PB1,q5];rfl);go_enter Tryz.func261,Tryz.ntmps261;go_wp2_with fail;refine(a5d B g x m _ HO S (by omega) a ha hx).mono ?_;rintro e w2 ⟨k,rfl,st,h2,x2⟩;have H2:=uU h2;have R:=uU (show a5b x u (itU k (stepH x m)) from .inr ⟨F,k,by rw[uH EM];exact⟨st,rfl⟩⟩);clear h2 st;go_wp2_with fail
    go_end0
    exact⟨_,rfl,R,H2,x2⟩
   ·have P0:=uU (show x.phase=0 by simpa using q5);have q5':=uH P0;by_cases q1:x.used<=x.start
    ·have T:=uU (show a8o x u=true by rw[uH PB1,q5,decide_eq_true q1];rfl);rw[q5'] at c5;clear q5';go_enter Tryz.func261,Tryz.ntmps261;go_wp2_with fail;go_quiet (fail);go_wp2_with fail;refine bodyPost_ret (results_none rfl _ _ _) rfl ?_;exact⟨x,rfl,.inl ⟨T,rfl⟩,HO.ext (Ext.drewN (Ext.refl _) _),Ext.drewN hx _⟩
    ·have F:=uU (show a8o x u=false by rw[uH PB1,q5,decide_eq_false q1];rfl);have EX:=uU (show stepH x m=dD x 1 0 by unfold stepH;rw[if_pos ⟨q5',uH M0⟩]);have EX2:=uU (show stepH (dD x 1 0) m=dD x 1 0 by unfold stepH;rw[if_neg (λh=>by have:=h.1;simp [dD] at this)]);have S1:=uU (S.begin q5');rw[q5'] at c5;clear q5';go_enter Tryz.func261,Tryz.ntmps261;go_wp2_with fail;go_quiet (fail);obtain⟨W,hW⟩:∃W,W=w.drewN nq:=⟨_,rfl⟩;rw[<-hW];have xW:Ext w W:=by rw[hW];exact Ext.drewN (Ext.refl w) nq
     have HW:=uU (HO.ext xW);have XW:=uU (hx.trans xW);clear hW c0 c1 c2 c5 c9 c10 c12 hgw xW;go_wp2_with fail;refine(a3y B g x _ HW a ha XW).mono ?_;rintro e w1 ⟨rfl,h1,x1⟩;have H1:=uU h1;have d9:=h1.nums.2.2.2.2.1;rw[show(dD x 1 0).per=(p:Int) from uH PE] at d9;have hgw1:g<w1.heap.size:=uL d9;clear h1;go_wp2_with fail;refine(a5d B g (dD x 1 0) m _ H1 S1 (by omega) a ha x1).mono ?_;rintro e w2 ⟨k,rfl,st,h2,x2⟩;have H2:=uU h2;have R:=uU (show a5b x u (itU k (stepH (dD x 1 0) m)) from .inr ⟨F,k,by rw[uH EM,uH EX];have:=uH st;rw[uH EX2] at this ⊢;exact⟨this,rfl⟩⟩);clear h2 st;go_wp2_with fail
     go_end0
     exact⟨_,rfl,R,H2,x2⟩
  ·have T:=uU (show a8o x u=true by rw[uH PB,show(u == 0)=true by simpa using qu];simp);go_enter Tryz.func261,Tryz.ntmps261;go_wp2_with fail;refine bodyPost_ret (results_none rfl _ _ _) rfl ?_;exact⟨x,rfl,.inl ⟨T,rfl⟩,HO,hx⟩
 ·have T:=uU (show a8o x u=true by rw[uH PB,uH PE,show((p:Int) == 0)=true from q9];rfl);go_enter Tryz.func261,Tryz.ntmps261;go_wp2_with fail;refine bodyPost_ret (results_none rfl _ _ _) rfl ?_;exact⟨x,rfl,.inl ⟨T,rfl⟩,HO,hx⟩
def a2c(c:Cl)(n:Nat):Cl:={ c with prs:=c.prs++List.replicate n Pr0 }
def zD(x:Hp)(i n:Nat):Hp:={ x with cells:=x.cells.set i (a2c (x.c i) n),used:=x.used+n }
theorem a2s(x:Hp)(i n:Nat)(hi:i<x.cells.length)(q:Nat):(zD x i n).c q=if q=i then a2c (x.c i) n else x.c q:=Hp.c_set x i (a2c (x.c i) n) hi q
theorem a0n(x:Hp)(i n:Nat):(zD x i n).cells.length=x.cells.length:=by simp [zD]
theorem a0v(x:Hp)(i n:Nat)(hi:i<x.cells.length)(q:Nat):((zD x i n).c q).st=(x.c q).st/\((zD x i n).c q).kind=(x.c q).kind/\((zD x i n).c q).weak=(x.c q).weak/\((zD x i n).c q).last=(x.c q).last/\((zD x i n).c q).born=(x.c q).born/\((zD x i n).c q).color=(x.c q).color/\((zD x i n).c q).to=(x.c q).to:=by
 rw[a2s x i n hi q];by_cases e:q=i
 ·rw[if_pos e,e];exact⟨rfl,rfl,rfl,rfl,rfl,rfl,rfl⟩
 ·rw[if_neg e];exact⟨rfl,rfl,rfl,rfl,rfl,rfl,rfl⟩
theorem c0z(c:Cl)(n k:Nat):(a2c c n).p k=if k<c.prs.length then c.p k else Pr0:=by
 unfold Cl.p a2c;by_cases h:k<c.prs.length
 ·rw[if_pos h];simp only [List.getD_eq_getElem?_getD];rw[List.getElem?_append_left h]
 ·rw[if_neg h];simp only [List.getD_eq_getElem?_getD];rw[List.getElem?_append_right (by omega)];by_cases h2:k-c.prs.length<n
  ·simp [h2]
  ·simp [h2]
theorem a3e(x:Hp)(i n:Nat)(hi:i<x.cells.length)(q:Nat):cU (zD x i n) q↔cU x q:=by
 have a:=a0v x i n hi q;unfold cU;rw[a.1,a.2.2.2.2.2.1];exact Iff.rfl
theorem a5z(x:Hp)(i n:Nat)(hi:i<x.cells.length)(y:Wd)(m:Prop):cN (zD x i n) y m↔cN x y m:=by
 have a:=a0v x i n hi y.a.toNat;unfold cN;rw[a0n,a.1,a3e x i n hi]
theorem Snd.grow  (h : Snd x) (i n : Nat) (hi : i < x.cells.length) (hs : (x.c i).st = 1) (hl : (x.c i).prs.length + n <= 200) (hu : x.used + n <= x.room) : Snd (zD x i n) where
  r1 := ⟨h.r1.room, h.r1.regs, by rw [a0n]; exact h.r1.cells, by rw [a0n]; exact h.r1.gray, h.r1.born, h.r1.rounds, h.r1.forced, h.r1.per, h.r1.start, h.r1.phase, by rw [a0n]; exact h.r1.hand, h.r1.sub⟩
  r2 := ⟨λq hq => by
    rw [a0n] at hq
    have ok := h.r2.1 q hq
    have aT := a0v x i n hi (x.c q).to.toNat
    by_cases e : q = i
    · subst e
      rcases ok with o | o | o
      · omega
      · omega
      · refine .inr (.inr ⟨?_, ?_⟩)
        · rw [a2s x q n hi q, if_pos rfl]; exact hs
        · rw [a2s x q n hi q, if_pos rfl]
          obtain ⟨_, o1, o2, o3, o4, o5, o6, o7⟩ := o
          exact ⟨o1, o2, o3, o4, o5, o6, by simp [a2c]; omega⟩
    · have ec : (zD x i n).c q = x.c q := by rw [a2s x i n hi q, if_neg e]
      unfold cE
      rw [ec]
      rcases ok with o | ⟨o, m⟩ | o
      · exact .inl o
      · refine .inr (.inl ⟨o, m.1, m.2.1, m.2.2.1, m.2.2.2.1, by rw [aT.1]; exact m.2.2.2.2.1, λhp k hk => ?_⟩)
        have ak := a0v x i n hi k
        rw [ak.1]; exact m.2.2.2.2.2 hp k hk
      · exact .inr (.inr o), λq hq h0 k hk => by
    rw [a0n] at hq
    have aq := a0v x i n hi q
    have ak := a0v x i n hi k
    rw [aq.1] at h0
    rw [ak.1, ak.2.2.2.2.1, ak.2.2.2.2.2.2, aq.1, aq.2.2.2.2.1, aq.2.2.2.2.2.2]
    exact h.r2.2 q hq h0 k hk⟩
  r3 := by
    have u := a1v x.cells i (a2c (x.c i) n) hi
    rw [Hp.c_eq x i hi] at u
    have e1 : cH (x.c i) = 1 + (x.c i).prs.length := by unfold cH; rw [if_pos hs]
    have e2 : cH (a2c (x.c i) n) = 1 + ((x.c i).prs.length + n) := by
      unfold cH
      rw [if_pos (show (a2c (x.c i) n).st = 1 from hs)]
      simp [a2c]
    rw [e1, e2] at u
    have r := h.r3
    refine ⟨?_, hu⟩
    show x.used + (n : Int) = (dN (x.cells.set i (a2c (x.c i) n)) : Nat)
    have := r.1
    omega
  r4 := ⟨λj hj => (a5z x i n hi _ _).2 (h.r4.1 j hj), λq hq => by
    rw [a0n] at hq
    have aq := a0v x i n hi q
    refine ⟨λ⟨d, s⟩ => (h.r4.2 q hq).1 ⟨(a3e x i n hi q).1 d, by unfold cY at s ⊢; rw [aq.2.2.2.1] at s; exact s⟩, λk hk => ?_⟩
    have key : ∀ p : Pr, a2j x q k p -> a2j (zD x i n) q k p := λp o => ⟨λd => by rw [a0n]; exact o.1 ((a3e x i n hi q).1 d), λd => by
      have := o.2 (λd2 => d ((a3e x i n hi q).2 d2))
      exact ⟨(a5z x i n hi _ _).2 this.1, (a5z x i n hi _ _).2 this.2⟩⟩
    by_cases e : q = i
    · subst e
      rw [a2s x q n hi q, if_pos rfl] at hk ⊢
      rw [c0z]
      by_cases hk2 : k < (x.c q).prs.length
      · rw [if_pos hk2]; exact key _ ((h.r4.2 q hq).2 k hk2)
      · rw [if_neg hk2]
        have nl : ∀ m : Prop, cN x ⟨0, 0, 0⟩ m := λm => ⟨.inl ⟨rfl, rfl, rfl⟩, λh => by simp at h⟩
        exact key _ ⟨λ_ => ⟨(nl True).1, (nl True).1⟩, λ_ => ⟨nl _, nl _⟩⟩
    · rw [a2s x i n hi q, if_neg e] at hk ⊢
      exact key _ ((h.r4.2 q hq).2 k hk)⟩
  r5 := ⟨h.r5.1, λq hq => by
    rw [a0n] at hq
    have aq := a0v x i n hi q
    unfold eE
    rw [aq.2.2.2.2.2.1]
    exact h.r5.2.1 q hq, λg hg => by rw [a0n]; exact h.r5.2.2 g hg⟩
  r6 := by
    have lg : ∀ q, (x.c q).prs.length <= ((zD x i n).c q).prs.length := λq => by
      rw [a2s x i n hi q]
      by_cases e : q = i
      · rw [if_pos e, e]; simp [a2c]
      · rw [if_neg e]; exact Nat.le_refl _
    obtain ⟨a, b, c, d⟩ := h.r6
    refine ⟨a, λhp => ⟨(b hp).1, (b hp).2.1, λhg => ?_⟩, λhp => ⟨λhq => (c hp).1 ?_, λhq => ?_⟩, d⟩
    · have h1 := (b hp).2.2 hg
      have h2 := lg x.g0
      show x.sub <= (((zD x i n).c x.g0).prs.length : Int)
      omega
    · rw [a0n] at hq
      have := a0v x i n hi x.hand.toNat
      rcases hq with hq | hq
      · exact .inl hq
      · exact .inr (by rw [<- this.1]; exact hq)
    · rw [a0n] at hq
      have a1 := a0v x i n hi x.hand.toNat
      have h1 := (c hp).2 ⟨hq.1, by rw [<- a1.1]; exact hq.2⟩
      have h2 := lg x.hand.toNat
      show x.sub <= (((zD x i n).c x.hand.toNat).prs.length : Int)
      omega
  r7 := λhm q hq => by
    rw [a0n] at hq
    have aq := a0v x i n hi q
    have o := h.r7 hm q hq
    refine ⟨λhb => o.1 ⟨by have := hb.1; unfold cY at this ⊢; rw [aq.2.2.2.1] at this; exact this, by rw [<- aq.2.2.2.2.2.1]; exact hb.2.1, hb.2.2⟩, λk hk => ?_⟩
    have wh : ∀ y : Wd, cQ (zD x i n) y -> cQ x y := λy hy => ⟨hy.1, by rw [<- (a0v x i n hi y.a.toNat).2.2.2.2.2.1]; exact hy.2⟩
    have nil : ∀ p : Pr, p = Pr0 -> ¬ cQ (zD x i n) p.key /\ ¬ cQ (zD x i n) p.val := λp e => by subst e; exact ⟨λw => by have := w.1; simp [Pr0] at this, λw => by have := w.1; simp [Pr0] at this⟩
    have old : ∀ k, k < cC x q -> (k < (x.c q).prs.length -> True) -> ¬ cQ (zD x i n) ((x.c q).p k).key /\ ¬ cQ (zD x i n) ((x.c q).p k).val := λk hk _ => ⟨λw => (o.2 k hk).1 (wh _ w), λw => (o.2 k hk).2 (wh _ w)⟩
    by_cases e : q = i
    · subst e
      rw [a2s x q n hi q, if_pos rfl, c0z]
      by_cases hk2 : k < (x.c q).prs.length
      · rw [if_pos hk2]
        refine old k ?_ (λ_ => trivial)
        unfold cC at hk ⊢
        rw [aq.2.2.2.2.2.1] at hk
        split at hk
        · rename_i hc; rw [if_pos hc]; exact hk2
        · rename_i hc; rw [if_neg hc]; exact hk
      · rw [if_neg hk2]; exact nil _ rfl
    · rw [a2s x i n hi q, if_neg e]
      refine old k ?_ (λ_ => trivial)
      unfold cC at hk ⊢
      rw [a2s x i n hi q, if_neg e] at hk
      exact hk
  r8 := λq hq => by
    rw [a0n] at hq
    rw [(a0v x i n hi q).1]
    exact h.r8 q hq
def tE(b k:Int)(n:Nat)(col:Int):Cl:=⟨1,k,0,0,b,col,0,List.replicate n Pr0⟩
def qY(x:Hp)(t:Nat):Int:=if x.phase=1\/x.phase=2\/(x.phase=3/\x.hand<=(t:Int)) then 2 else 0
def a4q(x:Hp)(t:Nat)(c:Cl):List Cl:=if t<x.cells.length then x.cells.set t c else x.cells++[c]
def a3z(x:Hp)(k:Int)(n:Nat):Hp:={ x with born:=x.born+1,used:=x.used+(1+n),cells:=a4q x (cD x) (tE (x.born+1) k n (qY x (cD x))) }
theorem a6y(x:Hp)(t:Nat)(c:Cl):(a4q x t c).length=if t<x.cells.length then x.cells.length else x.cells.length+1:=by
 unfold a4q
 split <;> simp
theorem c1a(x z:Hp)(t:Nat)(c:Cl)(ht:t<=x.cells.length)(hz:z.cells=a4q x t c)(q:Nat):z.c q=if q=t then c else x.c q:=by
 unfold Hp.c;rw[hz];unfold a4q;by_cases h:t<x.cells.length
 ·rw[if_pos h];simp only [List.getD_eq_getElem?_getD,List.getElem?_set];by_cases e:q=t
  ·subst e;simp [h]
  ·rw[if_neg (λe'=>e e'.symm),if_neg e]
 ·rw[if_neg h];have te:t=x.cells.length:=by omega
  simp only [List.getD_eq_getElem?_getD];by_cases e:q=t
  ·rw[if_pos e,e,te];simp
  ·rw[if_neg e];by_cases h2:q<x.cells.length
   ·rw[List.getElem?_append_left h2]
   ·rw[List.getElem?_eq_none (by simp;omega),List.getElem?_eq_none (by omega)]
theorem Snd.crowd{x:Hp}(h:Snd x)(hf:∀i,i<x.cells.length->(x.c i).st≠0):x.cells.length<=2*dN x.cells:=by
 have r2:=h.r2
 let U:=(List.range x.cells.length).filter (λi=>(x.c i).st == 1)
 let M:=(List.range x.cells.length).filter (λi=>(x.c i).st == 2)
 have hU:U.length<=dN x.cells:=by
  have key:∀m,m<=x.cells.length->((List.range m).filter (λi=>(x.c i).st == 1)).length<=dN (x.cells.take m):=λm=>by
   induction m with
   | zero=>intro _;simp
   | succ m ih=>
    intro hm;have i1:=ih (by omega);have ht:x.cells.take (m+1)=x.cells.take m++[x.cells[m]'(by omega)]:=List.take_succ_eq_append_getElem (by omega);rw[List.range_succ,List.filter_append,List.length_append,ht];have eu:dN (x.cells.take m++[x.cells[m]'(by omega)])=dN (x.cells.take m)+cH (x.c m):=by simp [dN,Hp.c_eq x m (by omega)]
    rw[eu];by_cases e:(x.c m).st=1
    ·have:cH (x.c m)=1+(x.c m).prs.length:=by unfold cH;rw[if_pos e]
     simp [e];omega
    ·simp [e];omega
  have:=key x.cells.length (Nat.le_refl _);rw[List.take_length] at this;exact this
 have hM:M.length<=U.length:=by
  have nd:(M.map (λi=>(x.c i).to.toNat)).Nodup:=by
   rw[List.nodup_iff_pairwise_ne,List.pairwise_map];have pm:M.Pairwise (· < ·):=List.Pairwise.filter _ List.pairwise_lt_range;refine List.Pairwise.imp_of_mem (λ{a b} ha hb hab e=>?_) pm;have ha2:=List.mem_filter.1 ha;have hb2:=List.mem_filter.1 hb;have la:=List.mem_range.1 ha2.1;have lb:=List.mem_range.1 hb2.1;have sa:(x.c a).st=2:=by simpa using ha2.2
   have sb:(x.c b).st=2:=by simpa using hb2.2
   have oa:=r2.1 a la;have ob:=r2.1 b lb;unfold cE eD yX at oa ob;exact r2.2 b lb (by omega) a hab ⟨by omega,by omega,by omega⟩
  have sub:∀z,z∈M.map (λi=>(x.c i).to.toNat)->z∈U:=λz hz=>by
   obtain⟨i,hi,e⟩:=List.mem_map.1 hz;have hi2:=List.mem_filter.1 hi;have li:=List.mem_range.1 hi2.1;have si:(x.c i).st=2:=by simpa using hi2.2
   have oi:=r2.1 i li;unfold cE eD at oi
   have st:(x.c (x.c i).to.toNat).st=1:=by
    rcases oi with o | o | o
    ·omega
    ·exact o.2.2.2.2.2.1
    ·omega
   rw[<-e];exact List.mem_filter.2 ⟨List.mem_range.2 (by omega),by simpa using st⟩
  have:=List.Nodup.length_le_of_subset nd sub
  simpa using this
 have hA:x.cells.length<=U.length+M.length:=by
  have key:∀m,m<=x.cells.length->m<=((List.range m).filter (λi=>(x.c i).st == 1)).length+((List.range m).filter (λi=>(x.c i).st == 2)).length:=λm=>by
   induction m with
   | zero=>intro _;omega
   | succ m ih=>
    intro hm;have i1:=ih (by omega);rw[List.range_succ,List.filter_append,List.filter_append,List.length_append,List.length_append];have:=r2.1 m (by omega);have nf:=hf m (by omega);have s12:(x.c m).st=1\/(x.c m).st=2:=by unfold cE at this;omega
    rcases s12 with e | e
    ·simp [e];omega
    ·simp [e];omega
  exact key x.cells.length (Nat.le_refl _)
 omega
theorem newC_p(b k:Int)(n:Nat)(col:Int)(j:Nat):(tE b k n col).p j=Pr0:=by
 unfold Cl.p tE;simp only [List.getD_eq_getElem?_getD];by_cases h:j<n
 ·simp [h]
 ·simp [h]
theorem Snd.make{x:Hp}(h:Snd x)(k:Int)(n:Nat)(hk:0<=k/\k<=255)(hn:n<=200)(hb:x.born<1000000000)(hu:x.used+(1+n)<=x.room):Snd (a3z x k n)/\((a3z x k n).c (cD x)).st=1/\cD x<(a3z x k n).cells.length/\¬cU (a3z x k n) (cD x):=by
 obtain⟨f1,f2,f3⟩:=a0z x;obtain⟨t,ht⟩:∃t,t=cD x:=⟨_,rfl⟩;obtain⟨c,hc⟩:∃c,c=tE (x.born+1) k n (qY x t):=⟨_,rfl⟩;obtain⟨z,hz⟩:∃z,z=a3z x k n:=⟨_,rfl⟩;rw[<-ht] at f1 f2 f3 ⊢;have zcs:z.cells=a4q x t c:=by rw[hz,hc,ht];rfl
 have zc:∀q,z.c q=if q=t then c else x.c q:=c1a x z t c f1 zcs
 have zl:z.cells.length=if t<x.cells.length then x.cells.length else x.cells.length+1:=by rw[zcs];exact a6y x t c
 have zle:x.cells.length<=z.cells.length:=by rw[zl];split <;> omega
 have zq:∀q,q<z.cells.length->q=t\/(q≠t/\q<x.cells.length):=λq hq=>by
  rw[zl] at hq;by_cases e:q=t
  ·exact .inl e
  ·refine .inr ⟨e,?_⟩
   split at hq <;> omega
 have tl:t<z.cells.length:=by rw[zl];split <;> omega
 have zne:∀q,q≠t->z.c q=x.c q:=λq e=>by rw[zc q,if_neg e]
 have ze:z.c t=c:=by rw[zc t,if_pos rfl]
 have free:∀q,q<x.cells.length->(x.c q).st≠0->q≠t:=λq hq hs e=>by subst e;exact hs (f3 hq)
 have zro:z.room=x.room:=by rw[hz];rfl
 have zus:z.used=x.used+(1+n):=by rw[hz];rfl
 have zbo:z.born=x.born+1:=by rw[hz];rfl
 have zre:z.regs=x.regs:=by rw[hz];rfl
 have zph:z.phase=x.phase:=by rw[hz];rfl
 have zha:z.hand=x.hand:=by rw[hz];rfl
 have zsu:z.sub=x.sub:=by rw[hz];rfl
 have zgr:z.gray=x.gray:=by rw[hz];rfl
 have zrest:z.per=x.per/\z.start=x.start/\z.rounds=x.rounds/\z.forced=x.forced:=by rw[hz];exact⟨rfl,rfl,rfl,rfl⟩
 have cst:c.st=1:=by rw[hc];rfl
 have cbo:c.born=x.born+1:=by rw[hc];rfl
 have cto:c.to=0:=by rw[hc];rfl
 have cla:c.last=0:=by rw[hc];rfl
 have cco:c.color=qY x t:=by rw[hc];rfl
 have cpl:c.prs.length=n:=by rw[hc];simp [tE]
 have cp:∀j,c.p j=Pr0:=λj=>by rw[hc];exact newC_p _ _ _ _ j
 have ncd:¬cU z t:=λd=>by
  have d4:=d.2.2.2;rw[ze,cco] at d4;unfold qY at d4;have d1:=d.1;have d2:=d.2.1;rw[zph] at d1;rw[zha] at d2;rw[if_pos (.inr (.inr ⟨d1,d2⟩))] at d4;omega
 have dm:∀q,q≠t->(cU z q↔cU x q):=λq e=>by unfold cU;rw[zph,zha,zne q e]
 have fm:∀y:Wd,uK y x.cells.length->uK y z.cells.length:=λy f=>by unfold uK at f ⊢;omega
 have ld:∀(y:Wd) (m:Prop),cN x y m->cN z y m:=λy m l=>⟨fm y l.1,λhk=>by
  have hf:=l.1;unfold uK at hf;have hy:y.a.toNat<x.cells.length:=by omega
  rcases l.2 hk with o | o
  ·have e:=free _ hy (by rw[o.1];omega);rw[zne _ e];exact .inl o
  ·have e:=free _ hy (by rw[o.1];omega);rw[zne _ e];exact .inr ⟨o.1,λd=>o.2 ((dm _ e).1 d)⟩⟩
 have nl:∀m:Prop,cN z ⟨0,0,0⟩ m:=λm=>⟨.inl ⟨rfl,rfl,rfl⟩,λh=>by simp at h⟩
 have us:x.used=(dN x.cells:Nat):=h.r3.1;rw[<-hz];refine⟨⟨?_,?_,?_,?_,?_,?_,?_,?_⟩,by rw[ze];exact cst,tl,ncd⟩
 ·have rc:=h.r1.cells;have rr:=h.r1.room;refine⟨by rw[zro];exact rr,by rw[zre];exact h.r1.regs,?_,by rw[zgr];exact Nat.le_trans h.r1.gray zle,by rw[zbo];have:=h.r1.born;omega,by rw[zrest.2.2.1];exact h.r1.rounds,by rw[zrest.2.2.2];exact h.r1.forced,by rw[zrest.1];exact h.r1.per,by rw[zrest.2.1];exact h.r1.start,by rw[zph];exact h.r1.phase,by rw[zha];have:=h.r1.hand;omega,by rw[zsu];exact h.r1.sub⟩;rw[zro,zl];by_cases e:t<x.cells.length
  ·rw[if_pos e];exact rc
  ·rw[if_neg e];have:=h.crowd (λi hi=>f2 i (by omega));omega
 ·refine⟨λq hq=>?_,λq hq h0 j hj hb2=>?_⟩
  ·rcases zq q hq with e | ⟨e,hqx⟩
   ·subst e;refine .inr (.inr ⟨by rw[ze];exact cst,?_⟩);rw[ze];have cc:0<=c.color/\c.color<=2:=by rw[cco];unfold qY;split <;> omega
    have ck:c.kind=k:=by rw[hc];rfl
    have cw:c.weak=0:=by rw[hc];rfl
    have:=h.r1.born;exact⟨by rw[ck];exact hk,by omega,by omega,by rw[zbo];omega,cc,cto,by omega⟩
   ·have ok:=h.r2.1 q hqx;unfold cE;rw[zne q e];rcases ok with o | ⟨o,m⟩ | ⟨o,m⟩
    ·exact .inl o
    ·have mt:=m.2.2.2.2.1;have tt:=m.2.2.2.1;have t0:=m.2.2.1;have e2:=free (x.c q).to.toNat (by omega) (by rw[mt];omega);refine .inr (.inl ⟨o,m.1,by rw[zph];exact m.2.1,t0,tt,by rw[zne _ e2];exact mt,λhp j hj=>?_⟩);rw[zph] at hp;have:=m.2.2.2.2.2 hp j hj;by_cases ej:j=t
     ·rw[ej,ze];omega
     ·rw[zne j ej];exact this
    ·refine .inr (.inr ⟨o,?_⟩);unfold a2i at m ⊢;rw[zbo];omega
  ·have key:∀a,a≠t->a<x.cells.length->(x.c a).st=1->(x.c a).born<=x.born:=λa _ ha hs=>by
    have:=h.r2.1 a ha;unfold cE a2i at this;omega
   rcases zq q hq with e | ⟨e,hqx⟩
   ·subst e;rcases zq j (by omega) with e2 | ⟨e2,hjx⟩
    ·omega
    ·rw[zne j e2,ze] at hb2;have:=key j e2 hjx (by omega);omega
   ·rcases zq j (by omega) with e2 | ⟨e2,hjx⟩
    ·subst e2;rw[ze,zne q e] at hb2;have:=key q e hqx (by omega);omega
    ·rw[zne j e2,zne q e] at hb2;rw[zne q e] at h0;exact h.r2.2 q hqx h0 j hj hb2
 ·refine⟨?_,by rw[zus,zro];exact hu⟩;rw[zus,zcs];have uc:cH c=1+n:=by unfold cH;rw[if_pos cst,cpl]
  unfold a4q;by_cases e:t<x.cells.length
  ·rw[if_pos e];have u:=a1v x.cells t c e;rw[Hp.c_eq x t e] at u;have u0:cH (x.c t)=0:=by unfold cH;rw[if_neg (by rw[f3 e];omega)]
   omega
  ·rw[if_neg e];have:dN (x.cells++[c])=dN x.cells+cH c:=by simp [dN]
   omega
 ·refine⟨λi hi=>?_,λq hq=>?_⟩
  ·have e:z.regs[i]=x.regs[i]'(by rw[<-zre];exact hi):=by simp only [zre]
   rw[e];exact ld _ _ (h.r4.1 i (by rw[<-zre];exact hi))
  ·rcases zq q hq with e | ⟨e,hqx⟩
   ·subst e;refine⟨λd=>ncd d.1,λj hj=>?_⟩;rw[ze,cp j];exact⟨λd=>(ncd d).elim,λ_=>⟨nl _,nl _⟩⟩
   ·have o:=h.r4.2 q hqx;have md:∀j,cX z q j↔cX x q j:=λj=>by unfold cX;rw[zph,zha,zsu]
    rw[zne q e];refine⟨λd=>o.1 ⟨(dm q e).1 d.1,d.2⟩,λj hj=>?_⟩;have p:=o.2 j hj;refine⟨λd=>?_,λd=>?_⟩
    ·have:=p.1 ((dm q e).1 d);exact⟨fm _ this.1,fm _ this.2⟩
    ·have:=p.2 (λd2=>d ((dm q e).2 d2));have em:(¬cX z q j)=(¬cX x q j):=propext (not_congr (md j));rw[em];exact⟨ld _ _ this.1,ld _ _ this.2⟩
 ·refine⟨λhm=>by rw[zgr];exact h.r5.1 (λm=>hm (by unfold uE at m ⊢;rw[zph];exact m)),λq hq=>?_,λg hg=>?_⟩
  ·rcases zq q hq with e | ⟨e,hqx⟩
   ·subst e
    have c0:cnt x.gray q=0:=by
     by_cases e:q<x.cells.length
     ·have ok:=h.r2.1 q e;have s0:=f3 e;have:(x.c q).color≠1:=by unfold cE yX at ok;omega
      exact(h.r5.2.1 q e).2.1 this
     ·unfold cnt;rw[List.count_eq_zero];intro hg;have:=h.r5.2.2 _ hg;omega
    unfold eE;rw[ze,zgr,zph,zha,cco];refine⟨λe1=>?_,λ_=>c0,λe2=>?_⟩
    ·unfold qY at e1;split at e1 <;> omega
    ·unfold qY at e2
     split at e2
     ·rename_i hh;rcases hh with hh | hh | hh
      ·exact .inl (by unfold uE;rw[zph];exact .inl hh)
      ·exact .inl (by unfold uE;rw[zph];exact .inr hh)
      ·exact .inr hh
     ·omega
   ·have o:=h.r5.2.1 q hqx;unfold eE at o ⊢;rw[zne q e,zgr,zph,zha]
    exact⟨o.1,o.2.1,λe2=>by
     rcases o.2.2 e2 with m | m
     ·exact .inl (by unfold uE at m ⊢;rw[zph];exact m)
     ·exact .inr m⟩
  ·rw[zgr] at hg;have:=h.r5.2.2 g hg;omega
 ·obtain⟨a,b,d,e⟩:=h.r6;refine⟨λhp=>by rw[zph] at hp;rw[zha,zsu];exact a hp,λhp=>?_,λhp=>?_,λhp=>by rw[zph] at hp;rw[zsu];exact e hp⟩
  ·rw[zph] at hp;have b2:=b hp;have eg:z.g0=x.g0:=by unfold Hp.g0;rw[zgr]
   rw[zha,zgr,zsu,eg];refine⟨b2.1,b2.2.1,λhg=>?_⟩;have hs:=b2.2.2 hg
   have gl:(x.gray.getD 0 0)∈x.gray:=by
    cases hgr:x.gray with
    | nil=>rw[hgr] at hg;simp at hg
    | cons g G=>simp
   have gr:=h.r5.2.2 _ gl;have g0l:x.g0<x.cells.length:=by unfold Hp.g0;omega
   by_cases e2:x.g0=t
   ·have s0:=f3 (by omega);rw[<-e2] at s0;have ok:=h.r2.1 x.g0 g0l;have p0:(x.c x.g0).prs.length=0:=by unfold cE yX at ok;omega
    rw[e2,ze,cpl];omega
   ·rw[zne _ e2];exact hs
  ·rw[zph] at hp;have d2:=d hp;have hh:=h.r1.hand;rw[zha,zsu];have hcase:x.hand.toNat=t\/x.hand.toNat≠t:=by omega
   refine⟨λhq=>?_,λhq=>?_⟩
   ·rcases hcase with e2 | e2
    ·rcases hq with hq | hq
     ·exfalso;rw[zl] at hq
      split at hq <;> omega
     ·rw[e2,ze] at hq;omega
    ·rcases hq with hq | hq
     ·refine d2.1 (.inl ?_);rw[zl] at hq
      split at hq <;> omega
     ·rw[zne _ e2] at hq;exact d2.1 (.inr hq)
   ·rcases hcase with e2 | e2
    ·have s0:x.sub=0:=by
      by_cases e3:t<x.cells.length
      ·refine d2.1 (.inr ?_);rw[e2,f3 e3];omega
      ·exact d2.1 (.inl (by omega))
     rw[s0];omega
    ·rw[zne _ e2] at hq ⊢;refine d2.2 ⟨λe3=>?_,hq.2⟩;have h1:=hq.1;have h2:=hq.2;rw[zl] at h1
     split at h1
     ·omega
     ·omega
 ·intro hm q hq;have hm2:uE x:=by unfold uE at hm ⊢;rw[zph] at hm;exact hm
  have wh:∀y:Wd,cQ z y->cQ x y:=λy hy=>⟨hy.1,by
   have h2:=hy.2;by_cases e:y.a.toNat=t
   ·rw[e,ze,cco] at h2;unfold qY at h2;unfold uE at hm2;rw[if_pos (by omega)] at h2;omega
   ·rw[zne _ e] at h2;exact h2⟩
  rcases zq q hq with e | ⟨e,hqx⟩
  ·subst e;rw[ze];refine⟨λs=>?_,λj _=>?_⟩
   ·have:=s.1;unfold cY at this;omega
   ·rw[cp j];exact⟨λw=>by have:=w.1;simp [Pr0] at this,λw=>by have:=w.1;simp [Pr0] at this⟩
  ·have o:=h.r7 hm2 q hqx;rw[zne q e,zph,zha];refine⟨o.1,λj hj=>?_⟩;have lk:cC z q=cC x q:=by unfold cC;rw[zne q e,zph,zgr,zsu]
   rw[lk] at hj;exact⟨λw=>(o.2 j hj).1 (wh _ w),λw=>(o.2 j hj).2 (wh _ w)⟩
 ·intro q hq;rw[zph,zha];rcases zq q hq with e | ⟨e,hqx⟩
  ·subst e;rw[ze];intro hb2;omega
  ·rw[zne q e];exact h.r8 q hqx
theorem a7m(y:Wd)(b:Nat)(w:World)(k2:(y.k == 2)=false):
  Calls Tryz.prog 138 #[.pointer (some ⟨b,0,none⟩),y.v] w λe w'=>e=.returned y.v/\Ext w w':=by
 go_enter Tryz.func138,Tryz.ntmps138;go_wp2_with fail;go_quiet (fail);go_wp2_with fail;refine bodyPost_ret (v:=y.v) (by simp [results,Tryz.results138,go_sem]) rfl ⟨rfl,?_⟩
 repeat (first | exact Ext.refl _ | refine Ext.drewN ?_ _ | refine Ext.alloc ?_ _ | refine Ext.setCell ?_ (by show w.heap.size<=w.heap.size+1;omega) _)
theorem b2c(x:Hp)(b i:Nat)(w:World)(h:HAt w b x ar kr ac kc ag kg)(hi:i<x.cells.length)(s2:((x.c i).st == 2)=false):
  Calls Tryz.prog 138 #[.pointer (some ⟨b,0,none⟩),.agg #[iv 2,iv 0,iv i]] w λe w'=>e=.returned (.agg #[iv 2,iv 0,iv i])/\Ext w w':=by
 obtain⟨b',o,ap,kp,rfl,C⟩:=h.cell i hi;have p0:=C.p0;have c4:=h.c4;have hb:b<w.heap.size:=uL c4;have hb':b'<w.heap.size:=uL p0;have i0:(0:Int)<=(i:Int):=by omega
 have i1:(i:Int)<(x.cells.length:Int):=by omega
 clear C h;go_enter Tryz.func138,Tryz.ntmps138;go_wp2_with fail;go_quiet (fail);go_wp2_with fail;refine bodyPost_ret (v:=.agg #[iv 2,iv 0,iv i]) (by simp [results,Tryz.results138,go_sem]) rfl ⟨rfl,?_⟩
 repeat (first | exact Ext.refl _ | refine Ext.drewN ?_ _ | refine Ext.alloc ?_ _ | refine Ext.setCell ?_ (by show w.heap.size<=w.heap.size+1;omega) _)
theorem b0v(x:Hp)(b i:Nat)(w:World)(h:HAt w b x ar kr ac kc ag kg)(hi:i<x.cells.length)(s2:((x.c i).st == 2)=true):
  Calls Tryz.prog 138 #[.pointer (some ⟨b,0,none⟩),.agg #[iv 2,iv 0,iv i]] w λe w'=>e=.returned (.agg #[iv 2,iv 0,iv (x.c i).to])/\Ext w w':=by
 obtain⟨b',o,ap,kp,rfl,C⟩:=h.cell i hi;have p0:=C.p0;have p6:=C.p6;have c4:=h.c4;have hb:b<w.heap.size:=uL c4;have hb':b'<w.heap.size:=uL p0;have i0:(0:Int)<=(i:Int):=by omega
 have i1:(i:Int)<(x.cells.length:Int):=by omega
 clear C h;go_enter Tryz.func138,Tryz.ntmps138;go_wp2_with fail;go_quiet (fail);go_wp2_with fail
 go_region
 all_goals
  go_wp2_with fail;refine bodyPost_ret (v:=.agg #[iv 2,iv 0,iv (x.c i).to]) (by simp [results,Tryz.results138,go_sem]) rfl ⟨rfl,?_⟩
  repeat (first | exact Ext.refl _ | refine Ext.drewN ?_ _ | refine Ext.drew ?_ | refine Ext.alloc ?_ _ | refine Ext.setCell ?_ (by show w.heap.size<=w.heap.size+1;omega) _)
def a2x(x:Hp)(i:Nat):Nat:=if ((x.c i).st == 2)=true then (x.c i).to.toNat else i
structure Sn(w:World)(base bs n:Nat)(v:Value)(L:List Int):Prop where
 hb:base<=bs/\bs<w.heap.size
 s:∀i,i<n->w.cell? ⟨bs,i,none⟩=some (.bool (decide ((i:Int)∈L)))
 f:∀i,i<n->w.frozen? ⟨bs,i,none⟩=false
 own:w.ownsRow base 3 1 v L.length (L.map iv)
 ap:v.ownBlock≠some bs
 nd:L.Nodup
 rg:∀z,z∈L->0<=z/\z<n
theorem Sn.ext{v:Value}(h:Sn w base bs n v L)(e:Ext w w'):Sn w' base bs n v L:=
 ⟨⟨h.hb.1,Nat.lt_of_lt_of_le h.hb.2 e.size⟩,λi hi=>e.keep (h.s i hi),λi hi=>by rw[e.frozen (p:=⟨bs,i,none⟩) h.hb.2];exact h.f i hi,uQ h.own (λk hk=>e.block k (h.own.lt k hk).2),h.ap,h.nd,h.rg⟩
theorem Sn.len{v:Value}(h:Sn w base bs n v L):L.length<=n:=by
 have hs:∀z,z∈L->z∈(List.range n).map (λi:Nat=>(i:Int)):=λz hz=>by
  have:=h.rg z hz;exact List.mem_map.2 ⟨z.toNat,by simp;omega,by omega⟩
 have:=List.Nodup.length_le_of_subset h.nd hs
 simpa using this
structure Mfr(bs:Nat)(v v':Value)(w w':World):Prop where
 os:w'.os=w.os
 tape:w'.tape=w.tape
 output:w'.output=w.output
 size:w.heap.size<=w'.heap.size
 block:∀k:Nat,k<w.heap.size->k≠bs->v.ownBlock≠some k->w'.heap[k]?=w.heap[k]?
 own:v'.ownBlock=v.ownBlock\/∃g,v'.ownBlock=some g/\w.heap.size<=g
theorem Mfr.of_ext{v:Value}(e:Ext w w'):Mfr bs v v w w':=⟨e.os,e.tape,e.output,e.size,λk hk _ _=>e.block k hk,.inl rfl⟩
theorem Mfr.after{v:Value}{w1:World}(e:Ext w w1)(q:Mfr bs v v' w1 w2):Mfr bs v v' w w2:=
 ⟨q.os.trans e.os,q.tape.trans e.tape,q.output.trans e.output,Nat.le_trans e.size q.size,λk hk h1 h2=>(q.block k (Nat.lt_of_lt_of_le hk e.size) h1 h2).trans (e.block k hk),by
  rcases q.own with h | ⟨g,h,hg⟩
  ·exact .inl h
  ·exact .inr ⟨g,h,Nat.le_trans e.size hg⟩⟩
theorem Mfr.ext{a:World}{v:Value}(q:Mfr bs v v' w w')(e:Ext a w)(hb:a.heap.size<=bs)(hv:∀k,v.ownBlock=some k->a.heap.size<=k):Ext a w':=
 Below.trans e ⟨q.os,q.tape,q.output,q.size,λk hk=>q.block k (Nat.lt_of_lt_of_le hk e.size) (by omega) (λh=>by have:=hv k h;omega)⟩
theorem Sn.own2{v:Value}(h:Sn w base bs n v L)(hW:Ext (w.setCell ⟨bs,j,none⟩ (.bool true)) W):W.ownsRow base 3 1 v L.length (L.map iv):=
 uQ h.own (λk hk=>(hW.block k (by simpa using (h.own.lt k hk).2)).trans (Below.heap_setCell _ _ _ _ (show k≠bs from λe=>h.ap (e ▸ hk))))
theorem Sn.add{v:Value}(h:Sn w base bs n v L)(hj:j<n)(hn:¬(j:Int)∈L)(hW:Ext (w.setCell ⟨bs,j,none⟩ (.bool true)) W)
  (hown:w2.ownsRow base 3 1 (.slice (some ⟨g,0,none⟩) (L.length+1) cap) (L.length+1) (L.map iv++[iv j])) (hg:W.grownBy w2 v.ownBlock) (hat:v.ownBlock=some g\/g=W.heap.size) :
  Sn w2 base bs n (.slice (some ⟨g,0,none⟩) (L.length+1) cap) (L++[(j:Int)])/\Mfr bs v (.slice (some ⟨g,0,none⟩) (L.length+1) cap) w w2:=by
 have hs0:w.heap.size<=W.heap.size:=by have:=hW.size;simpa using this
 have hs1:W.heap.size<=w2.heap.size:=hg.size
 have hgb:g≠bs:=by
  rcases hat with e | e
  ·intro q;exact h.ap (q ▸ e)
  ·have:=h.hb.2;omega
 have blk:∀k:Nat,k<w.heap.size->v.ownBlock≠some k->w2.heap[k]?=(w.setCell ⟨bs,j,none⟩ (.bool true)).heap[k]?:=λk hk hv=>
  (hg.block k (by omega) (λe=>hv e.symm)).trans (hW.block k (by simpa using hk))
 have hbs:=blk bs h.hb.2 h.ap;refine⟨⟨⟨h.hb.1,by have:=h.hb.2;omega⟩,λi hi=>?_,λi hi=>?_,by simpa using hown,λe=>hgb (by simpa [Value.ownBlock] using e),?_,λz hz=>?_⟩,⟨hg.os.trans hW.os,hg.tape.trans hW.tape,hg.output.trans hW.output,by omega,λk hk h1 h2=>?_,?_⟩⟩
 ·rw[World.cell?_of_block (w:=w.setCell ⟨bs,j,none⟩ (.bool true)) (a:=⟨bs,i,none⟩) hbs];by_cases e:i=j
  ·subst e;rw[World.cell?_setCell_same _ _ _ (h.s i hi)];simp
  ·rw[uC _ (.inr (λq=>e q.symm)),h.s i hi];simp only [List.mem_append,List.mem_singleton]
   congr 2
   exact decide_eq_decide.2 ⟨λq=>.inl q,λq=>by rcases q with q | q;exact q;omega⟩
 ·rw[World.frozen?_of_block (w:=w.setCell ⟨bs,j,none⟩ (.bool true)) (a:=⟨bs,i,none⟩) hbs,World.frozen?_setCell];exact h.f i hi
 ·rw[List.nodup_append];exact⟨h.nd,by simp,λa ha b hb=>by simp at hb;rw[hb];intro e;exact hn (e ▸ ha)⟩
 ·rcases List.mem_append.1 hz with q | q
  ·exact h.rg z q
  ·simp at q;omega
 ·rw[blk k hk h2,Below.heap_setCell _ _ _ _ (show k≠bs from h1)]
 ·rcases hat with e | e
  ·exact .inl (by rw[e];rfl)
  ·exact .inr ⟨g,rfl,by omega⟩
theorem b7b:(Tryz.prog.info? 3).map (λi=>(i.zero,i.size,i.bytes))=some (some (.int .i64 0),1,8):=by kernel_rfl
theorem a8u(x:Hp)(b i:Nat)(w:World)(h:HAt w b x ar kr ac kc ag kg)(hi:i<x.cells.length)(ht:(x.c i).st=2->0<=(x.c i).to):
  Calls Tryz.prog 138 #[.pointer (some ⟨b,0,none⟩),.agg #[iv 2,iv 0,iv i]] w λe w'=>e=.returned (.agg #[iv 2,iv 0,iv (a2x x i)])/\Ext w w':=by
 cases s2:((x.c i).st == 2)
 ·have:a2x x i=i:=by simp only [a2x,s2];simp
  rw[this];exact b2c x b i w h hi s2
 ·have h2:(x.c i).st=2:=by simpa using s2
  have:((a2x x i:Nat):Int)=(x.c i).to:=by simp only [a2x,s2];have:=ht h2;simp;omega
  rw[this];exact b0v x b i w h hi s2
theorem c2j(y:Wd)(b base bs n:Nat)(v:Value)(L:List Int)(w:World)(hs:Sn w base bs n v L)(k2:(y.k == 2)=false):
  Calls Tryz.prog 137 #[.pointer (some ⟨b,0,none⟩),.slice (some ⟨bs,0,none⟩) n n,v,y.v] w λe w'=>Hid (e=.returned v)/\Sn w' base bs n v L/\Ext w w':=by
 have HS:=uU hs;have k2b:(y.k != 2)=true:=by simpa using k2
 clear hs;go_enter Tryz.func137,Tryz.ntmps137;go_wp2_with fail;refine(a7m y b _ k2).mono ?_;rintro e w1 ⟨rfl,hq⟩;have x1:Ext w w1:=Ext.trans ((Ext.refl w).alloc _) hq;go_wp2_with fail;go_ret;exact⟨rfl,HS.ext (x1.alloc _),x1.alloc _⟩
theorem c2k(x:Hp)(b i base bs:Nat)(v:Value)(L:List Int)(w:World){ar:Option Addr}{kr:Nat}{ac:Option Addr}{kc:Nat}{ag:Option Addr}{kg:Nat}(h:HAt w b x ar kr ac kc ag kg)(hi:i<x.cells.length)(ht:(x.c i).st=2->0<=(x.c i).to)(hj:a2x x i<x.cells.length)(hs:Sn w base bs x.cells.length v L)(hbw:base<=w.heap.size)(hn8:x.cells.length<=8000):
  Calls Tryz.prog 137 #[.pointer (some ⟨b,0,none⟩),.slice (some ⟨bs,0,none⟩) x.cells.length x.cells.length,v,.agg #[iv 2,iv 0,iv i]] w λe w'=>∃v' L',Hid (e=.returned v')/\Sn w' base bs x.cells.length v' L'/\Hid (((a2x x i:Int)∈L/\L'=L)\/(¬(a2x x i:Int)∈L/\L'=L++[(a2x x i:Int)]))/\Mfr bs v v' w w':=by
 obtain⟨i0,hi0,hz0,hz1,hz2⟩:=info_parts b7b;have HS:=uU hs;have HH:=uU h;have hlen:=hs.len;clear hs h;obtain⟨j,ej⟩:∃j,a2x x i=j:=⟨_,rfl⟩;have LR:=uU (λW (e:Ext w W)=>a8u x b i W (HH.ext e) hi ht);rw[ej] at LR hj ⊢;clear ej;have j0:(0:Int)<=(j:Int):=by omega
 have j1:(j:Int)<(x.cells.length:Int):=by omega
 go_enter Tryz.func137,Tryz.ntmps137;go_wp2_with fail;refine(LR _ ((Ext.refl w).alloc _)).mono ?_;rintro e w1 ⟨rfl,hq⟩;have x1:Ext w w1:=Ext.trans ((Ext.refl w).alloc _) hq;have S1:=uU (HS.ext x1);have cj:=S1.s j (by omega);have fj:=S1.f j (by omega);have hbs:bs<w1.heap.size:=S1.hb.2;clear hq;by_cases hm:(j:Int)∈L
 ·have E:decide ((j:Int)∈L)=true:=decide_eq_true hm;rw[E] at cj;clear E;go_wp2_with fail;go_ret;exact⟨v,L,rfl,S1.ext ((Ext.refl w1).alloc _),.inl ⟨hm,rfl⟩,Mfr.of_ext (x1.alloc _)⟩
 ·have E:decide ((j:Int)∈L)=false:=decide_eq_false hm;rw[E] at cj;clear E;go_wp2_with (at_builtin;refine wpList_append_lies _ rfl _ _ 32 rfl base 3 i0 (.int .i64 0) 1 8 Tryz.underlying32 hi0 hz0 hz1 hz2 rfl (by decide) v L.length (L.map iv) rfl (Sn.own2 (j:=j) S1 (((Ext.refl _).alloc _).alloc _)) _ 1 1 [.int .i64 j] rfl rfl ?c1 ?c2 (by decide) ?c3 ?c4 ?c5 _ rfl ?_)
  case c1=>
   intro k u hk
   match k,hk with
   | 0,hk=>simp at hk;subst hk;simp [Addr.add,go_sem]
  case c2=>intro u hu;simp at hu;subst hu;rfl
  case c3=>unfold maxLen;omega
  case c4=>omega
  case c5=>have:=x1.size;simp;omega
  intro g cap w2 hown hgrow hat hglt;obtain⟨q1,q2⟩:=Sn.add S1 hj hm (((Ext.refl _).alloc _).alloc _) hown hgrow (by simpa using hat);have FIN:=uU (And.intro q1 (Mfr.after x1 q2));clear q1 q2 hown hgrow hat;go_wp2_with fail;go_ret;exact⟨_,L++[(j:Int)],rfl,FIN.1,.inr ⟨hm,rfl⟩,FIN.2⟩
end Go.Proofs.YtddkhnclmeikfaaGreat
